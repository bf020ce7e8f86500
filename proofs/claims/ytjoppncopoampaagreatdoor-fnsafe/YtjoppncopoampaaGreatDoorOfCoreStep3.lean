import Derived.Test.YtjoppncopoampaaGreatDoorOfCoreReg
import Derived.Test.YtjoppncopoampaaGreatDoorCoreLoad2
import Derived.Test.YtjoppncopoampaaGreatDoorOfUnitSpec
import Derived.Test.YtjoppncopoampaaGreatDoorOfFlatAny
set_option maxHeartbeats 2000000
namespace Go.Proofs.YtjoppncopoampaaGreatDoor
open Go.RowKit
variable {w:World}
def stepM(len:Nat)(F:Nat->Nat->Int)(M:MV):MV:=
 if(len:Int)<=M.pc then M.fault
 else match exec (F M.pc.toNat 0).toNat (F M.pc.toNat 1).toNat (F M.pc.toNat 2).toNat (F M.pc.toNat 3).toNat (F M.pc.toNat 5).toNat (F M.pc.toNat 4) M (M.pc+1)with
  |.inl (M',nx)=>{M' with pc:=nx}
  |.inr M'=>M'.fault
theorem Ht{u:Bool}{v:Int}(h:Dc u v 0 7=true):0<=v/\v<=7:=by
 unfold Dc EM at h;cases u<;>simp at h<;>omega
theorem Ma{Z d a b m h:Int}(e:BF Z d a b m h=true):(1<=Z/\Z<=34)/\(0<=d/\d<=7)/\(0<=a/\a<=7)/\(0<=b/\b<=7)/\(0<=h/\h<=7):=by
 unfold BF at e;simp only[Bool.and_eq_true]at e;obtain⟨⟨⟨⟨⟨j,k⟩,l⟩,n⟩,_⟩,o⟩:=e;have c:1<=Z/\Z<=34:=by unfold EM at j;simpa using j
 exact⟨c,Ht k,Ht l,Ht n,Ht o⟩
section
variable{w:World}{base bC:Nat}{p:Pl}{nx:Int}{tab:List Value}{M:MV}
theorem kH(q:Core w base bC p nx tab M)(u:Option Addr)(c a:Nat)(F:Nat->Nat->Int)(j:(c:Int)<=M.pc):
 Calls Tryz.prog 34 #[Vq bC,.slice u c a] w fun e s=>e=.returned (.tuple #[])/\Below base w s/\Keep w s/\∃I r,Core s base bC I r tab (stepM c F M):=by
 have D:∀(x:Fn)(first a:Array Value)(w:World),(Instr.makeFunc x first a).run Tryz.prog w=.ok (.func x first a) w:=fun _ _ _ _=>rfl
 have K:=q.lt.2;have J:=q.c6;have l:=hxy q;go_enter_defers Tryz.func34,Tryz.ntmps34;go_wp2_with fail;have o:Bw w (w.alloc (.cells #[Vq bC] 95)):=Ai;have k:=l.below o;refine(kC bC u c a M.pc _ k.lt.2 k.c6 j).mono ?_;rintro e h⟨rfl,b⟩;have d:=k.below b;have C:h.cell? ⟨w.heap.size,0,none⟩=some (Vq bC):=(b.cell (p:=⟨w.heap.size,0,none⟩) AX).trans (by simp[go_sem]);have zV:w.heap.size<h.heap.size:=by have:=b.size;simp at this;omega
 refine leaves_cons (f:=69) (args:=#[Vq w.heap.size]) AX (by simp[go_sem]) ?_;refine(M4 w.heap.size bC M.st [] h zV d.lt.2 C d.c7 (d.free 7)).mono ?_;rintro e L N⟨rfl,rfl,rfl⟩;have E:stepM c F M=M.fault:=by unfold stepM;rw[if_pos j]
 rw[E];have z:Core ((h.setCell (Va bC 7) (Vi 2)).alloc (.cells #[] 163)) base bC p nx tab M.fault:=(d.setSt 2).below Ai;have y:Below base w ((h.setCell (Va bC 7) (Vi 2)).alloc (.cells #[] 163)):=((((o.trans (b.mono AX)).mono l.size).setCell (by simpa using l.lt.1) _)).alloc (by simp;exact d.size) _;have B:Keep w ((h.setCell (Va bC 7) (Vi 2)).alloc (.cells #[] 163)):=(Keep.below (o.trans (b.mono AX))).trans ((d.keepC 7 _).trans (Keep.below Ai));have n:Hid _:=B;have A:Hid _:=z;have m:Hid _:=y;simp[Leaves,settle,results,Tryz.results34,go_sem];exact⟨m,n,_,_,A⟩
end
theorem Je{P:Program}{n:Func}{R:Ending->World->Prop}(q:n.results=#[])(b a:Array Value):∀(k:List Deferred)(u:FrameMode)(w:World),Leaves P n b R k u w->Leaves P n a R k u w
 |[],.returning,w,h=>by
  obtain⟨v,l,o⟩:=h;refine⟨v,?_,o⟩;rw[results_none q]at l⊢;exact l
 |[],.panicking _,_,h=>h
 |[],.run,_,h=>h
 |d::k,u,w,h=>by
  obtain⟨l,r,m,f,j,o,s,x⟩:=h;refine⟨l,r,m,f,j,o,s,x.mono fun e y z p=>?_⟩;cases e with
  |returned v=>exact Je q b a k _ _ p
  |panicked c=>exact Je q b a k _ _ p
  |outgrown=>exact p
theorem Gn{P:Program}{b:Func}{R:Ending->World->Prop}(j:b.results=#[]){c:List PanicEntry}{a:Act}{d:Option Tmp}{v:Value}(h:bodyPostD P b R (.panic c) (a.put d v) w):bodyPostD P b R (.panic c) a w:=by
 have e:(a.put d v).defers=a.defers:=by unfold Act.put;cases d<;>rfl
 unfold bodyPostD at h⊢;simp only at h⊢;rw[e]at h;exact Je j _ _ _ _ _ h
section
variable{w:World}{base bC:Nat}{p:Pl}{nx:Int}{tab:List Value}{M:MV}
theorem Bf(h0:Core w base bC p nx tab M)(b R C A q:Nat)(F:Nat->Nat->Int)(hq:M.pc=q)(ao:q<C)(hl:C<=2000)(an:At w b R (C*6) (Kt F))(r d a z h:Nat)(o:Int)
 (f0:F q 0=r)(f1:F q 1=d)(f2:F q 2=a)(f3:F q 3=z)(f4:F q 4=o)(f5:F q 5=h)(o2:r<=34)(v:Value)(hv:tab[r]?=some v)(f:Nat)(B:Array Value)(ap:v=.func (.func f) #[] B)(av:∀u w,(callFunc f u).run Tryz.prog w=.ok (.enter f u) w)
 (Q:∀c,Core c base bC p (M.pc+1) tab M->Calls Tryz.prog f (#[Vq bC,.agg #[Vi r,Vi d,Vi a,Vi z,Vi o,Vi h]]++B) c (Mf base bC tab c (exec r d a z h o M (M.pc+1)))):
 Calls Tryz.prog 34 #[Vq bC,.slice (some ⟨b,R,none⟩) C A] w fun e c=>e=.returned (.tuple #[])/\Below base w c/\Keep w c/\∃S n,Core c base bC S n tab (match exec r d a z h o M (M.pc+1)with
 |.inl (E,nx)=>{E with pc:=nx}
 |.inr E=>E.fault):=by
 have aw:∀(fn:Fn)(first A:Array Value)(w:World),(Instr.makeFunc fn first A).run Tryz.prog w=.ok (.func fn first A) w:=fun _ _ _ _=>rfl
 have hC:=h0.lt.2;have c6:=h0.c6;have H0:=hxy h0;have aa:=hxy an;have J:Hid _:=Q;have ho:(r:Int)<35:=AB;go_enter_defers Tryz.func34,Tryz.ntmps34;go_wp2_with fail;have X1:Bw w (w.alloc (.cells #[Vq bC] 95)):=Ai;have C1:=H0.below X1;have ad:=C1.c6;rw[hq]at ad;refine(Y1 bC b R C A q F _ C1.lt.2 ad ao (aa.below X1 aa.lt)).mono ?_;rintro e m⟨rfl,y⟩;have Z:=C1.below y;have au:Bc m w.heap.size (Vq bC) 95:=Bc.below (heap_alloc_new w _) y;have cV:m.cell? ⟨w.heap.size,0,none⟩=some (Vq bC):=(y.cell (p:=⟨w.heap.size,0,none⟩) AX).trans (by simp[go_sem]);have zV:w.heap.size<m.heap.size:=by have:=y.size;simp at this;omega
 rw[f0,f1,f2,f3,f4,f5];have e6:m.cell? (Va bC 6)=some (Vi q):=Z.c6.trans (by rw[hq]);have e9:=Z.c9;have ff:=Z.free;have zC:=Z.lt.2;have B1:Below base w m:=(X1.trans (y.mono AX)).mono H0.size;have H2:=hxy Z;have ag:=hxy B1;have ak:Hid (Keep w m):=Keep.below (X1.trans (y.mono AX));have ax:(q:Int)<2000:=AB;go_wp2_with fail;go_region;generalize O:((m.setCell (Va bC 9) (Vi (q+1))).alloc (.cells #[Vi r,Vi d,Vi a,Vi z,Vi o,Vi h] 109)).drew=W;have XI:Below m.heap.size (m.setCell (Va bC 9) (Vi (q+1))) ((m.setCell (Va bC 9) (Vi (q+1))).alloc (.cells #[Vi r,Vi d,Vi a,Vi z,Vi o,Vi h] 109)).drew:=(BJ.alloc AX _).drew;have CW:Core W base bC p (M.pc+1) tab M:=by rw[<-O,hq];exact(H2.next (q+1)).below (by simpa using XI)
 have BW:Below base w W:=by rw[<-O];exact(ag.setCell (by simpa using H2.lt.1) _).trans (XI.mono H2.size)
 have Y:m.heap.size<W.heap.size:=by rw[<-O];simp
 have yV:w.heap.size<W.heap.size:=AB;have yC:=CW.lt.2;have kV:W.cell? ⟨w.heap.size,0,none⟩=some (Vq bC):=by rw[<-O];simp[go_sem,cV,zV]
 have ar:Bc W w.heap.size (Vq bC) 95:=by
  have k1:=(H2.keepC 9 (Vi (q+1))).1 _ _ _ (by unfold Dh;decide) au;rw[<-O];exact k1.below (by simpa using XI)
 have U:∀k,k<6->W.cell? ⟨m.heap.size,k,none⟩=(#[Vi r,Vi d,Vi a,Vi z,Vi o,Vi h]:Array Value)[k]?:=by
  intro k _;rw[<-O];have:=cell_of_row ((m.setCell (Va bC 9) (Vi (q+1))).alloc (.cells #[Vi r,Vi d,Vi a,Vi z,Vi o,Vi h] 109)) m.heap.size k _ _ (0,0) (by have:=heap_alloc_new (m.setCell (Va bC 9) (Vi (q+1))) (.cells #[Vi r,Vi d,Vi a,Vi z,Vi o,Vi h] 109);simpa using this);exact this
 have kT:W.cell? (Va bC (10+r))=some v:=by
  rw[CW.core.cellAt (10+r) AB];simpa[XU,Nat.add_comm 10 r]using hv
 have rV:∀c,Bw W c->c.cell? ⟨w.heap.size,0,none⟩=some (Vq bC):=fun c h=>(h.cell (p:=⟨w.heap.size,0,none⟩) yV).trans kV
 have rT:Cb W bC (10+r) (.func (.func f) #[] B):=fun c h=>(h.cell (p:=Va bC (10+r)) yC).trans (kT.trans (by rw[ap]))
 have r0:∀c,Bw W c->c.cell? ⟨m.heap.size,0,none⟩=some (Vi r):=fun c h=>(h.cell (p:=⟨m.heap.size,0,none⟩) Y).trans (U 0 AB)
 have r1:∀c,Bw W c->c.cell? ⟨m.heap.size,1,none⟩=some (Vi d):=fun c h=>(h.cell (p:=⟨m.heap.size,1,none⟩) Y).trans (U 1 AB)
 have r2:∀c,Bw W c->c.cell? ⟨m.heap.size,2,none⟩=some (Vi a):=fun c h=>(h.cell (p:=⟨m.heap.size,2,none⟩) Y).trans (U 2 AB)
 have r3:∀c,Bw W c->c.cell? ⟨m.heap.size,3,none⟩=some (Vi z):=fun c h=>(h.cell (p:=⟨m.heap.size,3,none⟩) Y).trans (U 3 AB)
 have r4:∀c,Bw W c->c.cell? ⟨m.heap.size,4,none⟩=some (Vi o):=fun c h=>(h.cell (p:=⟨m.heap.size,4,none⟩) Y).trans (U 4 AB)
 have r5:∀c,Bw W c->c.cell? ⟨m.heap.size,5,none⟩=some (Vi h):=fun c h=>(h.cell (p:=⟨m.heap.size,5,none⟩) Y).trans (U 5 AB)
 have aj:=hxy CW;have al:Hid (Keep w W):=by rw[<-O];exact ak.trans ((H2.keepC 9 (Vi (q+1))).trans (Keep.below (by simpa using XI)))
 have ah:=hxy BW;have ai:=hxy ar;have af:Tryz.f34.results=#[]:=AV;have l:=hxy af;go_wp2_with fail;refine BH (T:=fun c=>Bw W c) (s:=9) AV (BJ.drew) (fun hHeld=>?_);refine Cz (i:=0) (v:=?v0) rfl AV AV AV AV (fun _ _ _ h=>Gn l h) (Or.inl ⟨AV,?y0⟩) (by assumption) ?r0
 case y0=>(intro w j;(try dsimp only at j);go_simp;try with_reducible rfl)
 try go_frame
 refine Cz (i:=1) (v:=?v1) rfl AV AV AV AV (fun _ _ _ h=>Gn l h) (Or.inl ⟨AV,?y1⟩) (by assumption) ?r1
 case y1=>(intro w j;(try dsimp only at j);go_simp;try with_reducible rfl)
 try go_frame
 refine Cz (i:=2) (v:=?v2) rfl AV AV AV AV (fun _ _ _ h=>Gn l h) (Or.inl ⟨AV,?y2⟩) (by assumption) ?r2
 case y2=>(intro w j;(try dsimp only at j);go_simp;try with_reducible rfl)
 try go_frame
 refine Cz (i:=3) (v:=?v3) rfl AV AV AV AV (fun _ _ _ h=>Gn l h) (Or.inl ⟨AV,?y3⟩) (by assumption) ?r3
 case y3=>(intro w j;(try dsimp only at j);go_simp;try with_reducible rfl)
 try go_frame
 refine Cz (i:=4) (v:=?v4) rfl AV AV AV AV (fun _ _ _ h=>Gn l h) (Or.inl ⟨AV,?y4⟩) (by assumption) ?r4
 case y4=>(intro w j;(try dsimp only at j);go_simp;try with_reducible rfl)
 try go_frame
 refine Cz (i:=5) (v:=?v5) rfl AV AV AV AV (fun _ _ _ h=>Gn l h) (Or.inl ⟨AV,?y5⟩) (by assumption) ?r5
 case y5=>(intro w j;(try dsimp only at j);go_simp;try with_reducible rfl)
 try go_frame
 refine Cz (i:=6) (v:=?v6) rfl AV AV AV AV (fun _ _ _ h=>Gn l h) (Or.inl ⟨AV,?y6⟩) (by assumption) ?r6
 case y6=>(intro w j;(try dsimp only at j);go_simp;try with_reducible rfl)
 try go_frame
 refine Cz (i:=7) (v:=?v7) rfl AV AV AV AV (fun _ _ _ h=>Gn l h) (Or.inl ⟨AV,?y7⟩) (by assumption) ?r7
 case y7=>(intro w j;(try dsimp only at j);go_simp;try with_reducible rfl)
 try go_frame
 refine Cz (i:=8) (v:=?v8) rfl AV AV AV AV (fun _ _ _ h=>Gn l h) (Or.inl ⟨AV,?y8⟩) (by assumption) ?r8
 case y8=>(intro w j;(try dsimp only at j);go_simp;try with_reducible rfl)
 try go_frame
 refine BD rfl AV AV (fun K hK=>?_)
 go_simp
 refine(J _ (aj.below BJ.drew)).mono ?_
 rintro e D⟨am,ae,N⟩
 have k2:Bc D w.heap.size (Vq bC) 95:=ae.1 _ _ _ (by unfold Dh;decide) (ai.below BJ.drew)
 have B2:Below base w D:=ah.trans (BJ.drew.trans am)
 have ab:=hxy B2
 have ac:Hid (Keep w D):=al.trans ((Keep.below BJ.drew).trans ae)
 generalize hX:exec r d a z h o M (M.pc+1)=X at N
 have HX:=hxy hX
 cases X with
 |inl q=>
  obtain⟨E,n⟩:=q
  obtain⟨rfl,S,x⟩:=N
  go_wp2_with fail
  refine hK.out _ _ ?_
  have z1:=k2.lt
  have q1:=k2.cell
  have q9:=x.c9
  have q6:=x.c6
  have qf:=x.free 6
  have ay:=x.lt.2
  have HC:=hxy x
  go_wp2_with fail
  go_region
  refine leaves_cons (f:=69) (args:=#[Vq w.heap.size]) AX (by simp[go_sem]) ?_
  refine(VN w.heap.size _).mono ?_
  rintro e u' w3⟨rfl,rfl,rfl⟩
  have C3:Core (D.setCell (Va bC 6) (Vi n)).drew base bC S n tab {E with pc:=n}:=(HC.setPc n).below BJ.drew
  have B3:Below base w (D.setCell (Va bC 6) (Vi n)).drew:=(ab.setCell (by simpa using HC.lt.1) _).drew
  have L:Hid (Keep w (D.setCell (Va bC 6) (Vi n)).drew):=ac.trans ((HC.keepC 6 _).trans (Keep.below BJ.drew))
  have H3:Hid _:=C3
  have I:Hid _:=B3
  simp[Leaves,settle,results,Tryz.results34,go_sem]
  exact⟨I,L,S,n,by rw[HX.out];exact H3⟩
 |inr E=>
  obtain⟨rfl,S,n,x⟩:=N
  refine leaves_cons (f:=69) (args:=#[Vq w.heap.size]) AX (by simp[go_sem]) ?_
  refine(M4 w.heap.size bC E.st [] D k2.lt x.lt.2 k2.cell x.c7 (x.free 7)).mono ?_
  rintro e u' w3⟨rfl,rfl,rfl⟩
  have C3:Core ((D.setCell (Va bC 7) (Vi 2)).alloc (.cells #[] 163)) base bC S n tab E.fault:=(x.setSt 2).below Ai
  have B3:Below base w ((D.setCell (Va bC 7) (Vi 2)).alloc (.cells #[] 163)):=(ab.setCell (by simpa using x.lt.1) _).alloc (by simp;exact x.size) _
  have L:Hid (Keep w ((D.setCell (Va bC 7) (Vi 2)).alloc (.cells #[] 163))):=ac.trans ((x.keepC 7 _).trans (Keep.below Ai))
  have H3:Hid _:=C3
  have I:Hid _:=B3
  simp[Leaves,settle,results,Tryz.results34,go_sem]
  exact⟨I,L,S,n,by rw[HX.out];exact H3⟩
end
theorem Yc{Z d a b m h:Int}(j:BF Z d a b m h=true)(k:Z=12∨Z=13):0<=m/\m<=63:=by
 rcases k with rfl|rfl;all_goals
  unfold BF at j;simp only[Bool.and_eq_true]at j;obtain⟨⟨_,c⟩,_⟩:=j;first
   |(have e:Ap 12 8=true:=by decide+kernel
     rw[e]at c;simpa[Dc,EM,DF,DL]using c)
   |(have e:Ap 13 8=true:=by decide+kernel
     rw[e]at c;simpa[Dc,EM,DF,DL]using c)
theorem kX.one{l:Nat}{Q:List Value}(h:kX w l Q){Z f n a:Nat}{u:Value}(m:1<=Z)(o:Z<=34)(d:Q[Z]?=some (.func (.func f) #[] #[Vq n]))(k:ent Z=.one f u a):Bc w n u a:=by
 obtain⟨v,c,e⟩:=h.2 Z m o;rw[d]at c;obtain rfl:=Option.some.inj c;rw[k]at e;obtain⟨_,b,_,j,d⟩:=e;simp only[Value.func.injEq,Array.mk.injEq,List.cons.injEq,Value.pointer.injEq,Option.some.injEq,Addr.mk.injEq,and_true,true_and]at d;rw[d];exact j
theorem kX.two{l:Nat}{Q:List Value}(h:kX w l Q){Z f n L a A:Nat}{u u':Value}(o:1<=Z)(p:Z<=34)(c:Q[Z]?=some (.func (.func f) #[] #[Vq n,Vq L]))(m:ent Z=.two f u a u' A):Bc w n u a/\Bc w L u' A:=by
 obtain⟨v,d,j⟩:=h.2 Z o p;rw[c]at d;obtain rfl:=Option.some.inj d;rw[m]at j;obtain⟨_,_,b,q,_,_,k,e,c⟩:=j;simp only[Value.func.injEq,Array.mk.injEq,List.cons.injEq,Value.pointer.injEq,Option.some.injEq,Addr.mk.injEq,and_true,true_and]at c;rw[c.1,c.2];exact⟨k,e⟩
section
variable{w:World}{base bC:Nat}{p:Pl}{nx:Int}{tab:List Value}{M:MV}
def SA(w:World)(base bC:Nat)(p:Pl)(nx:Int)(tab:List Value)(M:MV)(k:Nat):Prop:=
 ∀(_:Core w base bC p nx tab M)(_:M.Ok)(b off len cap q:Nat)(F:Nat->Nat->Int)(_:M.pc=q)(_:q<len)(_:len<=2000)(_:At w b off (len*6) (Kt F))(d a b' h:Nat)(imm:Int)(_:F q 0=((k:Nat):Int))(_:F q 1=d)(_:F q 2=a)(_:F q 3=b')(_:F q 4=imm)(_:F q 5=h)(_:M.nO<=1048576)(_:d<8)(_:a<8)(_:b'<8)(_:((k:Nat)=12∨(k:Nat)=13)->0<=imm/\imm<=63)(v:Value)(_:tab[k]?=some v)(_:Cw w base v (ent k)),Calls Tryz.prog 34 #[Vq bC,.slice (some ⟨b,off,none⟩) len cap] w fun e w'=>e=.returned (.tuple #[])/\Below base w w'/\Keep w w'/\∃p' nx',Core w' base bC p' nx' tab (match exec k d a b' h imm M (M.pc+1)with
  |.inl (M',nx)=>{M' with pc:=nx}
  |.inr M'=>M'.fault)
theorem sW:SA w base bC p nx tab M 1:=by
 intro z E b m l e q F J k I j d a n h c o r s u x y _hn C A _hb _hsh v K D;exact Bf z b m l e q F J k I j 1 d a n h c o r s u x y AB v K 110 #[] D (by intro _ _;go_simp) (fun L B=>sP B E _ d a n h c C A)
theorem tX:SA w base bC p nx tab M 2:=by
 intro z D b m l e q F I k E j d a n h c o r s u x y _hn B _ha _hb _hsh v J C;exact Bf z b m l e q F I k E j 2 d a n h c o r s u x y AB v J 111 #[] C (by intro _ _;go_simp) (fun K A=>nM A D _ d a n h c B)
theorem sw:SA w base bC p nx tab M 3:=by
 intro B N b o n e q F K l J j d a r h c s u x y z A _hn E C D _hsh v m I;obtain⟨_,L,_,_,rfl⟩:=I;exact Bf B b o n e q F K l J j 3 d a r h c s u x y z A AB _ m 164 _ rfl (by intro _ _;go_simp) (fun O k=>Me (by intro _ _;go_simp) Wu k _ d a r h c E C D (k.tab.one AB AB m rfl).cell (k.tab.one AB AB m rfl).lt)
theorem uL:SA w base bC p nx tab M 4:=by
 intro B N b o n e q F K l J j d a r h c s u x y z A _hn E C D _hsh v m I;obtain⟨_,L,_,_,rfl⟩:=I;exact Bf B b o n e q F K l J j 4 d a r h c s u x y z A AB _ m 164 _ rfl (by intro _ _;go_simp) (fun O k=>Me (by intro _ _;go_simp) Ns k _ d a r h c E C D (k.tab.one AB AB m rfl).cell (k.tab.one AB AB m rfl).lt)
theorem sI:SA w base bC p nx tab M 5:=by
 intro B N b o n e q F K l J j d a r h c s u x y z A _hn E C D _hsh v m I;obtain⟨_,L,_,_,rfl⟩:=I;exact Bf B b o n e q F K l J j 5 d a r h c s u x y z A AB _ m 164 _ rfl (by intro _ _;go_simp) (fun O k=>Me (by intro _ _;go_simp) Tw k _ d a r h c E C D (k.tab.one AB AB m rfl).cell (k.tab.one AB AB m rfl).lt)
theorem vB:SA w base bC p nx tab M 6:=by
 intro B N b o n e q F K l J j d a r h c s u x y z A _hn E C D _hsh v m I;obtain⟨_,L,_,_,rfl⟩:=I;exact Bf B b o n e q F K l J j 6 d a r h c s u x y z A AB _ m 164 _ rfl (by intro _ _;go_simp) (fun O k=>Me (by intro _ _;go_simp) ME k _ d a r h c E C D (k.tab.one AB AB m rfl).cell (k.tab.one AB AB m rfl).lt)
theorem vE:SA w base bC p nx tab M 7:=by
 intro B N b o n e q F K l J j d a r h c s u x y z A _hn E C D _hsh v m I;obtain⟨_,L,_,_,rfl⟩:=I;exact Bf B b o n e q F K l J j 7 d a r h c s u x y z A AB _ m 164 _ rfl (by intro _ _;go_simp) (fun O k=>Me (by intro _ _;go_simp) Pb k _ d a r h c E C D (k.tab.one AB AB m rfl).cell (k.tab.one AB AB m rfl).lt)
theorem sJ:SA w base bC p nx tab M 8:=by
 intro B N b o n e q F K l J j d a r h c s u x y z A _hn E C D _hsh v m I;obtain⟨_,L,_,_,rfl⟩:=I;exact Bf B b o n e q F K l J j 8 d a r h c s u x y z A AB _ m 164 _ rfl (by intro _ _;go_simp) (fun O k=>Me (by intro _ _;go_simp) Uk k _ d a r h c E C D (k.tab.one AB AB m rfl).cell (k.tab.one AB AB m rfl).lt)
theorem uQ:SA w base bC p nx tab M 9:=by
 intro z I b m l e q F L k J j d a n h c o r s u x y K D A B _hsh v N E;exact Bf z b m l e q F L k J j 9 d a n h c o r s u x y AB v N 119 #[] E (by intro _ _;go_simp) (fun O C=>uU C I _ d a n h c K D A B)
theorem pV:SA w base bC p nx tab M 10:=by
 intro C N b o n c q F K k J e d a r h m s u y z A B _hn E D _hb _hsh v l I;obtain⟨_,L,_,_,rfl⟩:=I;exact Bf C b o n c q F K k J e 10 d a r h m s u y z A B AB _ l 167 _ rfl (by intro _ _;go_simp) (fun O j=>Rh (by intro _ _;go_simp) (fun x w=>Wu x _ w) j _ d a r h E D (j.tab.one AB AB l rfl).cell (j.tab.one AB AB l rfl).lt)
theorem nY:SA w base bC p nx tab M 11:=by
 intro C N b o n c q F K k J e d a r h m s u y z A B _hn E D _hb _hsh v l I;obtain⟨_,L,_,_,rfl⟩:=I;exact Bf C b o n c q F K k J e 11 d a r h m s u y z A B AB _ l 167 _ rfl (by intro _ _;go_simp) (fun O j=>Rh (by intro _ _;go_simp) (fun x w=>ME x _ w) j _ d a r h E D (j.tab.one AB AB l rfl).cell (j.tab.one AB AB l rfl).lt)
theorem oI:SA w base bC p nx tab M 12:=by
 intro D O b r o e q F L l K j d a s h n u y z A B C _hn I E _hb c v m J;obtain⟨_,N,_,_,rfl⟩:=J;exact Bf D b r o e q F L l K j 12 d a s h n u y z A B C AB _ m 167 _ rfl (by intro _ _;go_simp) (fun Q k=>Rh (by intro _ _;go_simp) (fun x w=>Pz x _ w (by have:=c (.inl rfl);rw[IntKind.wrap_u64];omega) (by have:=c (.inl rfl);rw[IntKind.wrap_u64];omega)) k _ d a s h I E (k.tab.one AB AB m rfl).cell (k.tab.one AB AB m rfl).lt)
theorem lI:SA w base bC p nx tab M 13:=by
 intro D O b r o e q F L l K j d a s h n u y z A B C _hn I E _hb c v m J;obtain⟨_,N,_,_,rfl⟩:=J;exact Bf D b r o e q F L l K j 13 d a s h n u y z A B C AB _ m 167 _ rfl (by intro _ _;go_simp) (fun Q k=>Rh (by intro _ _;go_simp) (fun x w=>Ot x _ w (by have:=c (.inr rfl);rw[IntKind.wrap_u64];omega) (by have:=c (.inr rfl);rw[IntKind.wrap_u64];omega)) k _ d a s h I E (k.tab.one AB AB m rfl).cell (k.tab.one AB AB m rfl).lt)
theorem nN:SA w base bC p nx tab M 14:=by
 intro z I b m l e q F K k J j d a n h c o r s u x y _hn D A B _hsh v L E;exact Bf z b m l e q F K k J j 14 d a n h c o r s u x y AB v L 123 #[] E (by intro _ _;go_simp) (fun N C=>nP C I _ d a n h c D A B)
theorem lG:SA w base bC p nx tab M 15:=by
 intro z I b m l e q F K k J j d a n h c o r s u x y _hn D A B _hsh v L E;exact Bf z b m l e q F K k J j 15 d a n h c o r s u x y AB v L 124 #[] E (by intro _ _;go_simp) (fun N C=>uI C I _ d a n h c D A B)
theorem qL:SA w base bC p nx tab M 16:=by
 intro z I b m l e q F K k J j d a n h c o r s u x y _hn D A B _hsh v L E;exact Bf z b m l e q F K k J j 16 d a n h c o r s u x y AB v L 125 #[] E (by intro _ _;go_simp) (fun N C=>mH C I _ d a n h c D A B)
theorem mO:SA w base bC p nx tab M 17:=by
 intro z E b m l e q F J k I j d a n h c o r s u x y _hn _hd A B _hsh v K D;exact Bf z b m l e q F J k I j 17 d a n h c o r s u x y AB v K 126 #[] D (by intro _ _;go_simp) (fun L C=>tV C E _ d a n h c A B)
theorem qU:SA w base bC p nx tab M 18:=by
 intro z D b m l e q F I k E j d a n h c o r s u x y _hn _hd A _hb _hsh v J C;exact Bf z b m l e q F I k E j 18 d a n h c o r s u x y AB v J 127 #[] C (by intro _ _;go_simp) (fun K B=>mG B D _ d a n h c A)
theorem lY:SA w base bC p nx tab M 19:=by
 intro B J b o n e q F L l K j d a r h c s u x y z A _hn E C D _hsh v m I;obtain⟨_,N,_,_,rfl⟩:=I;exact Bf B b o n e q F L l K j 19 d a r h c s u x y z A AB _ m 170 _ rfl (by intro _ _;go_simp) (fun O k=>mh k J _ d a r h c E C D (k.tab.one AB AB m rfl).cell (k.tab.one AB AB m rfl).lt)
theorem qW:SA w base bC p nx tab M 20:=by
 intro B J b o n e q F L l K j d a r h c s u x y z A _hn E C D _hsh v m I;obtain⟨_,N,_,_,rfl⟩:=I;exact Bf B b o n e q F L l K j 20 d a r h c s u x y z A AB _ m 170 _ rfl (by intro _ _;go_simp) (fun O k=>kg k J _ d a r h c E C D (k.tab.one AB AB m rfl).cell (k.tab.one AB AB m rfl).lt)
theorem oH:SA w base bC p nx tab M 21:=by
 intro B I b o n j q F L l J k d a r h c s u x y z A K D C _hb _hsh v m E;obtain⟨_,_,N,O,_,_,_,_,rfl⟩:=E;exact Bf B b o n j q F L l J k 21 d a r h c s u x y z A AB _ m 172 _ rfl (by intro _ _;go_simp) (fun Q e=>LG (by intro _ _;go_simp) e I _ d a r h c 1 AB AB K D (Du _) (SN e C) (e.tab.two AB AB m rfl).1 (e.tab.two AB AB m rfl).2)
theorem mY:SA w base bC p nx tab M 22:=by
 intro B I b o n j q F L l J k d a r h c s u x y z A K D C _hb _hsh v m E;obtain⟨_,_,N,O,_,_,_,_,rfl⟩:=E;exact Bf B b o n j q F L l J k 22 d a r h c s u x y z A AB _ m 172 _ rfl (by intro _ _;go_simp) (fun Q e=>LG (by intro _ _;go_simp) e I _ d a r h c 8 AB AB K D (Du _) (SN e C) (e.tab.two AB AB m rfl).1 (e.tab.two AB AB m rfl).2)
theorem qF:SA w base bC p nx tab M 23:=by
 intro B I b o n j q F L l J k d a r h c s u x y z A K D C _hb _hsh v m E;obtain⟨_,_,N,O,_,_,_,_,rfl⟩:=E;exact Bf B b o n j q F L l J k 23 d a r h c s u x y z A AB _ m 174 _ rfl (by intro _ _;go_simp) (fun Q e=>Jy (by intro _ _;go_simp) e I _ d a r h c 1 AB AB K D (Du _) (SN e C) (e.tab.two AB AB m rfl).1 (e.tab.two AB AB m rfl).2)
theorem mM:SA w base bC p nx tab M 24:=by
 intro B I b o n j q F L l J k d a r h c s u x y z A K D C _hb _hsh v m E;obtain⟨_,_,N,O,_,_,_,_,rfl⟩:=E;exact Bf B b o n j q F L l J k 24 d a r h c s u x y z A AB _ m 174 _ rfl (by intro _ _;go_simp) (fun Q e=>Jy (by intro _ _;go_simp) e I _ d a r h c 8 AB AB K D (Du _) (SN e C) (e.tab.two AB AB m rfl).1 (e.tab.two AB AB m rfl).2)
theorem lU:SA w base bC p nx tab M 25:=by
 intro B J b o n j q F N l K k d a r h c s u x y z A L E C D _hsh v m I;obtain⟨_,_,O,Q,_,_,_,_,rfl⟩:=I;exact Bf B b o n j q F N l K k 25 d a r h c s u x y z A AB _ m 172 _ rfl (by intro _ _;go_simp) (fun R e=>LG (by intro _ _;go_simp) e J _ d a r h c 1 AB AB L E (Du _) (SI e C D) (e.tab.two AB AB m rfl).1 (e.tab.two AB AB m rfl).2)
theorem mD:SA w base bC p nx tab M 26:=by
 intro B J b o n j q F N l K k d a r h c s u x y z A L E C D _hsh v m I;obtain⟨_,_,O,Q,_,_,_,_,rfl⟩:=I;exact Bf B b o n j q F N l K k 26 d a r h c s u x y z A AB _ m 172 _ rfl (by intro _ _;go_simp) (fun R e=>LG (by intro _ _;go_simp) e J _ d a r h c 8 AB AB L E (Du _) (SI e C D) (e.tab.two AB AB m rfl).1 (e.tab.two AB AB m rfl).2)
theorem qZ:SA w base bC p nx tab M 27:=by
 intro B J b o n j q F N l K k d a r h c s u x y z A L E C D _hsh v m I;obtain⟨_,_,O,Q,_,_,_,_,rfl⟩:=I;exact Bf B b o n j q F N l K k 27 d a r h c s u x y z A AB _ m 174 _ rfl (by intro _ _;go_simp) (fun R e=>Jy (by intro _ _;go_simp) e J _ d a r h c 1 AB AB L E (Du _) (SI e C D) (e.tab.two AB AB m rfl).1 (e.tab.two AB AB m rfl).2)
theorem pE:SA w base bC p nx tab M 28:=by
 intro B J b o n j q F N l K k d a r h c s u x y z A L E C D _hsh v m I;obtain⟨_,_,O,Q,_,_,_,_,rfl⟩:=I;exact Bf B b o n j q F N l K k 28 d a r h c s u x y z A AB _ m 174 _ rfl (by intro _ _;go_simp) (fun R e=>Jy (by intro _ _;go_simp) e J _ d a r h c 8 AB AB L E (Du _) (SI e C D) (e.tab.two AB AB m rfl).1 (e.tab.two AB AB m rfl).2)
theorem nu:SA w base bC p nx tab M 29:=by
 intro z C b m l e q F E k D j d a n h c o r s u x y _hn _hd _ha _hb _hsh v I B;exact Bf z b m l e q F E k D j 29 d a n h c o r s u x y AB v I 135 #[] B (by intro _ _;go_simp) (fun J A=>sS A C _ d a n h c)
theorem pF:SA w base bC p nx tab M 30:=by
 intro B D b o n k q F J m E l d a r h j s u x y z A I _hd _ha _hb _hsh v e C;obtain⟨_,_,K,L,_,_,_,_,rfl⟩:=C;exact Bf B b o n k q F J m E l 30 d a r h j s u x y z A AB _ e 175 _ rfl (by intro _ _;go_simp) (fun N c=>QK c D _ d a r h j I (c.tab.two AB AB e rfl).1.cell (c.tab.two AB AB e rfl).1.lt (c.tab.two AB AB e rfl).2.cell (c.tab.two AB AB e rfl).2.lt)
theorem nK:SA w base bC p nx tab M 31:=by
 intro B D b o n k q F J m E l d a r h j s u x y z A I _hd _ha _hb _hsh v e C;obtain⟨_,_,K,L,_,_,_,_,rfl⟩:=C;exact Bf B b o n k q F J m E l 31 d a r h j s u x y z A AB _ e 175 _ rfl (by intro _ _;go_simp) (fun N c=>OT c D _ d a r h j I (c.tab.two AB AB e rfl).1.cell (c.tab.two AB AB e rfl).1.lt (c.tab.two AB AB e rfl).2.cell (c.tab.two AB AB e rfl).2.lt)
theorem lm:SA w base bC p nx tab M 32:=by
 intro B D b o n k q F J m E l d a r h j s u x y z A I _hd _ha _hb _hsh v e C;obtain⟨_,_,K,L,_,_,_,_,rfl⟩:=C;exact Bf B b o n k q F J m E l 32 d a r h j s u x y z A AB _ e 175 _ rfl (by intro _ _;go_simp) (fun N c=>QB c D _ d a r h j I (c.tab.two AB AB e rfl).1.cell (c.tab.two AB AB e rfl).1.lt (c.tab.two AB AB e rfl).2.cell (c.tab.two AB AB e rfl).2.lt)
theorem lZ:SA w base bC p nx tab M 33:=by
 intro B D b o n k q F J m E l d a r h j s u x y z A I _hd _ha _hb _hsh v e C;obtain⟨_,_,K,L,_,_,_,_,rfl⟩:=C;exact Bf B b o n k q F J m E l 33 d a r h j s u x y z A AB _ e 175 _ rfl (by intro _ _;go_simp) (fun N c=>PE c D _ d a r h j I (c.tab.two AB AB e rfl).1.cell (c.tab.two AB AB e rfl).1.lt (c.tab.two AB AB e rfl).2.cell (c.tab.two AB AB e rfl).2.lt)
theorem qD:SA w base bC p nx tab M 34:=by
 intro z C b m l e q F E k D j d a n h c o r s u x y _hn _hd _ha _hb _hsh v I B;exact Bf z b m l e q F E k D j 34 d a n h c o r s u x y AB v I 137 #[] B (by intro _ _;go_simp) (fun J A=>mF A C _ d a n h c)
theorem Zm(r:Core w base bC p nx tab M)(J:M.Ok)(K:M.nO<=1048576)(S:0<=M.pc)(b k c j:Nat)(F:Nat->Nat->Int)(m:At w b k (c*6) (Kt F))(X:c<=2000/\∀q,q<c->OY F q=true):
 Calls Tryz.prog 34 #[Vq bC,.slice (some ⟨b,k,none⟩) c j] w fun e U=>e=.returned (.tuple #[])/\Below base w U/\Keep w U/\∃p' R,Core U base bC p' R tab (stepM c F M):=by
 by_cases O:(c:Int)<=M.pc
 ·exact kH r _ c j F O
 ·obtain⟨q,L⟩:=Int.eq_ofNat_of_zero_le S
  have l:q<c:=AB;have s:c<=2000/\OY F q=true:=⟨X.1,X.2 q l⟩
  obtain⟨s,Q⟩:=s;unfold OY at Q;have hs:=fun Y=>Yc Q Y
  obtain⟨⟨a1,a2⟩,⟨Z,d2⟩,⟨x1,x2⟩,⟨y1,y2⟩,⟨z1,z2⟩⟩:=Ma Q;obtain⟨o,x⟩:=Int.eq_ofNat_of_zero_le (show 0<=F q 0 by omega);obtain⟨d,y⟩:=Int.eq_ofNat_of_zero_le Z;obtain⟨a,z⟩:=Int.eq_ofNat_of_zero_le x1;obtain⟨u,A⟩:=Int.eq_ofNat_of_zero_le y1;obtain⟨h,B⟩:=Int.eq_ofNat_of_zero_le z1;have o1:1<=o:=AB;have o2:o<=34:=AB;obtain⟨v,N,I⟩:=r.tab.2 o o1 o2;have n:(o=12∨o=13)->0<=F q 4/\F q 4<=63:=fun Y=>hs AB
  have E:d<8:=AB;have C:a<8:=AB;have D:u<8:=AB;unfold stepM;rw[if_neg O,show M.pc.toNat=q by omega,x,y,z,A,B,Int.toNat_natCast,Int.toNat_natCast,Int.toNat_natCast,Int.toNat_natCast,Int.toNat_natCast];have hc:o=1∨o=2∨o=3∨o=4∨o=5∨o=6∨o=7∨o=8∨o=9∨o=10∨o=11∨o=12∨o=13∨o=14∨o=15∨o=16∨o=17∨o=18∨o=19∨o=20∨o=21∨o=22∨o=23∨o=24∨o=25∨o=26∨o=27∨o=28∨o=29∨o=30∨o=31∨o=32∨o=33∨o=34:=AB;rcases hc with rfl|rfl|rfl|rfl|rfl|rfl|rfl|rfl|rfl|rfl|rfl|rfl|rfl|rfl|rfl|rfl|rfl|rfl|rfl|rfl|rfl|rfl|rfl|rfl|rfl|rfl|rfl|rfl|rfl|rfl|rfl|rfl|rfl|rfl
  ·exact sW r J b k c j q F L l s m d a u h (F q 4) x y z A rfl B K E C D n v N I
  ·exact tX r J b k c j q F L l s m d a u h (F q 4) x y z A rfl B K E C D n v N I
  ·exact sw r J b k c j q F L l s m d a u h (F q 4) x y z A rfl B K E C D n v N I
  ·exact uL r J b k c j q F L l s m d a u h (F q 4) x y z A rfl B K E C D n v N I
  ·exact sI r J b k c j q F L l s m d a u h (F q 4) x y z A rfl B K E C D n v N I
  ·exact vB r J b k c j q F L l s m d a u h (F q 4) x y z A rfl B K E C D n v N I
  ·exact vE r J b k c j q F L l s m d a u h (F q 4) x y z A rfl B K E C D n v N I
  ·exact sJ r J b k c j q F L l s m d a u h (F q 4) x y z A rfl B K E C D n v N I
  ·exact uQ r J b k c j q F L l s m d a u h (F q 4) x y z A rfl B K E C D n v N I
  ·exact pV r J b k c j q F L l s m d a u h (F q 4) x y z A rfl B K E C D n v N I
  ·exact nY r J b k c j q F L l s m d a u h (F q 4) x y z A rfl B K E C D n v N I
  ·exact oI r J b k c j q F L l s m d a u h (F q 4) x y z A rfl B K E C D n v N I
  ·exact lI r J b k c j q F L l s m d a u h (F q 4) x y z A rfl B K E C D n v N I
  ·exact nN r J b k c j q F L l s m d a u h (F q 4) x y z A rfl B K E C D n v N I
  ·exact lG r J b k c j q F L l s m d a u h (F q 4) x y z A rfl B K E C D n v N I
  ·exact qL r J b k c j q F L l s m d a u h (F q 4) x y z A rfl B K E C D n v N I
  ·exact mO r J b k c j q F L l s m d a u h (F q 4) x y z A rfl B K E C D n v N I
  ·exact qU r J b k c j q F L l s m d a u h (F q 4) x y z A rfl B K E C D n v N I
  ·exact lY r J b k c j q F L l s m d a u h (F q 4) x y z A rfl B K E C D n v N I
  ·exact qW r J b k c j q F L l s m d a u h (F q 4) x y z A rfl B K E C D n v N I
  ·exact oH r J b k c j q F L l s m d a u h (F q 4) x y z A rfl B K E C D n v N I
  ·exact mY r J b k c j q F L l s m d a u h (F q 4) x y z A rfl B K E C D n v N I
  ·exact qF r J b k c j q F L l s m d a u h (F q 4) x y z A rfl B K E C D n v N I
  ·exact mM r J b k c j q F L l s m d a u h (F q 4) x y z A rfl B K E C D n v N I
  ·exact lU r J b k c j q F L l s m d a u h (F q 4) x y z A rfl B K E C D n v N I
  ·exact mD r J b k c j q F L l s m d a u h (F q 4) x y z A rfl B K E C D n v N I
  ·exact qZ r J b k c j q F L l s m d a u h (F q 4) x y z A rfl B K E C D n v N I
  ·exact pE r J b k c j q F L l s m d a u h (F q 4) x y z A rfl B K E C D n v N I
  ·exact nu r J b k c j q F L l s m d a u h (F q 4) x y z A rfl B K E C D n v N I
  ·exact pF r J b k c j q F L l s m d a u h (F q 4) x y z A rfl B K E C D n v N I
  ·exact nK r J b k c j q F L l s m d a u h (F q 4) x y z A rfl B K E C D n v N I
  ·exact lm r J b k c j q F L l s m d a u h (F q 4) x y z A rfl B K E C D n v N I
  ·exact lZ r J b k c j q F L l s m d a u h (F q 4) x y z A rfl B K E C D n v N I
  ·exact qD r J b k c j q F L l s m d a u h (F q 4) x y z A rfl B K E C D n v N I
theorem jO(n:Core w base bC p nx tab M)(o:M.Ok)(r:M.nO<=1048576)(l:0<=M.pc)(b c a d:Nat)(F:Nat->Nat->Int)(j:At w b c (a*6) (Kt F))(h:EW a F=true):
 Calls Tryz.prog 34 #[Vq bC,.slice (some ⟨b,c,none⟩) a d] w fun e m=>e=.returned (.tuple #[])/\Below base w m/\∃u k,Core m base bC u k tab (stepM a F M):=by
 refine(Zm n o r l b c a d F j ?_).mono fun _ _⟨x,y,_,z⟩=>⟨x,y,z⟩
 unfold EW at h;simp only[Bool.and_eq_true,decide_eq_true_eq,List.all_eq_true,List.mem_range]at h;refine⟨h.1.1.2,fun q s=>?_⟩;have:=h.1.2 q s;unfold FP at this;simp only[Bool.and_eq_true]at this;exact this.1
end
end Go.Proofs.YtjoppncopoampaaGreatDoor
