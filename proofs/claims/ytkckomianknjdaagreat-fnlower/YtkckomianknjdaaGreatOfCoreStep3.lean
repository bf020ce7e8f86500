import Derived.Test.YtkckomianknjdaaGreatOfCoreF
import Derived.Test.YtkckomianknjdaaGreatCoreLoad2
import Derived.Test.YtkckomianknjdaaGreatOfCoreCatch
import Derived.Test.YtkckomianknjdaaGreatOfFlatAny
set_option maxHeartbeats 2000000
namespace Go.Proofs.YtkckomianknjdaaGreat
open Go.RowKit
variable {w:World}
def stepM(len:Nat)(F:Nat->Nat->Int)(M:MV):MV:=
 if(len:Int)<=M.pc then M.fault
 else match exec (F M.pc.toNat 0).toNat (F M.pc.toNat 1).toNat (F M.pc.toNat 2).toNat (F M.pc.toNat 3).toNat (F M.pc.toNat 5).toNat (F M.pc.toNat 4) M (M.pc+1)with
  |.inl (M',nx)=>{M' with pc:=nx}
  |.inr M'=>M'.fault
theorem Gn{u:Bool}{v:Int}(h:Da u v 0 7=true):0<=v/\v<=7:=by
 unfold Da Dm at h;cases u<;>simp at h<;>omega
theorem GQ{Z d a b m h:Int}(e:Ar Z d a b m h=true):(1<=Z/\Z<=34)/\(0<=d/\d<=7)/\(0<=a/\a<=7)/\(0<=b/\b<=7)/\(0<=h/\h<=7):=by
 unfold Ar at e;simp only[Bool.and_eq_true]at e;obtain⟨⟨⟨⟨⟨j,k⟩,l⟩,n⟩,_⟩,o⟩:=e;have c:1<=Z/\Z<=34:=by unfold Dm at j;simpa using j
 exact⟨c,Gn k,Gn l,Gn n,Gn o⟩
section
variable{w:World}{base bC:Nat}{p:Pl}{nx:Int}{tab:List Value}{M:MV}
theorem WJ(q:Core w base bC p nx tab M)(u:Option Addr)(c a:Nat)(F:Nat->Nat->Int)(j:(c:Int)<=M.pc):
 Calls Tryz.prog 34 #[Vq bC,.slice u c a] w fun e s=>e=.returned (.tuple #[])/\Below base w s/\Keep w s/\∃I r,Core s base bC I r tab (stepM c F M):=by
 have D:∀(x:Fn)(first a:Array Value)(w:World),(Instr.makeFunc x first a).run Tryz.prog w=.ok (.func x first a) w:=fun _ _ _ _=>rfl
 have K:=q.lt.2;have J:=q.c6;have l:=hxy q;go_enter_defers Tryz.func34,Tryz.ntmps34;go_wp2_with fail;have o:Bw w (w.alloc (.cells #[Vq bC] 64)):=Ah;have k:=l.below o;refine(Wz bC u c a M.pc _ k.lt.2 k.c6 j).mono ?_;rintro e h⟨rfl,b⟩;have d:=k.below b;have C:h.cell? ⟨w.heap.size,0,none⟩=some (Vq bC):=(b.cell (p:=⟨w.heap.size,0,none⟩) AY).trans (by simp[go_sem]);have zV:w.heap.size<h.heap.size:=by have:=b.size;simp at this;omega
 refine leaves_cons (f:=64) (args:=#[Vq w.heap.size]) AY (by simp[go_sem]) ?_;refine(LV w.heap.size bC M.st [] h zV d.lt.2 C d.c7 (d.free 7)).mono ?_;rintro e L N⟨rfl,rfl,rfl⟩;have E:stepM c F M=M.fault:=by unfold stepM;rw[if_pos j]
 rw[E];have z:Core ((h.setCell (Va bC 7) (Vi 2)).alloc (.cells #[] 138)) base bC p nx tab M.fault:=(d.setSt 2).below Ah;have y:Below base w ((h.setCell (Va bC 7) (Vi 2)).alloc (.cells #[] 138)):=((((o.trans (b.mono AY)).mono l.size).setCell (by simpa using l.lt.1) _)).alloc (by simp;exact d.size) _;have B:Keep w ((h.setCell (Va bC 7) (Vi 2)).alloc (.cells #[] 138)):=(Keep.below (o.trans (b.mono AY))).trans ((d.keepC 7 _).trans (Keep.below Ah));have n:Hid _:=B;have A:Hid _:=z;have m:Hid _:=y;simp[Leaves,settle,results,Tryz.results34,go_sem];exact⟨m,n,_,_,A⟩
end
theorem Ii{P:Program}{n:Func}{R:Ending->World->Prop}(q:n.results=#[])(b a:Array Value):∀(k:List Deferred)(u:FrameMode)(w:World),Leaves P n b R k u w->Leaves P n a R k u w
 |[],.returning,w,h=>by
  obtain⟨v,l,o⟩:=h;refine⟨v,?_,o⟩;rw[results_none q]at l⊢;exact l
 |[],.panicking _,_,h=>h
 |[],.run,_,h=>h
 |d::k,u,w,h=>by
  obtain⟨l,r,m,f,j,o,s,x⟩:=h;refine⟨l,r,m,f,j,o,s,x.mono fun e y z p=>?_⟩;cases e with
  |returned v=>exact Ii q b a k _ _ p
  |panicked c=>exact Ii q b a k _ _ p
  |outgrown=>exact p
theorem Fy{P:Program}{b:Func}{R:Ending->World->Prop}(j:b.results=#[]){c:List PanicEntry}{a:Act}{d:Option Tmp}{v:Value}(h:bodyPostD P b R (.panic c) (a.put d v) w):bodyPostD P b R (.panic c) a w:=by
 have e:(a.put d v).defers=a.defers:=by unfold Act.put;cases d<;>rfl
 unfold bodyPostD at h⊢;simp only at h⊢;rw[e]at h;exact Ii j _ _ _ _ _ h
section
variable{w:World}{base bC:Nat}{p:Pl}{nx:Int}{tab:List Value}{M:MV}
theorem Bc(h0:Core w base bC p nx tab M)(b R C A q:Nat)(F:Nat->Nat->Int)(hq:M.pc=q)(ao:q<C)(hl:C<=2000)(an:At w b R (C*6) (Ia F))(r d a z h:Nat)(o:Int)
 (f0:F q 0=r)(f1:F q 1=d)(f2:F q 2=a)(f3:F q 3=z)(f4:F q 4=o)(f5:F q 5=h)(o2:r<=34)(v:Value)(hv:tab[r]?=some v)(f:Nat)(B:Array Value)(ap:v=.func (.func f) #[] B)(av:∀u w,(callFunc f u).run Tryz.prog w=.ok (.enter f u) w)
 (Q:∀c,Core c base bC p (M.pc+1) tab M->Calls Tryz.prog f (#[Vq bC,.agg #[Vi r,Vi d,Vi a,Vi z,Vi o,Vi h]]++B) c (Hy base bC tab c (exec r d a z h o M (M.pc+1)))):
 Calls Tryz.prog 34 #[Vq bC,.slice (some ⟨b,R,none⟩) C A] w fun e c=>e=.returned (.tuple #[])/\Below base w c/\Keep w c/\∃S n,Core c base bC S n tab (match exec r d a z h o M (M.pc+1)with
 |.inl (E,nx)=>{E with pc:=nx}
 |.inr E=>E.fault):=by
 have aw:∀(fn:Fn)(first A:Array Value)(w:World),(Instr.makeFunc fn first A).run Tryz.prog w=.ok (.func fn first A) w:=fun _ _ _ _=>rfl
 have hC:=h0.lt.2;have c6:=h0.c6;have H0:=hxy h0;have aa:=hxy an;have J:Hid _:=Q;have ho:(r:Int)<35:=AB;go_enter_defers Tryz.func34,Tryz.ntmps34;go_wp2_with fail;have X1:Bw w (w.alloc (.cells #[Vq bC] 64)):=Ah;have C1:=H0.below X1;have ad:=C1.c6;rw[hq]at ad;refine(Vm bC b R C A q F _ C1.lt.2 ad ao (aa.below X1 aa.lt)).mono ?_;rintro e m⟨rfl,y⟩;have Z:=C1.below y;have au:BD m w.heap.size (Vq bC) 64:=BD.below (heap_alloc_new w _) y;have cV:m.cell? ⟨w.heap.size,0,none⟩=some (Vq bC):=(y.cell (p:=⟨w.heap.size,0,none⟩) AY).trans (by simp[go_sem]);have zV:w.heap.size<m.heap.size:=by have:=y.size;simp at this;omega
 rw[f0,f1,f2,f3,f4,f5];have e6:m.cell? (Va bC 6)=some (Vi q):=Z.c6.trans (by rw[hq]);have e9:=Z.c9;have ff:=Z.free;have zC:=Z.lt.2;have B1:Below base w m:=(X1.trans (y.mono AY)).mono H0.size;have H2:=hxy Z;have ag:=hxy B1;have ak:Hid (Keep w m):=Keep.below (X1.trans (y.mono AY));have ax:(q:Int)<2000:=AB;go_wp2_with fail;go_region;generalize O:((m.setCell (Va bC 9) (Vi (q+1))).alloc (.cells #[Vi r,Vi d,Vi a,Vi z,Vi o,Vi h] 85)).drew=W;have XI:Below m.heap.size (m.setCell (Va bC 9) (Vi (q+1))) ((m.setCell (Va bC 9) (Vi (q+1))).alloc (.cells #[Vi r,Vi d,Vi a,Vi z,Vi o,Vi h] 85)).drew:=(Al.alloc AY _).drew;have CW:Core W base bC p (M.pc+1) tab M:=by rw[<-O,hq];exact(H2.next (q+1)).below (by simpa using XI)
 have BW:Below base w W:=by rw[<-O];exact(ag.setCell (by simpa using H2.lt.1) _).trans (XI.mono H2.size)
 have Y:m.heap.size<W.heap.size:=by rw[<-O];simp
 have yV:w.heap.size<W.heap.size:=AB;have yC:=CW.lt.2;have kV:W.cell? ⟨w.heap.size,0,none⟩=some (Vq bC):=by rw[<-O];simp[go_sem,cV,zV]
 have ar:BD W w.heap.size (Vq bC) 64:=by
  have k1:=(H2.keepC 9 (Vi (q+1))).1 _ _ _ (by unfold Cu;decide) au;rw[<-O];exact k1.below (by simpa using XI)
 have U:∀k,k<6->W.cell? ⟨m.heap.size,k,none⟩=(#[Vi r,Vi d,Vi a,Vi z,Vi o,Vi h]:Array Value)[k]?:=by
  intro k _;rw[<-O];have:=cell_of_row ((m.setCell (Va bC 9) (Vi (q+1))).alloc (.cells #[Vi r,Vi d,Vi a,Vi z,Vi o,Vi h] 85)) m.heap.size k _ _ (0,0) (by have:=heap_alloc_new (m.setCell (Va bC 9) (Vi (q+1))) (.cells #[Vi r,Vi d,Vi a,Vi z,Vi o,Vi h] 85);simpa using this);exact this
 have kT:W.cell? (Va bC (10+r))=some v:=by
  rw[CW.core.cellAt (10+r) AB];simpa[Uw,Nat.add_comm 10 r]using hv
 have rV:∀c,Bw W c->c.cell? ⟨w.heap.size,0,none⟩=some (Vq bC):=fun c h=>(h.cell (p:=⟨w.heap.size,0,none⟩) yV).trans kV
 have rT:Cb W bC (10+r) (.func (.func f) #[] B):=fun c h=>(h.cell (p:=Va bC (10+r)) yC).trans (kT.trans (by rw[ap]))
 have r0:∀c,Bw W c->c.cell? ⟨m.heap.size,0,none⟩=some (Vi r):=fun c h=>(h.cell (p:=⟨m.heap.size,0,none⟩) Y).trans (U 0 AB)
 have r1:∀c,Bw W c->c.cell? ⟨m.heap.size,1,none⟩=some (Vi d):=fun c h=>(h.cell (p:=⟨m.heap.size,1,none⟩) Y).trans (U 1 AB)
 have r2:∀c,Bw W c->c.cell? ⟨m.heap.size,2,none⟩=some (Vi a):=fun c h=>(h.cell (p:=⟨m.heap.size,2,none⟩) Y).trans (U 2 AB)
 have r3:∀c,Bw W c->c.cell? ⟨m.heap.size,3,none⟩=some (Vi z):=fun c h=>(h.cell (p:=⟨m.heap.size,3,none⟩) Y).trans (U 3 AB)
 have r4:∀c,Bw W c->c.cell? ⟨m.heap.size,4,none⟩=some (Vi o):=fun c h=>(h.cell (p:=⟨m.heap.size,4,none⟩) Y).trans (U 4 AB)
 have r5:∀c,Bw W c->c.cell? ⟨m.heap.size,5,none⟩=some (Vi h):=fun c h=>(h.cell (p:=⟨m.heap.size,5,none⟩) Y).trans (U 5 AB)
 have aj:=hxy CW;have al:Hid (Keep w W):=by rw[<-O];exact ak.trans ((H2.keepC 9 (Vi (q+1))).trans (Keep.below (by simpa using XI)))
 have ah:=hxy BW;have ai:=hxy ar;have af:Tryz.f34.results=#[]:=Ab;have l:=hxy af;go_wp2_with fail;refine Ak (T:=fun c=>Bw W c) (s:=9) Ab (Al.drew) (fun hHeld=>?_);refine Ct (i:=0) (v:=?v0) rfl Ab Ab Ab Ab (fun _ _ _ h=>Fy l h) (Or.inl ⟨Ab,?y0⟩) (by assumption) ?r0
 case y0=>(intro w j;(try dsimp only at j);go_simp;try with_reducible rfl)
 try go_frame
 refine Ct (i:=1) (v:=?v1) rfl Ab Ab Ab Ab (fun _ _ _ h=>Fy l h) (Or.inl ⟨Ab,?y1⟩) (by assumption) ?r1
 case y1=>(intro w j;(try dsimp only at j);go_simp;try with_reducible rfl)
 try go_frame
 refine Ct (i:=2) (v:=?v2) rfl Ab Ab Ab Ab (fun _ _ _ h=>Fy l h) (Or.inl ⟨Ab,?y2⟩) (by assumption) ?r2
 case y2=>(intro w j;(try dsimp only at j);go_simp;try with_reducible rfl)
 try go_frame
 refine Ct (i:=3) (v:=?v3) rfl Ab Ab Ab Ab (fun _ _ _ h=>Fy l h) (Or.inl ⟨Ab,?y3⟩) (by assumption) ?r3
 case y3=>(intro w j;(try dsimp only at j);go_simp;try with_reducible rfl)
 try go_frame
 refine Ct (i:=4) (v:=?v4) rfl Ab Ab Ab Ab (fun _ _ _ h=>Fy l h) (Or.inl ⟨Ab,?y4⟩) (by assumption) ?r4
 case y4=>(intro w j;(try dsimp only at j);go_simp;try with_reducible rfl)
 try go_frame
 refine Ct (i:=5) (v:=?v5) rfl Ab Ab Ab Ab (fun _ _ _ h=>Fy l h) (Or.inl ⟨Ab,?y5⟩) (by assumption) ?r5
 case y5=>(intro w j;(try dsimp only at j);go_simp;try with_reducible rfl)
 try go_frame
 refine Ct (i:=6) (v:=?v6) rfl Ab Ab Ab Ab (fun _ _ _ h=>Fy l h) (Or.inl ⟨Ab,?y6⟩) (by assumption) ?r6
 case y6=>(intro w j;(try dsimp only at j);go_simp;try with_reducible rfl)
 try go_frame
 refine Ct (i:=7) (v:=?v7) rfl Ab Ab Ab Ab (fun _ _ _ h=>Fy l h) (Or.inl ⟨Ab,?y7⟩) (by assumption) ?r7
 case y7=>(intro w j;(try dsimp only at j);go_simp;try with_reducible rfl)
 try go_frame
 refine Ct (i:=8) (v:=?v8) rfl Ab Ab Ab Ab (fun _ _ _ h=>Fy l h) (Or.inl ⟨Ab,?y8⟩) (by assumption) ?r8
 case y8=>(intro w j;(try dsimp only at j);go_simp;try with_reducible rfl)
 try go_frame
 refine Ai rfl Ab Ab (fun K hK=>?_)
 go_simp
 refine(J _ (aj.below Al.drew)).mono ?_
 rintro e D⟨am,ae,N⟩
 have k2:BD D w.heap.size (Vq bC) 64:=ae.1 _ _ _ (by unfold Cu;decide) (ai.below Al.drew)
 have B2:Below base w D:=ah.trans (Al.drew.trans am)
 have ab:=hxy B2
 have ac:Hid (Keep w D):=al.trans ((Keep.below Al.drew).trans ae)
 generalize hX:exec r d a z h o M (M.pc+1)=X at N
 have HX:=hxy hX
 cases X with
 |inl q=>
  obtain⟨E,n⟩:=q
  obtain⟨rfl,S,x⟩:=N
  go_wp2_with fail
  refine hK.out _ _ ?_
  have z1:=k2.lt
  have q1:=k2.cell
  have q9:=x.c9
  have q6:=x.c6
  have qf:=x.free 6
  have ay:=x.lt.2
  have HC:=hxy x
  go_wp2_with fail
  go_region
  refine leaves_cons (f:=64) (args:=#[Vq w.heap.size]) AY (by simp[go_sem]) ?_
  refine(Tw w.heap.size _).mono ?_
  rintro e u' w3⟨rfl,rfl,rfl⟩
  have C3:Core (D.setCell (Va bC 6) (Vi n)).drew base bC S n tab {E with pc:=n}:=(HC.setPc n).below Al.drew
  have B3:Below base w (D.setCell (Va bC 6) (Vi n)).drew:=(ab.setCell (by simpa using HC.lt.1) _).drew
  have L:Hid (Keep w (D.setCell (Va bC 6) (Vi n)).drew):=ac.trans ((HC.keepC 6 _).trans (Keep.below Al.drew))
  have H3:Hid _:=C3
  have I:Hid _:=B3
  simp[Leaves,settle,results,Tryz.results34,go_sem]
  exact⟨I,L,S,n,by rw[HX.out];exact H3⟩
 |inr E=>
  obtain⟨rfl,S,n,x⟩:=N
  refine leaves_cons (f:=64) (args:=#[Vq w.heap.size]) AY (by simp[go_sem]) ?_
  refine(LV w.heap.size bC E.st [] D k2.lt x.lt.2 k2.cell x.c7 (x.free 7)).mono ?_
  rintro e u' w3⟨rfl,rfl,rfl⟩
  have C3:Core ((D.setCell (Va bC 7) (Vi 2)).alloc (.cells #[] 138)) base bC S n tab E.fault:=(x.setSt 2).below Ah
  have B3:Below base w ((D.setCell (Va bC 7) (Vi 2)).alloc (.cells #[] 138)):=(ab.setCell (by simpa using x.lt.1) _).alloc (by simp;exact x.size) _
  have L:Hid (Keep w ((D.setCell (Va bC 7) (Vi 2)).alloc (.cells #[] 138))):=ac.trans ((x.keepC 7 _).trans (Keep.below Ah))
  have H3:Hid _:=C3
  have I:Hid _:=B3
  simp[Leaves,settle,results,Tryz.results34,go_sem]
  exact⟨I,L,S,n,by rw[HX.out];exact H3⟩
end
theorem PK{Z d a b m h:Int}(j:Ar Z d a b m h=true)(k:Z=12∨Z=13):0<=m/\m<=63:=by
 rcases k with rfl|rfl;all_goals
  unfold Ar at j;simp only[Bool.and_eq_true]at j;obtain⟨⟨_,c⟩,_⟩:=j;first
   |(have e:Cc 12 8=true:=by decide+kernel
     rw[e]at c;simpa[Da,Dm,Cv,DI]using c)
   |(have e:Cc 13 8=true:=by decide+kernel
     rw[e]at c;simpa[Da,Dm,Cv,DI]using c)
theorem Xu.one{l:Nat}{B:List Value}(h:Xu w l B){Z f n ty:Nat}{u:Value}(k:1<=Z)(m:Z<=34)(c:B[Z]?=some (.func (.func f) #[] #[Vq n]))(j:ent Z=.one f u ty):BD w n u ty:=by
 obtain⟨v,a,d⟩:=h.2 Z k m;rw[c]at a;obtain rfl:=Option.some.inj a;rw[j]at d;obtain⟨_,b,_,e,c⟩:=d;simp only[Value.func.injEq,Array.mk.injEq,List.cons.injEq,Value.pointer.injEq,Option.some.injEq,Addr.mk.injEq,and_true,true_and]at c;rw[c];exact e
theorem Xu.two{l:Nat}{B:List Value}(h:Xu w l B){Z f n c ty Q:Nat}{u R:Value}(o:1<=Z)(p:Z<=34)(a:B[Z]?=some (.func (.func f) #[] #[Vq n,Vq c]))(m:ent Z=.two f u ty R Q):BD w n u ty/\BD w c R Q:=by
 obtain⟨v,d,j⟩:=h.2 Z o p;rw[a]at d;obtain rfl:=Option.some.inj d;rw[m]at j;obtain⟨_,_,b,q,_,_,k,e,a⟩:=j;simp only[Value.func.injEq,Array.mk.injEq,List.cons.injEq,Value.pointer.injEq,Option.some.injEq,Addr.mk.injEq,and_true,true_and]at a;rw[a.1,a.2];exact⟨k,e⟩
section
variable{w:World}{base bC:Nat}{p:Pl}{nx:Int}{tab:List Value}{M:MV}
def SA(w:World)(base bC:Nat)(p:Pl)(nx:Int)(tab:List Value)(M:MV)(k:Nat):Prop:=
 ∀(_:Core w base bC p nx tab M)(_:M.Ok)(b off len cap q:Nat)(F:Nat->Nat->Int)(_:M.pc=q)(_:q<len)(_:len<=2000)(_:At w b off (len*6) (Ia F))(d a b' h:Nat)(imm:Int)(_:F q 0=((k:Nat):Int))(_:F q 1=d)(_:F q 2=a)(_:F q 3=b')(_:F q 4=imm)(_:F q 5=h)(_:M.nO<=1048576)(_:d<8)(_:a<8)(_:b'<8)(_:((k:Nat)=12∨(k:Nat)=13)->0<=imm/\imm<=63)(v:Value)(_:tab[k]?=some v)(_:Ck w base v (ent k)),Calls Tryz.prog 34 #[Vq bC,.slice (some ⟨b,off,none⟩) len cap] w fun e w'=>e=.returned (.tuple #[])/\Below base w w'/\Keep w w'/\∃p' nx',Core w' base bC p' nx' tab (match exec k d a b' h imm M (M.pc+1)with
  |.inl (M',nx)=>{M' with pc:=nx}
  |.inr M'=>M'.fault)
theorem iC:SA w base bC p nx tab M 1:=by
 intro z E b m l e q F J k I j d a n h c o r s u x y _hn C A _hb _hsh v K D;exact Bc z b m l e q F J k I j 1 d a n h c o r s u x y AB v K 85 #[] D (by intro _ _;go_simp) (fun L B=>fO B E _ d a n h c C A)
theorem iQ:SA w base bC p nx tab M 2:=by
 intro z D b m l e q F I k E j d a n h c o r s u x y _hn B _ha _hb _hsh v J C;exact Bc z b m l e q F I k E j 2 d a n h c o r s u x y AB v J 86 #[] C (by intro _ _;go_simp) (fun K A=>Yu A D _ d a n h c B)
theorem gm:SA w base bC p nx tab M 3:=by
 intro B J b o n e q F L l K j d a r h c s u x y z A _hn E C D _hsh v m I;obtain⟨_,N,_,_,rfl⟩:=I;exact Bc B b o n e q F L l K j 3 d a r h c s u x y z A AB _ m 125 _ rfl (by intro _ _;go_simp) (fun O k=>TR k J _ d a r h c E C D (k.tab.one AB AB m rfl).cell (k.tab.one AB AB m rfl).lt)
theorem iG:SA w base bC p nx tab M 4:=by
 intro B J b o n e q F L l K j d a r h c s u x y z A _hn E C D _hsh v m I;obtain⟨_,N,_,_,rfl⟩:=I;exact Bc B b o n e q F L l K j 4 d a r h c s u x y z A AB _ m 125 _ rfl (by intro _ _;go_simp) (fun O k=>KY k J _ d a r h c E C D (k.tab.one AB AB m rfl).cell (k.tab.one AB AB m rfl).lt)
theorem gG:SA w base bC p nx tab M 5:=by
 intro B J b o n e q F L l K j d a r h c s u x y z A _hn E C D _hsh v m I;obtain⟨_,N,_,_,rfl⟩:=I;exact Bc B b o n e q F L l K j 5 d a r h c s u x y z A AB _ m 125 _ rfl (by intro _ _;go_simp) (fun O k=>NY k J _ d a r h c E C D (k.tab.one AB AB m rfl).cell (k.tab.one AB AB m rfl).lt)
theorem gJ:SA w base bC p nx tab M 6:=by
 intro B J b o n e q F L l K j d a r h c s u x y z A _hn E C D _hsh v m I;obtain⟨_,N,_,_,rfl⟩:=I;exact Bc B b o n e q F L l K j 6 d a r h c s u x y z A AB _ m 125 _ rfl (by intro _ _;go_simp) (fun O k=>Lg k J _ d a r h c E C D (k.tab.one AB AB m rfl).cell (k.tab.one AB AB m rfl).lt)
theorem fQ:SA w base bC p nx tab M 7:=by
 intro B J b o n e q F L l K j d a r h c s u x y z A _hn E C D _hsh v m I;obtain⟨_,N,_,_,rfl⟩:=I;exact Bc B b o n e q F L l K j 7 d a r h c s u x y z A AB _ m 125 _ rfl (by intro _ _;go_simp) (fun O k=>KG k J _ d a r h c E C D (k.tab.one AB AB m rfl).cell (k.tab.one AB AB m rfl).lt)
theorem fU:SA w base bC p nx tab M 8:=by
 intro B J b o n e q F L l K j d a r h c s u x y z A _hn E C D _hsh v m I;obtain⟨_,N,_,_,rfl⟩:=I;exact Bc B b o n e q F L l K j 8 d a r h c s u x y z A AB _ m 125 _ rfl (by intro _ _;go_simp) (fun O k=>NA k J _ d a r h c E C D (k.tab.one AB AB m rfl).cell (k.tab.one AB AB m rfl).lt)
theorem iM:SA w base bC p nx tab M 9:=by
 intro z I b m l e q F L k J j d a n h c o r s u x y K D A B _hsh v N E;exact Bc z b m l e q F L k J j 9 d a n h c o r s u x y AB v N 94 #[] E (by intro _ _;go_simp) (fun O C=>fM C I _ d a n h c K D A B)
theorem YC:SA w base bC p nx tab M 10:=by
 intro B I b o n e q F K l J j d a r h c s u x y z A _hn D C _hb _hsh v m E;obtain⟨_,L,_,_,rfl⟩:=E;exact Bc B b o n e q F K l J j 10 d a r h c s u x y z A AB _ m 128 _ rfl (by intro _ _;go_simp) (fun N k=>UC k I _ d a r h c D C (k.tab.one AB AB m rfl).cell (k.tab.one AB AB m rfl).lt)
theorem Yw:SA w base bC p nx tab M 11:=by
 intro B I b o n e q F K l J j d a r h c s u x y z A _hn D C _hb _hsh v m E;obtain⟨_,L,_,_,rfl⟩:=E;exact Bc B b o n e q F K l J j 11 d a r h c s u x y z A AB _ m 128 _ rfl (by intro _ _;go_simp) (fun N k=>Lh k I _ d a r h c D C (k.tab.one AB AB m rfl).cell (k.tab.one AB AB m rfl).lt)
theorem YW:SA w base bC p nx tab M 12:=by
 intro C J b r o j q F L m K k d a s h e u x y z A B _hn E D _hb c v n I;obtain⟨_,N,_,_,rfl⟩:=I;exact Bc C b r o j q F L m K k 12 d a s h e u x y z A B AB _ n 128 _ rfl (by intro _ _;go_simp) (fun O l=>Kr l J _ d a s h e E D (c (.inl rfl)).1 (c (.inl rfl)).2 (l.tab.one AB AB n rfl).cell (l.tab.one AB AB n rfl).lt)
theorem YG:SA w base bC p nx tab M 13:=by
 intro C J b r o j q F L m K k d a s h e u x y z A B _hn E D _hb c v n I;obtain⟨_,N,_,_,rfl⟩:=I;exact Bc C b r o j q F L m K k 13 d a s h e u x y z A B AB _ n 128 _ rfl (by intro _ _;go_simp) (fun O l=>KZ l J _ d a s h e E D (c (.inr rfl)).1 (c (.inr rfl)).2 (l.tab.one AB AB n rfl).cell (l.tab.one AB AB n rfl).lt)
theorem YP:SA w base bC p nx tab M 14:=by
 intro z I b m l e q F K k J j d a n h c o r s u x y _hn D A B _hsh v L E;exact Bc z b m l e q F K k J j 14 d a n h c o r s u x y AB v L 98 #[] E (by intro _ _;go_simp) (fun N C=>YK C I _ d a n h c D A B)
theorem Xz:SA w base bC p nx tab M 15:=by
 intro z I b m l e q F K k J j d a n h c o r s u x y _hn D A B _hsh v L E;exact Bc z b m l e q F K k J j 15 d a n h c o r s u x y AB v L 99 #[] E (by intro _ _;go_simp) (fun N C=>fC C I _ d a n h c D A B)
theorem Yz:SA w base bC p nx tab M 16:=by
 intro z I b m l e q F K k J j d a n h c o r s u x y _hn D A B _hsh v L E;exact Bc z b m l e q F K k J j 16 d a n h c o r s u x y AB v L 100 #[] E (by intro _ _;go_simp) (fun N C=>Yp C I _ d a n h c D A B)
theorem Yg:SA w base bC p nx tab M 17:=by
 intro z E b m l e q F J k I j d a n h c o r s u x y _hn _hd A B _hsh v K D;exact Bc z b m l e q F J k I j 17 d a n h c o r s u x y AB v K 101 #[] D (by intro _ _;go_simp) (fun L C=>gY C E _ d a n h c A B)
theorem ZL:SA w base bC p nx tab M 18:=by
 intro z D b m l e q F I k E j d a n h c o r s u x y _hn _hd A _hb _hsh v J C;exact Bc z b m l e q F I k E j 18 d a n h c o r s u x y AB v J 102 #[] C (by intro _ _;go_simp) (fun K B=>YF B D _ d a n h c A)
theorem Y1:SA w base bC p nx tab M 19:=by
 intro B J b o n e q F L l K j d a r h c s u x y z A _hn E C D _hsh v m I;obtain⟨_,N,_,_,rfl⟩:=I;exact Bc B b o n e q F L l K j 19 d a r h c s u x y z A AB _ m 131 _ rfl (by intro _ _;go_simp) (fun O k=>YQ k J _ d a r h c E C D (k.tab.one AB AB m rfl).cell (k.tab.one AB AB m rfl).lt)
theorem Zc:SA w base bC p nx tab M 20:=by
 intro B J b o n e q F L l K j d a r h c s u x y z A _hn E C D _hsh v m I;obtain⟨_,N,_,_,rfl⟩:=I;exact Bc B b o n e q F L l K j 20 d a r h c s u x y z A AB _ m 131 _ rfl (by intro _ _;go_simp) (fun O k=>YS k J _ d a r h c E C D (k.tab.one AB AB m rfl).cell (k.tab.one AB AB m rfl).lt)
theorem Zq:SA w base bC p nx tab M 21:=by
 intro B I b o n e q F L l J j d a r h c s u x y z A K D C _hb _hsh v m E;obtain⟨_,_,N,O,_,_,_,_,rfl⟩:=E;exact Bc B b o n e q F L l J j 21 d a r h c s u x y z A AB _ m 133 _ rfl (by intro _ _;go_simp) (fun Q k=>Rn k I _ d a r h c 1 AB AB K D C (k.tab.two AB AB m rfl).1 (k.tab.two AB AB m rfl).2)
theorem Yf:SA w base bC p nx tab M 22:=by
 intro B I b o n e q F L l J j d a r h c s u x y z A K D C _hb _hsh v m E;obtain⟨_,_,N,O,_,_,_,_,rfl⟩:=E;exact Bc B b o n e q F L l J j 22 d a r h c s u x y z A AB _ m 133 _ rfl (by intro _ _;go_simp) (fun Q k=>Rn k I _ d a r h c 8 AB AB K D C (k.tab.two AB AB m rfl).1 (k.tab.two AB AB m rfl).2)
theorem YT:SA w base bC p nx tab M 23:=by
 intro B I b o n e q F L l J j d a r h c s u x y z A K D C _hb _hsh v m E;obtain⟨_,_,N,O,_,_,_,_,rfl⟩:=E;exact Bc B b o n e q F L l J j 23 d a r h c s u x y z A AB _ m 135 _ rfl (by intro _ _;go_simp) (fun Q k=>O9 k I _ d a r h c 1 AB AB K D C (k.tab.two AB AB m rfl).1 (k.tab.two AB AB m rfl).2)
theorem Yq:SA w base bC p nx tab M 24:=by
 intro B I b o n e q F L l J j d a r h c s u x y z A K D C _hb _hsh v m E;obtain⟨_,_,N,O,_,_,_,_,rfl⟩:=E;exact Bc B b o n e q F L l J j 24 d a r h c s u x y z A AB _ m 135 _ rfl (by intro _ _;go_simp) (fun Q k=>O9 k I _ d a r h c 8 AB AB K D C (k.tab.two AB AB m rfl).1 (k.tab.two AB AB m rfl).2)
theorem Zo:SA w base bC p nx tab M 25:=by
 intro B J b o n e q F N l K j d a r h c s u x y z A L E C D _hsh v m I;obtain⟨_,_,O,Q,_,_,_,_,rfl⟩:=I;exact Bc B b o n e q F N l K j 25 d a r h c s u x y z A AB _ m 133 _ rfl (by intro _ _;go_simp) (fun R k=>Rq k J _ d a r h c 1 AB AB L E C D (k.tab.two AB AB m rfl).1 (k.tab.two AB AB m rfl).2)
theorem YO:SA w base bC p nx tab M 26:=by
 intro B J b o n e q F N l K j d a r h c s u x y z A L E C D _hsh v m I;obtain⟨_,_,O,Q,_,_,_,_,rfl⟩:=I;exact Bc B b o n e q F N l K j 26 d a r h c s u x y z A AB _ m 133 _ rfl (by intro _ _;go_simp) (fun R k=>Rq k J _ d a r h c 8 AB AB L E C D (k.tab.two AB AB m rfl).1 (k.tab.two AB AB m rfl).2)
theorem Y2:SA w base bC p nx tab M 27:=by
 intro B J b o n e q F N l K j d a r h c s u x y z A L E C D _hsh v m I;obtain⟨_,_,O,Q,_,_,_,_,rfl⟩:=I;exact Bc B b o n e q F N l K j 27 d a r h c s u x y z A AB _ m 135 _ rfl (by intro _ _;go_simp) (fun R k=>Oq k J _ d a r h c 1 AB AB L E C D (k.tab.two AB AB m rfl).1 (k.tab.two AB AB m rfl).2)
theorem Zu:SA w base bC p nx tab M 28:=by
 intro B J b o n e q F N l K j d a r h c s u x y z A L E C D _hsh v m I;obtain⟨_,_,O,Q,_,_,_,_,rfl⟩:=I;exact Bc B b o n e q F N l K j 28 d a r h c s u x y z A AB _ m 135 _ rfl (by intro _ _;go_simp) (fun R k=>Oq k J _ d a r h c 8 AB AB L E C D (k.tab.two AB AB m rfl).1 (k.tab.two AB AB m rfl).2)
theorem ZT:SA w base bC p nx tab M 29:=by
 intro z C b m l e q F E k D j d a n h c o r s u x y _hn _hd _ha _hb _hsh v I B;exact Bc z b m l e q F E k D j 29 d a n h c o r s u x y AB v I 110 #[] B (by intro _ _;go_simp) (fun J A=>iA A C _ d a n h c)
theorem Y4:SA w base bC p nx tab M 30:=by
 intro B D b o n k q F J m E l d a r h j s u x y z A I _hd _ha _hb _hsh v e C;obtain⟨_,_,K,L,_,_,_,_,rfl⟩:=C;exact Bc B b o n k q F J m E l 30 d a r h j s u x y z A AB _ e 136 _ rfl (by intro _ _;go_simp) (fun N c=>Oe c D _ d a r h j I (c.tab.two AB AB e rfl).1.cell (c.tab.two AB AB e rfl).1.lt (c.tab.two AB AB e rfl).2.cell (c.tab.two AB AB e rfl).2.lt)
theorem Xw:SA w base bC p nx tab M 31:=by
 intro B D b o n k q F J m E l d a r h j s u x y z A I _hd _ha _hb _hsh v e C;obtain⟨_,_,K,L,_,_,_,_,rfl⟩:=C;exact Bc B b o n k q F J m E l 31 d a r h j s u x y z A AB _ e 136 _ rfl (by intro _ _;go_simp) (fun N c=>NH c D _ d a r h j I (c.tab.two AB AB e rfl).1.cell (c.tab.two AB AB e rfl).1.lt (c.tab.two AB AB e rfl).2.cell (c.tab.two AB AB e rfl).2.lt)
theorem Xy:SA w base bC p nx tab M 32:=by
 intro B D b o n k q F J m E l d a r h j s u x y z A I _hd _ha _hb _hsh v e C;obtain⟨_,_,K,L,_,_,_,_,rfl⟩:=C;exact Bc B b o n k q F J m E l 32 d a r h j s u x y z A AB _ e 136 _ rfl (by intro _ _;go_simp) (fun N c=>OY c D _ d a r h j I (c.tab.two AB AB e rfl).1.cell (c.tab.two AB AB e rfl).1.lt (c.tab.two AB AB e rfl).2.cell (c.tab.two AB AB e rfl).2.lt)
theorem Ya:SA w base bC p nx tab M 33:=by
 intro B D b o n k q F J m E l d a r h j s u x y z A I _hd _ha _hb _hsh v e C;obtain⟨_,_,K,L,_,_,_,_,rfl⟩:=C;exact Bc B b o n k q F J m E l 33 d a r h j s u x y z A AB _ e 136 _ rfl (by intro _ _;go_simp) (fun N c=>MU c D _ d a r h j I (c.tab.two AB AB e rfl).1.cell (c.tab.two AB AB e rfl).1.lt (c.tab.two AB AB e rfl).2.cell (c.tab.two AB AB e rfl).2.lt)
theorem Yr:SA w base bC p nx tab M 34:=by
 intro z C b m l e q F E k D j d a n h c o r s u x y _hn _hd _ha _hb _hsh v I B;exact Bc z b m l e q F E k D j 34 d a n h c o r s u x y AB v I 112 #[] B (by intro _ _;go_simp) (fun J A=>YI A C _ d a n h c)
theorem Qi(r:Core w base bC p nx tab M)(J:M.Ok)(K:M.nO<=1048576)(S:0<=M.pc)(b k c j:Nat)(F:Nat->Nat->Int)(m:At w b k (c*6) (Ia F))(X:c<=2000/\∀q,q<c->JW F q=true):
 Calls Tryz.prog 34 #[Vq bC,.slice (some ⟨b,k,none⟩) c j] w fun e U=>e=.returned (.tuple #[])/\Below base w U/\Keep w U/\∃p' R,Core U base bC p' R tab (stepM c F M):=by
 by_cases O:(c:Int)<=M.pc
 ·exact WJ r _ c j F O
 ·obtain⟨q,L⟩:=Int.eq_ofNat_of_zero_le S
  have l:q<c:=AB;have s:c<=2000/\JW F q=true:=⟨X.1,X.2 q l⟩
  obtain⟨s,Q⟩:=s;unfold JW at Q;have hs:=fun Y=>PK Q Y
  obtain⟨⟨a1,a2⟩,⟨Z,d2⟩,⟨x1,x2⟩,⟨y1,y2⟩,⟨z1,z2⟩⟩:=GQ Q;obtain⟨o,x⟩:=Int.eq_ofNat_of_zero_le (show 0<=F q 0 by omega);obtain⟨d,y⟩:=Int.eq_ofNat_of_zero_le Z;obtain⟨a,z⟩:=Int.eq_ofNat_of_zero_le x1;obtain⟨u,A⟩:=Int.eq_ofNat_of_zero_le y1;obtain⟨h,B⟩:=Int.eq_ofNat_of_zero_le z1;have o1:1<=o:=AB;have o2:o<=34:=AB;obtain⟨v,N,I⟩:=r.tab.2 o o1 o2;have n:(o=12∨o=13)->0<=F q 4/\F q 4<=63:=fun Y=>hs AB
  have E:d<8:=AB;have C:a<8:=AB;have D:u<8:=AB;unfold stepM;rw[if_neg O,show M.pc.toNat=q by omega,x,y,z,A,B,Int.toNat_natCast,Int.toNat_natCast,Int.toNat_natCast,Int.toNat_natCast,Int.toNat_natCast];have hc:o=1∨o=2∨o=3∨o=4∨o=5∨o=6∨o=7∨o=8∨o=9∨o=10∨o=11∨o=12∨o=13∨o=14∨o=15∨o=16∨o=17∨o=18∨o=19∨o=20∨o=21∨o=22∨o=23∨o=24∨o=25∨o=26∨o=27∨o=28∨o=29∨o=30∨o=31∨o=32∨o=33∨o=34:=AB;rcases hc with rfl|rfl|rfl|rfl|rfl|rfl|rfl|rfl|rfl|rfl|rfl|rfl|rfl|rfl|rfl|rfl|rfl|rfl|rfl|rfl|rfl|rfl|rfl|rfl|rfl|rfl|rfl|rfl|rfl|rfl|rfl|rfl|rfl|rfl
  ·exact iC r J b k c j q F L l s m d a u h (F q 4) x y z A rfl B K E C D n v N I
  ·exact iQ r J b k c j q F L l s m d a u h (F q 4) x y z A rfl B K E C D n v N I
  ·exact gm r J b k c j q F L l s m d a u h (F q 4) x y z A rfl B K E C D n v N I
  ·exact iG r J b k c j q F L l s m d a u h (F q 4) x y z A rfl B K E C D n v N I
  ·exact gG r J b k c j q F L l s m d a u h (F q 4) x y z A rfl B K E C D n v N I
  ·exact gJ r J b k c j q F L l s m d a u h (F q 4) x y z A rfl B K E C D n v N I
  ·exact fQ r J b k c j q F L l s m d a u h (F q 4) x y z A rfl B K E C D n v N I
  ·exact fU r J b k c j q F L l s m d a u h (F q 4) x y z A rfl B K E C D n v N I
  ·exact iM r J b k c j q F L l s m d a u h (F q 4) x y z A rfl B K E C D n v N I
  ·exact YC r J b k c j q F L l s m d a u h (F q 4) x y z A rfl B K E C D n v N I
  ·exact Yw r J b k c j q F L l s m d a u h (F q 4) x y z A rfl B K E C D n v N I
  ·exact YW r J b k c j q F L l s m d a u h (F q 4) x y z A rfl B K E C D n v N I
  ·exact YG r J b k c j q F L l s m d a u h (F q 4) x y z A rfl B K E C D n v N I
  ·exact YP r J b k c j q F L l s m d a u h (F q 4) x y z A rfl B K E C D n v N I
  ·exact Xz r J b k c j q F L l s m d a u h (F q 4) x y z A rfl B K E C D n v N I
  ·exact Yz r J b k c j q F L l s m d a u h (F q 4) x y z A rfl B K E C D n v N I
  ·exact Yg r J b k c j q F L l s m d a u h (F q 4) x y z A rfl B K E C D n v N I
  ·exact ZL r J b k c j q F L l s m d a u h (F q 4) x y z A rfl B K E C D n v N I
  ·exact Y1 r J b k c j q F L l s m d a u h (F q 4) x y z A rfl B K E C D n v N I
  ·exact Zc r J b k c j q F L l s m d a u h (F q 4) x y z A rfl B K E C D n v N I
  ·exact Zq r J b k c j q F L l s m d a u h (F q 4) x y z A rfl B K E C D n v N I
  ·exact Yf r J b k c j q F L l s m d a u h (F q 4) x y z A rfl B K E C D n v N I
  ·exact YT r J b k c j q F L l s m d a u h (F q 4) x y z A rfl B K E C D n v N I
  ·exact Yq r J b k c j q F L l s m d a u h (F q 4) x y z A rfl B K E C D n v N I
  ·exact Zo r J b k c j q F L l s m d a u h (F q 4) x y z A rfl B K E C D n v N I
  ·exact YO r J b k c j q F L l s m d a u h (F q 4) x y z A rfl B K E C D n v N I
  ·exact Y2 r J b k c j q F L l s m d a u h (F q 4) x y z A rfl B K E C D n v N I
  ·exact Zu r J b k c j q F L l s m d a u h (F q 4) x y z A rfl B K E C D n v N I
  ·exact ZT r J b k c j q F L l s m d a u h (F q 4) x y z A rfl B K E C D n v N I
  ·exact Y4 r J b k c j q F L l s m d a u h (F q 4) x y z A rfl B K E C D n v N I
  ·exact Xw r J b k c j q F L l s m d a u h (F q 4) x y z A rfl B K E C D n v N I
  ·exact Xy r J b k c j q F L l s m d a u h (F q 4) x y z A rfl B K E C D n v N I
  ·exact Ya r J b k c j q F L l s m d a u h (F q 4) x y z A rfl B K E C D n v N I
  ·exact Yr r J b k c j q F L l s m d a u h (F q 4) x y z A rfl B K E C D n v N I
theorem Wv(n:Core w base bC p nx tab M)(o:M.Ok)(r:M.nO<=1048576)(l:0<=M.pc)(b c a d:Nat)(F:Nat->Nat->Int)(j:At w b c (a*6) (Ia F))(h:Dw a F=true):
 Calls Tryz.prog 34 #[Vq bC,.slice (some ⟨b,c,none⟩) a d] w fun e m=>e=.returned (.tuple #[])/\Below base w m/\∃u k,Core m base bC u k tab (stepM a F M):=by
 refine(Qi n o r l b c a d F j ?_).mono fun _ _⟨x,y,_,z⟩=>⟨x,y,z⟩
 unfold Dw at h;simp only[Bool.and_eq_true,decide_eq_true_eq,List.all_eq_true,List.mem_range]at h;refine⟨h.1.1.2,fun q s=>?_⟩;have:=h.1.2 q s;unfold Dr at this;simp only[Bool.and_eq_true]at this;exact this.1
end
end Go.Proofs.YtkckomianknjdaaGreat
