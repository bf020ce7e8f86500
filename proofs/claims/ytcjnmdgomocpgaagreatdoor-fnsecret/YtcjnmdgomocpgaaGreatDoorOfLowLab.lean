import Derived.Test.YtcjnmdgomocpgaaGreatDoorOfAddBlock
import Derived.Laws.EntriesVeiled
set_option maxHeartbeats 8000000
set_option maxRecDepth 20000
namespace Go.Proofs.YtcjnmdgomocpgaaGreatDoor
open Go.RowKit
variable {B b:Nat}{E:Nat->Prop}{D v:Value}{j w:World}
structure Lx(E:Nat->Prop)(w w':World):Prop where
 os:w'.os=w.os
 tape:w'.tape=w.tape
 output:w'.output=w.output
 size:w.heap.size<=w'.heap.size
 block:∀k,k<w.heap.size->¬E k->w'.heap[k]?=w.heap[k]?
theorem Lx.of_below(h:Below w.heap.size w j):Lx E w j:=⟨h.os,h.tape,h.output,h.size,fun k a _=>h.block k a⟩
theorem Lx.refl(E:Nat->Prop)(w:World):Lx E w w:=⟨rfl,rfl,rfl,BQ,fun _ _ _=>rfl⟩
theorem Lx.of_grown{p:Option Nat}(h:w.grownBy j p)(a:∀k,p=some k->E k):Lx E w j:=⟨h.os,h.tape,h.output,h.size,fun k b c=>h.block k b (fun e=>c (a k e.symm))⟩
theorem Lx.set(h:Lx E w j){a:Addr}(c:E a.block)(v:Value):Lx E w (j.setCell a v):=
 ⟨h.os,h.tape,h.output,by simpa using h.size,fun k d b=>(Below.heap_setCell j a v k (fun e=>b (e▸c))).trans (h.block k d b)⟩
theorem Lx.trans{c:Nat->Prop}{u v:World}(h:Lx E w u)(g:Lx c u v)(d:∀k,k<w.heap.size->c k->E k):Lx E w v:=
 ⟨g.os.trans h.os,g.tape.trans h.tape,g.output.trans h.output,Nat.le_trans h.size g.size,fun k a b=>(g.block k (Ey a h.size) (fun e=>b (d k a e))).trans (h.block k a b)⟩
theorem Lx.cl{N:List Value}(h:Lx E w j)(c:Cl w b N)(e:¬E b):Cl j b N:=
 ⟨Ey c.1 h.size,fun i d=>(World.cell?_of_block (a:=Va b i) (h.block b c.1 e)).trans (c.2 i d)⟩
theorem Lx.fz(h:Lx E w j)(d:b<w.heap.size)(c:∀i,w.frozen? (Va b i)=false)(e:¬E b):∀i,j.frozen? (Va b i)=false:=
 fun i=>(World.frozen?_of_block (a:=Va b i) (h.block b d e)).trans (c i)
theorem Lx.below(h:Lx E w j)(c:B<=w.heap.size)(a:∀k,k<B->¬E k):Below B w j:=⟨h.os,h.tape,h.output,h.size,fun k b=>h.block k AB (a k b)⟩
structure LP(u:World)(lb:Nat)(v:Value)(xs:List NV):Prop where
 C:u.cell? (Va lb 0)=some v
 lt:lb<u.heap.size
 F:∀i,u.frozen? (Va lb i)=false
 O:u.ownsRow (lb+1) 99 6 v xs.length (ci xs)
structure Stp(lb:Nat)(E:Nat->Prop)(w:World)(v:Value)(w':World)(v':Value):Prop where
 x:Lx (fun k=>k=lb∨v.ownBlock=some k∨E k) w w'
 a:v'.ownBlock=v.ownBlock∨∃k,v'.ownBlock=some k/\w.heap.size<=k
theorem Stp.refl(a:Nat)(E:Nat->Prop)(w:World)(v:Value):Stp a E w v w v:=⟨Lx.refl _ _,.inl rfl⟩
theorem Stp.trans{c:Nat->Prop}{N w2:World}{v1 M:Value}(h:Stp B E w v N v1)(g:Stp B c N v1 w2 M)(d:∀k,k<w.heap.size->c k->E k):Stp B E w v w2 M:=by
 have l:=h.x.size;refine⟨h.x.trans g.x (fun k j e=>?_),?_⟩
 ·rcases e with e|e|e
  ·exact .inl e
  ·rcases h.a with a|⟨m,a,b⟩
   ·exact .inr (.inl (a▸e))
   ·rw[a]at e;have:=Option.some.inj e;omega
  ·exact .inr (.inr (d k j e))
 ·rcases g.a with a|⟨k,a,b⟩
  ·rw[a];exact h.a
  ·exact .inr ⟨k,a,AB⟩
theorem Stp.cl{N:List Value}(h:Stp B E w v j D)(c:Cl w b N)(a:b≠B)(d:v.ownBlock≠some b)(k:¬E b):Cl j b N:=h.x.cl c (fun e=>by
 rcases e with e|e|e
 ·exact a e
 ·exact d e
 ·exact k e)
theorem Stp.nb(h:Stp B E w v j D)(l:b<w.heap.size)(c:v.ownBlock≠some b):D.ownBlock≠some b:=by
 rcases h.a with a|⟨k,a,d⟩
 ·rw[a];exact c
 ·rw[a];intro e;have:=Option.some.inj e;omega
theorem KU{P:Program}{D:Region.Mode}{R:Array Oper}{Q:Exit->Act->World->Prop}{T:World->Prop}{I q i:Nat}{y:Array Bool}{a:Act}{o:Oper}(s x:Operand){t:TypeId}{u v':Value}(k:R[i]?=some o)(l:Region.ready D R y=[i])(n:Region.wanted o (yielded R a.tmps)=true)
 (c:o.op=.call {callee:=.builtin .append,args:=#[s,x],argTypes:=#[t,t]})(m:a.eval s=v)(p:a.eval x=u)(b:(Builtin.append_ #[t,t] o.type #[v,u]).run P w=.ok v' j)(e:T j)(h:T j->wpAnyL P D R Q T I q (y.setIfInBounds i true) (a.put o.dst v') j):wpAnyL P D R Q T I (q+1) y a w:=
 Ah k l (fun r d=>by
  rw[if_pos n];unfold Oper.wp execOp;simp only[c,resolve,invoke,builtin,Sem.run_bind,Sem.run_pure,Result.andThen_ok,List.map_toArray,List.map_cons,List.map_nil,m,p,b];exact d _ _ e h)
theorem LV(c:Int)(w:World):Ks 113 #[Vi c] w fun e a=>e=.returned (Vi (CZ c))/\a=w:=by
 go_enter Tryz.func113,Tryz.ntmps113;go_wp2;all_goals(go_ret;refine⟨Ae ?_,rfl⟩;simp_all[CZ])
theorem Rs(l:Nat)(v:Value)(I:List NV)(x:NV)(w:World)(h:LP w l v I)(hn:I.length<=4000):
 Ks 35 #[Vq l,.agg #[Vi x.op,Vi x.d,Vi x.a,Vi x.b,Vi x.imm,Vi x.h]] w fun e c=>e=.returned (.tuple #[])/\∃D,LP c l D (I++[x])/\Stp l (fun _=>False) w v c D:=by
 obtain⟨o,r,q,hv⟩:=Fa h.O;subst hv;have H:=hxy h;have lt:=h.lt;obtain⟨iS,gS,Z,aa,ab⟩:=info_parts YL;have A:Hid (_/\_/\_/\_):=⟨gS,Z,aa,ab⟩
 go_enter Tryz.func35,Tryz.ntmps35;go_upto_region 1 with fail;obtain⟨u,hu,hb,hc⟩:∃y,w.alloc (.cells #[Vi x.op,Vi x.d,Vi x.a,Vi x.b,Vi x.imm,Vi x.h] 99)=y/\Bw w y/\Cl y w.heap.size [Vi x.op,Vi x.d,Vi x.a,Vi x.b,Vi x.imm,Vi x.h]:=⟨_,rfl,Ai,Cl.new⟩
 rw[hu];have C0:u.cell? (Va l 0)=some (.slice o r q):=(hb.cell (p:=Va l 0) lt).trans H.C;have O0:=hxy (FQ H.O hb);have BU:=hxy hb;have zu:=hc.1;obtain⟨n,J⟩:=Au w.heap.size;have ag:=hxy J;have NB:Hid ((Value.slice o r q).ownBlock≠some n):=(by rw[<-J];exact fun e=>by have:=(H.O.lt _ e).2;omega:(Value.slice o r q).ownBlock≠some n)
 have lx:l<n:=AB;rw[J]at hc zu⊢;have T0:u.cell? (Va l 0)=some (.slice o r q)/\Cl u n [Vi x.op,Vi x.d,Vi x.a,Vi x.b,Vi x.imm,Vi x.h]:=⟨C0,hc⟩
 have r0:∀c:World,(c.cell? (Va l 0)=some (.slice o r q)/\Cl c n [Vi x.op,Vi x.d,Vi x.a,Vi x.b,Vi x.imm,Vi x.h])->c.cell? (Va l 0)=some (.slice o r q):=fun c h=>h.1
 have x0:∀c:World,(c.cell? (Va l 0)=some (.slice o r q)/\Cl c n [Vi x.op,Vi x.d,Vi x.a,Vi x.b,Vi x.imm,Vi x.h])->c.cell? (Va n 0)=some (Vi x.op):=fun c h=>h.2.2 0 AX
 have x1:∀c:World,(c.cell? (Va l 0)=some (.slice o r q)/\Cl c n [Vi x.op,Vi x.d,Vi x.a,Vi x.b,Vi x.imm,Vi x.h])->c.cell? (Va n 1)=some (Vi x.d):=fun c h=>h.2.2 1 AX
 have x2:∀c:World,(c.cell? (Va l 0)=some (.slice o r q)/\Cl c n [Vi x.op,Vi x.d,Vi x.a,Vi x.b,Vi x.imm,Vi x.h])->c.cell? (Va n 2)=some (Vi x.a):=fun c h=>h.2.2 2 AX
 have x3:∀c:World,(c.cell? (Va l 0)=some (.slice o r q)/\Cl c n [Vi x.op,Vi x.d,Vi x.a,Vi x.b,Vi x.imm,Vi x.h])->c.cell? (Va n 3)=some (Vi x.b):=fun c h=>h.2.2 3 AX
 have x4:∀c:World,(c.cell? (Va l 0)=some (.slice o r q)/\Cl c n [Vi x.op,Vi x.d,Vi x.a,Vi x.b,Vi x.imm,Vi x.h])->c.cell? (Va n 4)=some (Vi x.imm):=fun c h=>h.2.2 4 AX
 have x5:∀c:World,(c.cell? (Va l 0)=some (.slice o r q)/\Cl c n [Vi x.op,Vi x.d,Vi x.a,Vi x.b,Vi x.imm,Vi x.h])->c.cell? (Va n 5)=some (Vi x.h):=fun c h=>h.2.2 5 AX
 have OD:=hxy O0.drew;have S:Hid (Bw w u.drew):=BU.trans (BJ.drew);have TD:u.drew.cell? (Va l 0)=some (.slice o r q)/\Cl u.drew n [Vi x.op,Vi x.d,Vi x.a,Vi x.b,Vi x.imm,Vi x.h]:=⟨T0.1,T0.2.below BJ.drew⟩
 refine BH (T:=fun c=>c.cell? (Va l 0)=some (.slice o r q)/\Cl c n [Vi x.op,Vi x.d,Vi x.a,Vi x.b,Vi x.imm,Vi x.h]) (s:=10) AV TD (fun hHeld=>?_);have zd:=hHeld.2.1;generalize u.drew=R at hHeld OD S zd⊢;refine NU [0,1,2,3,4,5] ?_;refine Ah (i:=6) rfl AV (fun KK hK=>?_);go_simp;obtain⟨t1,ae,z,ad⟩:∃y,R.alloc (.cells #[Vi x.op,Vi x.d,Vi x.a,Vi x.b,Vi x.imm,Vi x.h] 99)=y/\Bw R y/\(∀j u,(uf x)[j]?=some u->y.cell? ((⟨R.heap.size,0,none⟩:Addr).add j)=some u):=⟨_,rfl,Ai,PW _ _ _⟩
 rw[ae];have OE:=hxy (FQ OD z);have U:=hxy (S.trans (z.mono S.size));have L:t1.cell? (Va l 0)=some (.slice o r q)/\Cl t1 n [Vi x.op,Vi x.d,Vi x.a,Vi x.b,Vi x.imm,Vi x.h]:=⟨(z.cell (p:=Va l 0) (by show l<_;omega)).trans hHeld.1,hHeld.2.below z⟩
 have NW:Hid _:=ad;have zt:=z.size;refine hK.out _ _ L (fun N=>?_);refine Cn ?_;obtain⟨D,K,M,B,m,_,ac⟩:=run_append_own_at (P:=Tryz.prog) t1 (l+1) 49 49 99 iS _ 6 48 Tryz.underlying49 A.1 A.2.1 A.2.2.1 A.2.2.2 rfl Ad (.slice o r q) I.length (ci I) OE ⟨R.heap.size,0,none⟩ 1 1 (uf x) rfl NW (by rw[<-Zt];exact pM _) (by unfold maxLen;omega) AB AB;have NL:(Value.slice o r q).ownBlock≠some l:=fun e=>by have:=(OE.lt _ e).1;omega
 have Y:K.cell? (Va l 0)=some (.slice o r q)/\Cl K n [Vi x.op,Vi x.d,Vi x.a,Vi x.b,Vi x.imm,Vi x.h]:=
  ⟨(World.cell?_of_block (a:=Va l 0) (m.block l AB (fun e=>NL e.symm))).trans L.1,⟨Ey L.2.1 m.size,fun i hi=>(World.cell?_of_block (a:=Va n i) (m.block n L.2.1 (fun e=>NB.out e.symm))).trans (L.2.2 i hi)⟩⟩
 refine KU (.tmp 8) (.tmp 10) (i:=7) rfl AV AV rfl rfl rfl M Y (fun Q=>?_);refine Cn ?_;refine Bt 8 ?_;refine BR 9 ?_;have X:K.ownsRow (l+1) 99 6 D (I++[x]).length (ci (I++[x])):=by rw[List.length_append,Si,Zt];exact B
 have F5:∀i,K.frozen? (Va l i)=false:=fun i=>(World.frozen?_of_block (a:=Va l i) (m.block l AB (fun e=>NL e.symm))).trans ((U.frozen (p:=Va l i) lt).trans (H.F i))
 have l5:l<K.heap.size:=by have:=m.size;omega
 have P5:Hid (LP (K.setCell (Va l 0) D) l D (I++[x])):=⟨by simp[go_sem,Y.1],by simpa using l5,fun i=>by simpa using F5 i,ownsRow_setCell_below X (by show l<_;omega) _⟩
 have S5:Hid (Stp l (fun _=>False) w (.slice o r q) (K.setCell (Va l 0) D) D):=⟨((Lx.of_below U).trans (Lx.of_grown (E:=fun k=>k=l∨(Value.slice o r q).ownBlock=some k∨False) m (fun k hk=>.inr (.inl hk))) (fun _ _ h=>h)).set (.inl rfl) _,by
  rcases ac with e|e
  ·exact .inl e
  ·exact .inr ⟨_,e,U.size⟩⟩
 obtain⟨ah,k5,c5,af⟩:=Fa B;subst af;have t5:=Y.1;refine BD rfl AV AV (fun KK hK=>?_);go_simp;refine hK.out _ _ ?_;go_wp2;go_end0;exact⟨rfl,_,P5,S5⟩
structure TB(w:World)(lb xb jb pb fb:Nat)(jv:Value)(pl:Int):Prop where
 X:Cl w xb [Vq lb]
 J:Cl w jb [jv]
 P:Cl w pb [Vi pl]
 B:Cl w fb [.func (.func 143) #[] #[Vq jb,Vq pb,Vq xb]]
 JF:∀i,w.frozen? (Va jb i)=false
 PF:∀i,w.frozen? (Va pb i)=false
 n1:xb≠jb
 n2:xb≠pb
 n3:xb≠fb
 n4:jb≠pb
 n5:jb≠fb
 n6:pb≠fb
def Pn(lb:Nat)(v:Value)(xb jb pb fb:Nat):Prop:=(xb≠lb/\jb≠lb/\pb≠lb/\fb≠lb)/\v.ownBlock≠some xb/\v.ownBlock≠some jb/\v.ownBlock≠some pb/\v.ownBlock≠some fb
theorem Stp.fz(h:Stp B E w v j D)(l:b<w.heap.size)(c:∀i,w.frozen? (Va b i)=false)(a:b≠B)(d:v.ownBlock≠some b)(k:¬E b):∀i,j.frozen? (Va b i)=false:=h.x.fz l c (fun e=>by
 rcases e with e|e|e
 ·exact a e
 ·exact d e
 ·exact k e)
theorem TB.step{lb N M S k:Nat}{K:Value}{L:Int}(h:TB w lb N M S k K L)(o:Pn lb v N M S k)(s:Stp lb E w v j D)(c:¬E N)(a:¬E M)(b:¬E S)(d:¬E k):TB j lb N M S k K L/\Pn lb D N M S k:=
 ⟨⟨s.cl h.X o.1.1 o.2.1 c,s.cl h.J o.1.2.1 o.2.2.1 a,s.cl h.P o.1.2.2.1 o.2.2.2.1 b,s.cl h.B o.1.2.2.2 o.2.2.2.2 d,s.fz h.J.1 h.JF o.1.2.1 o.2.2.1 a,s.fz h.P.1 h.PF o.1.2.2.1 o.2.2.2.1 b,h.n1,h.n2,h.n3,h.n4,h.n5,h.n6⟩,o.1,s.nb h.X.1 o.2.1,s.nb h.J.1 o.2.2.1,s.nb h.P.1 o.2.2.2.1,s.nb h.B.1 o.2.2.2.2⟩
theorem KH(a:Nat)(w:World):
 Ks 112 #[Vq a] w fun e b=>e=.returned (.tuple #[.func (.func 144) #[] #[.pointer (some ⟨w.heap.size+1,0,none⟩),Vq w.heap.size,.pointer (some ⟨w.heap.size+1+1+1,0,none⟩)],.func (.func 145) #[] #[Vq w.heap.size,.pointer (some ⟨w.heap.size+1+1,0,none⟩),.pointer (some ⟨w.heap.size+1+1+1,0,none⟩)]])/\Below w.heap.size w b/\TB b a w.heap.size (w.heap.size+1) (w.heap.size+1+1) (w.heap.size+1+1+1) (.slice none 0 0) 0:=by
 go_enter Tryz.func112,Tryz.ntmps112;go_wp2;refine mY (.tuple #[.func (.func 144) #[] #[.pointer (some ⟨w.heap.size+1,0,none⟩),Vq w.heap.size,.pointer (some ⟨w.heap.size+1+1+1,0,none⟩)],.func (.func 145) #[] #[Vq w.heap.size,.pointer (some ⟨w.heap.size+1+1,0,none⟩),.pointer (some ⟨w.heap.size+1+1+1,0,none⟩)]]) (by simp[results,Tryz.results112,go_sem]) ⟨rfl,?_,?_⟩
 ·exact(((Ai).alloc AX _).alloc (by simp;omega) _).alloc (by simp;omega) _
 ·refine⟨⟨by simp<;>omega,?_⟩,⟨by simp<;>omega,?_⟩,⟨by simp<;>omega,?_⟩,⟨AX,?_⟩,fun i=>by simp[go_sem],fun i=>by simp[go_sem],AB,AB,AB,AB,AB,AB⟩
  all_goals
   intro i c;match i,c with
   |0,_=>simp[go_sem]
theorem Xw(k c a b d:Nat)(l:Int)(w:World)(h:TB w k c a b d (.slice none 0 0) l):
 Ks 143 #[Vq a,Vq b,Vq c] w fun e m=>e=.returned (.tuple #[])/\m=w:=by
 have n:w.cell? (Va a 0)=some (.slice none 0 0):=h.J.2 0 AX;have o:=h.J.1;clear h;go_enter Tryz.func143,Tryz.ntmps143;go_wp2;go_loopw [7](fun j wr=>j=Vi 0/\wr=w)(fun _ _=>0)
 case atStart=>exact⟨rfl,rfl⟩
 case round=>
  obtain⟨rfl,rfl⟩:=hrel;go_wp2;go_end0;exact⟨rfl,rfl⟩
theorem Ql(b D z B fb r N k:Nat)(d:Int)(v:Value)(A R:List NV)(x:NV)(w:World)(hL:TB w b D z B fb (Vs r 1 N) d)(L:Cl w r [Vi (k:Int)])(y:A.length=k)(o:LP w b v (A++x::R)):
 Ks 143 #[Vq z,Vq B,Vq D] w fun e j=>e=.returned (.tuple #[])/\LP j b v (A++{x with imm:=d}::R)/\Stp b (fun _=>False) w v j v:=by
 have l:=hxy o;have I:=hxy hL;have E:=hxy L;have u:=hxy y;obtain⟨g,c,hv⟩:=Ii o.O (by simp;omega);subst hv;obtain⟨n,a⟩:=Au ((A++x::R).length);have aa:k<n:=by rw[<-a,<-y];simp
 have m:Hid (w.ownsRow (b+1) 99 6 (Vs g n c) n (ci (A++x::R))):=(by rw[<-a];exact o.O:w.ownsRow (b+1) 99 6 (Vs g n c) n (ci (A++x::R)))
 have Q:=hxy a;rw[a]at o⊢;rw[a]at l;have j0:w.cell? (Va z 0)=some (Vs r 1 N):=hL.J.2 0 AX;have jl:=hL.J.1;clear o hL L y a;go_enter Tryz.func143,Tryz.ntmps143;go_wp2;clear j0;go_loopw [7](fun q wr=>(q=Vi 0/\wr=w)∨(q=Vi 1/\wr=w.drew.setCell (Va g (k*6+4)) (Vi d)))(fun q _=>1-(intOf q).toNat)
 case atStart=>exact .inl ⟨rfl,rfl⟩
 case round=>
  rcases hrel with⟨rfl,rfl⟩|⟨rfl,hw⟩;rotate_left
  ·subst hw
   have U:Hid (LP (w.drew.setCell (Va g (k*6+4)) (Vi d)) b (Vs g n c) (A++{x with imm:=d}::R)):=(by
    have gl:=(m.lt g rfl).1;refine⟨(World.cell?_setCell_far _ _ _ _ (show g≠b by omega)).trans l.C,by simpa using l.lt,fun i=>by simpa using l.F i,?_⟩;have h:=(m.drew.stored (k*6+4) (Vi d)).1;rw[<-u.out,qA]at h;have hl:(A++{x with imm:=d}::R).length=n:=by rw[<-Q.out];simp
    rw[hl,<-u.out];exact h:LP (w.drew.setCell (Va g (k*6+4)) (Vi d)) b (Vs g n c) (A++{x with imm:=d}::R))
   go_wp2;go_end0;exact⟨rfl,U,⟨(Lx.of_below BJ.drew).set (.inr (.inl rfl)) _,.inl rfl⟩⟩
  have q0:wr.cell? (Va r 0)=some (Vi (k:Int)):=E.2 0 AX;have ql:=E.1;go_upto_region 3 with fail;clear q0;have rx:Cb wr D 0 (Vq b):=fun j h=>(I.X.below h).2 0 AX
  have rp:Cb wr B 0 (Vi d):=fun j h=>(I.P.below h).2 0 AX
  have rl:Cb wr b 0 (Vs g n c):=fun j h=>(h.cell (p:=Va b 0) l.lt).trans l.C
  have M:(k:Int)<(n:Int):=AB;refine BH (T:=fun j=>Bw wr j) (s:=8) AV BJ.drew (fun hHeld=>?_);refine NU [0,1,2,3,4,5] ?_;refine Bt 6 ?_;refine BR 7 ?_;have Z:∀i,wr.drew.frozen? (Va g i)=false:=fun i=>m.drew.frozenAt i
  have l6:g<wr.drew.heap.size:=(m.drew.lt g rfl).2;have Y:wr.drew.cell? (Va g (k*6+4))=some (Vi x.imm):=by
   rw[m.drew.cellAt _ AB,<-u.out];exact uw A R x
  refine BD rfl AV AV (fun S K=>?_);go_simp;refine K.out _ _ ?_;clear K S rx rp rl Z l6 Y hHeld;go_wp2;go_roundw
  case rel=>exact .inr ⟨rfl,rfl⟩
  case measure=>simp[intOf]
theorem Za(d m q a p:Nat)(N:Int)(v:Value)(x:List NV)(w:World)(hL:TB w d m q a p (.slice none 0 0) N)(j:LP w d v x)(z:Pn d v m q a p):
 Ks 145 #[Vq m,Vq a,Vq p] w fun e K=>e=.returned (.tuple #[])/\LP K d v x/\TB K d m q a p (.slice none 0 0) (x.length:Int)/\Stp d (fun k=>k=a) w v K v:=by
 obtain⟨n,l,E,hv⟩:=Fa j.O;subst hv;have s:l=x.length:=by
  rcases j.O.2 with⟨e,e2⟩|⟨g,Y,Z,e,_⟩
  ·have:=(Value.slice.inj e).2.1;omega
  ·exact(Value.slice.inj e).2.1
 have HP:=hxy j;have HL:=hxy hL;have HO:=hxy z;have x0:w.cell? (Va m 0)=some (Vq d):=hL.X.2 0 AX;have p0:w.cell? (Va a 0)=some (Vi N):=hL.P.2 0 AX;have b0:w.cell? (Va p 0)=some (.func (.func 143) #[] #[Vq q,Vq a,Vq m]):=hL.B.2 0 AX;have l0:=j.C;have z1:=hL.X.1;have z2:=hL.P.1;have z3:=hL.B.1;have z4:=j.lt;have pf:=hL.PF;have aa:=hL.n6.symm;obtain⟨u,M,L,S,U⟩:∃y,w.setCell (Va a 0) (Vi (l:Int))=y/\Hid (TB y d m q a p (.slice none 0 0) (l:Int))/\Hid (LP y d (.slice n l E) x)/\Hid (Stp d (fun k=>k=a) w (.slice n l E) y (.slice n l E)):=by
  have r:∀{b o:Nat},b≠a->(w.setCell (Va a 0) (Vi (l:Int))).cell? (Va b o)=w.cell? (Va b o):=fun h=>World.cell?_setCell_far _ _ _ _ (show a≠_ from fun e=>h e.symm)
  have D:∀{b:Nat}{Q:List Value},b≠a->Cl w b Q->Cl (w.setCell (Va a 0) (Vi (l:Int))) b Q:=fun h c=>⟨by simpa using c.1,fun i I=>(r h).trans (c.2 i I)⟩
  refine⟨_,rfl,⟨D hL.n2 hL.X,D hL.n4 hL.J,⟨by simpa using hL.P.1,fun i I=>?_⟩,D hL.n6.symm hL.B,fun i=>by simpa using hL.JF i,fun i=>by simpa using hL.PF i,hL.n1,hL.n2,hL.n3,hL.n4,hL.n5,hL.n6⟩,⟨(r (fun e=>z.1.2.2.1 e.symm)).trans j.C,by simpa using j.lt,fun i=>by simpa using j.F i,ownsRow_setCell_other j.O z.2.2.2.1 _⟩,⟨(Lx.refl _ _).set (.inr (.inr rfl)) _,.inl rfl⟩⟩;match i,I with
  |0,_=>simp[go_sem,p0]
 have A:=hxy s;have R:=hxy M;clear hL j z s M;go_enter Tryz.func145,Tryz.ntmps145;go_wp2_with fail;rw[R.out];refine(Xw d m q a p (l:Int) u L).mono ?_;rintro e u'⟨rfl,hw⟩;rw[hw];go_wp2;go_end0;exact⟨rfl,S,by rw[<-A.out];exact L,U⟩
theorem Np(l n I a q r S k:Nat)(pl:Int)(v:Value)(A R:List NV)(x:NV)(w:World)(U:Cl w r [Vi (k:Int)])(Y:A.length=k)(Q:r≠a)(hL:TB w l n I a q (Vs r 1 S) pl)(m:LP w l v (A++x::R))(L:Pn l v n I a q):
 Ks 145 #[Vq n,Vq a,Vq q] w fun e w'=>e=.returned (.tuple #[])/\LP w' l v (A++{x with imm:=((A++x::R).length:Int)}::R)/\Stp l (fun k=>k=a) w v w' v:=by
 obtain⟨d,j,p,hv⟩:=Fa m.O;subst hv;have E:j=(A++x::R).length:=by
  rcases m.O.2 with⟨e,e2⟩|⟨g,aa,ab,e,_⟩
  ·have:=(Value.slice.inj e).2.1;omega
  ·exact(Value.slice.inj e).2.1
 have HP:=hxy m;have HL:=hxy hL;have HO:=hxy L;have x0:w.cell? (Va n 0)=some (Vq l):=hL.X.2 0 AX;have p0:w.cell? (Va a 0)=some (Vi pl):=hL.P.2 0 AX;have b0:w.cell? (Va q 0)=some (.func (.func 143) #[] #[Vq I,Vq a,Vq n]):=hL.B.2 0 AX;have l0:=m.C;have z1:=hL.X.1;have z2:=hL.P.1;have z3:=hL.B.1;have z4:=m.lt;have pf:=hL.PF;have ac:=hL.n6.symm;obtain⟨u,Z,LU,PU,SU,JU⟩:∃y,w.setCell (Va a 0) (Vi (j:Int))=y/\Hid (TB y l n I a q (Vs r 1 S) (j:Int))/\Hid (LP y l (.slice d j p) (A++x::R))/\Hid (Stp l (fun k=>k=a) w (.slice d j p) y (.slice d j p))/\Hid (Cl y r [Vi (k:Int)]):=by
  have s:∀{b o:Nat},b≠a->(w.setCell (Va a 0) (Vi (j:Int))).cell? (Va b o)=w.cell? (Va b o):=fun h=>World.cell?_setCell_far _ _ _ _ (show a≠_ from fun e=>h e.symm)
  have K:∀{b:Nat}{vs:List Value},b≠a->Cl w b vs->Cl (w.setCell (Va a 0) (Vi (j:Int))) b vs:=fun h c=>⟨by simpa using c.1,fun i N=>(s h).trans (c.2 i N)⟩
  refine⟨_,rfl,⟨K hL.n2 hL.X,K hL.n4 hL.J,⟨by simpa using hL.P.1,fun i N=>?_⟩,K hL.n6.symm hL.B,fun i=>by simpa using hL.JF i,fun i=>by simpa using hL.PF i,hL.n1,hL.n2,hL.n3,hL.n4,hL.n5,hL.n6⟩,⟨(s (fun e=>L.1.2.2.1 e.symm)).trans m.C,by simpa using m.lt,fun i=>by simpa using m.F i,ownsRow_setCell_other m.O L.2.2.2.1 _⟩,⟨(Lx.refl _ _).set (.inr (.inr rfl)) _,.inl rfl⟩,K Q U⟩;match i,N with
  |0,_=>simp[go_sem,p0]
 have M:=hxy E;have HU:=hxy Z;have HK:=hxy Y;clear hL m L E Z U Y;go_enter Tryz.func145,Tryz.ntmps145;go_wp2_with fail;rw[HU.out];refine(Ql l n I a q r S k (j:Int) (.slice d j p) A R x u LU JU HK PU).mono ?_;rintro e u'⟨rfl,z,D⟩;have P':=hxy z;have S':Hid (Stp l (fun k=>k=a) w (.slice d j p) u' (.slice d j p)):=SU.trans D (fun _ _ h=>h.elim);clear z D;go_wp2;go_end0;refine⟨rfl,?_,S'⟩;have h:=P'.out;rw[M.out]at h⊢;exact h
theorem iK:(Tryz.prog.info? 3).map (fun i=>(i.zero,i.size,i.bytes))=some (some (Vi 0),1,8):=AV
theorem Hw(n E a Y R:Nat)(pl op:Int)(v:Value)(Z:List NV)(w:World)(hL:TB w n E a Y R (.slice none 0 0) pl)(hP:LP w n v Z)(hn:Z.length<=4000)(ho:Pn n v E a Y R):
 Ks 144 #[Vi op,Vq a,Vq E,Vq R] w fun e N=>e=.returned (.tuple #[])/\∃v' m U,LP N n v' (Z++[BP op pl])/\TB N n E a Y R (Vs m 1 U) pl/\Cl N m [Vi (Z.length:Int)]/\w.heap.size<=m/\v'.ownBlock≠some m/\Pn n v' E a Y R/\Stp n (fun k=>k=a) w v N v':=by
 obtain⟨x,q,Q,hv⟩:=Fa hP.O;subst hv;have ai:q=Z.length:=by
  rcases hP.O.2 with⟨e,e2⟩|⟨g,ax,ay,e,_⟩
  ·have:=(Value.slice.inj e).2.1;omega
  ·exact(Value.slice.inj e).2.1
 have HP:=hxy hP;have d:=hxy hL;have HO:=hxy ho;have aa:=hxy ai;have kb:q<=4000:=AB;have rj:Cb w a 0 (.slice none 0 0):=fun N h=>(d.J.below h).2 0 AX
 have rx:Cb w E 0 (Vq n):=fun N h=>(d.X.below h).2 0 AX
 have rl:Cb w n 0 (.slice x q Q):=fun N h=>(h.cell (p:=Va n 0) HP.lt).trans HP.C
 have zj:=hL.J.1;have zl:=hP.lt;clear hL hP ho ai hn;obtain⟨iS,gS,ac,ad,ae⟩:=info_parts iK;have I:Hid (_/\_/\_/\_):=⟨gS,ac,ad,ae⟩
 clear gS ac ad ae;go_enter Tryz.func144,Tryz.ntmps144;go_upto_region 0 with fail;refine BH (T:=fun N=>Bw w N) (s:=8) AV BJ.drew (fun hHeld=>?_);generalize w.drew=t0 at hHeld⊢;refine NU [0,1,2,3,4,5] ?_;refine Ah (i:=6) rfl AV (fun KK hK=>?_);go_simp;obtain⟨t1,ap,ah,am⟩:∃y,t0.alloc (.cells #[Vi (q:Int)] 3)=y/\Bw t0 y/\(∀j u,([Vi (q:Int)]:List Value)[j]?=some u->y.cell? ((⟨t0.heap.size,0,none⟩:Addr).add j)=some u):=⟨_,rfl,Ai,PW _ _ _⟩
 rw[ap];have TE:=hHeld.trans (ah.mono hHeld.size);have NW:Hid _:=am;clear ap ah am;refine hK.out _ _ TE (fun K=>?_);clear hK KK;refine Cn ?_;have zt:=TE.size;obtain⟨v',z,S,l,D,al,_⟩:=run_append_own_at (P:=Tryz.prog) t1 w.heap.size 234 234 3 iS _ 1 8 Tryz.underlying234 I.1 I.2.1 I.2.2.1 I.2.2.2 rfl Ad (.slice none 0 0) 0 [] (World.ownsRow_nil _ _ _ _) ⟨t0.heap.size,0,none⟩ 1 1 [Vi (q:Int)] rfl NW (by intro u hu;simp at hu;subst hu;rfl) (by unfold maxLen;omega) AB zt;have r:Bw w z:=TE.grown D zt (by intro k hk;cases hk);refine KU (.tmp 5) (.tmp 11) (i:=7) rfl AV AV rfl rfl rfl S r (fun L=>?_);refine Cn ?_;rw[Nat.zero_add,List.nil_append]at l;obtain⟨m,U,ar⟩:=Ii l AB;subst ar;have JR:w.heap.size<=m:=(l.lt m rfl).1;have J5:Cl z m [Vi (q:Int)]:=⟨(l.lt m rfl).2,fun i hi=>by
  match i,hi with
  |0,_=>exact l.cellAt 0 AB⟩
 obtain⟨u,hu,LU,PU,SU,JU,OU⟩:∃y,z.setCell (Va a 0) (Vs m 1 U)=y/\Hid (TB y n E a Y R (Vs m 1 U) pl)/\Hid (LP y n (.slice x q Q) Z)/\Hid (Stp n (fun k=>k=a) w (.slice x q Q) y (.slice x q Q))/\Hid (Cl y m [Vi (q:Int)])/\Hid (m<y.heap.size):=by
  have ab:∀{b o:Nat},b≠a->(z.setCell (Va a 0) (Vs m 1 U)).cell? (Va b o)=z.cell? (Va b o):=fun h=>World.cell?_setCell_far _ _ _ _ (show a≠_ from fun e=>h e.symm)
  have cl:∀{b:Nat}{vs:List Value},b≠a->Cl z b vs->Cl (z.setCell (Va a 0) (Vs m 1 U)) b vs:=fun h c=>⟨by simpa using c.1,fun i hi=>(ab h).trans (c.2 i hi)⟩
  have j0:=rj z r;refine⟨_,rfl,⟨cl d.n1 (d.X.below r),⟨by simpa using(d.J.below r).1,fun i hi=>?_⟩,cl d.n4.symm (d.P.below r),cl d.n5.symm (d.B.below r),fun i=>by simpa using(r.frozen (p:=Va a i) d.J.1).trans (d.JF i),fun i=>by simpa using(r.frozen (p:=Va Y i) d.P.1).trans (d.PF i),d.n1,d.n2,d.n3,d.n4,d.n5,d.n6⟩,⟨(ab (fun e=>HO.1.2.1 e.symm)).trans (rl z r),by simpa using(Ey zl r.size),fun i=>by simpa using(r.frozen (p:=Va n i) zl).trans (HP.F i),ownsRow_setCell_other (FQ HP.O r) HO.2.2.1 _⟩,⟨(Lx.of_below r).set (.inr (.inr rfl)) _,.inl rfl⟩,cl AB J5,Ey J5.1 AX⟩;match i,hi with
  |0,_=>simp[go_sem,j0]
 have j5:=rj z r;have au:∀i,z.frozen? (Va a i)=false:=fun i=>(r.frozen (p:=Va a i) d.J.1).trans (d.JF i)
 have av:a<z.heap.size:=Ey zj r.size;have HU:=hxy hu;clear l D al S hHeld K L TE r J5 NW hu rj rx rl;refine BD rfl AV AV (fun KK hK=>?_);go_simp;refine hK.out _ _ ?_;clear hK KK j5 au av;rw[HU.out];clear HU;have ux:u.cell? (Va E 0)=some (Vq n):=LU.X.2 0 AX;have aw:=LU.X.1;go_wp2_with fail;refine(Rs n (.slice x q Q) Z (BP op 0) u PU (by have:=aa.out;omega)).mono ?_;rintro e u2⟨rfl,v2,af,A⟩;have P2:=hxy af;have S2:Hid (Stp n (fun k=>k=a) w (.slice x q Q) u2 v2):=SU.trans A (fun _ _ h=>h.elim);obtain⟨aj,an⟩:=LU.step HO A (fun h=>h) (fun h=>h) (fun h=>h) (fun h=>h);have L2:=hxy aj;have NJ:(Value.slice x q Q).ownBlock≠some m:=fun e=>by have:=(HP.O.lt _ e).2;omega
 have J2:Hid (Cl u2 m [Vi (q:Int)]):=A.cl JU AB NJ (fun h=>h);have N2:=hxy (A.nb OU NJ);have O2:=hxy an;clear af A aj an ux aw SU LU PU JU;have b0:u2.cell? (Va R 0)=some (.func (.func 143) #[] #[Vq a,Vq Y,Vq E]):=L2.B.2 0 AX;have bl:=L2.B.1;go_wp2_with fail;refine(Ql n E a Y R m U q pl v2 Z [] (BP op 0) u2 L2 J2 aa.symm P2).mono ?_;rintro e u3⟨rfl,ag,M⟩;have P3:=hxy ag;have S3:Hid (Stp n (fun k=>k=a) w (.slice x q Q) u3 v2):=S2.trans M (fun _ _ h=>h.elim);obtain⟨ak,ao⟩:=L2.step O2 M (fun h=>h) (fun h=>h) (fun h=>h) (fun h=>h);have L3:=hxy ak;have J3:Hid (Cl u3 m [Vi (q:Int)]):=M.cl J2 AB N2 (fun h=>h);have O3:=hxy ao;clear ag M ak ao b0 bl;go_wp2;go_end0;exact⟨rfl,v2,m,U,P3,L3,by rw[<-aa.out];exact J3,JR,N2,O3,S3⟩
end Go.Proofs.YtcjnmdgomocpgaaGreatDoor
