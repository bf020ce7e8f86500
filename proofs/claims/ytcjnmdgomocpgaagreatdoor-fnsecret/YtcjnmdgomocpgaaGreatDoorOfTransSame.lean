import Derived.Test.YtcjnmdgomocpgaaGreatDoorOfTransResA
set_option maxHeartbeats 1000000
namespace Go.Proofs.YtcjnmdgomocpgaaGreatDoor
open Go.RowKit
variable {N:Bool}{K d h i m n ra:Int}{q:Nat}{a b v:VV}{u w:World}
def sj(a b:VV)(sec:Bool):VV:=if Q0 a b then{a with hi:=a.hi+b.m}else if Q0 b a then{b with hi:=b.hi+a.m}else Al sec (Ho (AZ a) (AZ b))
def vX(a:VV)(sec:Bool)(n:Int):VV:=if a.k=1 then(if a.lo+n< -1099511627776∨1099511627776<a.hi+n then Al false (-1)else{a with lo:=a.lo+n,hi:=a.hi+n})else Al sec (Ho a.m n)
def wQ(a b:VV)(sec:Bool):VV:=if(Cg a b).k=1/\sec=true then Al true (-1)else{Cg a b with s:=sec}
def vI(a b:Int):Int:=if a<0∨b<0 then -1 else IY (Ic a b)
structure xJ(w u:World)(op d ra rb imm h:Int)(a b:VV)(fl:Int)(sec:Bool):Prop where
 bel:Below w.heap.size w u
 I:Cl u w.heap.size [Vi op,Vi d,Vi ra,Vi rb,Vi imm,Vi h]
 O:Cl u (w.heap.size+1) [Vi a.k,.bool a.s,Vi a.m,Vi a.h,Vi a.lo,Vi a.hi,Vi b.k,.bool b.s,Vi b.m,Vi b.h,Vi b.lo,Vi b.hi,Vi fl,.bool sec]
 R:Vb u (w.heap.size+1+1) zV
 oR:w.heap.size<=w.heap.size+1+1
theorem xJ.below{v:World}{Z C:Int}(p:xJ w u Z d ra C m h a b K N)(c:Below u.heap.size u v):xJ w v Z d ra C m h a b K N:=
 ⟨p.bel.trans (c.mono p.bel.size),p.I.below c,p.O.below c,p.R.below c p.R.lt,p.oR⟩
theorem tH(w:World){op rb imm:Int}(a b:VV)(e:Int)(c:Bool):∃u,((w.alloc (.cells #[Vi op,Vi d,Vi ra,Vi rb,Vi imm,Vi h] 99)).alloc (.cells #[Vi a.k,.bool a.s,Vi a.m,Vi a.h,Vi a.lo,Vi a.hi,Vi b.k,.bool b.s,Vi b.m,Vi b.h,Vi b.lo,Vi b.hi,Vi e,.bool c] 222)).alloc (.cells #[Vi 0,.bool false,Vi 0,Vi 0,Vi 0,Vi 0] 47)=u/\xJ w u op d ra rb imm h a b e c:=by
 have j:=Cl.new (w:=w.alloc (.cells #[Vi op,Vi d,Vi ra,Vi rb,Vi imm,Vi h] 99)) (vs:=#[Vi a.k,.bool a.s,Vi a.m,Vi a.h,Vi a.lo,Vi a.hi,Vi b.k,.bool b.s,Vi b.m,Vi b.h,Vi b.lo,Vi b.hi,Vi e,.bool c]) (t:=222);have l:=Vb.new ((w.alloc (.cells #[Vi op,Vi d,Vi ra,Vi rb,Vi imm,Vi h] 99)).alloc (.cells #[Vi a.k,.bool a.s,Vi a.m,Vi a.h,Vi a.lo,Vi a.hi,Vi b.k,.bool b.s,Vi b.m,Vi b.h,Vi b.lo,Vi b.hi,Vi e,.bool c] 222)) zV;simp only[World.size_alloc]at j l;refine⟨_,rfl,((Ai).alloc AX _).alloc (by simp only[World.size_alloc];omega) _,((Cl.new).below Ai).below Ai,j.below Ai,l,AB⟩
theorem Gf{c:Nat}(q:Cl u c [Vi a.k,.bool a.s,Vi a.m,Vi a.h,Vi a.lo,Vi a.hi,Vi b.k,.bool b.s,Vi b.m,Vi b.h,Vi b.lo,Vi b.hi,Vi K,.bool N]):u.cell? (Va c 0)=some (Vi a.k)/\u.cell? (Va c 1)=some (.bool a.s)/\u.cell? (Va c 2)=some (Vi a.m)/\u.cell? (Va c 3)=some (Vi a.h)/\u.cell? (Va c 4)=some (Vi a.lo)/\u.cell? (Va c 5)=some (Vi a.hi)/\u.cell? (Va c 6)=some (Vi b.k)/\u.cell? (Va c 7)=some (.bool b.s)/\u.cell? (Va c 8)=some (Vi b.m)/\u.cell? (Va c 9)=some (Vi b.h)/\u.cell? (Va c 10)=some (Vi b.lo)/\u.cell? (Va c 11)=some (Vi b.hi)/\u.cell? (Va c 12)=some (Vi K)/\u.cell? (Va c 13)=some (.bool N):=
 ⟨q.2 0 AX,q.2 1 AX,q.2 2 AX,q.2 3 AX,q.2 4 AX,q.2 5 AX,q.2 6 AX,q.2 7 AX,q.2 8 AX,q.2 9 AX,q.2 10 AX,q.2 11 AX,q.2 12 AX,q.2 13 AX⟩
theorem U3(a b:Int)(w:World)(c: -1<=a/\a<=1099511627776)(d: -1<=b/\b<=1099511627776):
 Ks 157 #[Vi a,Vi b] w fun e h=>e=.returned (Vi (vI a b))/\h=w:=by
 by_cases j:a<0
 ·clear c d
  go_enter Tryz.func157,Tryz.ntmps157;go_wp2;all_goals(go_ret;exact⟨Ae (by unfold vI;rw[if_pos (Or.inl j)]),rfl⟩)
 ·by_cases k:b<0
  ·clear c d
   go_enter Tryz.func157,Tryz.ntmps157;go_wp2;all_goals(go_ret;exact⟨Ae (by unfold vI;rw[if_pos (Or.inr k)]),rfl⟩)
  ·obtain⟨x,rfl⟩:∃x:Nat,a=x:=⟨a.toNat,AB⟩
   obtain⟨y,rfl⟩:∃y:Nat,b=y:=⟨b.toNat,AB⟩
   refine(Ta x y w AB AB).mono ?_;rintro e h⟨rfl,l⟩;exact⟨by unfold vI;rw[if_neg AB],l⟩
def fF(V:Nat->VV)(z c:Int)(i:Nat):Value:=if i<48 then vF V i else if i=48 then Vi z else Vi c
def CX(V:Nat->VV)(z c:Int):Array Value:=(first 50 (fF V z c)).toArray
theorem Ak.newFirst(w:World)(n:Nat)(f:Nat->Value)(t:TypeId):Ak (w.alloc (.cells (first n f).toArray t)) w.heap.size n f:=by
 refine⟨AX,fun i=>by simp[go_sem],fun i a=>?_⟩;have e:(first n f)[i]?=some (f i):=by simp[first,a]
 simp[go_sem,e]
theorem FY(V:Nat->VV)(z c:Int)(k j:Nat)(b:k<8)(a:j<6):fF V z c (k*6+j)=vC (V k) j:=by
 unfold fF;rw[if_pos AB,Bz V k j a]
def oL(a b:VV)(fl:Int)(sec:Bool):List Value:=[Vi a.k,.bool a.s,Vi a.m,Vi a.h,Vi a.lo,Vi a.hi,Vi b.k,.bool b.s,Vi b.m,Vi b.h,Vi b.lo,Vi b.hi,Vi fl,.bool sec]
def oC(a b:VV)(fl:Int)(sec:Bool)(i:Nat):Value:=(oL a b fl sec).getD i undef
def Ob(w:World)(q:Nat)(a b:VV)(fl:Int)(sec:Bool):Prop:=Ak w q 14 (oC a b fl sec)
theorem Ob.new(w:World)(a b:VV)(d:Int)(c:Bool)(t:TypeId):Ob (w.alloc (.cells #[Vi a.k,.bool a.s,Vi a.m,Vi a.h,Vi a.lo,Vi a.hi,Vi b.k,.bool b.s,Vi b.m,Vi b.h,Vi b.lo,Vi b.hi,Vi d,.bool c] t)) w.heap.size a b d c:=
 ⟨AX,fun i=>by simp[go_sem],fun i e=>(Cl.new (w:=w) (vs:=#[Vi a.k,.bool a.s,Vi a.m,Vi a.h,Vi a.lo,Vi a.hi,Vi b.k,.bool b.s,Vi b.m,Vi b.h,Vi b.lo,Vi b.hi,Vi d,.bool c]) (t:=t)).2 i e⟩
theorem Ob.cells(h:Ob u q a b K N):u.cell? (Va q 0)=some (Vi a.k)/\u.cell? (Va q 1)=some (.bool a.s)/\u.cell? (Va q 2)=some (Vi a.m)/\u.cell? (Va q 3)=some (Vi a.h)/\u.cell? (Va q 4)=some (Vi a.lo)/\u.cell? (Va q 5)=some (Vi a.hi)/\u.cell? (Va q 6)=some (Vi b.k)/\u.cell? (Va q 7)=some (.bool b.s)/\u.cell? (Va q 8)=some (Vi b.m)/\u.cell? (Va q 9)=some (Vi b.h)/\u.cell? (Va q 10)=some (Vi b.lo)/\u.cell? (Va q 11)=some (Vi b.hi)/\u.cell? (Va q 12)=some (Vi K)/\u.cell? (Va q 13)=some (.bool N):=
 ⟨h.cell (i:=0) AB,h.cell (i:=1) AB,h.cell (i:=2) AB,h.cell (i:=3) AB,h.cell (i:=4) AB,h.cell (i:=5) AB,h.cell (i:=6) AB,h.cell (i:=7) AB,h.cell (i:=8) AB,h.cell (i:=9) AB,h.cell (i:=10) AB,h.cell (i:=11) AB,h.cell (i:=12) AB,h.cell (i:=13) AB⟩
theorem fourteen{p:Nat->Prop}(e:p 0)(h:p 1)(j:p 2)(k:p 3)(l:p 4)(m:p 5)(n:p 6)(o:p 7)(q:p 8)(r:p 9)(a:p 10)(b:p 11)(c:p 12)(d:p 13):∀i,i<14->p i:=by
 intro i s;match i,s with
 |0,_=>exact e
 |1,_=>exact h
 |2,_=>exact j
 |3,_=>exact k
 |4,_=>exact l
 |5,_=>exact m
 |6,_=>exact n
 |7,_=>exact o
 |8,_=>exact q
 |9,_=>exact r
 |10,_=>exact a
 |11,_=>exact b
 |12,_=>exact c
 |13,_=>exact d
def mP(w:World)(b:Nat)(x:VV):World:=(((((w.setCell (Va b 6) (Vi x.k)).setCell (Va b 7) (.bool x.s)).setCell (Va b 8) (Vi x.m)).setCell (Va b 9) (Vi x.h)).setCell (Va b 10) (Vi x.lo)).setCell (Va b 11) (Vi x.hi)
theorem Ob.setA(h:Ob w q a b K N)(x:VV):Ob (Iy w q x) q x b K N:=
 (Ak.set1 (Ak.set1 (Ak.set1 (Ak.set1 (Ak.set1 (Ak.set1 h 0 AB _) 1 AB _) 2 AB _) 3 AB _) 4 AB _) 5 AB _).congr (fourteen rfl rfl rfl rfl rfl rfl rfl rfl rfl rfl rfl rfl rfl rfl)
theorem Ob.setB(h:Ob w q a b K N)(x:VV):Ob (mP w q x) q a x K N:=
 (Ak.set1 (Ak.set1 (Ak.set1 (Ak.set1 (Ak.set1 (Ak.set1 h 6 AB _) 7 AB _) 8 AB _) 9 AB _) 10 AB _) 11 AB _).congr (fourteen rfl rfl rfl rfl rfl rfl rfl rfl rfl rfl rfl rfl rfl rfl)
theorem Ob.setF(h:Ob w q a b K N)(x:Int):Ob (w.setCell (Va q 12) (Vi x)) q a b x N:=
 (Ak.set1 h 12 AB _).congr (fourteen rfl rfl rfl rfl rfl rfl rfl rfl rfl rfl rfl rfl rfl rfl)
theorem Ob.setS(h:Ob w q a b K N)(x:Bool):Ob (w.setCell (Va q 13) (.bool x)) q a b K x:=
 (Ak.set1 h 13 AB _).congr (fourteen rfl rfl rfl rfl rfl rfl rfl rfl rfl rfl rfl rfl rfl rfl)
structure gF(w u:World)(V:Nat->VV)(z c op d ra rb imm h:Int)(a b:VV)(fl:Int)(sec:Bool):Prop where
 bel:Below w.heap.size w u
 F:Ak u w.heap.size 50 (fF V z c)
 I:Cl u (w.heap.size+1) [Vi op,Vi d,Vi ra,Vi rb,Vi imm,Vi h]
 R:Ob u (w.heap.size+1+1) zV zV 0 false
 O:Ob u (w.heap.size+1+1+1) a b fl sec
theorem gF.upd{v:World}{V:Nat->VV}{z c Z C:Int}{a' b':VV}{D:Int}{e:Bool}(p:gF w u V z c Z d ra C m h a b K N)(j:Below (w.heap.size+1+1+1) u v)(l:Ob v (w.heap.size+1+1+1) a' b' D e):gF w v V z c Z d ra C m h a' b' D e:=
 ⟨p.bel.trans (j.mono AB),p.F.below j AB,⟨Ey p.I.1 j.size,fun i k=>(j.cell (p:=⟨w.heap.size+1,i,none⟩) (show w.heap.size+1<_ by omega)).trans (p.I.2 i k)⟩,Ak.below p.R j AB,l⟩
theorem si(w:World)(V:Nat->VV)(z c:Int)(q:Array Value)(hF:q=CX V z c){op rb imm:Int}:∃u,(((w.alloc (.cells q 76)).alloc (.cells #[Vi op,Vi d,Vi ra,Vi rb,Vi imm,Vi h] 99)).alloc (.cells #[Vi 0,.bool false,Vi 0,Vi 0,Vi 0,Vi 0,Vi 0,.bool false,Vi 0,Vi 0,Vi 0,Vi 0,Vi 0,.bool false] 222)).alloc (.cells #[Vi 0,.bool false,Vi 0,Vi 0,Vi 0,Vi 0,Vi 0,.bool false,Vi 0,Vi 0,Vi 0,Vi 0,Vi 1,.bool false] 222)=u/\gF w u V z c op d ra rb imm h zV zV 1 false:=by
 subst hF;have r:=Ak.newFirst w 50 (fF V z c) 76;generalize j:w.alloc (.cells (CX V z c) 76)=x;have D:x.heap.size=w.heap.size+1:=by rw[<-j];simp
 rw[show w.alloc (.cells (first 50 (fF V z c)).toArray 76)=x from j]at r;have F:Below w.heap.size w x:=by rw[<-j];exact Ai
 clear j;have A:=Cl.new (w:=x) (vs:=#[Vi op,Vi d,Vi ra,Vi rb,Vi imm,Vi h]) (t:=99);generalize n:x.alloc (.cells #[Vi op,Vi d,Vi ra,Vi rb,Vi imm,Vi h] 99)=y at *;have p:y.heap.size=w.heap.size+1+1:=by rw[<-n];simp[D]
 have l:Below x.heap.size x y:=by rw[<-n];exact Ai
 clear n;have B:=Ob.new y zV zV 0 false 222;change∃u,(y.alloc (.cells #[Vi zV.k,.bool zV.s,Vi zV.m,Vi zV.h,Vi zV.lo,Vi zV.hi,Vi zV.k,.bool zV.s,Vi zV.m,Vi zV.h,Vi zV.lo,Vi zV.hi,Vi 0,.bool false] 222)).alloc _=u/\_;generalize o:y.alloc (.cells #[Vi zV.k,.bool zV.s,Vi zV.m,Vi zV.h,Vi zV.lo,Vi zV.hi,Vi zV.k,.bool zV.s,Vi zV.m,Vi zV.h,Vi zV.lo,Vi zV.hi,Vi 0,.bool false] 222)=a at *;have E:a.heap.size=w.heap.size+1+1+1:=by rw[<-o];simp[p]
 have e:Below y.heap.size y a:=by rw[<-o];exact Ai
 clear o;have C:=Ob.new a zV zV 1 false 222;have b:Below a.heap.size a (a.alloc (.cells #[Vi zV.k,.bool zV.s,Vi zV.m,Vi zV.h,Vi zV.lo,Vi zV.hi,Vi zV.k,.bool zV.s,Vi zV.m,Vi zV.h,Vi zV.lo,Vi zV.hi,Vi 1,.bool false] 222)):=Ai;rw[D]at A l;rw[p]at B e;rw[E]at C b;refine⟨_,rfl,((F.trans (l.mono (by omega))).trans (e.mono (by omega))).trans (b.mono (by omega)),((r.below l (by omega)).below e (by omega)).below b (by omega),(A.below (by rw[p];exact e)).below (by rw[E];exact b),Ak.below B b (by omega),C⟩
theorem Ec(h:Cy v n=true):Bd v:=by
 unfold Cy at h;split at h
 ·rename_i a
  have q:=of_decide_eq_true h;exact⟨q.1,q.2.1,AB,AB,AB,AB,Or.inl a⟩
 ·have q:=of_decide_eq_true h
  exact⟨AB,AB,AB,AB,AB,AB,Or.inr q.1⟩
theorem NH(h:Cy v n=true)(a:v.k=1):v.s=false:=by
 unfold Cy at h;rw[if_neg AB]at h;exact(of_decide_eq_true h).2.1
theorem Iu(h:Cy v n=true)(a:v.k=1):0<=v.h/\v.h<n:=by
 unfold Cy at h;rw[if_neg AB]at h;have q:=of_decide_eq_true h;omega
theorem qh:Bd zV:=⟨by simp[zV],by simp[zV],by simp[zV],by simp[zV],by simp[zV],by simp[zV],Or.inl rfl⟩
theorem FD(h:0<=AZ v):v.k≠1/\AZ v=v.m:=by
 unfold AZ at *;split at h
 ·omega
 ·rename_i a
  exact⟨a,if_neg a⟩
theorem Nk{s:Bool}(h:m<0∨1099511627776<m):Al s m=Al s (-1):=by simp[Al,h]
theorem TQ{a b:Int}(h:a<0∨b<0):Ho a b= -1:=if_pos h
theorem Zg{a b:Int}(h:¬(a<0∨b<0)):Ho a b=a+b:=if_neg h
theorem fO(a b:VV):sj a b (a.s||b.s)=Mg a b:=by
 unfold sj Mg Tv;by_cases h:b.k=1
 ·have j:AZ b= -1:=by simp[AZ,h]
  rw[if_pos h,if_neg (c:=Q0 a b=true) (fun q=>by have:=(WV q).2.2.1;omega),TQ AB];by_cases d:MH b a
  ·rw[if_pos (Rn d),if_pos ⟨d.1,d.2.2.1,d.2.1,d.2.2.2⟩]
  ·rw[if_neg (YR d),if_neg (c:=b.k=1/\0<=AZ a/\a.s=false/\b.hi+a.m<=1099511627776) (fun q=>d ⟨q.1,q.2.2.1,q.2.1,q.2.2.2⟩),if_neg AB,Bool.or_comm]
 ·rw[if_neg h,if_neg (c:=Q0 b a=true) (fun q=>h (WV q).1)]
  by_cases d:MH a b
  ·rw[if_pos (Rn d),if_pos ⟨d.1,d.2.2.1,d.2.1,d.2.2.2⟩]
  ·rw[if_neg (YR d),if_neg (c:=a.k=1/\0<=AZ b/\b.s=false/\a.hi+b.m<=1099511627776) (fun q=>d ⟨q.1,q.2.2.1,q.2.1,q.2.2.2⟩)]
   by_cases e:0<=AZ a/\0<=AZ b
   ·have l:=(FD e.1).2
    have j:=(FD e.2).2;rw[if_pos e,Zg AB,l,j]
   ·rw[if_neg e,TQ AB]
theorem Im{a b:Int}(c:0<a)(d:0<b):(1099511627776/a<b)↔(1099511627776/b<a):=by
 rw[Int.ediv_lt_iff_lt_mul c,Int.ediv_lt_iff_lt_mul d,Int.mul_comm]
theorem jY(a b:VV)(s:Bool):Al s (LY (AZ a) (AZ b))=CQ 5 i a b s:=by
 simp only[CQ,Int.reduceEq,if_false,if_true,or_self];by_cases h:0<=AZ a/\0<=AZ b
 ·have o:a.k≠1:=(FD AB).1
  have p:b.k≠1:=(FD AB).1;have j:AZ a=a.m:=by simp[AZ,o]
  have l:AZ b=b.m:=by simp[AZ,p]
  rw[if_pos h,j,l];rw[j,l]at h;unfold LY Dk;by_cases c:a.m=0∨b.m=0
  ·rw[if_pos c]
   rcases c with c|c
   ·rw[c]
    by_cases d:0<b.m
    ·have:(0:Int)<=1099511627776/b.m:=Int.ediv_nonneg Ad AB
     rw[if_neg AB,Int.zero_mul]
    ·rw[if_neg AB,Int.zero_mul]
   ·rw[c,if_neg AB,Int.mul_zero]
  ·rw[if_neg c]
   have n:0<a.m:=AB;have e:0<b.m:=AB;by_cases d:1099511627776/a.m<b.m
   ·rw[if_pos d,if_pos (Or.inr (Or.inr ⟨e,(Im n e).1 d⟩)),Nk (m:=1099511627777) AB]
   ·have q:=mt (Im n e).2 d
    rw[if_neg d,if_neg AB]
 ·rw[if_neg h]
  unfold LY;rw[if_pos AB]
theorem Zw(a b:VV)(s:Bool):Al s (Jc (AZ a) (AZ b))=CQ 6 i a b s:=by
 simp only[CQ,Int.reduceEq,if_false,if_true,or_self];congr 1
 unfold Jc Dj
 (repeat' split)<;>omega
theorem Xg(a b:VV)(s:Bool)(c:Int)(h:c=7∨c=8):Al s (vI (AZ a) (AZ b))=CQ c i a b s:=by
 have e:CQ c i a b s=CQ 7 i a b s:=by rcases h with rfl|rfl<;>rfl
 rw[e];simp only[CQ,Int.reduceEq,if_false,if_true,or_self,true_or];unfold vI;by_cases h:0<=AZ a/\0<=AZ b
 ·have d:a.k≠1:=(FD AB).1
  have j:b.k≠1:=(FD AB).1;have l:AZ a=a.m:=by simp[AZ,d]
  have n:AZ b=b.m:=by simp[AZ,j]
  rw[if_pos h,if_neg AB,l,n]
 ·rw[if_neg h,if_pos AB]
theorem Zn(a b:VV)(s:Bool)(h:a.k=1->s=false):vX a s i=CQ 10 i a b s:=by
 simp only[CQ,Int.reduceEq,if_false,if_true,or_self];unfold vX Ho;by_cases d:a.k=1
 ·have j:AZ a= -1:=by simp[AZ,d]
  rw[if_pos d,h d,j];by_cases e:a.lo+i< -1099511627776∨1099511627776<a.hi+i
  ·rw[if_pos e,if_neg AB,if_neg AB]
  ·rw[if_neg e,if_pos AB]
 ·have j:AZ a=a.m:=by simp[AZ,d]
  rw[if_neg d,j,if_neg (c:=a.k=1/\_) (fun q=>d q.1)];by_cases e:0<=a.m/\0<=i
  ·rw[if_pos e,if_neg AB]
  ·rw[if_neg e,if_pos AB]
theorem Yj(a b:VV)(s:Bool):Al s (Jc (AZ a) i)=CQ 11 i a b s:=by
 simp only[CQ,Int.reduceEq,if_false,if_true,or_self];unfold Jc Dj;by_cases c:AZ a<0
 ·by_cases d:i<0
  ·rw[if_pos c,if_pos (Or.inl d),Nk (Or.inl c),Nk (Or.inl d)]
  ·rw[if_pos c,if_neg AB]
 ·rw[if_neg c]
  congr 1
  (repeat' split)<;>omega
theorem jM(a b:VV)(s:Bool)(_i0:0<=i):Al s (Ow (AZ a) i.toNat)=CQ 12 i a b s:=by
 simp only[CQ,Int.reduceEq,if_false,if_true,or_self];have n:((2^i.toNat:Nat):Int)=(2:Int)^i.toNat:=AX;have o:(0:Int)<2^i.toNat:=Int.pow_pos Ad;unfold Ow;by_cases d:AZ a=0
 ·have:(0:Int)<=1099511627776/2^i.toNat:=Int.ediv_nonneg Ad AB
  rw[if_pos d,d,if_neg AB,Int.zero_mul]
 ·rw[if_neg d]
  by_cases l:AZ a<0
  ·rw[if_pos (Or.inl l),if_neg AB]
  ·have u:a.k≠1:=(FD AB).1
   have x:AZ a=a.m:=by simp[AZ,u]
   rw[x]at d l⊢;by_cases q:i<=40
   ·rw[if_pos (c:=0<a.m/\i<=40) ⟨AB,q⟩,n]
    unfold Dk;generalize z:(2:Int)^i.toNat=p at *;rw[if_neg (c:=a.m=0∨p=0) AB];by_cases e:1099511627776/a.m<p
    ·rw[if_pos e,if_pos (c:=a.m<0∨1099511627776/p<a.m) (Or.inr ((Im AB o).1 e)),Nk (m:=1099511627777) AB]
    ·have y:=mt (Im (a:=a.m) AB o).2 e
     rw[if_neg e,if_neg (c:=a.m<0∨1099511627776/p<a.m) AB]
   ·have h:2^41<=2^i.toNat:=Nat.pow_le_pow_right Ad AB
    have r:2199023255552<=(2:Int)^i.toNat:=by rw[<-n];exact Int.ofNat_le.2 h
    have j:(1099511627776:Int)/2^i.toNat=0:=Int.ediv_eq_zero_of_lt Ad AB;rw[if_neg (c:=0<a.m/\i<=40) AB,if_pos (c:=a.m<0∨1099511627776/2^i.toNat<a.m) (Or.inr (by rw[j];omega))]
theorem Zi(a b:VV)(s:Bool)(j:0<=i)(l:i<=63):Al s (Kr (AZ a) i.toNat)=CQ 13 i a b s:=by
 simp only[CQ,Int.reduceEq,if_false,if_true,or_self];unfold Kr;by_cases c:0<=AZ a
 ·have e:a.k≠1:=(FD AB).1
  have h:AZ a=a.m:=by simp[AZ,e]
  rw[if_pos c,if_pos c,h];simp
 ·rw[if_neg c,if_neg c]
  by_cases d:24<=i
  ·rw[if_pos d,if_pos AB,show(64-i).toNat=64-i.toNat by omega]
   simp
  ·rw[if_neg d,if_neg AB]
theorem gJ(a b:VV)(s:Bool):Al s (Ho (Ho (AZ a) (AZ b)) 1)=CQ 15 i a b s:=by
 simp only[CQ,Int.reduceEq,if_false,if_true,or_self];unfold Ho;by_cases h:0<=AZ a/\0<=AZ b
 ·have j:a.k≠1:=(FD AB).1
  have l:b.k≠1:=(FD AB).1;have d:AZ a=a.m:=by simp[AZ,j]
  have e:AZ b=b.m:=by simp[AZ,l]
  rw[if_pos h,d,e];rw[d,e]at h;rw[if_neg (c:=a.m<0∨b.m<0) AB,if_neg AB]
 ·rw[if_neg h,if_pos (c:=AZ a<0∨AZ b<0) AB,if_pos AB]
def KW(a b:VV)(f:Int):VV:={(if f=2/\(Cg a b).k=1 then Al true (-1)else Cg a b)with s:=(if f=2/\(Cg a b).k=1 then Al true (-1)else Cg a b).s||decide (f=2)}
theorem Zd(a b:VV)(f:Int)(l:a.k=1->a.s=false)(m:b.k=1->b.s=false):wQ a b (a.s||b.s||decide (f=2))=KW a b f:=by
 unfold wQ KW;by_cases c:a.k=1/\b.k=1/\a.h=b.h
 ·have n:=l c.1
  have o:=m c.2.1;have d:(Cg a b).k=1:=by simp[Cg,c]
  have e:(Cg a b).s=false:=by simp[Cg,c]
  by_cases j:f=2
  ·simp[j,d,Al]
  ·simp[j,d,e,n,o]
 ·have d:(Cg a b).k=0:=by simp only[Cg,if_neg c];split<;>rfl
  have e:(Cg a b).s=(a.s||b.s):=by simp only[Cg,if_neg c];split<;>rfl
  simp[d,e]
end Go.Proofs.YtcjnmdgomocpgaaGreatDoor
