import Derived.Test.YtcjnmdgomocpgaaGreatDoorOfFu6c
set_option maxHeartbeats 16000000
set_option maxRecDepth 20000
namespace Go.Proofs.YtcjnmdgomocpgaaGreatDoor
open Go.RowKit Go.Deep
variable {a b p:Nat}{w:World}
structure F3(p a b:Nat)(w w':World):Prop where
 os:w'.os=w.os
 tape:w'.tape=w.tape
 output:w'.output=w.output
 size:w.heap.size<=w'.heap.size
 block:∀k,k<w.heap.size->k≠p->k≠a->k≠b->w'.heap[k]?=w.heap[k]?
theorem F3.of{j:World}(f:Fw p w j):F3 p a b w j:=⟨f.os,f.tape,f.output,f.size,fun k c d _ _=>f.block k c d⟩
theorem F3.fw{u Q:World}(h:F3 p a b w u)(f:Fw p u Q):F3 p a b w Q:=⟨f.os.trans h.os,f.tape.trans h.tape,f.output.trans h.output,Nat.le_trans h.size f.size,fun k c d e j=>(f.block k (Ey c h.size) d).trans (h.block k c d e j)⟩
theorem F3.put{u:World}(h:F3 p a b w u){q:Nat}(r:q=a∨q=b∨w.heap.size<=q)(j:Nat)(v:Value):F3 p a b w (u.setCell (Va q j) v):=by
 have k:=(Below.refl q u).setCell (p:=Va q j) (Nat.le_refl q) v;refine⟨k.os.trans h.os,k.tape.trans h.tape,k.output.trans h.output,by simpa using h.size,fun i c d e l=>?_⟩;rw[<-h.block i c d e l];have m:i≠q:=AB;cases hx:u.heap[i]? with
 |none=>
  have:=Array.getElem?_eq_none_iff.1 hx;have n:=h.size;omega
 |some o=>exact Ao hx m j v
def jS(S:Nat->HS)(x:Int)(i:Nat):HS:=if i=0 then{S 0 with size:=x}else S i
theorem kH{n:Nat}{S:Nat->HS}(h:Ak w b (n*3) (Ur S))(d:1<=n)(x:Int):Ak (w.setCell (Va b 0) (Vi x)) b (n*3) (Ur (jS S x)):=by
 refine(Ak.set1 h 0 AB _).congr (fun i c=>?_);by_cases e:i=0
 ·subst e;rfl
 ·show(if i=0 then _ else Ur S i)=_
  rw[if_neg e];unfold Ur;by_cases a:i/3=0
  ·have:i=1∨i=2:=AB
   rcases this with rfl|rfl<;>rfl
  ·unfold jS;rw[if_neg a]
structure SP(w:World)(p:Nat)(ao:Option Addr)(n cap nb r bH cH nH:Nat)(S:Nat->HS)(bR cR nR:Nat)(V0:Nat->VV)(u:World):Prop where
 F:F3 p bH bR w u
 K:CJ u p ao n cap
 B:u.heap[nb]?=some (.cells #[Vs bH nH cH,Vs bR nR cR] 26)
 Z:u.heap[r]?=some (.cells #[.slice none 0 0,.slice none 0 0] 26)
 G:Ck u bH nH S bR nR V0
 o1:p<bH
 o2:p<bR
 o3:bH≠bR
 o4:bH<nb
 o5:bR<nb
 o6:nb<r
 o7:w.heap.size<=nb
section
variable{w:World}{p:Nat}{ao:Option Addr}{n cap nb r bH cH nH:Nat}{S:Nat->HS}{bR cR nR:Nat}{V0:Nat->VV}{u u':World}
theorem SP.fw(h:SP w p ao n cap nb r bH cH nH S bR cR nR V0 u)(f:Fw p u u')(k:CJ u' p ao n cap):SP w p ao n cap nb r bH cH nH S bR cR nR V0 u':=
 have a:=h.o1
 have b:=h.o2
 have c:=h.o4
 have d:=h.o6
 ⟨h.F.fw f,k,Ct h.B f AB,Ct h.Z f AB,⟨f.arr h.G.h AB,f.arr h.G.r AB⟩,a,b,h.o3,c,h.o5,d,h.o7⟩
theorem SP.setV(h:SP w p ao n cap nb r bH cH nH S bR cR 8 V0 u){d:Nat}(b:d<8)(x:VV):SP w p ao n cap nb r bH cH nH S bR cR 8 (Df V0 d x) (Ff u bR (d*6) x):=by
 have c:=h.o1;have a:=h.o2;have e:=h.o3;have j:=h.o4;have k:=h.o5;have l:=h.o6;unfold Ff;refine⟨?_,?_,?_,?_,⟨?_,?_⟩,c,a,e,j,k,l,h.o7⟩
 ·exact(((((h.F.put (.inr (.inl rfl)) _ _).put (.inr (.inl rfl)) _ _).put (.inr (.inl rfl)) _ _).put (.inr (.inl rfl)) _ _).put (.inr (.inl rfl)) _ _).put (.inr (.inl rfl)) _ _
 ·exact(((((h.K.put a _ _).put a _ _).put a _ _).put a _ _).put a _ _).put a _ _
 ·iterate 6 refine Ao ?_ (show nb≠bR by omega) _ _
  exact h.B
 ·iterate 6 refine Ao ?_ (show r≠bR by omega) _ _
  exact h.Z
 ·iterate 6 refine Ak.other ?_ (show bR≠bH by omega) _
  exact h.G.h
 ·exact OM h.G.r b x
theorem SP.setS(h:SP w p ao n cap nb r bH cH nH S bR cR nR V0 u)(d:1<=nH)(x:Int):SP w p ao n cap nb r bH cH nH (jS S x) bR cR nR V0 (u.setCell (Va bH 0) (Vi x)):=by
 have b:=h.o1;have c:=h.o3;have e:=h.o4;have j:=h.o6;exact⟨h.F.put (.inl rfl) _ _,h.K.put b _ _,Ao h.B AB _ _,Ao h.Z AB _ _,⟨kH h.G.h d x,h.G.r.other (a:=Va bH 0) c _⟩,b,h.o2,c,e,h.o5,j,h.o7⟩
theorem SP.cut(h:SP w p ao n cap nb r bH cH nH S bR cR 8 V0 u):SP w p ao n cap nb r bH cH nH S bR cR 7 V0 (u.setCell (Va nb 1) (Vs bR 7 cR)):=by
 have c:=h.o1;have d:=h.o4;have e:=h.o5;have j:=h.o6;have b:=h.G.r.other (a:=Va nb 1) (show nb≠bR by omega) (Vs bR 7 cR);exact⟨h.F.put (.inr (.inr h.o7)) _ _,h.K.put AB _ _,BG h.B 1 _,Ao h.Z AB _ _,⟨h.G.h.other (a:=Va nb 1) (show nb≠bH by omega) _,⟨b.1,b.2.1,fun i k=>b.2.2 i AB⟩⟩,c,h.o2,h.o3,d,e,j,h.o7⟩
theorem SP.cells(h:SP w p ao n cap nb r bH cH nH S bR cR nR V0 u):u.cell? (Va nb 0)=some (Vs bH nH cH)/\u.cell? (Va nb 1)=some (Vs bR nR cR)/\(∀i,u.frozen? (Va nb i)=false)/\nb<u.heap.size/\bH<u.heap.size/\bR<u.heap.size:=⟨(AJ h.B 0).trans rfl,(AJ h.B 1).trans rfl,CP h.B,Bp h.B,h.G.h.lt,h.G.r.lt⟩
end
def mO(w:World)(p:Nat)(ao:Option Addr)(n cap bH cH nH bR cR:Nat)(e:Ending)(w':World):Prop:=
 ∃(S:Nat->HS)(nR:Nat)(V0:Nat->VV),e=.returned (.agg #[Vs bH nH cH,Vs bR nR cR])/\nR<=8/\Ck w' bH nH S bR nR V0/\F3 p bH bR w w'/\CJ w' p ao n cap
theorem J4(p:Nat)(x:Option Addr)(n j:Nat)(z D B:Nat)(S:Nat->HS)(A C:Nat)(Y:Nat->VV)(w:World)(hc:CJ w p x n j)(hs:Ck w z B S A 8 Y)(h1:1<=B)(h4:B<=4)(ab:8<=C)(o1:p<z)(o2:p<A)(o3:z≠A):
 Ks 22 #[Vq p,.agg #[Vs z B D,Vs A 8 C]] w (mO w p x n j z D B A C):=by
 have HC:=hxy hc;have HS:=hxy hs;clear hc hs;go_enter Tryz.func22,Tryz.ntmps22;go_upto_region 1 with fail;obtain⟨u0,R,X⟩:∃y,(w.alloc (.cells #[Vs z B D,Vs A 8 C] 26)).alloc (.cells #[.slice none 0 0,.slice none 0 0] 26)=y/\SP w p x n j w.heap.size (w.heap.size+1) z D B S A C 8 Y y:=by
  have b:Bw w ((w.alloc (.cells #[Vs z B D,Vs A 8 C] 26)).alloc (.cells #[.slice none 0 0,.slice none 0 0] 26)):=(Ai).alloc AX _;have e1:(w.alloc (.cells #[Vs z B D,Vs A 8 C] 26)).heap.size=w.heap.size+1:=AX;refine⟨_,rfl,.of (.of_below b),HC.below b,Ac (Az w _) Ai,?_,HS.below b,o1,o2,o3,HS.h.lt,HS.r.lt,Nat.lt_succ_self _,BQ⟩;rw[<-e1];exact Az _ _
 rw[R];obtain⟨r,hr⟩:=Au (w.heap.size+1);obtain⟨L,J⟩:=Au w.heap.size;rw[hr]at X;rw[hr];rw[J]at X;rw[J];have S0:Hid (SP w p x n j L r z D B S A C 8 Y u0):=(by rw[<-J]at X⊢;exact X:SP w p x n j L r z D B S A C 8 Y u0)
 clear R X hr J HC HS;go_wp2_with fail;refine(Af p x n j 6 _ AB S0.K).mono ?_;rintro e u1⟨k,rfl,k0,k6,f,c⟩;have S1:=hxy (S0.fw f c);clear f c S0;go_wp2_with fail;refine(Af p x n j 8 _ AB S1.K).mono ?_;rintro e u2⟨di,rfl,d0,d8,f,c⟩;have o:=hxy (S1.fw f c);clear f c S1;obtain⟨d,rfl⟩:∃d:Nat,di=(d:Int):=⟨di.toNat,AB⟩
 have O:d<8:=AB;have ac:0<B:=AB;go_upto_block 0 with fail;go_cut [](fun wx=>∃S' U N,U<=8/\SP w p x n j L r z D B S' A C U N wx)
 case first=>as_aux_lemma=>
  have c0:=o.cells;have v0:=Bh o.G.r d O;have vf:=o.G.r.free;have hk:k=0∨k=1∨k=2∨k=3∨k=4∨k=5:=AB;rcases hk with rfl|rfl|rfl|rfl|rfl|rfl
  ·clear c0 v0 vf
   have j0:∀m,Fw p u2 m/\CJ m p x n j->m.cell? (Va L 0)=some (Vs z B D):=fun m h=>(o.fw h.1 h.2).cells.1
   have jz:∀m,Fw p u2 m/\CJ m p x n j->L<m.heap.size:=fun m h=>(o.fw h.1 h.2).cells.2.2.2.1
   go_upto_region 5 with fail;refine BH (T:=fun m=>Fw p u2 m/\CJ m p x n j) (s:=7) AV ⟨.of_below BJ.drew,o.K.below BJ.drew⟩ (fun hHeld=>?_);refine NU [0,1,2] ?_;refine Ah (i:=3) rfl AV (fun M E=>?_);go_simp;refine(Af p x n j 2 _ AB (o.K.below BJ.drew)).mono ?_;rintro e u3⟨y,rfl,y0,y1,f,c⟩;have I:Fw p u2 u3/\CJ u3 p x n j:=⟨(Fw.of_below BJ.drew).trans f,c⟩
   go_wp2_with fail;refine E.out _ _ I (fun u=>?_);clear E M f c;refine Cn ?_;refine BR 4 ?_;refine Bt 5 ?_;refine BR 6 ?_;have l:=hxy (o.fw I.1 I.2);clear I j0 jz hHeld u o;obtain⟨Q,_,_⟩:=Sw l.G.h (q:=0) AB;have hf:=l.G.h.free;have hl:=l.G.h.lt;simp only[Nat.zero_mul]at Q;refine BD rfl AV AV (fun M E=>?_);go_simp;refine E.out _ _ ?_;clear E M Q hf hl;go_wp2_with fail;go_meet;exact⟨_,8,_,BQ,l.setS h1 _⟩
  ·go_wp2_with fail
   go_meet;exact⟨_,7,_,AB,o.cut⟩
  ·go_wp2_with fail
   go_meet;exact⟨_,8,_,BQ,o.setV O ⟨0,false,-2,0,0,0⟩⟩
  ·go_wp2_with fail
   go_meet;exact⟨_,8,_,BQ,o.setV O ⟨1,false,0,(B:Int),0,0⟩⟩
  ·go_wp2_with fail
   go_meet;exact⟨_,8,_,BQ,o.setV O ⟨1,false,0,0,2,1⟩⟩
  ·clear c0 v0 vf
   have j0:∀m,Fw p u2 m/\CJ m p x n j->m.cell? (Va L 1)=some (Vs A 8 C):=fun m h=>(o.fw h.1 h.2).cells.2.1
   have jz:∀m,Fw p u2 m/\CJ m p x n j->L<m.heap.size:=fun m h=>(o.fw h.1 h.2).cells.2.2.2.1
   go_upto_region 15 with fail;refine BH (T:=fun m=>Fw p u2 m/\CJ m p x n j) (s:=8) AV ⟨.of_below BJ.drew,o.K.below BJ.drew⟩ (fun hHeld=>?_);refine NU [0,1,2,3] ?_;refine Ah (i:=4) rfl AV (fun M E=>?_);go_simp;refine(Af p x n j 2 _ AB (o.K.below BJ.drew)).mono ?_;rintro e u3⟨y,rfl,y0,y1,f,c⟩;have I:Fw p u2 u3/\CJ u3 p x n j:=⟨(Fw.of_below BJ.drew).trans f,c⟩
   go_wp2_with fail;refine E.out _ _ I (fun u=>?_);clear E M f c;refine Cn ?_;refine NU [5,6,7] ?_;have l:=hxy (o.fw I.1 I.2);clear I j0 jz hHeld u o;have v0:=Bh l.G.r d O;have vf:=l.G.r.free;have vl:=l.G.r.lt;refine BD rfl AV AV (fun M E=>?_);go_simp;refine E.out _ _ ?_;clear E M v0 vf vl;go_wp2_with fail;go_meet;exact⟨_,8,_,BQ,l.setV O ⟨0,false,_,0,0,0⟩⟩
 case rest=>
 obtain⟨S',U,N,aa,s3⟩:=hcut;generalize wc=u3 at *;have l:=hxy s3;clear s3 o;have c0:=l.cells;have z0:=(AJ l.Z 0).trans rfl;have z1:=(AJ l.Z 1).trans rfl;have zf:=CP l.Z;have zl:=Bp l.Z;have ad:r≠L:=by have:=l.o6;omega
 go_wp2_with fail;refine mY (.agg #[Vs z B D,Vs A U C]) (by simp[results,Tryz.results22,go_sem, *]) ⟨S',U,N,rfl,aa,?_,?_,?_⟩
 ·have q4:=l.o4
  have q5:=l.o5;have q6:=l.o6;exact⟨(l.G.h.other (a:=Va r 0) (show r≠z by omega) _).other (a:=Va r 1) (show r≠z by omega) _,(l.G.r.other (a:=Va r 0) (show r≠A by omega) _).other (a:=Va r 1) (show r≠A by omega) _⟩
 ·have q6:=l.o6
  have q7:=l.o7;exact(l.F.put (.inr (.inr AB)) _ _).put (.inr (.inr AB)) _ _
 ·have q1:=l.o1
  have q4:=l.o4;have q6:=l.o6;exact(l.K.put AB _ _).put AB _ _
end Go.Proofs.YtcjnmdgomocpgaaGreatDoor
