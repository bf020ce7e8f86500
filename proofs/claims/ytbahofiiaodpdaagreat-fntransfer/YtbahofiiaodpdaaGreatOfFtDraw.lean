import Derived.Test.YtbahofiiaodpdaaGreatOfFu6b
import Derived.Test.YtbahofiiaodpdaaGreatOfCl
import Derived.Deep.CutBlock
import Derived.Test.YtbahofiiaodpdaaGreatOfDrawFlat
set_option maxHeartbeats 16000000
set_option maxRecDepth 20000
namespace Go.Proofs.YtbahofiiaodpdaaGreat
open Go.RowKit Go.Deep
structure F3(p a b:Nat)(w w':World):Prop where
 os:w'.os=w.os
 tape:w'.tape=w.tape
 output:w'.output=w.output
 size:w.heap.size<=w'.heap.size
 block:∀k,k<w.heap.size->k≠p->k≠a->k≠b->w'.heap[k]?=w.heap[k]?
theorem F3.of{p a b:Nat}{w w':World}(f:Fw p w w'):F3 p a b w w':=⟨f.os,f.tape,f.output,f.size,fun k h1 h2 _ _=>f.block k h1 h2⟩
theorem F3.fw{p a b:Nat}{w u u':World}(h:F3 p a b w u)(f:Fw p u u'):F3 p a b w u':=⟨f.os.trans h.os,f.tape.trans h.tape,f.output.trans h.output,Nat.le_trans h.size f.size,fun k h1 h2 h3 h4=>(f.block k (Nat.lt_of_lt_of_le h1 h.size) h2).trans (h.block k h1 h2 h3 h4)⟩
theorem F3.put{p a b:Nat}{w u:World}(h:F3 p a b w u){q:Nat}(hq:q=a∨q=b∨w.heap.size<=q)(j:Nat)(v:Value):F3 p a b w (u.setCell ⟨q,j,none⟩ v):=by
 have k:=(Below.refl q u).setCell (p:=⟨q,j,none⟩) (Nat.le_refl q) v;refine⟨k.os.trans h.os,k.tape.trans h.tape,k.output.trans h.output,by simpa using h.size,fun i h1 h2 h3 h4=>?_⟩;rw[<-h.block i h1 h2 h3 h4];have hn:i≠q:=by omega
 cases hx:u.heap[i]? with
 |none=>
  have:=Array.getElem?_eq_none_iff.1 hx;have h5:=h.size;omega
 |some o=>exact hq_other hx hn j v
theorem F3.arr{p a b:Nat}{w w':World}{q n:Nat}{f:Nat->Value}(h:F3 p a b w w')(hr:Arr w q n f)(h1:q≠p)(h2:q≠a)(h3:q≠b):Arr w' q n f:=by
 have hb:=h.block q hr.lt h1 h2 h3;exact⟨Nat.lt_of_lt_of_le hr.lt h.size,fun i=>(World.frozen?_of_block (a:=⟨q,i,none⟩) hb).trans (hr.free i),fun i hi=>(World.cell?_of_block (a:=⟨q,i,none⟩) hb).trans (hr.cell hi)⟩
def updS(S:Nat->HS)(x:Int)(i:Nat):HS:=if i=0 then{S 0 with size:=x}else S i
theorem hs_upd{w:World}{b n:Nat}{S:Nat->HS}(h:Arr w b (n*3) (hsF S))(hn:1<=n)(x:Int):Arr (w.setCell ⟨b,0,none⟩ (.int .i64 x)) b (n*3) (hsF (updS S x)):=by
 refine(Arr.set1 h 0 (by omega) _).congr (fun i hi=>?_);by_cases e:i=0
 ·subst e;rfl
 ·show(if i=0 then _ else hsF S i)=_
  rw[if_neg e];unfold hsF;by_cases e3:i/3=0
  ·have:i=1∨i=2:=by omega
   rcases this with rfl|rfl<;>rfl
  ·unfold updS;rw[if_neg e3]
structure SP(w:World)(p:Nat)(ao:Option Addr)(n cap nb r bH cH nH:Nat)(S:Nat->HS)(bR cR nR:Nat)(V0:Nat->VV)(u:World):Prop where
 F:F3 p bH bR w u
 K:Cur u p ao n cap
 B:u.heap[nb]?=some (.cells #[.slice (some ⟨bH,0,none⟩) nH cH,.slice (some ⟨bR,0,none⟩) nR cR] 26)
 Z:u.heap[r]?=some (.cells #[.slice none 0 0,.slice none 0 0] 26)
 G:SigCp u bH nH S bR nR V0
 o1:p<bH
 o2:p<bR
 o3:bH≠bR
 o4:bH<nb
 o5:bR<nb
 o6:nb<r
 o7:w.heap.size<=nb
section
variable{w:World}{p:Nat}{ao:Option Addr}{n cap nb r bH cH nH:Nat}{S:Nat->HS}{bR cR nR:Nat}{V0:Nat->VV}{u u':World}
theorem SP.fw(h:SP w p ao n cap nb r bH cH nH S bR cR nR V0 u)(f:Fw p u u')(k:Cur u' p ao n cap):SP w p ao n cap nb r bH cH nH S bR cR nR V0 u':=
 have q1:=h.o1
 have q2:=h.o2
 have q4:=h.o4
 have q6:=h.o6
 ⟨h.F.fw f,k,hq_fw h.B f (by omega),hq_fw h.Z f (by omega),⟨f.arr h.G.h (by omega),f.arr h.G.r (by omega)⟩,q1,q2,h.o3,q4,h.o5,q6,h.o7⟩
theorem SP.setV(h:SP w p ao n cap nb r bH cH nH S bR cR 8 V0 u){d:Nat}(hd:d<8)(x:VV):SP w p ao n cap nb r bH cH nH S bR cR 8 (updV V0 d x) (put6 u bR (d*6) x):=by
 have q1:=h.o1;have q2:=h.o2;have q3:=h.o3;have q4:=h.o4;have q5:=h.o5;have q6:=h.o6;unfold put6;refine⟨?_,?_,?_,?_,⟨?_,?_⟩,q1,q2,q3,q4,q5,q6,h.o7⟩
 ·exact(((((h.F.put (.inr (.inl rfl)) _ _).put (.inr (.inl rfl)) _ _).put (.inr (.inl rfl)) _ _).put (.inr (.inl rfl)) _ _).put (.inr (.inl rfl)) _ _).put (.inr (.inl rfl)) _ _
 ·exact(((((h.K.put q2 _ _).put q2 _ _).put q2 _ _).put q2 _ _).put q2 _ _).put q2 _ _
 ·iterate 6 refine hq_other ?_ (show nb≠bR by omega) _ _
  exact h.B
 ·iterate 6 refine hq_other ?_ (show r≠bR by omega) _ _
  exact h.Z
 ·iterate 6 refine Arr.other ?_ (show bR≠bH by omega) _
  exact h.G.h
 ·exact regs_set h.G.r hd x
theorem SP.setS(h:SP w p ao n cap nb r bH cH nH S bR cR nR V0 u)(hn:1<=nH)(x:Int):SP w p ao n cap nb r bH cH nH (updS S x) bR cR nR V0 (u.setCell ⟨bH,0,none⟩ (.int .i64 x)):=by
 have q1:=h.o1;have q3:=h.o3;have q4:=h.o4;have q6:=h.o6;exact⟨h.F.put (.inl rfl) _ _,h.K.put q1 _ _,hq_other h.B (by omega) _ _,hq_other h.Z (by omega) _ _,⟨hs_upd h.G.h hn x,h.G.r.other (a:=⟨bH,0,none⟩) q3 _⟩,q1,h.o2,q3,q4,h.o5,q6,h.o7⟩
theorem SP.cut(h:SP w p ao n cap nb r bH cH nH S bR cR 8 V0 u):SP w p ao n cap nb r bH cH nH S bR cR 7 V0 (u.setCell ⟨nb,1,none⟩ (.slice (some ⟨bR,0,none⟩) 7 cR)):=by
 have q1:=h.o1;have q4:=h.o4;have q5:=h.o5;have q6:=h.o6;have hr:=h.G.r.other (a:=⟨nb,1,none⟩) (show nb≠bR by omega) (.slice (some ⟨bR,0,none⟩) 7 cR);exact⟨h.F.put (.inr (.inr h.o7)) _ _,h.K.put (by omega) _ _,hq_set h.B 1 _,hq_other h.Z (by omega) _ _,⟨h.G.h.other (a:=⟨nb,1,none⟩) (show nb≠bH by omega) _,⟨hr.1,hr.2.1,fun i hi=>hr.2.2 i (by omega)⟩⟩,q1,h.o2,h.o3,q4,q5,q6,h.o7⟩
theorem SP.cells(h:SP w p ao n cap nb r bH cH nH S bR cR nR V0 u):u.cell? ⟨nb,0,none⟩=some (.slice (some ⟨bH,0,none⟩) nH cH)/\u.cell? ⟨nb,1,none⟩=some (.slice (some ⟨bR,0,none⟩) nR cR)/\(∀i,u.frozen? ⟨nb,i,none⟩=false)/\nb<u.heap.size/\bH<u.heap.size/\bR<u.heap.size:=⟨(hq_cell h.B 0).trans rfl,(hq_cell h.B 1).trans rfl,hq_free h.B,hq_lt h.B,h.G.h.lt,h.G.r.lt⟩
end
def SpR(w:World)(p:Nat)(ao:Option Addr)(n cap bH cH nH bR cR:Nat)(e:Ending)(w':World):Prop:=
 ∃(S:Nat->HS)(nR:Nat)(V0:Nat->VV),e=.returned (.agg #[.slice (some ⟨bH,0,none⟩) nH cH,.slice (some ⟨bR,0,none⟩) nR cR])/\nR<=8/\SigCp w' bH nH S bR nR V0/\F3 p bH bR w w'/\Cur w' p ao n cap
theorem l4SpoilSig_any(p:Nat)(ao:Option Addr)(n cap:Nat)(bH cH nH:Nat)(S:Nat->HS)(bR cR:Nat)(V0:Nat->VV)(w:World)(hc:Cur w p ao n cap)(hs:SigCp w bH nH S bR 8 V0)(h1:1<=nH)(h4:nH<=4)(hcR:8<=cR)(o1:p<bH)(o2:p<bR)(o3:bH≠bR):
 Calls Tryz.prog 20 #[.pointer (some ⟨p,0,none⟩),.agg #[.slice (some ⟨bH,0,none⟩) nH cH,.slice (some ⟨bR,0,none⟩) 8 cR]] w (SpR w p ao n cap bH cH nH bR cR):=by
 have HC:Hid (Cur w p ao n cap):=hc
 have HS:Hid (SigCp w bH nH S bR 8 V0):=hs
 clear hc hs
 go_enter Tryz.func20,Tryz.ntmps20
 go_upto_region 1 with fail
 obtain⟨u0,hu0,s0⟩:∃y,(w.alloc (.cells #[.slice (some ⟨bH,0,none⟩) nH cH,.slice (some ⟨bR,0,none⟩) 8 cR] 26)).alloc (.cells #[.slice none 0 0,.slice none 0 0] 26)=y/\SP w p ao n cap w.heap.size (w.heap.size+1) bH cH nH S bR cR 8 V0 y:=by
  have b:Below w.heap.size w ((w.alloc (.cells #[.slice (some ⟨bH,0,none⟩) nH cH,.slice (some ⟨bR,0,none⟩) 8 cR] 26)).alloc (.cells #[.slice none 0 0,.slice none 0 0] 26)):=((Below.refl _ _).alloc (Nat.le_refl _) _).alloc (by simp) _
  have e1:(w.alloc (.cells #[.slice (some ⟨bH,0,none⟩) nH cH,.slice (some ⟨bR,0,none⟩) 8 cR] 26)).heap.size=w.heap.size+1:=by simp
  refine⟨_,rfl,.of (.of_below b),HC.out.below b,hq_below (hq_new w _) ((Below.refl _ _).alloc (Nat.le_refl _) _),?_,HS.out.below b,o1,o2,o3,HS.out.h.lt,HS.out.r.lt,Nat.lt_succ_self _,Nat.le_refl _⟩
  rw[<-e1];exact hq_new _ _
 rw[hu0]
 obtain⟨r,hr⟩:∃y,w.heap.size+1=y:=⟨_,rfl⟩
 obtain⟨nb,hnb⟩:∃y,w.heap.size=y:=⟨_,rfl⟩
 rw[hr]at s0
 rw[hr]
 rw[hnb]at s0
 rw[hnb]
 have S0:Hid (SP w p ao n cap nb r bH cH nH S bR cR 8 V0 u0):=(by rw[<-hnb]at s0⊢;exact s0:SP w p ao n cap nb r bH cH nH S bR cR 8 V0 u0)
 clear hu0 s0 hr hnb HC HS
 go_wp2_with fail
 refine(l1Below_any p ao n cap 6 _ (by omega) S0.out.K).mono ?_
 rintro e u1⟨k,rfl,k0,k6,f,c⟩
 have S1:Hid (SP w p ao n cap nb r bH cH nH S bR cR 8 V0 u1):=S0.out.fw f c
 clear f c S0
 go_wp2_with fail
 refine(l1Below_any p ao n cap 8 _ (by omega) S1.out.K).mono ?_
 rintro e u2⟨di,rfl,d0,d8,f,c⟩
 have S2:Hid (SP w p ao n cap nb r bH cH nH S bR cR 8 V0 u2):=S1.out.fw f c
 clear f c S1
 obtain⟨d,rfl⟩:∃d:Nat,di=(d:Int):=⟨di.toNat,by omega⟩
 have hd:d<8:=by omega
 have hn0:0<nH:=by omega
 go_upto_block 0 with fail
 go_cut [](fun wx=>∃S' nR V0',nR<=8/\SP w p ao n cap nb r bH cH nH S' bR cR nR V0' wx)
 case first=>as_aux_lemma=>
  obtain⟨c0,c1,cf,cl,bl,rl⟩:=S2.out.cells
  obtain⟨v0,v1,v2,v3,v4,v5⟩:=reg_cells S2.out.G.r d hd
  have vf:=S2.out.G.r.free
  have hk:k=0∨k=1∨k=2∨k=3∨k=4∨k=5:=by omega
  rcases hk with rfl|rfl|rfl|rfl|rfl|rfl
  ·clear c0 c1 cf cl bl rl v0 v1 v2 v3 v4 v5 vf
   have j0:∀w',Fw p u2 w'/\Cur w' p ao n cap->w'.cell? ⟨nb,0,none⟩=some (.slice (some ⟨bH,0,none⟩) nH cH):=fun w' h=>(S2.out.fw h.1 h.2).cells.1
   have jz:∀w',Fw p u2 w'/\Cur w' p ao n cap->nb<w'.heap.size:=fun w' h=>(S2.out.fw h.1 h.2).cells.2.2.2.1
   go_upto_region 5 with fail
   refine wp_region_L (T:=fun w'=>Fw p u2 w'/\Cur w' p ao n cap) (s:=7) (by kernel_rfl) ⟨.of_below (Below.refl _ _).drew,S2.out.K.below (Below.refl _ _).drew⟩ (fun hHeld=>?_)
   refine wpAnyL_ta 0 rfl ?_
   refine wpAnyL_ta 1 rfl ?_
   refine wpAnyL_ta 2 rfl ?_
   refine wpAnyL_call (i:=3) rfl (by kernel_rfl) (fun KK hK=>?_)
   go_simp
   refine(l1Below_any p ao n cap 2 _ (by omega) (S2.out.K.below (Below.refl _ _).drew)).mono ?_
   rintro e u3⟨y,rfl,y0,y1,f,c⟩
   have T3:Fw p u2 u3/\Cur u3 p ao n cap:=⟨(Fw.of_below (Below.refl _ _).drew).trans f,c⟩
   go_wp2_with fail
   refine hK.out _ _ T3 (fun hHeld2=>?_)
   clear hK KK f c
   try simp only[Act.put,List.getElem_toArray,List.getElem_cons_zero,List.getElem_cons_succ,List.setIfInBounds_toArray,List.set_cons_zero,List.set_cons_succ]
   refine wpAnyL_ta 4 rfl ?_
   refine wpAnyL_taT 5 rfl ?_
   refine wpAnyL_ta 6 rfl ?_
   have S3:Hid (SP w p ao n cap nb r bH cH nH S bR cR 8 V0 u3):=S2.out.fw T3.1 T3.2
   clear T3 j0 jz hHeld hHeld2 S2
   obtain⟨hh0,_,_⟩:=hs_at S3.out.G.h (q:=0) (by omega)
   have hf:=S3.out.G.h.free
   have hl:=S3.out.G.h.lt
   simp only[Nat.zero_mul]at hh0
   refine wpAnyL_store rfl (by kernel_rfl) (by kernel_rfl) (fun KK hK=>?_)
   go_simp
   refine hK.out _ _ ?_
   clear hK KK hh0 hf hl
   go_wp2_with fail
   go_meet
   exact⟨_,8,_,Nat.le_refl _,S3.out.setS h1 _⟩
  ·go_wp2_with fail
   go_meet
   exact⟨_,7,_,by omega,S2.out.cut⟩
  ·go_wp2_with fail
   go_meet
   exact⟨_,8,_,Nat.le_refl _,S2.out.setV hd ⟨0,false,-2,0,0,0⟩⟩
  ·go_wp2_with fail
   go_meet
   exact⟨_,8,_,Nat.le_refl _,S2.out.setV hd ⟨1,false,0,(nH:Int),0,0⟩⟩
  ·go_wp2_with fail
   go_meet
   exact⟨_,8,_,Nat.le_refl _,S2.out.setV hd ⟨1,false,0,0,2,1⟩⟩
  ·clear c0 c1 cf cl bl rl v0 v1 v2 v3 v4 v5 vf
   have j0:∀w',Fw p u2 w'/\Cur w' p ao n cap->w'.cell? ⟨nb,1,none⟩=some (.slice (some ⟨bR,0,none⟩) 8 cR):=fun w' h=>(S2.out.fw h.1 h.2).cells.2.1
   have jz:∀w',Fw p u2 w'/\Cur w' p ao n cap->nb<w'.heap.size:=fun w' h=>(S2.out.fw h.1 h.2).cells.2.2.2.1
   go_upto_region 15 with fail
   refine wp_region_L (T:=fun w'=>Fw p u2 w'/\Cur w' p ao n cap) (s:=8) (by kernel_rfl) ⟨.of_below (Below.refl _ _).drew,S2.out.K.below (Below.refl _ _).drew⟩ (fun hHeld=>?_)
   refine wpAnyL_ta 0 rfl ?_
   refine wpAnyL_ta 1 rfl ?_
   refine wpAnyL_ta 2 rfl ?_
   refine wpAnyL_ta 3 rfl ?_
   refine wpAnyL_call (i:=4) rfl (by kernel_rfl) (fun KK hK=>?_)
   go_simp
   refine(l1Below_any p ao n cap 2 _ (by omega) (S2.out.K.below (Below.refl _ _).drew)).mono ?_
   rintro e u3⟨y,rfl,y0,y1,f,c⟩
   have T3:Fw p u2 u3/\Cur u3 p ao n cap:=⟨(Fw.of_below (Below.refl _ _).drew).trans f,c⟩
   go_wp2_with fail
   refine hK.out _ _ T3 (fun hHeld2=>?_)
   clear hK KK f c
   try simp only[Act.put,List.getElem_toArray,List.getElem_cons_zero,List.getElem_cons_succ,List.setIfInBounds_toArray,List.set_cons_zero,List.set_cons_succ]
   refine wpAnyL_ta 5 rfl ?_
   refine wpAnyL_ta 6 rfl ?_
   refine wpAnyL_ta 7 rfl ?_
   have S3:Hid (SP w p ao n cap nb r bH cH nH S bR cR 8 V0 u3):=S2.out.fw T3.1 T3.2
   clear T3 j0 jz hHeld hHeld2 S2
   obtain⟨v0,v1,v2,v3,v4,v5⟩:=reg_cells S3.out.G.r d hd
   have vf:=S3.out.G.r.free
   have vl:=S3.out.G.r.lt
   refine wpAnyL_store rfl (by kernel_rfl) (by kernel_rfl) (fun KK hK=>?_)
   go_simp
   refine hK.out _ _ ?_
   clear hK KK v0 v1 v2 v3 v4 v5 vf vl
   go_wp2_with fail
   go_meet
   exact⟨_,8,_,Nat.le_refl _,S3.out.setV hd ⟨0,false,_,0,0,0⟩⟩
 case rest=>
 obtain⟨S',nR,V0',hn8,s3⟩:=hcut
 generalize wc=u3 at *
 have S3:Hid (SP w p ao n cap nb r bH cH nH S' bR cR nR V0' u3):=s3
 clear s3 S2
 obtain⟨c0,c1,cf,cl,bl,rl⟩:=S3.out.cells
 have z0:=(hq_cell S3.out.Z 0).trans rfl
 have z1:=(hq_cell S3.out.Z 1).trans rfl
 have zf:=hq_free S3.out.Z
 have zl:=hq_lt S3.out.Z
 have hne:r≠nb:=by have:=S3.out.o6;omega
 go_wp2_with fail
 refine bodyPost_ret (v:=.agg #[.slice (some ⟨bH,0,none⟩) nH cH,.slice (some ⟨bR,0,none⟩) nR cR]) (by simp[results,Tryz.results20,go_sem, *]) rfl ⟨S',nR,V0',rfl,hn8,?_,?_,?_⟩
 ·have q4:=S3.out.o4
  have q5:=S3.out.o5
  have q6:=S3.out.o6
  exact⟨(S3.out.G.h.other (a:=⟨r,0,none⟩) (show r≠bH by omega) _).other (a:=⟨r,1,none⟩) (show r≠bH by omega) _,(S3.out.G.r.other (a:=⟨r,0,none⟩) (show r≠bR by omega) _).other (a:=⟨r,1,none⟩) (show r≠bR by omega) _⟩
 ·have q6:=S3.out.o6
  have q7:=S3.out.o7
  exact(S3.out.F.put (.inr (.inr (by omega))) _ _).put (.inr (.inr (by omega))) _ _
 ·have q1:=S3.out.o1
  have q4:=S3.out.o4
  have q6:=S3.out.o6
  exact(S3.out.K.put (by omega) _ _).put (by omega) _ _
structure DA(w:World)(p:Nat)(ao:Option Addr)(n cap r q:Nat)(vR:Value)(z c:Int)(vs:List VV)(u:World):Prop where
 F:Fw p w u
 K:Cur u p ao n cap
 Z:u.heap[r]?=some (.cells #[.slice none 0 0,.int .i64 0,.int .i64 0] 28)
 X:u.heap[q]?=some (.cells #[vR,.int .i64 z,.int .i64 c] 28)
 R:u.ownsRow w.heap.size 62 6 vR vs.length (vs.flatMap vcl)
 pw:p<w.heap.size
 wr:w.heap.size<=r
 rq:r<q
section
variable{w:World}{p:Nat}{ao:Option Addr}{n cap r q:Nat}{z c:Int}{vR:Value}{vs:List VV}{u u':World}
theorem DA.fw(h:DA w p ao n cap r q vR z c vs u)(f:Fw p u u')(k:Cur u' p ao n cap):DA w p ao n cap r q vR z c vs u':=
 ⟨h.F.trans f,k,hq_fw h.Z f (by have:=h.pw;have:=h.wr;omega),hq_fw h.X f (by have:=h.pw;have:=h.wr;have:=h.rq;omega),row_fw h.R f h.pw,h.pw,h.wr,h.rq⟩
theorem DA.below(h:DA w p ao n cap r q vR z c vs u)(f:Below u.heap.size u u'):DA w p ao n cap r q vR z c vs u':=h.fw (.of_below f) (h.K.below f)
theorem DA.put(h:DA w p ao n cap r q vR z c vs u){b:Nat}(hb:q<b)(n2:vR.ownBlock≠some b)(j:Nat)(v:Value):DA w p ao n cap r q vR z c vs (u.setCell ⟨b,j,none⟩ v):=by
 have o1:=h.pw;have o2:=h.wr;have o3:=h.rq;exact⟨h.F.put (by omega) _ _,h.K.put (by omega) _ _,hq_other h.Z (by omega) _ _,hq_other h.X (by omega) _ _,row_put h.R n2 _ _,o1,o2,o3⟩
theorem DA.set(h:DA w p ao n cap r q vR z c vs u)(z' c':Int)(j:Nat)(v:Value)(hv:(#[vR,.int .i64 z,.int .i64 c]:Array Value).setIfInBounds j v=#[vR,.int .i64 z',.int .i64 c']):DA w p ao n cap r q vR z' c' vs (u.setCell ⟨q,j,none⟩ v):=by
 have o1:=h.pw;have o2:=h.wr;have o3:=h.rq;exact⟨h.F.put (by omega) _ _,h.K.put (by omega) _ _,hq_other h.Z (by omega) _ _,by rw[<-hv];exact hq_set h.X j v,row_put h.R (grown_neU h.X h.R (by decide)) _ _,o1,o2,o3⟩
theorem DA.cells(h:DA w p ao n cap r q vR z c vs u):u.cell? ⟨q,0,none⟩=some vR/\u.cell? ⟨q,1,none⟩=some (.int .i64 z)/\u.cell? ⟨q,2,none⟩=some (.int .i64 c)/\(∀i,u.frozen? ⟨q,i,none⟩=false)/\q<u.heap.size:=⟨(hq_cell h.X 0).trans rfl,(hq_cell h.X 1).trans rfl,(hq_cell h.X 2).trans rfl,hq_free h.X,hq_lt h.X⟩
theorem DA.growR(h:DA w p ao n cap r q vR z c vs u){v':Value}{x:VV}(hg:u.grownBy u' vR.ownBlock)(ho:u'.ownsRow w.heap.size 62 6 v' (vs.length+1) (vs.flatMap vcl++vcl x)):DA w p ao n cap r q v' z c (vs++[x]) (u'.setCell ⟨q,0,none⟩ v'):=by
 have o1:=h.pw;have o2:=h.wr;have o3:=h.rq;have X':=grown_objU h.X hg (grown_neU h.X h.R (by decide));have Z':=grown_objU h.Z hg (grown_neU h.Z h.R (by decide));have ho':u'.ownsRow w.heap.size 62 6 v' (vs++[x]).length ((vs++[x]).flatMap vcl):=by simpa using ho
 exact⟨(h.F.grown hg (fun k hk=>own_ge h.R hk)).put (by omega) _ _,(h.K.grown hg (fun k hk=>by have:=own_ge h.R hk;omega)).put (by omega) _ _,hq_other Z' (by omega) _ _,hq_set X' 0 v',row_put ho' (grown_neU X' ho' (by decide)) _ _,o1,o2,o3⟩
theorem DA.put6(h:DA w p ao n cap r q vR z c vs u){b:Nat}(hb:q<b)(n2:vR.ownBlock≠some b)(a0 a1 a2 a3 a4 a5:Value):DA w p ao n cap r q vR z c vs (set6 u b a0 a1 a2 a3 a4 a5):=
 (((((h.put hb n2 _ _).put hb n2 _ _).put hb n2 _ _).put hb n2 _ _).put hb n2 _ _).put hb n2 _ _
end
def AbsR(w:World)(p:Nat)(ao:Option Addr)(n cap:Nat)(e:Ending)(w':World):Prop:=
 ∃(bA cA:Nat)(V:Nat->VV)(z c:Int),e=.returned (.agg #[.slice (some ⟨bA,0,none⟩) 8 cA,.int .i64 z,.int .i64 c])/\Arr w' bA (8*6) (vF V)/\w.heap.size<=bA/\Fw p w w'/\Cur w' p ao n cap
theorem l4DrawAbs_any(p:Nat)(ao:Option Addr)(n cap:Nat)(bH cH m:Nat)(vS:Value)(w:World)(hc:Cur w p ao n cap)(m1:1<=m)(m4:m<=4):
 Calls Tryz.prog 14 #[.pointer (some ⟨p,0,none⟩),.agg #[.slice (some ⟨bH,0,none⟩) m cH,vS]] w (AbsR w p ao n cap):=by
 have HC:Hid (Cur w p ao n cap):=hc;have lpw:=hc.lt;obtain⟨iV,gV,gV0,gV1,gV2⟩:=info_parts info_cV;have HIV:Hid (Tryz.prog.info? 62=some iV/\iV.zero=some (.agg #[.int .i64 0,.bool false,.int .i64 0,.int .i64 0,.int .i64 0,.int .i64 0])/\iV.size=6/\iV.bytes=48):=⟨gV,gV0,gV1,gV2⟩
 clear gV gV0 gV1 gV2 hc;go_enter Tryz.func14,Tryz.ntmps14;go_upto_region 2 with fail;obtain⟨w0,hw0,bw0,ew0⟩:∃y,w.alloc (.cells #[.slice (some ⟨bH,0,none⟩) m cH,vS] 26)=y/\Below w.heap.size w y/\y.heap[w.heap.size]?=some (.cells #[.slice (some ⟨bH,0,none⟩) m cH,vS] 26):=⟨_,rfl,(Below.refl _ _).alloc (Nat.le_refl _) _,hq_new _ _⟩
 have hz0:w0.heap.size=w.heap.size+1:=by rw[<-hw0];simp
 rw[hw0];obtain⟨u0,hu0,x0⟩:∃y,(w0.alloc (.cells #[.slice none 0 0,.int .i64 0,.int .i64 0] 28)).alloc (.cells #[.slice none 0 0,.int .i64 0,.int .i64 0] 28)=y/\DA w0 p ao n cap w0.heap.size (w0.heap.size+1) (.slice none 0 0) 0 0 [] y:=by
  have b:Below w0.heap.size w0 ((w0.alloc (.cells #[.slice none 0 0,.int .i64 0,.int .i64 0] 28)).alloc (.cells #[.slice none 0 0,.int .i64 0,.int .i64 0] 28)):=((Below.refl _ _).alloc (Nat.le_refl _) _).alloc (by simp) _;have e1:(w0.alloc (.cells #[.slice none 0 0,.int .i64 0,.int .i64 0] 28)).heap.size=w0.heap.size+1:=by simp
  have hc0:Cur w0 p ao n cap:=HC.out.below bw0;refine⟨_,rfl,.of_below b,hc0.below b,?_,?_,World.ownsRow_nil _ _ _ _,hc0.lt,Nat.le_refl _,by omega⟩
  ·exact hq_below (hq_new w0 _) ((Below.refl _ _).alloc (Nat.le_refl _) _)
  ·rw[<-e1];exact hq_new _ _
 rw[hu0];rw[hz0]at x0;have FW0:Hid (Fw p w w0):=.of_below bw0;obtain⟨r,hr⟩:∃y,w.heap.size+1=y:=⟨_,rfl⟩
 obtain⟨q,hq⟩:∃y,w.heap.size+1+1=y:=⟨_,rfl⟩
 rw[hq,hr]at x0;rw[hq,hr];obtain⟨nb,hnb⟩:∃y,w.heap.size=y:=⟨_,rfl⟩
 have hnp:p≠nb:=by omega
 have hw1:w.heap.size<=w0.heap.size:=by omega
 rw[hnb]at ew0⊢;have E0:Hid (w0.heap[nb]?=some (.cells #[.slice (some ⟨bH,0,none⟩) m cH,vS] 26)):=ew0;have X0:Hid (DA w0 p ao n cap r q (.slice none 0 0) 0 0 [] u0):=x0;clear hu0 x0 hw0 bw0 ew0 HC hz0 hr hq hnb;go_wp2_with fail;refine(l1Below_any p ao n cap 3 _ (by omega) X0.out.K).mono ?_;rintro e u1⟨z,rfl,z0,z1,f,k⟩;have X1:Hid (DA w0 p ao n cap r q (.slice none 0 0) 0 0 [] u1):=X0.out.fw f k;clear f k X0;obtain⟨c0,c1,c2,cf,cl⟩:=X1.out.cells;go_upto_region 3 with fail;obtain⟨u2,hu2,x2⟩:∃y,u1.setCell ⟨q,1,none⟩ (.int .i64 z)=y/\DA w0 p ao n cap r q (.slice none 0 0) z 0 [] y:=⟨_,rfl,X1.out.set z 0 1 _ rfl⟩
 rw[hu2];have X2:Hid (DA w0 p ao n cap r q (.slice none 0 0) z 0 [] u2):=x2;clear hu2 x2 X1 c0 c1 c2 cf cl;go_wp2_with fail;refine(l1Below_any p ao n cap 3 _ (by omega) X2.out.K).mono ?_;rintro e u3⟨cc,rfl,cc0,cc1,f,k⟩;have X3:Hid (DA w0 p ao n cap r q (.slice none 0 0) z 0 [] u3):=X2.out.fw f k;clear f k X2;obtain⟨c0,c1,c2,cf,cl⟩:=X3.out.cells;go_upto_region 4 with fail;obtain⟨u4,hu4,x4⟩:∃y,u3.setCell ⟨q,2,none⟩ (.int .i64 cc)=y/\DA w0 p ao n cap r q (.slice none 0 0) z cc [] y:=⟨_,rfl,X3.out.set z cc 2 _ rfl⟩
 rw[hu4];have X4:Hid (DA w0 p ao n cap r q (.slice none 0 0) z cc [] u4):=x4;clear hu4 x4 X3 c0 c1 c2 cf cl;have d0:=(hq_cell (hq_fw E0.out X4.out.F hnp) 0)
 have dz:=hq_lt (hq_fw E0.out X4.out.F hnp);simp only[List.getElem?_toArray,List.getElem?_cons_zero]at d0;go_wp2_with fail;clear d0 dz;go_loopw [7](fun iv wr=>∃(vR:Value)(vs:List VV),iv=.int .i64 (vs.length:Int)/\vs.length<=8/\DA w0 p ao n cap r q vR z cc vs wr)(fun iv _=>(8-intOf iv).toNat)
 case atStart=>exact⟨_,[],rfl,by simp,X4.out⟩
 case round=>
  clear X4;obtain⟨vR,vs,rfl,hvl,hx⟩:=hrel;have D4:Hid (DA w0 p ao n cap r q vR z cc vs wr):=hx;clear hx;by_cases hlt8:vs.length<8
  rotate_left
  ·have h8:vs.length=8:=by omega
   have hge:¬((vs.length:Int)<8):=by omega
   obtain⟨bR,cR,hvR⟩:=row_some' D4.out.R (by omega);have RR:wr.ownsRow w0.heap.size 62 6 (.slice (some ⟨bR,0,none⟩) 8 cR) 8 (vs.flatMap vcl):=by have k:=D4.out.R;rw[hvR]at k;rwa [h8]at k
   obtain⟨c0,c1,c2,cf,cl⟩:=D4.out.cells;rw[hvR,h8]at c0;have z0':=(hq_cell D4.out.Z 0).trans rfl;have z1':=(hq_cell D4.out.Z 1).trans rfl;have z2':=(hq_cell D4.out.Z 2).trans rfl;have zf:=hq_free D4.out.Z;have zl:=hq_lt D4.out.Z;have hne:r≠q:=by have:=D4.out.rq;omega
   have hR:bR≠r:=fun e=>grown_neU D4.out.Z RR (by decide) (by rw[e];rfl)
   have SC:Hid (Arr wr bR (8*6) (vF (fun i=>vs.getD i zV))):=⟨(RR.lt _ rfl).2,fun i=>RR.frozenAt i,fun i hi=>by
    have h8':i<vs.length*6:=by omega
    rw[RR.cellAt i (by omega)];exact vcl_get vs i h8'⟩
   have GE:Hid (w.heap.size<=bR/\Fw p w (((wr.setCell ⟨r,0,none⟩ (.slice (some ⟨bR,0,none⟩) 8 cR)).setCell ⟨r,1,none⟩ (.int .i64 z)).setCell ⟨r,2,none⟩ (.int .i64 cc))/\Cur (((wr.setCell ⟨r,0,none⟩ (.slice (some ⟨bR,0,none⟩) 8 cR)).setCell ⟨r,1,none⟩ (.int .i64 z)).setCell ⟨r,2,none⟩ (.int .i64 cc)) p ao n cap):=⟨Nat.le_trans hw1 (RR.lt _ rfl).1,FW0.out.trans (((D4.out.F.put D4.out.wr _ _).put D4.out.wr _ _).put D4.out.wr _ _),((D4.out.K.put (by have:=D4.out.pw;have:=D4.out.wr;omega) _ _).put (by have:=D4.out.pw;have:=D4.out.wr;omega) _ _).put (by have:=D4.out.pw;have:=D4.out.wr;omega) _ _⟩
   clear D4 RR hvR;go_wp2_with fail;exact bodyPost_ret (v:=.agg #[.slice (some ⟨bR,0,none⟩) 8 cR,.int .i64 z,.int .i64 cc]) (by simp[results,Tryz.results14,go_sem, *]) rfl ⟨bR,cR,_,z,cc,rfl,((SC.out.other (a:=⟨r,0,none⟩) (fun e=>hR e.symm) _).other (a:=⟨r,1,none⟩) (fun e=>hR e.symm) _).other (a:=⟨r,2,none⟩) (fun e=>hR e.symm) _,GE.out.1,GE.out.2.1,GE.out.2.2⟩
  have hlt8':(vs.length:Int)<8:=by omega
  go_wp2_with fail;refine(l4DrawNum_any p ao n cap _ D4.out.K).mono ?_;rintro e u2⟨x,rfl,hxn,f,k⟩;have D5:Hid (DA w0 p ao n cap r q vR z cc vs u2):=D4.out.fw f k;clear f k D4 hxn;unfold VV.v;go_upto_region 9 with fail;obtain⟨u3,hu3,b3⟩:∃y,u2.alloc (.cells #[.int .i64 x.k,.bool x.s,.int .i64 x.m,.int .i64 x.h,.int .i64 x.lo,.int .i64 x.hi] 62)=y/\Below u2.heap.size u2 y:=⟨_,rfl,(Below.refl _ _).alloc (Nat.le_refl _) _⟩
  have n3:VB (u2.alloc (.cells #[.int .i64 x.k,.bool x.s,.int .i64 x.m,.int .i64 x.h,.int .i64 x.lo,.int .i64 x.hi] 62)) u2.heap.size x:=hq_new _ _;rw[hu3]at n3⊢;have D6:Hid (DA w0 p ao n cap r q vR z cc vs u3):=D5.out.below b3;have hqb:q<u2.heap.size:=D5.out.cells.2.2.2.2;have hnR:vR.ownBlock≠some u2.heap.size:=fun e=>by have:=own_lt D5.out.R e;omega
  have hpb:p≠u2.heap.size:=by have:=D5.out.K.lt;omega
  obtain⟨vb,hvb⟩:∃y,u2.heap.size=y:=⟨_,rfl⟩
  rw[hvb]at n3 hqb hnR hpb⊢;have N3:Hid (VB u3 vb x):=n3;have HN:Hid (vR.ownBlock≠some vb/\p≠vb):=⟨hnR,hpb⟩
  clear hu3 b3 n3 hvb hnR hpb D5;go_wp2_with fail;refine(l1Below_any p ao n cap 3 _ (by omega) D6.out.K).mono ?_;rintro e u4⟨y,rfl,y0,y1,f,k⟩;have D7:Hid (DA w0 p ao n cap r q vR z cc vs u4):=D6.out.fw f k;have N7:Hid (VB u4 vb x):=hq_fw N3.out f HN.out.2;clear f k D6 N3;obtain⟨zz,hzz⟩:∃b:Bool,(y==0)=b:=⟨_,rfl⟩
  go_upto_if 27 with fail;clear hzz;go_cut [8](fun s8 wx=>s8=.pointer (some ⟨vb,0,none⟩)/\∃x':VV,DA w0 p ao n cap r q vR z cc vs wx/\VB wx vb x')
  case first=>
   cases zz with
   |false=>
    go_wp2_with fail;go_meet;exact⟨rfl,x,D7.out,N7.out⟩
   |true=>
    go_wp2_with fail;refine(l4DrawPtr_any p ao n cap (m:Int) _ (by omega) D7.out.K).mono ?_;rintro e u5⟨x',rfl,hxp,f,k⟩;have D8:Hid (DA w0 p ao n cap r q vR z cc vs u5):=D7.out.fw f k;have N8:Hid (VB u5 vb x):=hq_fw N7.out f HN.out.2;clear f k D7 N7 hxp;unfold VV.v;obtain⟨c0,c1,c2,c3,c4,c5,cf,cl⟩:=N8.out.cells;go_wp2_with fail;go_meet;exact⟨rfl,x',D8.out.put6 hqb HN.out.1 _ _ _ _ _ _,hq_set6 N8.out _ _ _ _ _ _⟩
  case rest=>
  obtain⟨rfl,x',d8,n8⟩:=hcut;have D8:Hid (DA w0 p ao n cap r q vR z cc vs wc):=d8;have N8:Hid (VB wc vb x'):=n8;clear d8 n8 D7 N7;generalize wc=u5 at D8 N8⊢;obtain⟨ra,rcp,hvR⟩:=row_slD D8.out.R;subst hvR;obtain⟨x0,x1,x2,xf,xz⟩:=D8.out.cells;obtain⟨c0,c1,c2,c3,c4,c5,cf,cl⟩:=N8.out.cells;have hBa:∀o,w0.heap.size<=(u5.alloc o).heap.size:=fun o=>(D8.out.below ((Below.refl _ _).alloc (Nat.le_refl _) o)).F.size
  have HCN:Hid (∀j y,(vcl x')[j]?=some y->(u5.alloc (.cells #[.int .i64 x'.k,.bool x'.s,.int .i64 x'.m,.int .i64 x'.h,.int .i64 x'.lo,.int .i64 x'.hi] 62)).cell? ((⟨u5.heap.size,0,none⟩:Addr).add j)=some y):=cells_newD u5 _ _;have OA:Hid (∀o,(u5.alloc o).ownsRow w0.heap.size 62 6 (.slice ra vs.length rcp) vs.length (vs.flatMap vcl)):=fun o=>(D8.out.below ((Below.refl _ _).alloc (Nat.le_refl _) o)).R
  go_wp2_with(first|(at_builtin;refine wpList_append_own_at _ rfl _ _ 24 rfl w0.heap.size 62 iV _ 6 48 Tryz.underlying24 HIV.out.1 HIV.out.2.1 HIV.out.2.2.1 HIV.out.2.2.2 rfl (by decide) _ _ _ rfl (OA.out _) ⟨u5.heap.size,0,none⟩ 1 1 (vcl x') rfl rfl HCN.out ?c2 ?c3 ?c4 (hBa _) ?_))
  case c2=>simp[vcl,Value.oneCell']
  case c3=>unfold maxLen;omega
  case c4=>omega
  intro v' u9 hown hgrow _ _;obtain⟨ua,hua,ba⟩:∃y,u5.alloc (.cells #[.int .i64 x'.k,.bool x'.s,.int .i64 x'.m,.int .i64 x'.h,.int .i64 x'.lo,.int .i64 x'.hi] 62)=y/\Below u5.heap.size u5 y:=⟨_,rfl,(Below.refl _ _).alloc (Nat.le_refl _) _⟩
  rw[hua]at hgrow;have D11:Hid (DA w0 p ao n cap r q v' z cc (vs++[x']) (u9.setCell ⟨q,0,none⟩ v')):=(D8.out.below ba).growR (x:=x') hgrow hown;have hx9:=grown_objU (D8.out.below ba).X hgrow (grown_neU (D8.out.below ba).X (D8.out.below ba).R (by decide));have z0':=(hq_cell hx9 0).trans rfl;have zf:=hq_free hx9;have zl:=hq_lt hx9;obtain⟨vb2,vcp,rfl⟩:=row_slD hown;clear hown hgrow ba hua hx9 D8 N8 x0 x1 x2 xf xz c0 c1 c2 c3 c4 c5 cf cl OA HCN hBa;go_wp2_with fail;go_roundw
  case rel=>exact⟨_,vs++[x'],by simp,by simp;omega,D11.out⟩
  case measure=>simp[intOf];omega
end Go.Proofs.YtbahofiiaodpdaaGreat
namespace Go.Proofs.YtbahofiiaodpdaaGreat
open Go.RowKit
structure IX(w:World)(p:Nat)(ao:Option Addr)(n cap r q:Nat)(x:IV)(v:World):Prop where
 F:Fw p w v
 K:Cur v p ao n cap
 R:Ib v r ⟨0,0,0,0,0,0⟩
 X:Ib v q x
 pw:p<w.heap.size
 wr:w.heap.size<=r
 wq:w.heap.size<=q
 ne:r≠q
theorem IX.fw{w v v':World}{p n cap r q:Nat}{ao:Option Addr}{x:IV}(h:IX w p ao n cap r q x v)(f:Fw p v v')(c:Cur v' p ao n cap):IX w p ao n cap r q x v':=
 ⟨h.F.trans f,c,h.R.fw f (by have:=h.pw;have:=h.wr;omega),h.X.fw f (by have:=h.pw;have:=h.wq;omega),h.pw,h.wr,h.wq,h.ne⟩
theorem IX.set{w v:World}{p n cap r q:Nat}{ao:Option Addr}{x:IV}(h:IX w p ao n cap r q x v)(y:IV)(j:Nat)(u:Value)(hy:x.c.setIfInBounds j u=y.c):IX w p ao n cap r q y (v.setCell ⟨q,j,none⟩ u):=
 ⟨h.F.put h.wq _ _,h.K.put (by have:=h.pw;have:=h.wq;omega) _ _,h.R.other h.ne _ _,by unfold Ib;rw[<-hy];exact hq_set h.X j u,h.pw,h.wr,h.wq,h.ne⟩
theorem IX.setO{w v:World}{p n cap r q:Nat}{ao:Option Addr}{x:IV}(h:IX w p ao n cap r q x v)(y:Int):IX w p ao n cap r q {x with o:=y} (v.setCell ⟨q,0,none⟩ (.int .i64 y)):=h.set _ _ _ rfl
theorem IX.setD{w v:World}{p n cap r q:Nat}{ao:Option Addr}{x:IV}(h:IX w p ao n cap r q x v)(y:Int):IX w p ao n cap r q {x with d:=y} (v.setCell ⟨q,1,none⟩ (.int .i64 y)):=h.set _ _ _ rfl
theorem IX.setA{w v:World}{p n cap r q:Nat}{ao:Option Addr}{x:IV}(h:IX w p ao n cap r q x v)(y:Int):IX w p ao n cap r q {x with a:=y} (v.setCell ⟨q,2,none⟩ (.int .i64 y)):=h.set _ _ _ rfl
theorem IX.setB{w v:World}{p n cap r q:Nat}{ao:Option Addr}{x:IV}(h:IX w p ao n cap r q x v)(y:Int):IX w p ao n cap r q {x with b:=y} (v.setCell ⟨q,3,none⟩ (.int .i64 y)):=h.set _ _ _ rfl
theorem IX.setI{w v:World}{p n cap r q:Nat}{ao:Option Addr}{x:IV}(h:IX w p ao n cap r q x v)(y:Int):IX w p ao n cap r q {x with i:=y} (v.setCell ⟨q,4,none⟩ (.int .i64 y)):=h.set _ _ _ rfl
theorem IX.setH{w v:World}{p n cap r q:Nat}{ao:Option Addr}{x:IV}(h:IX w p ao n cap r q x v)(y:Int):IX w p ao n cap r q {x with h:=y} (v.setCell ⟨q,5,none⟩ (.int .i64 y)):=h.set _ _ _ rfl
theorem IX.below{w v v':World}{p n cap r q:Nat}{ao:Option Addr}{x:IV}(h:IX w p ao n cap r q x v)(f:Below v.heap.size v v'):IX w p ao n cap r q x v':=h.fw (.of_below f) (h.K.below f)
theorem l1SpoilIns_any(p:Nat)(ao:Option Addr)(n cap:Nat)(x:IV)(w:World)(hc:Cur w p ao n cap):
 Calls Tryz.prog 19 #[.pointer (some ⟨p,0,none⟩),.agg x.c] w fun e w'=>∃x:IV,e=.returned (.agg x.c)/\Fw p w w'/\Cur w' p ao n cap:=by
 have lp:=hc.lt;have HC:Hid (Cur w p ao n cap):=hc;clear hc;unfold IV.c;go_enter Tryz.func19,Tryz.ntmps19;go_wp2_with fail;obtain⟨q,hq⟩:∃r,w.heap.size=r:=⟨_,rfl⟩
 obtain⟨u,hu,iu⟩:∃v,(w.alloc (.cells #[.int .i64 x.o,.int .i64 x.d,.int .i64 x.a,.int .i64 x.b,.int .i64 x.i,.int .i64 x.h] 30)).alloc (.cells #[.int .i64 0,.int .i64 0,.int .i64 0,.int .i64 0,.int .i64 0,.int .i64 0] 30)=v/\IX w p ao n cap (q+1) q x v:=by
  refine⟨_,rfl,.of_below (((Below.refl _ _).alloc (Nat.le_refl _) _).alloc (by simp) _),HC.out.below (((Below.refl _ _).alloc (Nat.le_refl _) _).alloc (by simp) _),?_,?_,lp,by omega,by omega,by omega⟩
  ·rw[<-hq]
   have:=hq_new (w.alloc (.cells #[.int .i64 x.o,.int .i64 x.d,.int .i64 x.a,.int .i64 x.b,.int .i64 x.i,.int .i64 x.h] 30)) (.cells #[.int .i64 0,.int .i64 0,.int .i64 0,.int .i64 0,.int .i64 0,.int .i64 0] 30);have e:(w.alloc (.cells #[.int .i64 x.o,.int .i64 x.d,.int .i64 x.a,.int .i64 x.b,.int .i64 x.i,.int .i64 x.h] 30)).heap.size=w.heap.size+1:=by simp
   rw[e]at this;exact this
  ·rw[<-hq]
   exact Ib.below (w:=w.alloc _) (hq_new w _) ((Below.refl _ _).alloc (Nat.le_refl _) _)
 rw[hu];rw[hq];clear hu hq HC;refine(l1Below_any p ao n cap 8 _ (by omega) iu.K).mono ?_;rintro e w1⟨k,rfl,k0,k1,f,c⟩;have I1:Hid (IX w p ao n cap (q+1) q x w1):=iu.fw f c;clear iu f c;have fin:∀{x:IV}{v:World},IX w p ao n cap (q+1) q x v->∀v0 v1 v2 v3 v4 v5,Fw p w ((((((v.setCell ⟨q+1,0,none⟩ v0).setCell ⟨q+1,1,none⟩ v1).setCell ⟨q+1,2,none⟩ v2).setCell ⟨q+1,3,none⟩ v3).setCell ⟨q+1,4,none⟩ v4).setCell ⟨q+1,5,none⟩ v5)/\Cur ((((((v.setCell ⟨q+1,0,none⟩ v0).setCell ⟨q+1,1,none⟩ v1).setCell ⟨q+1,2,none⟩ v2).setCell ⟨q+1,3,none⟩ v3).setCell ⟨q+1,4,none⟩ v4).setCell ⟨q+1,5,none⟩ v5) p ao n cap:=fun h v0 v1 v2 v3 v4 v5=>by
  have hr:=h.wr;have hp:p<q+1:=by omega
  exact⟨(((((h.F.put hr _ _).put hr _ _).put hr _ _).put hr _ _).put hr _ _).put hr _ _,(((((h.K.put hp _ _).put hp _ _).put hp _ _).put hp _ _).put hp _ _).put hp _ _⟩
 have FIN:Hid (∀{x:IV}{v:World},IX w p ao n cap (q+1) q x v->∀v0 v1 v2 v3 v4 v5,Fw p w ((((((v.setCell ⟨q+1,0,none⟩ v0).setCell ⟨q+1,1,none⟩ v1).setCell ⟨q+1,2,none⟩ v2).setCell ⟨q+1,3,none⟩ v3).setCell ⟨q+1,4,none⟩ v4).setCell ⟨q+1,5,none⟩ v5)/\Cur ((((((v.setCell ⟨q+1,0,none⟩ v0).setCell ⟨q+1,1,none⟩ v1).setCell ⟨q+1,2,none⟩ v2).setCell ⟨q+1,3,none⟩ v3).setCell ⟨q+1,4,none⟩ v4).setCell ⟨q+1,5,none⟩ v5) p ao n cap):=fin;clear fin;obtain rfl|rfl|rfl|rfl|rfl|rfl|rfl|rfl:k=0∨k=1∨k=2∨k=3∨k=4∨k=5∨k=6∨k=7:=by omega
 ·go_wp2_with fail
  refine(l1Below_any p ao n cap 2 _ (by omega) I1.out.K).mono ?_;rintro e w2⟨z,rfl,z0,z1,f,c⟩;have I2:Hid (IX w p ao n cap (q+1) q x w2):=I1.out.fw f c;clear f c;obtain⟨c0,c1,c2,c3,c4,c5,cf,cl⟩:=I2.out.X.cells;go_upto_region 19 with fail;obtain⟨w3,y,hw3,i3⟩:∃v y,w2.setCell ⟨q,0,none⟩ (.int .i64 (35*z))=v/\IX w p ao n cap (q+1) q y v:=⟨_,_,rfl,I2.out.setO _⟩
  rw[hw3];have FF:=FIN.out i3;have hne:=i3.ne;obtain⟨c0,c1,c2,c3,c4,c5,cf,cl⟩:=i3.X.cells;obtain⟨b0,b1,b2,b3,b4,b5,bf,bl⟩:=i3.R.cells;have FH:Hid (∀v0 v1 v2 v3 v4 v5,Fw p w ((((((w3.setCell ⟨q+1,0,none⟩ v0).setCell ⟨q+1,1,none⟩ v1).setCell ⟨q+1,2,none⟩ v2).setCell ⟨q+1,3,none⟩ v3).setCell ⟨q+1,4,none⟩ v4).setCell ⟨q+1,5,none⟩ v5)/\Cur ((((((w3.setCell ⟨q+1,0,none⟩ v0).setCell ⟨q+1,1,none⟩ v1).setCell ⟨q+1,2,none⟩ v2).setCell ⟨q+1,3,none⟩ v3).setCell ⟨q+1,4,none⟩ v4).setCell ⟨q+1,5,none⟩ v5) p ao n cap):=FF;clear FF hw3 i3 I1 I2;go_wp2_with fail;exact bodyPost_ret (v:=.agg y.c) (by simp[results,Tryz.results19,go_sem,IV.c, *]) rfl ⟨⟨y,rfl⟩,(FH.out _ _ _ _ _ _).1,(FH.out _ _ _ _ _ _).2⟩
 ·obtain⟨c0,c1,c2,c3,c4,c5,cf,cl⟩:=I1.out.X.cells
  go_upto_region 19 with fail;obtain⟨w3,y,hw3,i3⟩:∃v y,w1.setCell ⟨q,1,none⟩ (.int .i64 8)=v/\IX w p ao n cap (q+1) q y v:=⟨_,_,rfl,I1.out.setD _⟩
  rw[hw3];have FF:=FIN.out i3;have hne:=i3.ne;obtain⟨c0,c1,c2,c3,c4,c5,cf,cl⟩:=i3.X.cells;obtain⟨b0,b1,b2,b3,b4,b5,bf,bl⟩:=i3.R.cells;have FH:Hid (∀v0 v1 v2 v3 v4 v5,Fw p w ((((((w3.setCell ⟨q+1,0,none⟩ v0).setCell ⟨q+1,1,none⟩ v1).setCell ⟨q+1,2,none⟩ v2).setCell ⟨q+1,3,none⟩ v3).setCell ⟨q+1,4,none⟩ v4).setCell ⟨q+1,5,none⟩ v5)/\Cur ((((((w3.setCell ⟨q+1,0,none⟩ v0).setCell ⟨q+1,1,none⟩ v1).setCell ⟨q+1,2,none⟩ v2).setCell ⟨q+1,3,none⟩ v3).setCell ⟨q+1,4,none⟩ v4).setCell ⟨q+1,5,none⟩ v5) p ao n cap):=FF;clear FF hw3 i3 I1;go_wp2_with fail;exact bodyPost_ret (v:=.agg y.c) (by simp[results,Tryz.results19,go_sem,IV.c, *]) rfl ⟨⟨y,rfl⟩,(FH.out _ _ _ _ _ _).1,(FH.out _ _ _ _ _ _).2⟩
 ·obtain⟨c0,c1,c2,c3,c4,c5,cf,cl⟩:=I1.out.X.cells
  go_upto_region 19 with fail;obtain⟨w3,y,hw3,i3⟩:∃v y,w1.setCell ⟨q,2,none⟩ (.int .i64 (-1))=v/\IX w p ao n cap (q+1) q y v:=⟨_,_,rfl,I1.out.setA _⟩
  rw[hw3];have FF:=FIN.out i3;have hne:=i3.ne;obtain⟨c0,c1,c2,c3,c4,c5,cf,cl⟩:=i3.X.cells;obtain⟨b0,b1,b2,b3,b4,b5,bf,bl⟩:=i3.R.cells;have FH:Hid (∀v0 v1 v2 v3 v4 v5,Fw p w ((((((w3.setCell ⟨q+1,0,none⟩ v0).setCell ⟨q+1,1,none⟩ v1).setCell ⟨q+1,2,none⟩ v2).setCell ⟨q+1,3,none⟩ v3).setCell ⟨q+1,4,none⟩ v4).setCell ⟨q+1,5,none⟩ v5)/\Cur ((((((w3.setCell ⟨q+1,0,none⟩ v0).setCell ⟨q+1,1,none⟩ v1).setCell ⟨q+1,2,none⟩ v2).setCell ⟨q+1,3,none⟩ v3).setCell ⟨q+1,4,none⟩ v4).setCell ⟨q+1,5,none⟩ v5) p ao n cap):=FF;clear FF hw3 i3 I1;go_wp2_with fail;exact bodyPost_ret (v:=.agg y.c) (by simp[results,Tryz.results19,go_sem,IV.c, *]) rfl ⟨⟨y,rfl⟩,(FH.out _ _ _ _ _ _).1,(FH.out _ _ _ _ _ _).2⟩
 ·obtain⟨c0,c1,c2,c3,c4,c5,cf,cl⟩:=I1.out.X.cells
  go_upto_region 19 with fail;obtain⟨w3,y,hw3,i3⟩:∃v y,w1.setCell ⟨q,3,none⟩ (.int .i64 (wrap64 (x.b+1)))=v/\IX w p ao n cap (q+1) q y v:=⟨_,_,rfl,I1.out.setB _⟩
  rw[hw3];have FF:=FIN.out i3;have hne:=i3.ne;obtain⟨c0,c1,c2,c3,c4,c5,cf,cl⟩:=i3.X.cells;obtain⟨b0,b1,b2,b3,b4,b5,bf,bl⟩:=i3.R.cells;have FH:Hid (∀v0 v1 v2 v3 v4 v5,Fw p w ((((((w3.setCell ⟨q+1,0,none⟩ v0).setCell ⟨q+1,1,none⟩ v1).setCell ⟨q+1,2,none⟩ v2).setCell ⟨q+1,3,none⟩ v3).setCell ⟨q+1,4,none⟩ v4).setCell ⟨q+1,5,none⟩ v5)/\Cur ((((((w3.setCell ⟨q+1,0,none⟩ v0).setCell ⟨q+1,1,none⟩ v1).setCell ⟨q+1,2,none⟩ v2).setCell ⟨q+1,3,none⟩ v3).setCell ⟨q+1,4,none⟩ v4).setCell ⟨q+1,5,none⟩ v5) p ao n cap):=FF;clear FF hw3 i3 I1;go_wp2_with fail;exact bodyPost_ret (v:=.agg y.c) (by simp[results,Tryz.results19,go_sem,IV.c, *]) rfl ⟨⟨y,rfl⟩,(FH.out _ _ _ _ _ _).1,(FH.out _ _ _ _ _ _).2⟩
 ·go_upto_region 12 with fail
  have I0:Hid (IX w p ao n cap (q+1) q x w1.drew):=I1.out.below (Below.refl _ _).drew;obtain⟨c0,c1,c2,c3,c4,c5,cf,cl⟩:=I0.out.X.cells;go_region_with(go_at_call 18;refine(l1Below_any p ao n cap 2 _ (by omega) I0.out.K).mono ?_;rintro e w2⟨z,rfl,z0,z1,f,c⟩;have I2:Hid (IX w p ao n cap (q+1) q x w2):=I0.out.fw f c;obtain⟨d0,d1,d2,d3,d4,d5,df,dl⟩:=I2.out.X.cells);all_goals
   go_upto_region 19 with fail;obtain⟨w3,y,hw3,i3⟩:∃v y,w2.setCell ⟨q,5,none⟩ (.int .i64 (IntKind.i64.wrap (x.h+IntKind.i64.wrap (8*z))))=v/\IX w p ao n cap (q+1) q y v:=⟨_,_,rfl,I2.out.setH _⟩
   rw[hw3];have FF:=FIN.out i3;have hne:=i3.ne;obtain⟨c0,c1,c2,c3,c4,c5,cf,cl⟩:=i3.X.cells;obtain⟨b0,b1,b2,b3,b4,b5,bf,bl⟩:=i3.R.cells;have FH:Hid (∀v0 v1 v2 v3 v4 v5,Fw p w ((((((w3.setCell ⟨q+1,0,none⟩ v0).setCell ⟨q+1,1,none⟩ v1).setCell ⟨q+1,2,none⟩ v2).setCell ⟨q+1,3,none⟩ v3).setCell ⟨q+1,4,none⟩ v4).setCell ⟨q+1,5,none⟩ v5)/\Cur ((((((w3.setCell ⟨q+1,0,none⟩ v0).setCell ⟨q+1,1,none⟩ v1).setCell ⟨q+1,2,none⟩ v2).setCell ⟨q+1,3,none⟩ v3).setCell ⟨q+1,4,none⟩ v4).setCell ⟨q+1,5,none⟩ v5) p ao n cap):=FF;clear FF hw3 i3 I1 I2;go_wp2_with fail;exact bodyPost_ret (v:=.agg y.c) (by simp[results,Tryz.results19,go_sem,IV.c, *]) rfl ⟨⟨y,rfl⟩,(FH.out _ _ _ _ _ _).1,(FH.out _ _ _ _ _ _).2⟩
 ·obtain⟨c0,c1,c2,c3,c4,c5,cf,cl⟩:=I1.out.X.cells
  go_upto_region 19 with fail;obtain⟨w3,y,hw3,i3⟩:∃v y,w1.setCell ⟨q,4,none⟩ (.int .i64 1000001)=v/\IX w p ao n cap (q+1) q y v:=⟨_,_,rfl,I1.out.setI _⟩
  rw[hw3];have FF:=FIN.out i3;have hne:=i3.ne;obtain⟨c0,c1,c2,c3,c4,c5,cf,cl⟩:=i3.X.cells;obtain⟨b0,b1,b2,b3,b4,b5,bf,bl⟩:=i3.R.cells;have FH:Hid (∀v0 v1 v2 v3 v4 v5,Fw p w ((((((w3.setCell ⟨q+1,0,none⟩ v0).setCell ⟨q+1,1,none⟩ v1).setCell ⟨q+1,2,none⟩ v2).setCell ⟨q+1,3,none⟩ v3).setCell ⟨q+1,4,none⟩ v4).setCell ⟨q+1,5,none⟩ v5)/\Cur ((((((w3.setCell ⟨q+1,0,none⟩ v0).setCell ⟨q+1,1,none⟩ v1).setCell ⟨q+1,2,none⟩ v2).setCell ⟨q+1,3,none⟩ v3).setCell ⟨q+1,4,none⟩ v4).setCell ⟨q+1,5,none⟩ v5) p ao n cap):=FF;clear FF hw3 i3 I1;go_wp2_with fail;exact bodyPost_ret (v:=.agg y.c) (by simp[results,Tryz.results19,go_sem,IV.c, *]) rfl ⟨⟨y,rfl⟩,(FH.out _ _ _ _ _ _).1,(FH.out _ _ _ _ _ _).2⟩
 ·obtain⟨c0,c1,c2,c3,c4,c5,cf,cl⟩:=I1.out.X.cells
  go_upto_region 19 with fail;obtain⟨w3,y,hw3,i3⟩:∃v y,w1.setCell ⟨q,4,none⟩ (.int .i64 (wrap64 (wrap64 (-x.i)-1)))=v/\IX w p ao n cap (q+1) q y v:=⟨_,_,rfl,I1.out.setI _⟩
  rw[hw3];have FF:=FIN.out i3;have hne:=i3.ne;obtain⟨c0,c1,c2,c3,c4,c5,cf,cl⟩:=i3.X.cells;obtain⟨b0,b1,b2,b3,b4,b5,bf,bl⟩:=i3.R.cells;have FH:Hid (∀v0 v1 v2 v3 v4 v5,Fw p w ((((((w3.setCell ⟨q+1,0,none⟩ v0).setCell ⟨q+1,1,none⟩ v1).setCell ⟨q+1,2,none⟩ v2).setCell ⟨q+1,3,none⟩ v3).setCell ⟨q+1,4,none⟩ v4).setCell ⟨q+1,5,none⟩ v5)/\Cur ((((((w3.setCell ⟨q+1,0,none⟩ v0).setCell ⟨q+1,1,none⟩ v1).setCell ⟨q+1,2,none⟩ v2).setCell ⟨q+1,3,none⟩ v3).setCell ⟨q+1,4,none⟩ v4).setCell ⟨q+1,5,none⟩ v5) p ao n cap):=FF;clear FF hw3 i3 I1;go_wp2_with fail;exact bodyPost_ret (v:=.agg y.c) (by simp[results,Tryz.results19,go_sem,IV.c, *]) rfl ⟨⟨y,rfl⟩,(FH.out _ _ _ _ _ _).1,(FH.out _ _ _ _ _ _).2⟩
 ·go_wp2_with fail
  refine(l1Below_any p ao n cap 2 _ (by omega) I1.out.K).mono ?_;rintro e w2⟨z,rfl,z0,z1,f,c⟩;have I2:Hid (IX w p ao n cap (q+1) q x w2):=I1.out.fw f c;clear f c;obtain⟨c0,c1,c2,c3,c4,c5,cf,cl⟩:=I2.out.X.cells;go_upto_region 19 with fail;obtain⟨w3,y,hw3,i3⟩:∃v y,w2.setCell ⟨q,4,none⟩ (.int .i64 (1999+z))=v/\IX w p ao n cap (q+1) q y v:=⟨_,_,rfl,I2.out.setI _⟩
  rw[hw3];have FF:=FIN.out i3;have hne:=i3.ne;obtain⟨c0,c1,c2,c3,c4,c5,cf,cl⟩:=i3.X.cells;obtain⟨b0,b1,b2,b3,b4,b5,bf,bl⟩:=i3.R.cells;have FH:Hid (∀v0 v1 v2 v3 v4 v5,Fw p w ((((((w3.setCell ⟨q+1,0,none⟩ v0).setCell ⟨q+1,1,none⟩ v1).setCell ⟨q+1,2,none⟩ v2).setCell ⟨q+1,3,none⟩ v3).setCell ⟨q+1,4,none⟩ v4).setCell ⟨q+1,5,none⟩ v5)/\Cur ((((((w3.setCell ⟨q+1,0,none⟩ v0).setCell ⟨q+1,1,none⟩ v1).setCell ⟨q+1,2,none⟩ v2).setCell ⟨q+1,3,none⟩ v3).setCell ⟨q+1,4,none⟩ v4).setCell ⟨q+1,5,none⟩ v5) p ao n cap):=FF;clear FF hw3 i3 I1 I2;go_wp2_with fail;exact bodyPost_ret (v:=.agg y.c) (by simp[results,Tryz.results19,go_sem,IV.c, *]) rfl ⟨⟨y,rfl⟩,(FH.out _ _ _ _ _ _).1,(FH.out _ _ _ _ _ _).2⟩
end Go.Proofs.YtbahofiiaodpdaaGreat
namespace Go.Proofs.YtbahofiiaodpdaaGreat
open Go.RowKit Go.Deep
def zSig:Array Value:=#[.slice none 0 0,.slice none 0 0]
def zAbs:Array Value:=#[.slice none 0 0,.int .i64 0,.int .i64 0]
def zIns:Array Value:=#[.int .i64 0,.int .i64 0,.int .i64 0,.int .i64 0,.int .i64 0,.int .i64 0]
structure DT(w:World)(p:Nat)(ao:Option Addr)(n cap r qs qa qx bH cH nH:Nat)(S:Nat->HS)(bR cR nR:Nat)(V0:Nat->VV)(bA cA:Nat)(V:Nat->VV)(z c:Int)(x:IV)(u:World):Prop where
 K:Cur u p ao n cap
 bel:Below w.heap.size w u
 Z2:u.heap[r]?=some (.cells zSig 26)
 Z3:u.heap[r+1]?=some (.cells zAbs 28)
 Z4:u.heap[r+1+1]?=some (.cells zIns 30)
 QS:u.heap[qs]?=some (.cells #[.slice (some ⟨bH,0,none⟩) nH cH,.slice (some ⟨bR,0,none⟩) nR cR] 26)
 QA:u.heap[qa]?=some (.cells #[.slice (some ⟨bA,0,none⟩) 8 cA,.int .i64 z,.int .i64 c] 28)
 QX:Ib u qx x
 G:SigCp u bH nH S bR nR V0
 A:Arr u bA (8*6) (vF V)
 o1:w.heap.size<=r
 o2:r+1+1<p
 o3:p<bH
 o4:p<bR
 o5:bH≠bR
 o6:bH<qs
 o7:bR<qs
 o8:qs<bA
 o9:bA<qa
 oA:qa<qx
section
variable{w:World}{p:Nat}{ao:Option Addr}{n cap r qs qa qx bH cH nH:Nat}{S:Nat->HS}{bR cR nR:Nat}{V0:Nat->VV}{bA cA:Nat}{V:Nat->VV}{z c:Int}{x:IV}{u u':World}
theorem DT.fw(h:DT w p ao n cap r qs qa qx bH cH nH S bR cR nR V0 bA cA V z c x u)(f:Fw p u u')(k:Cur u' p ao n cap):DT w p ao n cap r qs qa qx bH cH nH S bR cR nR V0 bA cA V z c x u':=by
 have q1:=h.o1;have q2:=h.o2;have q3:=h.o3;have q4:=h.o4;have q6:=h.o6;have q8:=h.o8;have q9:=h.o9;have qA:=h.oA;have hs:=h.bel.size;exact⟨k,f.below h.bel (by omega) hs,hq_fw h.Z2 f (by omega),hq_fw h.Z3 f (by omega),hq_fw h.Z4 f (by omega),hq_fw h.QS f (by omega),hq_fw h.QA f (by omega),h.QX.fw f (by omega),⟨f.arr h.G.h (by omega),f.arr h.G.r (by omega)⟩,f.arr h.A (by omega),q1,q2,q3,q4,h.o5,q6,h.o7,q8,q9,qA⟩
theorem DT.put(h:DT w p ao n cap r qs qa qx bH cH nH S bR cR nR V0 bA cA V z c x u)(j:Nat)(v:Value)(y:IV)(hy:x.c.setIfInBounds j v=y.c):DT w p ao n cap r qs qa qx bH cH nH S bR cR nR V0 bA cA V z c y (u.setCell ⟨qx,j,none⟩ v):=by
 have q1:=h.o1;have q2:=h.o2;have q3:=h.o3;have q4:=h.o4;have q6:=h.o6;have q7:=h.o7;have q8:=h.o8;have q9:=h.o9;have qA:=h.oA;exact⟨h.K.put (by omega) _ _,h.bel.setCell (p:=⟨qx,j,none⟩) (show w.heap.size<=qx by omega) _,hq_other h.Z2 (by omega) _ _,hq_other h.Z3 (by omega) _ _,hq_other h.Z4 (by omega) _ _,hq_other h.QS (by omega) _ _,hq_other h.QA (by omega) _ _,by unfold Ib;rw[<-hy];exact hq_set h.QX j v,⟨h.G.h.other (a:=⟨qx,j,none⟩) (show qx≠bH by omega) _,h.G.r.other (a:=⟨qx,j,none⟩) (show qx≠bR by omega) _⟩,h.A.other (a:=⟨qx,j,none⟩) (show qx≠bA by omega) _,q1,q2,q3,q4,h.o5,q6,q7,q8,q9,qA⟩
def setI(u:World)(q:Nat)(y:IV):World:=(((((u.setCell ⟨q,0,none⟩ (.int .i64 y.o)).setCell ⟨q,1,none⟩ (.int .i64 y.d)).setCell ⟨q,2,none⟩ (.int .i64 y.a)).setCell ⟨q,3,none⟩ (.int .i64 y.b)).setCell ⟨q,4,none⟩ (.int .i64 y.i)).setCell ⟨q,5,none⟩ (.int .i64 y.h)
theorem DT.setX(h:DT w p ao n cap r qs qa qx bH cH nH S bR cR nR V0 bA cA V z c x u)(y:IV):DT w p ao n cap r qs qa qx bH cH nH S bR cR nR V0 bA cA V z c y (setI u qx y):=
 (((((h.put 0 _ {x with o:=y.o} rfl).put 1 _ {x with o:=y.o,d:=y.d} rfl).put 2 _ {x with o:=y.o,d:=y.d,a:=y.a} rfl).put 3 _ {x with o:=y.o,d:=y.d,a:=y.a,b:=y.b} rfl).put 4 _ {x with o:=y.o,d:=y.d,a:=y.a,b:=y.b,i:=y.i} rfl).put 5 _ y rfl
theorem DT.f3(h:DT w p ao n cap r qs qa qx bH cH nH S bR cR nR V0 bA cA V z c x u)(f:F3 p bH bR u u')(k:Cur u' p ao n cap){S':Nat->HS}{nR':Nat}{V0':Nat->VV}(g:SigCp u' bH nH S' bR nR' V0'):DT w p ao n cap r qs qa qx bH cH nH S' bR cR nR' V0' bA cA V z c x ((u'.setCell ⟨qs,0,none⟩ (.slice (some ⟨bH,0,none⟩) nH cH)).setCell ⟨qs,1,none⟩ (.slice (some ⟨bR,0,none⟩) nR' cR)):=by
 have q1:=h.o1;have q2:=h.o2;have q3:=h.o3;have q4:=h.o4;have q6:=h.o6;have q7:=h.o7;have q8:=h.o8;have q9:=h.o9;have qA:=h.oA;have b:∀{i:Nat}{o:Obj},u.heap[i]?=some o->i≠p->i≠bH->i≠bR->u'.heap[i]?=some o:=fun hx h1 h2 h3=>(f.block _ (hq_lt hx) h1 h2 h3).trans hx
 have z:∀{i:Nat}{o:Obj},u'.heap[i]?=some o->i≠qs->((u'.setCell ⟨qs,0,none⟩ (.slice (some ⟨bH,0,none⟩) nH cH)).setCell ⟨qs,1,none⟩ (.slice (some ⟨bR,0,none⟩) nR' cR)).heap[i]?=some o:=fun hx hn=>hq_other (hq_other hx hn _ _) hn _ _
 have hb:Below w.heap.size w u':=by
  refine⟨f.os.trans h.bel.os,f.tape.trans h.bel.tape,f.output.trans h.bel.output,Nat.le_trans h.bel.size f.size,fun i hi=>?_⟩;exact(f.block i (Nat.lt_of_lt_of_le hi h.bel.size) (by omega) (by omega) (by omega)).trans (h.bel.block i hi)
 exact⟨(k.put (by omega) _ _).put (by omega) _ _,(hb.setCell (p:=⟨qs,0,none⟩) (show w.heap.size<=qs by omega) _).setCell (p:=⟨qs,1,none⟩) (show w.heap.size<=qs by omega) _,z (b h.Z2 (by omega) (by omega) (by omega)) (by omega),z (b h.Z3 (by omega) (by omega) (by omega)) (by omega),z (b h.Z4 (by omega) (by omega) (by omega)) (by omega),(hq_set (hq_set (b h.QS (by omega) (by omega) (by omega)) 0 _) 1 _).trans rfl,z (b h.QA (by omega) (by omega) (by omega)) (by omega),z (b h.QX (by omega) (by omega) (by omega)) (by omega),⟨(g.h.other (a:=⟨qs,0,none⟩) (show qs≠bH by omega) _).other (a:=⟨qs,1,none⟩) (show qs≠bH by omega) _,(g.r.other (a:=⟨qs,0,none⟩) (show qs≠bR by omega) _).other (a:=⟨qs,1,none⟩) (show qs≠bR by omega) _⟩,((f.arr h.A (by omega) (by omega) (by omega)).other (a:=⟨qs,0,none⟩) (show qs≠bA by omega) _).other (a:=⟨qs,1,none⟩) (show qs≠bA by omega) _,q1,q2,q3,q4,h.o5,q6,q7,q8,q9,qA⟩
theorem DT.cs(h:DT w p ao n cap r qs qa qx bH cH nH S bR cR nR V0 bA cA V z c x u):u.cell? ⟨qs,0,none⟩=some (.slice (some ⟨bH,0,none⟩) nH cH)/\u.cell? ⟨qs,1,none⟩=some (.slice (some ⟨bR,0,none⟩) nR cR)/\(∀i,u.frozen? ⟨qs,i,none⟩=false)/\qs<u.heap.size:=⟨(hq_cell h.QS 0).trans rfl,(hq_cell h.QS 1).trans rfl,hq_free h.QS,hq_lt h.QS⟩
theorem DT.ca(h:DT w p ao n cap r qs qa qx bH cH nH S bR cR nR V0 bA cA V z c x u):u.cell? ⟨qa,0,none⟩=some (.slice (some ⟨bA,0,none⟩) 8 cA)/\u.cell? ⟨qa,1,none⟩=some (.int .i64 z)/\u.cell? ⟨qa,2,none⟩=some (.int .i64 c)/\qa<u.heap.size:=⟨(hq_cell h.QA 0).trans rfl,(hq_cell h.QA 1).trans rfl,(hq_cell h.QA 2).trans rfl,hq_lt h.QA⟩
end
def SO(qs qa qx bH cH nH bR cR nR bA cA:Nat)(z c:Int)(x:IV)(u:World):Prop:=
 u.heap[qs]?=some (.cells #[.slice (some ⟨bH,0,none⟩) nH cH,.slice (some ⟨bR,0,none⟩) nR cR] 26)/\u.heap[qa]?=some (.cells #[.slice (some ⟨bA,0,none⟩) 8 cA,.int .i64 z,.int .i64 c] 28)/\Ib u qx x
def DtR(w:World)(e:Ending)(w':World):Prop:=
 ∃(bH cH nH:Nat)(S:Nat->HS)(bR cR nR:Nat)(V0:Nat->VV)(bA cA:Nat)(V:Nat->VV)(z c:Int)(x:IV),e=.returned (.tuple #[.agg #[.slice (some ⟨bH,0,none⟩) nH cH,.slice (some ⟨bR,0,none⟩) nR cR],.agg #[.slice (some ⟨bA,0,none⟩) 8 cA,.int .i64 z,.int .i64 c],.agg x.c])/\nH<=4/\nR<=8/\SigCp w' bH nH S bR nR V0/\Arr w' bA (8*6) (vF V)/\Below w.heap.size w w'
theorem DrawTransfer_any(ao:Option Addr)(n cap:Nat)(w:World)(hn:n<=1048576)(hr:Bytes0 w w.heap.size ao n):
 Calls Tryz.prog 4 #[.slice ao n cap] w (DtR w):=by
 have HR:Hid (Bytes0 w w.heap.size ao n):=hr
 clear hr
 go_enter Tryz.func4,Tryz.ntmps4
 go_upto_region 1 with fail
 obtain⟨u0,hu0,b0,z2,z3,z4⟩:∃y,((w.alloc (.cells #[.slice none 0 0,.slice none 0 0] 26)).alloc (.cells #[.slice none 0 0,.int .i64 0,.int .i64 0] 28)).alloc (.cells #[.int .i64 0,.int .i64 0,.int .i64 0,.int .i64 0,.int .i64 0,.int .i64 0] 30)=y/\Below w.heap.size w y/\y.heap[w.heap.size]?=some (.cells zSig 26)/\y.heap[w.heap.size+1]?=some (.cells zAbs 28)/\y.heap[w.heap.size+1+1]?=some (.cells zIns 30):=by
  generalize ha:w.alloc (.cells #[.slice none 0 0,.slice none 0 0] 26)=a
  have sa:a.heap.size=w.heap.size+1:=by rw[<-ha];simp
  have ea:a.heap[w.heap.size]?=some (.cells zSig 26):=by rw[<-ha];exact hq_new _ _
  have ba:Below w.heap.size w a:=by rw[<-ha];exact(Below.refl _ _).alloc (Nat.le_refl _) _
  generalize hb:a.alloc (.cells #[.slice none 0 0,.int .i64 0,.int .i64 0] 28)=b
  have sb:b.heap.size=w.heap.size+1+1:=by rw[<-hb];simp[sa]
  have bb:Below a.heap.size a b:=by rw[<-hb];exact(Below.refl _ _).alloc (Nat.le_refl _) _
  have eb:b.heap[w.heap.size+1]?=some (.cells zAbs 28):=by rw[<-hb,<-sa];exact hq_new _ _
  have bc:Below b.heap.size b (b.alloc (.cells #[.int .i64 0,.int .i64 0,.int .i64 0,.int .i64 0,.int .i64 0,.int .i64 0] 30)):=(Below.refl _ _).alloc (Nat.le_refl _) _
  exact⟨_,rfl,(ba.trans (bb.mono ba.size)).trans (bc.mono (by omega)),hq_below (hq_below ea bb) bc,hq_below eb bc,by rw[<-sb];exact hq_new _ _⟩
 rw[hu0]
 obtain⟨r,hrr⟩:∃y,w.heap.size=y:=⟨_,rfl⟩
 have hrw:w.heap.size<=r:=by omega
 have hb0:Bytes0 u0 u0.heap.size ao n:=by
  rcases HR.out with h|⟨b,off,h1,h2,h3⟩
  ·exact .inl h
  ·exact .inr ⟨b,off,h1,Nat.lt_of_lt_of_le h2 b0.size,fun i hi=>by obtain⟨v,q1,q2,q3⟩:=h3 i hi;exact⟨v,q1,q2,(b0.cell (p:=⟨b,off+i,none⟩) h2).trans q3⟩⟩
 have HB0:Hid (Bytes0 u0 u0.heap.size ao n):=hb0
 have B0:Hid (Below w.heap.size w u0):=b0
 rw[hrr]at z2 z3 z4⊢
 have Z0:Hid (u0.heap[r]?=some (.cells zSig 26)/\u0.heap[r+1]?=some (.cells zAbs 28)/\u0.heap[r+1+1]?=some (.cells zIns 30)):=⟨z2,z3,z4⟩
 have zl:r+1+1<u0.heap.size:=hq_lt z4
 clear hu0 b0 z2 z3 z4 hb0 hrr HR
 go_wp2_with fail
 refine(l1New_any ao n cap u0 hn HB0.out).mono ?_
 rintro e u1⟨p,rfl,hp,b1,c1⟩
 have B1:Hid (Below w.heap.size w u1):=B0.out.trans (b1.mono B0.out.size)
 have Z1:Hid (u1.heap[r]?=some (.cells zSig 26)/\u1.heap[r+1]?=some (.cells zAbs 28)/\u1.heap[r+1+1]?=some (.cells zIns 30)):=⟨hq_below Z0.out.1 b1,hq_below Z0.out.2.1 b1,hq_below Z0.out.2.2 b1⟩
 have C1:Hid (Cur u1 p ao n cap):=c1
 have rp:r+1+1<p:=by omega
 have lp1:p<u1.heap.size:=c1.lt
 have wp1:w.heap.size<=u1.heap.size:=B1.out.size
 clear b1 c1 Z0 B0 HB0
 go_wp2_with fail
 refine(l4DrawSig_any p ao n cap u1 C1.out).mono ?_
 rintro e u2⟨bH,cH,nH,S,bR,cR,V0,rfl,n1,n4,g2,_,gH,gR,f2,c2,hcR,hne⟩
 have F2:Hid (Fw p u1 u2):=f2
 have C2:Hid (Cur u2 p ao n cap):=c2
 have G2:Hid (SigCp u2 bH nH S bR 8 V0):=g2
 clear f2 c2 g2
 go_upto_region 3 with fail
 obtain⟨u3,hu3,b3,q3⟩:∃y,u2.alloc (.cells #[.slice (some ⟨bH,0,none⟩) nH cH,.slice (some ⟨bR,0,none⟩) 8 cR] 26)=y/\Below u2.heap.size u2 y/\y.heap[u2.heap.size]?=some (.cells #[.slice (some ⟨bH,0,none⟩) nH cH,.slice (some ⟨bR,0,none⟩) 8 cR] 26):=⟨_,rfl,(Below.refl _ _).alloc (Nat.le_refl _) _,hq_new _ _⟩
 rw[hu3]
 have l2H:bH<u2.heap.size:=G2.out.h.lt
 have l2R:bR<u2.heap.size:=G2.out.r.lt
 have F3':Hid (Fw p u1 u3):=F2.out.trans (.of_below b3)
 have C3:Hid (Cur u3 p ao n cap):=C2.out.below b3
 have G3:Hid (SigCp u3 bH nH S bR 8 V0):=G2.out.below b3
 obtain⟨qs,hqs⟩:∃y,u2.heap.size=y:=⟨_,rfl⟩
 rw[hqs]at q3 l2H l2R
 rw[hqs]
 have Q3:Hid (u3.heap[qs]?=some (.cells #[.slice (some ⟨bH,0,none⟩) nH cH,.slice (some ⟨bR,0,none⟩) 8 cR] 26)):=q3
 have lqs:qs<u3.heap.size:=hq_lt q3
 have x0:=(hq_cell q3 0).trans rfl
 have x1:=(hq_cell q3 1).trans rfl
 clear hu3 b3 q3 hqs F2 C2 G2
 go_wp2_with fail
 refine(l4DrawAbs_any p ao n cap bH cH nH (.slice (some ⟨bR,0,none⟩) 8 cR) u3 C3.out n1 n4).mono ?_
 rintro e u4⟨bA,cA,V,z,c,rfl,a4,gA,f4,c4⟩
 have F4:Hid (Fw p u1 u4):=F3'.out.trans f4
 have C4:Hid (Cur u4 p ao n cap):=c4
 have G4:Hid (SigCp u4 bH nH S bR 8 V0):=⟨f4.arr G3.out.h (by omega),f4.arr G3.out.r (by omega)⟩
 have Q4:Hid (u4.heap[qs]?=some (.cells #[.slice (some ⟨bH,0,none⟩) nH cH,.slice (some ⟨bR,0,none⟩) 8 cR] 26)):=hq_fw Q3.out f4 (by omega)
 have A4:Hid (Arr u4 bA (8*6) (vF V)):=a4
 clear f4 c4 a4 F3' C3 G3 Q3 x0 x1
 go_upto_region 4 with fail
 obtain⟨u5,hu5,b5,q5⟩:∃y,u4.alloc (.cells #[.slice (some ⟨bA,0,none⟩) 8 cA,.int .i64 z,.int .i64 c] 28)=y/\Below u4.heap.size u4 y/\y.heap[u4.heap.size]?=some (.cells #[.slice (some ⟨bA,0,none⟩) 8 cA,.int .i64 z,.int .i64 c] 28):=⟨_,rfl,(Below.refl _ _).alloc (Nat.le_refl _) _,hq_new _ _⟩
 rw[hu5]
 have l4A:bA<u4.heap.size:=A4.out.lt
 have F5:Hid (Fw p u1 u5):=F4.out.trans (.of_below b5)
 have C5:Hid (Cur u5 p ao n cap):=C4.out.below b5
 have G5:Hid (SigCp u5 bH nH S bR 8 V0):=G4.out.below b5
 have Q5:Hid (u5.heap[qs]?=some (.cells #[.slice (some ⟨bH,0,none⟩) nH cH,.slice (some ⟨bR,0,none⟩) 8 cR] 26)):=hq_below Q4.out b5
 have A5:Hid (Arr u5 bA (8*6) (vF V)):=A4.out.below b5 A4.out.lt
 obtain⟨qa,hqa⟩:∃y,u4.heap.size=y:=⟨_,rfl⟩
 rw[hqa]at q5 l4A
 rw[hqa]
 have T5:Hid (u5.heap[qa]?=some (.cells #[.slice (some ⟨bA,0,none⟩) 8 cA,.int .i64 z,.int .i64 c] 28)):=q5
 have lqa:qa<u5.heap.size:=hq_lt q5
 clear hu5 b5 q5 hqa F4 C4 G4 Q4 A4
 go_wp2_with fail
 refine(l1DrawIns_any p ao n cap 1 28 u5 (by omega) (by omega) (by omega) C5.out).mono ?_
 rintro e u6⟨x,rfl,_,f6,c6⟩
 have F6:Hid (Fw p u1 u6):=F5.out.trans f6
 have C6:Hid (Cur u6 p ao n cap):=c6
 have G6:Hid (SigCp u6 bH nH S bR 8 V0):=⟨f6.arr G5.out.h (by omega),f6.arr G5.out.r (by omega)⟩
 have Q6:Hid (u6.heap[qs]?=some (.cells #[.slice (some ⟨bH,0,none⟩) nH cH,.slice (some ⟨bR,0,none⟩) 8 cR] 26)):=hq_fw Q5.out f6 (by omega)
 have A6:Hid (Arr u6 bA (8*6) (vF V)):=f6.arr A5.out (by omega)
 have T6:Hid (u6.heap[qa]?=some (.cells #[.slice (some ⟨bA,0,none⟩) 8 cA,.int .i64 z,.int .i64 c] 28)):=hq_fw T5.out f6 (by omega)
 have lq6:qa<u6.heap.size:=hq_lt T6.out
 clear f6 c6 F5 C5 G5 Q5 A5 T5
 unfold IV.c
 go_upto_region 5 with fail
 obtain⟨u7,hu7,d7⟩:∃y,u6.alloc (.cells #[.int .i64 x.o,.int .i64 x.d,.int .i64 x.a,.int .i64 x.b,.int .i64 x.i,.int .i64 x.h] 30)=y/\DT w p ao n cap r qs qa u6.heap.size bH cH nH S bR cR 8 V0 bA cA V z c x y:=by
  have b:Below u6.heap.size u6 (u6.alloc (.cells #[.int .i64 x.o,.int .i64 x.d,.int .i64 x.a,.int .i64 x.b,.int .i64 x.i,.int .i64 x.h] 30)):=(Below.refl _ _).alloc (Nat.le_refl _) _
  have bw:=F6.out.below B1.out (by omega) wp1
  exact⟨_,rfl,C6.out.below b,bw.trans (b.mono bw.size),hq_below (hq_fw Z1.out.1 F6.out (by omega)) b,hq_below (hq_fw Z1.out.2.1 F6.out (by omega)) b,hq_below (hq_fw Z1.out.2.2 F6.out (by omega)) b,hq_below Q6.out b,hq_below T6.out b,hq_new _ _,G6.out.below b,A6.out.below b A6.out.lt,hrw,rp,by omega,by omega,hne,l2H,l2R,by omega,l4A,lq6⟩
 rw[hu7]
 obtain⟨qx,hqx⟩:∃y,u6.heap.size=y:=⟨_,rfl⟩
 rw[hqx]at d7
 rw[hqx]
 have D7:Hid (DT w p ao n cap r qs qa qx bH cH nH S bR cR 8 V0 bA cA V z c x u7):=d7
 clear hu7 d7 hqx F6 C6 G6 Q6 A6 T6 B1 Z1 C1 lqs lqa lq6 l4A
 go_wp2_with fail
 refine(l1Once_any p ao n cap 3 _ (by omega) D7.out.K).mono ?_
 rintro e u8⟨b1,rfl,f,k⟩
 have D8:Hid (DT w p ao n cap r qs qa qx bH cH nH S bR cR 8 V0 bA cA V z c x u8):=D7.out.fw f k
 clear f k D7
 go_upto_if 20 with fail
 go_cut [](fun wx=>∃x,DT w p ao n cap r qs qa qx bH cH nH S bR cR 8 V0 bA cA V z c x wx)
 case first=>
  cases b1 with
  |false=>
   go_wp2_with fail
   go_meet
   exact⟨x,D8.out⟩
  |true=>
   obtain⟨a0,a1,a2,al⟩:=D8.out.ca
   go_wp2_with fail
   refine(l4DrawMemory_any p ao n cap bA cA V z c _ D8.out.K D8.out.A (by have:=D8.out.o3;have:=D8.out.o6;have:=D8.out.o8;omega)).mono ?_
   rintro e u9⟨y,rfl,f,k⟩
   have D9:Hid (DT w p ao n cap r qs qa qx bH cH nH S bR cR 8 V0 bA cA V z c x u9):=D8.out.fw f k
   clear f k D8 a0 a1 a2 al
   unfold IV.c
   obtain⟨i0,i1,i2,i3,i4,i5,jf,jl⟩:=D9.out.QX.cells
   go_wp2_with fail
   go_meet
   exact⟨y,D9.out.setX y⟩
 case rest=>
 clear D8
 obtain⟨x,d9⟩:=hcut
 generalize wc=u9 at *
 have D9:Hid (DT w p ao n cap r qs qa qx bH cH nH S bR cR 8 V0 bA cA V z c x u9):=d9
 clear d9
 go_wp2_with fail
 refine(l1Below_any p ao n cap 30 _ (by omega) D9.out.K).mono ?_
 rintro e u10⟨k,rfl,k0,k1,f,k'⟩
 have D10:Hid (DT w p ao n cap r qs qa qx bH cH nH S bR cR 8 V0 bA cA V z c x u10):=D9.out.fw f k'
 clear f k' D9
 obtain⟨t0,ht0⟩:∃b:Bool,(k==0)=b:=⟨_,rfl⟩
 obtain⟨t1,ht1⟩:∃b:Bool,(k==1)=b:=⟨_,rfl⟩
 obtain⟨t2,ht2⟩:∃b:Bool,(k==2)=b:=⟨_,rfl⟩
 go_upto_if 27 with fail
 go_cut [](fun wx=>∃x,DT w p ao n cap r qs qa qx bH cH nH S bR cR 8 V0 bA cA V z c x wx)
 case first=>
  cases t0 with
  |false=>
   go_wp2_with fail
   go_meet
   exact⟨x,D10.out⟩
  |true=>
   obtain⟨i0,i1,i2,i3,i4,i5,jf,jl⟩:=D10.out.QX.cells
   go_wp2_with fail
   refine(l1SpoilIns_any p ao n cap x _ D10.out.K).mono ?_
   rintro e u11⟨y,rfl,f,k'⟩
   have D11:Hid (DT w p ao n cap r qs qa qx bH cH nH S bR cR 8 V0 bA cA V z c x u11):=D10.out.fw f k'
   clear f k' D10 i0 i1 i2 i3 i4 i5 jf jl
   unfold IV.c
   obtain⟨i0,i1,i2,i3,i4,i5,jf,jl⟩:=D11.out.QX.cells
   go_wp2_with fail
   go_meet
   exact⟨y,D11.out.setX y⟩
 case rest=>
 clear D10
 obtain⟨x,d11⟩:=hcut
 generalize wc=u11 at *
 have D11:Hid (DT w p ao n cap r qs qa qx bH cH nH S bR cR 8 V0 bA cA V z c x u11):=d11
 clear d11
 go_upto_if 32 with fail
 go_cut [](fun wx=>∃x,DT w p ao n cap r qs qa qx bH cH nH S bR cR 8 V0 bA cA V z c x wx)
 case first=>
  cases t1 with
  |false=>
   go_wp2_with fail
   go_meet
   exact⟨x,D11.out⟩
  |true=>
   obtain⟨i0,i1,i2,i3,i4,i5,jf,jl⟩:=D11.out.QX.cells
   go_wp2_with fail
   go_meet
   exact⟨⟨29,0,0,0,0,0⟩,D11.out.setX ⟨29,0,0,0,0,0⟩⟩
 case rest=>
 clear D11
 obtain⟨x,d12⟩:=hcut
 generalize wc=u12 at *
 have D12:Hid (DT w p ao n cap r qs qa qx bH cH nH S bR cR 8 V0 bA cA V z c x u12):=d12
 clear d12
 go_upto_if 35 with fail
 go_cut [](fun wx=>∃S nR V0,nR<=8/\DT w p ao n cap r qs qa qx bH cH nH S bR cR nR V0 bA cA V z c x wx)
 case first=>
  cases t2 with
  |false=>
   go_wp2_with fail
   go_meet
   exact⟨S,8,V0,Nat.le_refl _,D12.out⟩
  |true=>
   obtain⟨s0,s1,sf,sl⟩:=D12.out.cs
   go_wp2_with fail
   refine(l4SpoilSig_any p ao n cap bH cH nH S bR cR V0 _ D12.out.K D12.out.G n1 n4 hcR D12.out.o3 D12.out.o4 D12.out.o5).mono ?_
   rintro e u13⟨S',nR,V0',rfl,hn8,g,f,k'⟩
   have E13:Hid (DT w p ao n cap r qs qa qx bH cH nH S' bR cR nR V0' bA cA V z c x ((u13.setCell ⟨qs,0,none⟩ (.slice (some ⟨bH,0,none⟩) nH cH)).setCell ⟨qs,1,none⟩ (.slice (some ⟨bR,0,none⟩) nR cR))):=D12.out.f3 f k' g
   have hq13:=(f.block qs sl (by have:=D12.out.o3;have:=D12.out.o6;omega) (by have:=D12.out.o6;omega) (by have:=D12.out.o7;omega)).trans D12.out.QS
   clear f k' g D12 s0 s1 sf sl
   have s0:=(hq_cell hq13 0).trans rfl
   have s1:=(hq_cell hq13 1).trans rfl
   have sf:=hq_free hq13
   have sl:=hq_lt hq13
   clear hq13
   go_wp2_with fail
   go_meet
   exact⟨S',nR,V0',hn8,E13.out⟩
 case rest=>
 clear D12 hcR hne ht0 ht1 ht2
 obtain⟨S,nR,V0,hn8,d13⟩:=hcut
 generalize wc=u13 at *
 have D13:Hid (DT w p ao n cap r qs qa qx bH cH nH S bR cR nR V0 bA cA V z c x u13):=d13
 clear d13
 go_upto_region 14 with fail
 have s0:∀w',SO qs qa qx bH cH nH bR cR nR bA cA z c x w'->w'.cell? ⟨qs,0,none⟩=some (.slice (some ⟨bH,0,none⟩) nH cH):=fun w' h=>(hq_cell h.1 0).trans rfl
 have s1:∀w',SO qs qa qx bH cH nH bR cR nR bA cA z c x w'->w'.cell? ⟨qs,1,none⟩=some (.slice (some ⟨bR,0,none⟩) nR cR):=fun w' h=>(hq_cell h.1 1).trans rfl
 have s2:∀w',SO qs qa qx bH cH nH bR cR nR bA cA z c x w'->w'.cell? ⟨qa,0,none⟩=some (.slice (some ⟨bA,0,none⟩) 8 cA):=fun w' h=>(hq_cell h.2.1 0).trans rfl
 have s3:∀w',SO qs qa qx bH cH nH bR cR nR bA cA z c x w'->w'.cell? ⟨qa,1,none⟩=some (.int .i64 z):=fun w' h=>(hq_cell h.2.1 1).trans rfl
 have s4:∀w',SO qs qa qx bH cH nH bR cR nR bA cA z c x w'->w'.cell? ⟨qa,2,none⟩=some (.int .i64 c):=fun w' h=>(hq_cell h.2.1 2).trans rfl
 have i0:∀w',SO qs qa qx bH cH nH bR cR nR bA cA z c x w'->w'.cell? ⟨qx,0,none⟩=some (.int .i64 x.o):=fun w' h=>h.2.2.cells.1
 have i1:∀w',SO qs qa qx bH cH nH bR cR nR bA cA z c x w'->w'.cell? ⟨qx,1,none⟩=some (.int .i64 x.d):=fun w' h=>h.2.2.cells.2.1
 have i2:∀w',SO qs qa qx bH cH nH bR cR nR bA cA z c x w'->w'.cell? ⟨qx,2,none⟩=some (.int .i64 x.a):=fun w' h=>h.2.2.cells.2.2.1
 have i3:∀w',SO qs qa qx bH cH nH bR cR nR bA cA z c x w'->w'.cell? ⟨qx,3,none⟩=some (.int .i64 x.b):=fun w' h=>h.2.2.cells.2.2.2.1
 have i4:∀w',SO qs qa qx bH cH nH bR cR nR bA cA z c x w'->w'.cell? ⟨qx,4,none⟩=some (.int .i64 x.i):=fun w' h=>h.2.2.cells.2.2.2.2.1
 have i5:∀w',SO qs qa qx bH cH nH bR cR nR bA cA z c x w'->w'.cell? ⟨qx,5,none⟩=some (.int .i64 x.h):=fun w' h=>h.2.2.cells.2.2.2.2.2.1
 obtain⟨u14,hu14,d14⟩:∃y,u13.drew=y/\DT w p ao n cap r qs qa qx bH cH nH S bR cR nR V0 bA cA V z c x y:=⟨_,rfl,D13.out.fw (.of_below (Below.refl _ _).drew) (D13.out.K.below (Below.refl _ _).drew)⟩
 have D14:Hid (DT w p ao n cap r qs qa qx bH cH nH S bR cR nR V0 bA cA V z c x u14):=d14
 refine wp_region_held_drew (S:=SO qs qa qx bH cH nH bR cR nR bA cA z c x) (by kernel_rfl) (by rw[hu14];exact⟨d14.QS,d14.QA,d14.QX⟩) (fun _=>?_)
 rw[hu14]
 have hS14:SO qs qa qx bH cH nH bR cR nR bA cA z c x u14:=⟨d14.QS,d14.QA,d14.QX⟩
 clear hu14 d14 D13
 refine wpAnyH_ta 0 rfl ?_
 refine wpAnyH_ta 1 rfl ?_
 refine wpAnyH_ta 2 rfl ?_
 have g1:=D14.out.o1
 have g2:=D14.out.o2
 have g3:=D14.out.o3
 have g4:=D14.out.o4
 have g6:=D14.out.o6
 have g8:=D14.out.o8
 have g9:=D14.out.o9
 have gA:=D14.out.oA
 have z0:u14.cell? ⟨r,0,none⟩=some (.slice none 0 0):=hq_cell D14.out.Z2 0
 have z1:u14.cell? ⟨r,1,none⟩=some (.slice none 0 0):=hq_cell D14.out.Z2 1
 have zf:=hq_free D14.out.Z2
 have zl2:=hq_lt D14.out.Z2
 refine wpAnyH_ready (rs:=[3]) (by kernel_rfl) (by simp) ?_
 refine AllReadyH.cons rfl (fun KK hK=>?_) AllReadyH.nil
 go_simp
 obtain⟨u15,hu15,e2,e3,e4,sS,sB,sG,sA⟩:∃y,(u14.setCell ⟨r,0,none⟩ (.slice (some ⟨bH,0,none⟩) nH cH)).setCell ⟨r,1,none⟩ (.slice (some ⟨bR,0,none⟩) nR cR)=y/\y.heap[r]?=some (.cells #[.slice (some ⟨bH,0,none⟩) nH cH,.slice (some ⟨bR,0,none⟩) nR cR] 26)/\y.heap[r+1]?=some (.cells zAbs 28)/\y.heap[r+1+1]?=some (.cells zIns 30)/\SO qs qa qx bH cH nH bR cR nR bA cA z c x y/\Below w.heap.size w y/\SigCp y bH nH S bR nR V0/\Arr y bA (8*6) (vF V):=by
  have o:∀{i:Nat}{ob:Obj},u14.heap[i]?=some ob->i≠r->((u14.setCell ⟨r,0,none⟩ (.slice (some ⟨bH,0,none⟩) nH cH)).setCell ⟨r,1,none⟩ (.slice (some ⟨bR,0,none⟩) nR cR)).heap[i]?=some ob:=fun hx hn=>hq_other (hq_other hx hn _ _) hn _ _
  exact⟨_,rfl,(hq_set (hq_set D14.out.Z2 0 _) 1 _).trans rfl,o D14.out.Z3 (by omega),o D14.out.Z4 (by omega),⟨o D14.out.QS (by omega),o D14.out.QA (by omega),o D14.out.QX (by omega)⟩,(D14.out.bel.setCell (p:=⟨r,0,none⟩) g1 _).setCell (p:=⟨r,1,none⟩) g1 _,⟨(D14.out.G.h.other (a:=⟨r,0,none⟩) (show r≠bH by omega) _).other (a:=⟨r,1,none⟩) (show r≠bH by omega) _,(D14.out.G.r.other (a:=⟨r,0,none⟩) (show r≠bR by omega) _).other (a:=⟨r,1,none⟩) (show r≠bR by omega) _⟩,(D14.out.A.other (a:=⟨r,0,none⟩) (show r≠bA by omega) _).other (a:=⟨r,1,none⟩) (show r≠bA by omega) _⟩
 rw[hu15]
 refine hK.out _ _ sS (fun _=>?_)
 clear hK KK z0 z1 zf zl2 hu15 D14
 try go_frame
 have z0:u15.cell? ⟨r+1,0,none⟩=some (.slice none 0 0):=hq_cell e3 0
 have z1:u15.cell? ⟨r+1,1,none⟩=some (.int .i64 0):=hq_cell e3 1
 have z2:u15.cell? ⟨r+1,2,none⟩=some (.int .i64 0):=hq_cell e3 2
 have zf:=hq_free e3
 have zl2:=hq_lt e3
 refine wpAnyH_ready (rs:=[4]) (by kernel_rfl) (by simp) ?_
 refine AllReadyH.cons rfl (fun KK hK=>?_) AllReadyH.nil
 go_simp
 obtain⟨u16,hu16,k2,k3,k4,tS,tB,tG,tA⟩:∃y,((u15.setCell ⟨r+1,0,none⟩ (.slice (some ⟨bA,0,none⟩) 8 cA)).setCell ⟨r+1,1,none⟩ (.int .i64 z)).setCell ⟨r+1,2,none⟩ (.int .i64 c)=y/\y.heap[r]?=some (.cells #[.slice (some ⟨bH,0,none⟩) nH cH,.slice (some ⟨bR,0,none⟩) nR cR] 26)/\y.heap[r+1]?=some (.cells #[.slice (some ⟨bA,0,none⟩) 8 cA,.int .i64 z,.int .i64 c] 28)/\y.heap[r+1+1]?=some (.cells zIns 30)/\SO qs qa qx bH cH nH bR cR nR bA cA z c x y/\Below w.heap.size w y/\SigCp y bH nH S bR nR V0/\Arr y bA (8*6) (vF V):=by
  have o:∀{i:Nat}{ob:Obj},u15.heap[i]?=some ob->i≠r+1->(((u15.setCell ⟨r+1,0,none⟩ (.slice (some ⟨bA,0,none⟩) 8 cA)).setCell ⟨r+1,1,none⟩ (.int .i64 z)).setCell ⟨r+1,2,none⟩ (.int .i64 c)).heap[i]?=some ob:=fun hx hn=>hq_other (hq_other (hq_other hx hn _ _) hn _ _) hn _ _
  have oa:∀{b k:Nat}{f:Nat->Value},Arr u15 b k f->r+1≠b->Arr (((u15.setCell ⟨r+1,0,none⟩ (.slice (some ⟨bA,0,none⟩) 8 cA)).setCell ⟨r+1,1,none⟩ (.int .i64 z)).setCell ⟨r+1,2,none⟩ (.int .i64 c)) b k f:=fun hx hn=>((hx.other (a:=⟨r+1,0,none⟩) hn _).other (a:=⟨r+1,1,none⟩) hn _).other (a:=⟨r+1,2,none⟩) hn _
  exact⟨_,rfl,o e2 (by omega),(hq_set (hq_set (hq_set e3 0 _) 1 _) 2 _).trans rfl,o e4 (by omega),⟨o sS.1 (by omega),o sS.2.1 (by omega),o sS.2.2 (by omega)⟩,((sB.setCell (p:=⟨r+1,0,none⟩) (show w.heap.size<=r+1 by omega) _).setCell (p:=⟨r+1,1,none⟩) (show w.heap.size<=r+1 by omega) _).setCell (p:=⟨r+1,2,none⟩) (show w.heap.size<=r+1 by omega) _,⟨oa sG.h (by omega),oa sG.r (by omega)⟩,oa sA (by omega)⟩
 rw[hu16]
 refine hK.out _ _ tS (fun _=>?_)
 clear hK KK z0 z1 z2 zf zl2 hu16 e2 e3 e4 sS sB sG sA
 try go_frame
 have z0:u16.cell? ⟨r+1+1,0,none⟩=some (.int .i64 0):=hq_cell k4 0
 have z1:u16.cell? ⟨r+1+1,1,none⟩=some (.int .i64 0):=hq_cell k4 1
 have z2:u16.cell? ⟨r+1+1,2,none⟩=some (.int .i64 0):=hq_cell k4 2
 have z3:u16.cell? ⟨r+1+1,3,none⟩=some (.int .i64 0):=hq_cell k4 3
 have z4:u16.cell? ⟨r+1+1,4,none⟩=some (.int .i64 0):=hq_cell k4 4
 have z5:u16.cell? ⟨r+1+1,5,none⟩=some (.int .i64 0):=hq_cell k4 5
 have zf:=hq_free k4
 have zl2:=hq_lt k4
 refine wpAnyH_ready (rs:=[5]) (by kernel_rfl) (by simp) ?_
 refine AllReadyH.cons rfl (fun KK hK=>?_) AllReadyH.nil
 go_simp
 change KK _ (setI u16 (r+1+1) x)
 obtain⟨u17,hu17,l2,l3,l4,vS,vB,vG,vA⟩:∃y,setI u16 (r+1+1) x=y/\y.heap[r]?=some (.cells #[.slice (some ⟨bH,0,none⟩) nH cH,.slice (some ⟨bR,0,none⟩) nR cR] 26)/\y.heap[r+1]?=some (.cells #[.slice (some ⟨bA,0,none⟩) 8 cA,.int .i64 z,.int .i64 c] 28)/\Ib y (r+1+1) x/\SO qs qa qx bH cH nH bR cR nR bA cA z c x y/\Below w.heap.size w y/\SigCp y bH nH S bR nR V0/\Arr y bA (8*6) (vF V):=by
  have o:∀{i:Nat}{ob:Obj},u16.heap[i]?=some ob->i≠r+1+1->(setI u16 (r+1+1) x).heap[i]?=some ob:=fun hx hn=>hq_other (hq_other (hq_other (hq_other (hq_other (hq_other hx hn _ _) hn _ _) hn _ _) hn _ _) hn _ _) hn _ _
  have oa:∀{b k:Nat}{f:Nat->Value},Arr u16 b k f->r+1+1≠b->Arr (setI u16 (r+1+1) x) b k f:=fun hx hn=>(((((hx.other (a:=⟨r+1+1,0,none⟩) hn _).other (a:=⟨r+1+1,1,none⟩) hn _).other (a:=⟨r+1+1,2,none⟩) hn _).other (a:=⟨r+1+1,3,none⟩) hn _).other (a:=⟨r+1+1,4,none⟩) hn _).other (a:=⟨r+1+1,5,none⟩) hn _
  have wl:w.heap.size<=r+1+1:=by omega
  exact⟨_,rfl,o k2 (by omega),o k3 (by omega),(hq_set (hq_set (hq_set (hq_set (hq_set (hq_set k4 0 _) 1 _) 2 _) 3 _) 4 _) 5 _).trans rfl,⟨o tS.1 (by omega),o tS.2.1 (by omega),o tS.2.2 (by omega)⟩,(((((tB.setCell (p:=⟨r+1+1,0,none⟩) wl _).setCell (p:=⟨r+1+1,1,none⟩) wl _).setCell (p:=⟨r+1+1,2,none⟩) wl _).setCell (p:=⟨r+1+1,3,none⟩) wl _).setCell (p:=⟨r+1+1,4,none⟩) wl _).setCell (p:=⟨r+1+1,5,none⟩) wl _,⟨oa tG.h (by omega),oa tG.r (by omega)⟩,oa tA (by omega)⟩
 rw[hu17]
 refine hK.out _ _ vS (fun _=>?_)
 clear hK KK z0 z1 z2 z3 z4 z5 zf zl2 hu17 k2 k3 k4 tS tB tG tA s0 s1 s2 s3 s4 i0 i1 i2 i3 i4 i5
 try go_frame
 refine wpAnyH_done (by kernel_rfl) ?_ _
 have HB:Hid (Below w.heap.size w u17):=vB
 have HG:Hid (SigCp u17 bH nH S bR nR V0/\Arr u17 bA (8*6) (vF V)):=⟨vG,vA⟩
 have m0:=(hq_cell l2 0).trans rfl
 have m1:=(hq_cell l2 1).trans rfl
 have m2:=(hq_cell l3 0).trans rfl
 have m3:=(hq_cell l3 1).trans rfl
 have m4:=(hq_cell l3 2).trans rfl
 obtain⟨i0,i1,i2,i3,i4,i5,_,_⟩:=l4.cells
 clear vS vB vG vA l2 l3 l4
 go_wp2
 exact bodyPost_ret (v:=.tuple #[.agg #[.slice (some ⟨bH,0,none⟩) nH cH,.slice (some ⟨bR,0,none⟩) nR cR],.agg #[.slice (some ⟨bA,0,none⟩) 8 cA,.int .i64 z,.int .i64 c],.agg #[.int .i64 x.o,.int .i64 x.d,.int .i64 x.a,.int .i64 x.b,.int .i64 x.i,.int .i64 x.h]]) (by simp[results,Tryz.results4,go_sem, *]) rfl ⟨bH,cH,nH,S,bR,cR,nR,V0,bA,cA,V,z,c,x,rfl,n4,hn8,HG.out.1,HG.out.2,HB.out⟩
end Go.Proofs.YtbahofiiaodpdaaGreat
