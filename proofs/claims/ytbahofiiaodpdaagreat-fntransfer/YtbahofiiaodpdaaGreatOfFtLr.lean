import Derived.Test.YtbahofiiaodpdaaGreatFtTr
import Derived.Test.YtbahofiiaodpdaaGreatFtTrS
import Derived.Test.YtbahofiiaodpdaaGreatOfFtTrM
import Derived.Test.YtbahofiiaodpdaaGreatOfTransSpS
import Derived.Test.YtbahofiiaodpdaaGreatOfFtStep
import Derived.Test.YtbahofiiaodpdaaGreatOfStepImpl
import Derived.Test.YtbahofiiaodpdaaGreatOfFtOk
set_option maxHeartbeats 8000000
set_option maxRecDepth 20000
namespace Go.Proofs.YtbahofiiaodpdaaGreat
open Go.RowKit
theorem specTx_any(bH cH nH:Nat)(S:Nat->HS)(bR cR nR:Nat)(V0:Nat->VV)(bA cA nA:Nat)(V:Nat->VV)(z c op d ra rb imm h:Int)(w:World)(lH:nH<=1048576)(lR:nR<=1048576)(lA:nA<=1048576)(h1:SigCp w bH nH S bR nR V0)(h2:Arr w bA (nA*6) (vF V)):
 Calls Tryz.prog 5 #[.agg #[.slice (some ⟨bH,0,none⟩) nH cH,.slice (some ⟨bR,0,none⟩) nR cR],.agg #[.slice (some ⟨bA,0,none⟩) nA cA,.int .i64 z,.int .i64 c],.agg #[.int .i64 op,.int .i64 d,.int .i64 ra,.int .i64 rb,.int .i64 imm,.int .i64 h]] w (TrY (trE nH S nR V0 nA V z c op d ra rb imm h) w):=by
 by_cases hv:absOK nH S nR V0 nA V z c=true/\implIns op d ra rb imm h=true/\op<=28
 rotate_left
 ·refine(specTransfer_no bH cH nH S bR cR nR V0 bA cA nA V z c op d ra rb imm h w lH lR lA h1 h2 hv).mono ?_
  rintro e w'⟨rfl,hb⟩;have e11:trE nH S nR V0 nA V z c op d ra rb imm h=11:=by unfold trE;rw[if_neg hv]
  rw[e11];exact⟨V,z,c,Or.inl ⟨by decide,rfl⟩,hb⟩
 obtain⟨hok,hik,o28⟩:=hv;obtain⟨rfl,_,_⟩:=good_regs hok;obtain⟨o1,d0,d7,ra0,ra7,rb0,rb7,h0,h7,n0,n1,n2⟩:=ins_nats hik o28;obtain⟨di,rfl⟩:∃k:Nat,d=(k:Int):=⟨d.toNat,by omega⟩
 obtain⟨ia,rfl⟩:∃k:Nat,ra=(k:Int):=⟨ra.toNat,by omega⟩
 obtain⟨ib,rfl⟩:∃k:Nat,rb=(k:Int):=⟨rb.toNat,by omega⟩
 obtain⟨q,rfl⟩:∃k:Nat,h=(k:Int):=⟨h.toNat,by omega⟩
 by_cases o21:21<=op
 ·exact specTx_M bH cH nH S bR cR nR V0 bA cA V z c op imm di ia ib q (by omega) (by omega) (by omega) w lH lR h1 h2 hok hik o21 o28 n0 n1
 by_cases os:op=19∨op=20
 ·exact specTx_S bH cH nH S bR cR nR V0 bA cA V z c op imm di ia ib q (by omega) (by omega) (by omega) w lH lR h1 h2 hok hik os
 ·exact specTx_R bH cH nH S bR cR nR V0 bA cA V z c op imm di ia ib q (by omega) (by omega) (by omega) w lH lR h1 h2 hok hik o1 (by omega) n0 n1 n2
end Go.Proofs.YtbahofiiaodpdaaGreat
namespace Go.Proofs.YtbahofiiaodpdaaGreat
open Go.RowKit Go.Deep
def mA(p:Pl)(M:MV):Array Value:=#[.slice (some ⟨p.bR,0,none⟩) 8 p.cR,.bool M.z,.bool M.c,.bool M.hz,.bool M.hc,.slice p.aH M.nH p.cH,.int .i64 M.pc,.int .i64 M.st,.slice p.aO M.nO p.cO]
theorem lwHolds_any(v:VV)(x:Int)(B:Nat)(p:Pl)(M:MV)(w:World)(hv:GV v M.nH)(hx:HoldV (fun k=>(M.Hp k).base) v x)(x0:0<=x)(x1:x<=18446744073709551615)(hb:∀i,i<M.nH->0<=(M.Hp i).base/\(M.Hp i).base<=18446744073709551615)(hm:Mem w B p M):
 Calls Tryz.prog 42 #[.agg #[.int .i64 v.k,.bool v.s,.int .i64 v.m,.int .i64 v.h,.int .i64 v.lo,.int .i64 v.hi],.int .u64 x,.agg (mA p M)] w fun e w'=>e=.returned (.bool true)/\Below w.heap.size w w':=by
 have HV:Hid (GV v M.nH):=hv;have HX:Hid (HoldV (fun k=>(M.Hp k).base) v x):=hx;have HM:Hid (Mem w B p M):=hm;have HB:Hid (∀i,i<M.nH->0<=(M.Hp i).base/\(M.Hp i).base<=18446744073709551615):=hb;clear hv hx hm hb;unfold mA;by_cases k1:v.k=1
 rotate_left
 ·have hk:v.k=0/\ -1<=v.m/\v.m<=1099511627776:=by rcases HV.out with q|q;exact⟨q.1,q.2.1,q.2.2.1⟩;exact absurd q.1 k1
  have hx2:v.m= -1∨x<=v.m:=by rcases HX.out with q|q;exact q.2;exact absurd q.1 k1
  have ek:(v.k==0)=true:=by simp[hk.1]
  obtain⟨_,m1,m2⟩:=hk;clear k1;go_enter Tryz.func42,Tryz.ntmps42;by_cases e1:v.m= -1
  ·have em:(v.m== -1)=true:=by simp[e1]
   clear hx2;go_wp2;refine bodyPost_ret (v:=.bool true) (by simp[results,Tryz.results42,go_sem]) rfl ⟨rfl,?_⟩;exact((Below.refl _ _).alloc (Nat.le_refl _) _).alloc (by simp) _
  ·have em:(v.m== -1)=false:=by simp[e1]
   have hx3:x<=v.m:=by rcases hx2 with q|q;exact absurd q e1;exact q
   have el:decide (x<=v.m)=true:=by simp[hx3]
   clear hx2;go_wp2;refine bodyPost_ret (v:=.bool true) (by simp[results,Tryz.results42,go_sem, *]) rfl ⟨rfl,?_⟩;exact((Below.refl _ _).alloc (Nat.le_refl _) _).alloc (by simp) _
 have hp:0<=v.h/\v.h<M.nH/\ -1099511627776<=v.lo/\v.lo<=v.hi/\v.hi<=1099511627776:=by rcases HV.out with q|q;exact absurd q.1 (by omega);exact⟨q.2.2.2.1,q.2.2.2.2.1,q.2.2.2.2.2⟩
 obtain⟨p0,p1,p2,p3,p4⟩:=hp;obtain⟨d,d0,d1,hxd⟩:∃d,v.lo<=d/\d<=v.hi/\x=((M.Hp v.h.toNat).base+d)%18446744073709551616:=by rcases HX.out with q|q;exact absurd q.1 (by omega);exact q.2
 have ek:(v.k==0)=false:=by simp[k1]
 clear k1;obtain⟨kn,hkn⟩:=Int.eq_ofNat_of_zero_le p0;have hkl:kn<M.nH:=by omega
 obtain⟨gH,gc,hva⟩:∃g c,Value.slice p.aH M.nH p.cH=.slice (some ⟨g,0,none⟩) M.nH c:=by
  obtain⟨g,c,h⟩:=row_some' HM.out.heaps (by omega);exact⟨g,c,h⟩
 have hH:=HM.out.heaps;rw[hva]at hH;have c0:w.cell? ⟨gH,kn*3,none⟩=some (.int .u64 (M.Hp kn).base):=by
  rw[hH.cellAt (kn*3) (by omega),first_at (by omega)];unfold heapF place;rw[show kn*3%3=0 by omega,show kn*3/3=kn by omega];rfl
 have gl:gH<w.heap.size:=(hH.lt gH rfl).2;obtain⟨bs,hbs⟩:∃y,(M.Hp kn).base=y:=⟨_,rfl⟩
 obtain⟨b0,b1⟩:=HB.out kn hkl;rw[hbs]at c0 b0 b1;rw[hkn,Int.toNat_natCast,hbs]at hxd;have hoff:IntKind.i64.wrap (IntKind.u64.wrap (x-bs))=d:=by
  rw[IntKind.wrap_u64,IntKind.wrap_i64];omega
 have q1:decide (v.lo<=d)=true:=by simp[d0]
 have q2:decide (d<=v.hi)=true:=by simp[d1]
 rw[hva,hkn];rw[hkn]at p1;have HXD:Hid (x=(bs+d)%18446744073709551616):=hxd;clear hH hva hbs hkn p0 HV HX HM HB hxd d0 d1;go_enter Tryz.func42,Tryz.ntmps42;go_wp2;refine bodyPost_ret (v:=.bool true) (by simp[results,Tryz.results42,go_sem, *]) rfl ⟨rfl,?_⟩;exact((Below.refl _ _).alloc (Nat.le_refl _) _).alloc (by simp) _
theorem lwRegs_any(bA cA:Nat)(V:Nat->VV)(z c:Int)(B:Nat)(p:Pl)(M:MV)(nH:Nat)(S:Nat->HS)(w:World)(hA:Arr w bA (8*6) (vF V))(hm:Mem w B p M)(hgv:∀i,i<8->GV (V i) M.nH)(ha:AsV nH S V z c M)(hr:∀i,i<8->0<=M.R i/\M.R i<=18446744073709551615)(hb:∀i,i<M.nH->0<=(M.Hp i).base/\(M.Hp i).base<=18446744073709551615):
 Calls Tryz.prog 10 #[.agg #[.slice (some ⟨bA,0,none⟩) 8 cA,.int .i64 z,.int .i64 c],.agg (mA p M)] w fun e w'=>e=.returned (.bool true)/\Below w.heap.size w w':=by
 have HA:Hid (Arr w bA (8*6) (vF V)):=hA;have HM:Hid (Mem w B p M):=hm;have HG:Hid (∀i,i<8->GV (V i) M.nH):=hgv;have HV:Hid (AsV nH S V z c M):=ha;have HR:Hid (∀i,i<8->0<=M.R i/\M.R i<=18446744073709551615):=hr;have HB:Hid (∀i,i<M.nH->0<=(M.Hp i).base/\(M.Hp i).base<=18446744073709551615):=hb;clear hA hm hgv ha hr hb;unfold mA;go_enter Tryz.func10,Tryz.ntmps10;go_upto_region 1 with fail;obtain⟨u0,hu0,b0,e1,e2⟩:∃y,(w.alloc (.cells #[.slice (some ⟨bA,0,none⟩) 8 cA,.int .i64 z,.int .i64 c] 28)).alloc (.cells #[.slice (some ⟨p.bR,0,none⟩) 8 p.cR,.bool M.z,.bool M.c,.bool M.hz,.bool M.hc,.slice p.aH M.nH p.cH,.int .i64 M.pc,.int .i64 M.st,.slice p.aO M.nO p.cO] 40)=y/\Below w.heap.size w y/\y.heap[w.heap.size]?=some (.cells #[.slice (some ⟨bA,0,none⟩) 8 cA,.int .i64 z,.int .i64 c] 28)/\y.heap[w.heap.size+1]?=some (.cells #[.slice (some ⟨p.bR,0,none⟩) 8 p.cR,.bool M.z,.bool M.c,.bool M.hz,.bool M.hc,.slice p.aH M.nH p.cH,.int .i64 M.pc,.int .i64 M.st,.slice p.aO M.nO p.cO] 40):=by
  have s1:(w.alloc (.cells #[.slice (some ⟨bA,0,none⟩) 8 cA,.int .i64 z,.int .i64 c] 28)).heap.size=w.heap.size+1:=by simp
  exact⟨_,rfl,((Below.refl _ _).alloc (Nat.le_refl _) _).alloc (by simp) _,(Below.heap_alloc _ _ _ (by simp)).trans (hq_new w _),by rw[<-s1];exact hq_new _ _⟩
 rw[hu0];have A0:Hid (Arr u0 bA (8*6) (vF V)):=HA.out.below b0 HA.out.lt;have M0:Hid (Mem u0 B p M):=HM.out.below b0;have B0:Hid (Below w.heap.size w u0):=b0;have E1:Hid (u0.heap[w.heap.size]?=some (.cells #[.slice (some ⟨bA,0,none⟩) 8 cA,.int .i64 z,.int .i64 c] 28)):=e1;have E2:Hid (u0.heap[w.heap.size+1]?=some (.cells #[.slice (some ⟨p.bR,0,none⟩) 8 p.cR,.bool M.z,.bool M.c,.bool M.hz,.bool M.hc,.slice p.aH M.nH p.cH,.int .i64 M.pc,.int .i64 M.st,.slice p.aO M.nO p.cO] 40)):=e2;obtain⟨na,hna⟩:∃y,w.heap.size=y:=⟨_,rfl⟩
 have HNA:Hid (w.heap.size=na):=hna;have hws:w.heap.size<=u0.heap.size:=b0.size;rw[hna]at E1 E2⊢;clear hu0 b0 e1 e2 hna HA HM;have a0:=hq_cell E1.out 0;have m0:=hq_cell E2.out 0;simp only[List.getElem?_toArray,List.getElem?_cons_zero]at a0 m0;have az:=(Array.getElem?_eq_some_iff.1 E1.out).1;have mz:=(Array.getElem?_eq_some_iff.1 E2.out).1;go_wp2_with fail;clear a0 m0 az mz;go_loopw [5](fun iv wr=>∃k:Nat,iv=.int .i64 (k:Int)/\k<=8/\Below u0.heap.size u0 wr)(fun iv _=>(8-intOf iv).toNat)
 case atStart=>exact⟨0,rfl,by omega,Below.refl _ _⟩
 case round=>
  obtain⟨k,rfl,hk,hbr⟩:=hrel;have BR:Hid (Below u0.heap.size u0 wr):=hbr;clear hbr;have q:∀{i:Nat}{o:Obj}{w':World},u0.heap[i]?=some o->Below u0.heap.size u0 w'->w'.heap[i]?=some o:=fun hx hb=>(hb.block _ (Array.getElem?_eq_some_iff.1 hx).1).trans hx
  by_cases hlt:k<8
  ·have hlt':(k:Int)<8:=by omega
   have a0:∀w',Below u0.heap.size u0 w'->w'.cell? ⟨na,0,none⟩=some (.slice (some ⟨bA,0,none⟩) 8 cA):=fun w' h=>(hq_cell (q E1.out h) 0).trans rfl
   have az:∀w',Below u0.heap.size u0 w'->na<w'.heap.size:=fun w' h=>(Array.getElem?_eq_some_iff.1 (q E1.out h)).1
   have m0:∀w',Below u0.heap.size u0 w'->w'.cell? ⟨na+1,0,none⟩=some (.slice (some ⟨p.bR,0,none⟩) 8 p.cR):=fun w' h=>(hq_cell (q E2.out h) 0).trans rfl
   have m1:∀w',Below u0.heap.size u0 w'->w'.cell? ⟨na+1,1,none⟩=some (.bool M.z):=fun w' h=>(hq_cell (q E2.out h) 1).trans rfl
   have m2:∀w',Below u0.heap.size u0 w'->w'.cell? ⟨na+1,2,none⟩=some (.bool M.c):=fun w' h=>(hq_cell (q E2.out h) 2).trans rfl
   have m3:∀w',Below u0.heap.size u0 w'->w'.cell? ⟨na+1,3,none⟩=some (.bool M.hz):=fun w' h=>(hq_cell (q E2.out h) 3).trans rfl
   have m4:∀w',Below u0.heap.size u0 w'->w'.cell? ⟨na+1,4,none⟩=some (.bool M.hc):=fun w' h=>(hq_cell (q E2.out h) 4).trans rfl
   have m5:∀w',Below u0.heap.size u0 w'->w'.cell? ⟨na+1,5,none⟩=some (.slice p.aH M.nH p.cH):=fun w' h=>(hq_cell (q E2.out h) 5).trans rfl
   have m6:∀w',Below u0.heap.size u0 w'->w'.cell? ⟨na+1,6,none⟩=some (.int .i64 M.pc):=fun w' h=>(hq_cell (q E2.out h) 6).trans rfl
   have m7:∀w',Below u0.heap.size u0 w'->w'.cell? ⟨na+1,7,none⟩=some (.int .i64 M.st):=fun w' h=>(hq_cell (q E2.out h) 7).trans rfl
   have m8:∀w',Below u0.heap.size u0 w'->w'.cell? ⟨na+1,8,none⟩=some (.slice p.aO M.nO p.cO):=fun w' h=>(hq_cell (q E2.out h) 8).trans rfl
   have mz:∀w',Below u0.heap.size u0 w'->na+1<w'.heap.size:=fun w' h=>(Array.getElem?_eq_some_iff.1 (q E2.out h)).1
   have ra:∀w',Below u0.heap.size u0 w'->Arr w' bA (8*6) (vF V):=fun w' h=>A0.out.below h A0.out.lt
   have bl:∀w',Below u0.heap.size u0 w'->bA<w'.heap.size:=fun w' h=>(ra w' h).lt
   have v0:∀w',Below u0.heap.size u0 w'->w'.cell? ⟨bA,k*6,none⟩=some (.int .i64 (V k).k):=fun w' h=>(reg_cells (ra w' h) k hlt).1
   have v1:∀w',Below u0.heap.size u0 w'->w'.cell? ⟨bA,k*6+1,none⟩=some (.bool (V k).s):=fun w' h=>(reg_cells (ra w' h) k hlt).2.1
   have v2:∀w',Below u0.heap.size u0 w'->w'.cell? ⟨bA,k*6+2,none⟩=some (.int .i64 (V k).m):=fun w' h=>(reg_cells (ra w' h) k hlt).2.2.1
   have v3:∀w',Below u0.heap.size u0 w'->w'.cell? ⟨bA,k*6+3,none⟩=some (.int .i64 (V k).h):=fun w' h=>(reg_cells (ra w' h) k hlt).2.2.2.1
   have v4:∀w',Below u0.heap.size u0 w'->w'.cell? ⟨bA,k*6+4,none⟩=some (.int .i64 (V k).lo):=fun w' h=>(reg_cells (ra w' h) k hlt).2.2.2.2.1
   have v5:∀w',Below u0.heap.size u0 w'->w'.cell? ⟨bA,k*6+5,none⟩=some (.int .i64 (V k).hi):=fun w' h=>(reg_cells (ra w' h) k hlt).2.2.2.2.2
   have rr:∀w',Below u0.heap.size u0 w'->w'.cell? ⟨p.bR,k,none⟩=some (.int .u64 (M.R k)):=fun w' h=>by
    rw[(M0.out.below h).regs.cellAt k (by omega),first_at (by omega)];rfl
   have rz:∀w',Below u0.heap.size u0 w'->p.bR<w'.heap.size:=fun w' h=>((M0.out.below h).regs.lt p.bR rfl).2
   clear ra;go_upto_region 6 with fail;refine wp_region_held_drew (S:=fun w'=>Below u0.heap.size u0 w') (by kernel_rfl) BR.out.drew (fun _=>?_);have BD:Hid (Below u0.heap.size u0 wr.drew):=BR.out.drew;refine wpAnyH_ta 0 rfl ?_;refine wpAnyH_ta 1 rfl ?_;refine wpAnyH_ta 2 rfl ?_;refine wpAnyH_ta 3 rfl ?_;refine wpAnyH_ta 4 rfl ?_;refine wpAnyH_ta 5 rfl ?_;refine wpAnyH_ta 6 rfl ?_;refine wpAnyH_ta 7 rfl ?_;refine wpAnyH_ta 8 rfl ?_
   refine wpAnyH_ta 9 rfl ?_
   refine wpAnyH_ta 10 rfl ?_
   refine wpAnyH_ready (rs:=[11]) (by kernel_rfl) (by simp) ?_
   refine AllReadyH.cons rfl (fun KK hK=>?_) AllReadyH.nil
   go_simp
   have hc:=lwHolds_any (V k) (M.R k) B p M wr.drew (HG.out k hlt) (HV.out.rg k hlt) (HR.out k hlt).1 (HR.out k hlt).2 HB.out (M0.out.below BD.out)
   unfold mA at hc
   refine hc.mono ?_
   rintro e u2⟨rfl,hb2⟩
   have B2:Below u0.heap.size u0 u2:=BD.out.trans (hb2.mono BD.out.size)
   clear hc
   go_wp2_with fail
   refine hK.out _ _ B2 (fun _=>?_)
   clear hK KK hb2
   try go_frame
   refine wpAnyH_ta 12 rfl ?_
   refine wpAnyH_done (by kernel_rfl) ?_ _
   have BB:Hid (Below u0.heap.size u0 u2):=B2
   clear B2 a0 az m0 m1 m2 m3 m4 m5 m6 m7 m8 mz bl v0 v1 v2 v3 v4 v5 rr rz q BR BD
   go_wp2_with fail
   go_roundw
   case rel=>exact⟨k+1,by simp,by omega,BB.out⟩
   case measure=>simp[intOf];omega
  ·have hge:¬((k:Int)<8):=by omega
   have h1:=q E1.out BR.out
   have h2:=q E2.out BR.out
   have a1:wr.cell? ⟨na,1,none⟩=some (.int .i64 z):=(hq_cell h1 1).trans rfl
   have a2:wr.cell? ⟨na,2,none⟩=some (.int .i64 c):=(hq_cell h1 2).trans rfl
   have az:=(Array.getElem?_eq_some_iff.1 h1).1
   have m3:wr.cell? ⟨na+1,3,none⟩=some (.bool M.hz):=(hq_cell h2 3).trans rfl
   have m4:wr.cell? ⟨na+1,4,none⟩=some (.bool M.hc):=(hq_cell h2 4).trans rfl
   have mz:=(Array.getElem?_eq_some_iff.1 h2).1
   have BW:Hid (Below w.heap.size w wr):=B0.out.trans (BR.out.mono hws)
   have hz:=HV.out.hz
   have hc:=HV.out.hc
   clear h1 h2 q
   by_cases z0:z=0
   ·have ez:(z==0)=true:=by simp[z0]
    by_cases c0:c=0
    ·have ec:(c==0)=true:=by simp[c0]
     clear hz hc z0 c0
     go_wp2
     exact bodyPost_ret (v:=.bool true) (by simp[results,Tryz.results10,go_sem, *]) rfl ⟨rfl,BW.out⟩
    ·have ec:(c==0)=false:=by simp[c0]
     have hc2:M.hc=true:=by rcases hc with h|h;exact absurd h c0;exact h
     rw[hc2]at m4
     clear hz hc z0 c0 hc2
     go_wp2
     exact bodyPost_ret (v:=.bool true) (by simp[results,Tryz.results10,go_sem, *]) rfl ⟨rfl,BW.out⟩
   ·have ez:(z==0)=false:=by simp[z0]
    have hz2:M.hz=true:=by rcases hz with h|h;exact absurd h z0;exact h
    rw[hz2]at m3
    by_cases c0:c=0
    ·have ec:(c==0)=true:=by simp[c0]
     clear hz hc z0 c0 hz2
     go_wp2
     exact bodyPost_ret (v:=.bool true) (by simp[results,Tryz.results10,go_sem, *]) rfl ⟨rfl,BW.out⟩
    ·have ec:(c==0)=false:=by simp[c0]
     have hc2:M.hc=true:=by rcases hc with h|h;exact absurd h c0;exact h
     rw[hc2]at m4
     clear hz hc z0 c0 hz2 hc2
     go_wp2
     exact bodyPost_ret (v:=.bool true) (by simp[results,Tryz.results10,go_sem, *]) rfl ⟨rfl,BW.out⟩
end Go.Proofs.YtbahofiiaodpdaaGreat
