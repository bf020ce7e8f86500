import Derived.Test.YtbahofiiaodpdaaGreatOfTransRofC
set_option maxHeartbeats 8000000
set_option maxRecDepth 20000
namespace Go.Proofs.YtbahofiiaodpdaaGreat
open Go.RowKit
theorem resultOf_12(d ra rb imm h:Int)(a b:VV)(fl:Int)(sec:Bool)(hv:Value)(w:World)(ha:Bd a)(hb:Bd b)(n0:0<=imm)(n1:imm<=63):
 Calls Tryz.prog 67 #[.agg #[.int .i64 12,.int .i64 d,.int .i64 ra,.int .i64 rb,.int .i64 imm,.int .i64 h],.agg #[.int .i64 a.k,.bool a.s,.int .i64 a.m,.int .i64 a.h,.int .i64 a.lo,.int .i64 a.hi,.int .i64 b.k,.bool b.s,.int .i64 b.m,.int .i64 b.h,.int .i64 b.lo,.int .i64 b.hi,.int .i64 fl,.bool sec],hv] w fun e w'=>e=.returned (numV sec (leftI (maxV a) imm.toNat)).v/\Below w.heap.size w w':=by
 obtain⟨res,hres⟩:∃r,(numV sec (leftI (maxV a) imm.toNat))=r:=⟨_,rfl⟩
 rw[hres]
 have HR:Hid ((numV sec (leftI (maxV a) imm.toNat))=res):=hres
 have HA:Hid (Bd a):=ha
 have HB:Hid (Bd b):=hb
 clear hres ha hb
 obtain⟨n,rfl⟩:∃n:Nat,imm=n:=⟨imm.toNat,by omega⟩
 have hn:n<=63:=by omega
 clear n0 n1
 go_enter Tryz.func67,Tryz.ntmps67
 go_upto_region 1 with fail
 obtain⟨u,hu,pu⟩:=ro_pre w (op:=12) (d:=d) (ra:=ra) (rb:=rb) (imm:=n) (h:=h) a b fl sec
 rw[hu]
 have P0:Hid (RoP w u 12 d ra rb (n:Int) h a b fl sec):=pu
 clear hu pu
 have t0:∀w',Below u.heap.size u w'->w'.cell? ⟨w.heap.size+1,0,none⟩=some (.int .i64 a.k):=fun w' h=>(P0.out.O.below h).2 0 (by simp)
 have t1:∀w',Below u.heap.size u w'->w'.cell? ⟨w.heap.size+1,1,none⟩=some (.bool a.s):=fun w' h=>(P0.out.O.below h).2 1 (by simp)
 have t2:∀w',Below u.heap.size u w'->w'.cell? ⟨w.heap.size+1,2,none⟩=some (.int .i64 a.m):=fun w' h=>(P0.out.O.below h).2 2 (by simp)
 have t3:∀w',Below u.heap.size u w'->w'.cell? ⟨w.heap.size+1,3,none⟩=some (.int .i64 a.h):=fun w' h=>(P0.out.O.below h).2 3 (by simp)
 have t4:∀w',Below u.heap.size u w'->w'.cell? ⟨w.heap.size+1,4,none⟩=some (.int .i64 a.lo):=fun w' h=>(P0.out.O.below h).2 4 (by simp)
 have t5:∀w',Below u.heap.size u w'->w'.cell? ⟨w.heap.size+1,5,none⟩=some (.int .i64 a.hi):=fun w' h=>(P0.out.O.below h).2 5 (by simp)
 have t6:∀w',Below u.heap.size u w'->w'.cell? ⟨w.heap.size+1,6,none⟩=some (.int .i64 b.k):=fun w' h=>(P0.out.O.below h).2 6 (by simp)
 have t7:∀w',Below u.heap.size u w'->w'.cell? ⟨w.heap.size+1,7,none⟩=some (.bool b.s):=fun w' h=>(P0.out.O.below h).2 7 (by simp)
 have t8:∀w',Below u.heap.size u w'->w'.cell? ⟨w.heap.size+1,8,none⟩=some (.int .i64 b.m):=fun w' h=>(P0.out.O.below h).2 8 (by simp)
 have t9:∀w',Below u.heap.size u w'->w'.cell? ⟨w.heap.size+1,9,none⟩=some (.int .i64 b.h):=fun w' h=>(P0.out.O.below h).2 9 (by simp)
 have t10:∀w',Below u.heap.size u w'->w'.cell? ⟨w.heap.size+1,10,none⟩=some (.int .i64 b.lo):=fun w' h=>(P0.out.O.below h).2 10 (by simp)
 have t11:∀w',Below u.heap.size u w'->w'.cell? ⟨w.heap.size+1,11,none⟩=some (.int .i64 b.hi):=fun w' h=>(P0.out.O.below h).2 11 (by simp)
 refine wp_region_held_drew (S:=fun w'=>Below u.heap.size u w') (by kernel_rfl) (Below.refl _ _).drew (fun hHeld=>?_)
 refine wpAnyH_ta 0 rfl ?_
 refine wpAnyH_ta 1 rfl ?_
 refine wpAnyH_ta 3 rfl ?_
 refine wpAnyH_ta 4 rfl ?_
 clear t0 t1 t2 t3 t4 t5 t6 t7 t8 t9 t10 t11
 refine wpAnyH_ready (rs:=[2]) (by kernel_rfl) (by simp) ?_
 refine AllReadyH.cons rfl (fun KK hK=>?_) AllReadyH.nil
 go_simp
 refine(maxOf_any a.k a.s a.m a.h a.lo a.hi _).mono ?_
 rintro e v1⟨rfl,hb⟩
 have hv1:Below u.heap.size u v1:=(Below.refl _ _).drew.trans hb
 clear hb hHeld
 obtain⟨ma,hm⟩:∃m,maxV a=m:=⟨_,rfl⟩
 rw[show maxV ⟨a.k,a.s,a.m,a.h,a.lo,a.hi⟩=ma from hm]
 have HMA:Hid (maxV a=ma):=hm
 clear hm
 go_wp2_with fail
 refine hK.out _ _ hv1 (fun _=>?_)
 clear hK KK
 try go_frame
 refine wpAnyH_ready (rs:=[5]) (by kernel_rfl) (by simp) ?_
 refine AllReadyH.cons rfl (fun KK hK=>?_) AllReadyH.nil
 go_simp
 refine(maxOf_any b.k b.s b.m b.h b.lo b.hi _).mono ?_
 rintro e v2⟨rfl,hb⟩
 have hv2:Below u.heap.size u v2:=hv1.trans (hb.mono hv1.size)
 clear hb
 obtain⟨mb,hm⟩:∃m,maxV b=m:=⟨_,rfl⟩
 rw[show maxV ⟨b.k,b.s,b.m,b.h,b.lo,b.hi⟩=mb from hm]
 have HMB:Hid (maxV b=mb):=hm
 clear hm
 go_wp2_with fail
 refine hK.out _ _ hv2 (fun _=>?_)
 clear hK KK
 try go_frame
 refine wpAnyH_ta 6 rfl ?_
 refine wpAnyH_ta 7 rfl ?_
 refine wpAnyH_done (by kernel_rfl) ?_ _
 have P1:Hid (RoP w v2 12 d ra rb (n:Int) h a b fl sec):=P0.out.below hv2
 clear P0 hv1 hv2
 obtain⟨i0,i1,i2,i3,i4,i5⟩:=ins_cells P1.out.I
 obtain⟨o0,o1,o2,o3,o4,o5,o6,o7,o8,o9,o10,o11,o12,o13⟩:=ro_ops P1.out.O
 obtain⟨r0,r1,r2,r3,r4,r5⟩:=P1.out.R.cells
 have rf:=P1.out.R.free
 have rl:=P1.out.R.lt
 go_upto_region 24 with fail
 clear i0 i1 i2 i3 i4 i5 o0 o1 o2 o3 o4 o5 o6 o7 o8 o9 o10 o11 o12 o13 r0 r1 r2 r3 r4 r5 rf rl
 have t13:∀w',Below v2.heap.size v2 w'->w'.cell? ⟨w.heap.size+1,13,none⟩=some (.bool sec):=fun w' h=>(P1.out.O.below h).2 13 (by simp)
 have t4:∀w',Below v2.heap.size v2 w'->w'.cell? ⟨w.heap.size,4,none⟩=some (.int .i64 (n:Int)):=fun w' h=>(P1.out.I.below h).2 4 (by simp)
 refine wp_region_L (T:=fun w'=>Below v2.heap.size v2 w') (s:=7) (by kernel_rfl) (Below.refl _ _).drew (fun hHeld=>?_)
 refine wpAnyL_ta 0 rfl ?_
 refine wpAnyL_ta 1 rfl ?_
 refine wpAnyL_ta 2 rfl ?_
 refine wpAnyL_ta 3 rfl ?_
 refine wpAnyL_ta 4 rfl ?_
 clear t13 t4
 refine wpAnyL_call (i:=5) rfl (by kernel_rfl) (fun KK hK=>?_)
 go_simp
 refine(leftMax_any ma n _ hn).mono ?_
 rintro e w'⟨rfl,hw⟩
 rw[hw]
 clear hw
 go_wp2_with fail
 refine hK.out _ _ (Below.refl _ _).drew (fun _=>?_)
 clear hK KK
 try go_frame
 refine wpAnyL_call (i:=6) rfl (by kernel_rfl) (fun KK hK=>?_)
 go_simp
 refine(number_any sec (leftI ma n) _).mono ?_
 rintro e v3⟨rfl,hb⟩
 have hv3:Below v2.heap.size v2 v3:=(Below.refl _ _).drew.trans hb
 have P2:Hid (RoP w v3 12 d ra rb (n:Int) h a b fl sec):=P1.out.below hv3
 simp only[VV.v]
 go_wp2_with fail
 refine hK.out _ _ hv3 (fun _=>?_)
 clear hK KK hb hv3 hHeld
 try go_frame
 obtain⟨r0,r1,r2,r3,r4,r5⟩:=P2.out.R.cells
 have rf:=P2.out.R.free
 have rl:=P2.out.R.lt
 refine wpAnyL_store rfl (by kernel_rfl) (by kernel_rfl) (fun KK hK=>?_)
 go_simp
 refine hK.out _ _ ?_
 clear hK KK
 go_wp2
 exact bodyPost_ret (v:=VV.v (numV sec (leftI ma n))) (by simp[results,Tryz.results67,go_sem,VV.v, *]) rfl ⟨congrArg (fun q=>Ending.returned (VV.v q)) (by have e:=HR.out;rw[HMA.out,Int.toNat_natCast]at e;exact e),below_putV P2.out.bel P2.out.oR _⟩
theorem resultOf_13(d ra rb imm h:Int)(a b:VV)(fl:Int)(sec:Bool)(hv:Value)(w:World)(ha:Bd a)(hb:Bd b)(n0:0<=imm)(n1:imm<=63):
 Calls Tryz.prog 67 #[.agg #[.int .i64 13,.int .i64 d,.int .i64 ra,.int .i64 rb,.int .i64 imm,.int .i64 h],.agg #[.int .i64 a.k,.bool a.s,.int .i64 a.m,.int .i64 a.h,.int .i64 a.lo,.int .i64 a.hi,.int .i64 b.k,.bool b.s,.int .i64 b.m,.int .i64 b.h,.int .i64 b.lo,.int .i64 b.hi,.int .i64 fl,.bool sec],hv] w fun e w'=>e=.returned (numV sec (rightI (maxV a) imm.toNat)).v/\Below w.heap.size w w':=by
 obtain⟨res,hres⟩:∃r,(numV sec (rightI (maxV a) imm.toNat))=r:=⟨_,rfl⟩
 rw[hres]
 have HR:Hid ((numV sec (rightI (maxV a) imm.toNat))=res):=hres
 have HA:Hid (Bd a):=ha
 have HB:Hid (Bd b):=hb
 clear hres ha hb
 obtain⟨n,rfl⟩:∃n:Nat,imm=n:=⟨imm.toNat,by omega⟩
 have hn:n<=63:=by omega
 clear n0 n1
 go_enter Tryz.func67,Tryz.ntmps67
 go_upto_region 1 with fail
 obtain⟨u,hu,pu⟩:=ro_pre w (op:=13) (d:=d) (ra:=ra) (rb:=rb) (imm:=n) (h:=h) a b fl sec
 rw[hu]
 have P0:Hid (RoP w u 13 d ra rb (n:Int) h a b fl sec):=pu
 clear hu pu
 have t0:∀w',Below u.heap.size u w'->w'.cell? ⟨w.heap.size+1,0,none⟩=some (.int .i64 a.k):=fun w' h=>(P0.out.O.below h).2 0 (by simp)
 have t1:∀w',Below u.heap.size u w'->w'.cell? ⟨w.heap.size+1,1,none⟩=some (.bool a.s):=fun w' h=>(P0.out.O.below h).2 1 (by simp)
 have t2:∀w',Below u.heap.size u w'->w'.cell? ⟨w.heap.size+1,2,none⟩=some (.int .i64 a.m):=fun w' h=>(P0.out.O.below h).2 2 (by simp)
 have t3:∀w',Below u.heap.size u w'->w'.cell? ⟨w.heap.size+1,3,none⟩=some (.int .i64 a.h):=fun w' h=>(P0.out.O.below h).2 3 (by simp)
 have t4:∀w',Below u.heap.size u w'->w'.cell? ⟨w.heap.size+1,4,none⟩=some (.int .i64 a.lo):=fun w' h=>(P0.out.O.below h).2 4 (by simp)
 have t5:∀w',Below u.heap.size u w'->w'.cell? ⟨w.heap.size+1,5,none⟩=some (.int .i64 a.hi):=fun w' h=>(P0.out.O.below h).2 5 (by simp)
 have t6:∀w',Below u.heap.size u w'->w'.cell? ⟨w.heap.size+1,6,none⟩=some (.int .i64 b.k):=fun w' h=>(P0.out.O.below h).2 6 (by simp)
 have t7:∀w',Below u.heap.size u w'->w'.cell? ⟨w.heap.size+1,7,none⟩=some (.bool b.s):=fun w' h=>(P0.out.O.below h).2 7 (by simp)
 have t8:∀w',Below u.heap.size u w'->w'.cell? ⟨w.heap.size+1,8,none⟩=some (.int .i64 b.m):=fun w' h=>(P0.out.O.below h).2 8 (by simp)
 have t9:∀w',Below u.heap.size u w'->w'.cell? ⟨w.heap.size+1,9,none⟩=some (.int .i64 b.h):=fun w' h=>(P0.out.O.below h).2 9 (by simp)
 have t10:∀w',Below u.heap.size u w'->w'.cell? ⟨w.heap.size+1,10,none⟩=some (.int .i64 b.lo):=fun w' h=>(P0.out.O.below h).2 10 (by simp)
 have t11:∀w',Below u.heap.size u w'->w'.cell? ⟨w.heap.size+1,11,none⟩=some (.int .i64 b.hi):=fun w' h=>(P0.out.O.below h).2 11 (by simp)
 refine wp_region_held_drew (S:=fun w'=>Below u.heap.size u w') (by kernel_rfl) (Below.refl _ _).drew (fun hHeld=>?_)
 refine wpAnyH_ta 0 rfl ?_
 refine wpAnyH_ta 1 rfl ?_
 refine wpAnyH_ta 3 rfl ?_
 refine wpAnyH_ta 4 rfl ?_
 clear t0 t1 t2 t3 t4 t5 t6 t7 t8 t9 t10 t11
 refine wpAnyH_ready (rs:=[2]) (by kernel_rfl) (by simp) ?_
 refine AllReadyH.cons rfl (fun KK hK=>?_) AllReadyH.nil
 go_simp
 refine(maxOf_any a.k a.s a.m a.h a.lo a.hi _).mono ?_
 rintro e v1⟨rfl,hb⟩
 have hv1:Below u.heap.size u v1:=(Below.refl _ _).drew.trans hb
 clear hb hHeld
 obtain⟨ma,hm⟩:∃m,maxV a=m:=⟨_,rfl⟩
 rw[show maxV ⟨a.k,a.s,a.m,a.h,a.lo,a.hi⟩=ma from hm]
 have HMA:Hid (maxV a=ma):=hm
 clear hm
 go_wp2_with fail
 refine hK.out _ _ hv1 (fun _=>?_)
 clear hK KK
 try go_frame
 refine wpAnyH_ready (rs:=[5]) (by kernel_rfl) (by simp) ?_
 refine AllReadyH.cons rfl (fun KK hK=>?_) AllReadyH.nil
 go_simp
 refine(maxOf_any b.k b.s b.m b.h b.lo b.hi _).mono ?_
 rintro e v2⟨rfl,hb⟩
 have hv2:Below u.heap.size u v2:=hv1.trans (hb.mono hv1.size)
 clear hb
 obtain⟨mb,hm⟩:∃m,maxV b=m:=⟨_,rfl⟩
 rw[show maxV ⟨b.k,b.s,b.m,b.h,b.lo,b.hi⟩=mb from hm]
 have HMB:Hid (maxV b=mb):=hm
 clear hm
 go_wp2_with fail
 refine hK.out _ _ hv2 (fun _=>?_)
 clear hK KK
 try go_frame
 refine wpAnyH_ta 6 rfl ?_
 refine wpAnyH_ta 7 rfl ?_
 refine wpAnyH_done (by kernel_rfl) ?_ _
 have P1:Hid (RoP w v2 13 d ra rb (n:Int) h a b fl sec):=P0.out.below hv2
 clear P0 hv1 hv2
 obtain⟨i0,i1,i2,i3,i4,i5⟩:=ins_cells P1.out.I
 obtain⟨o0,o1,o2,o3,o4,o5,o6,o7,o8,o9,o10,o11,o12,o13⟩:=ro_ops P1.out.O
 obtain⟨r0,r1,r2,r3,r4,r5⟩:=P1.out.R.cells
 have rf:=P1.out.R.free
 have rl:=P1.out.R.lt
 go_upto_region 26 with fail
 clear i0 i1 i2 i3 i4 i5 o0 o1 o2 o3 o4 o5 o6 o7 o8 o9 o10 o11 o12 o13 r0 r1 r2 r3 r4 r5 rf rl
 have t13:∀w',Below v2.heap.size v2 w'->w'.cell? ⟨w.heap.size+1,13,none⟩=some (.bool sec):=fun w' h=>(P1.out.O.below h).2 13 (by simp)
 have t4:∀w',Below v2.heap.size v2 w'->w'.cell? ⟨w.heap.size,4,none⟩=some (.int .i64 (n:Int)):=fun w' h=>(P1.out.I.below h).2 4 (by simp)
 refine wp_region_L (T:=fun w'=>Below v2.heap.size v2 w') (s:=7) (by kernel_rfl) (Below.refl _ _).drew (fun hHeld=>?_)
 refine wpAnyL_ta 0 rfl ?_
 refine wpAnyL_ta 1 rfl ?_
 refine wpAnyL_ta 2 rfl ?_
 refine wpAnyL_ta 3 rfl ?_
 refine wpAnyL_ta 4 rfl ?_
 clear t13 t4
 refine wpAnyL_call (i:=5) rfl (by kernel_rfl) (fun KK hK=>?_)
 go_simp
 refine(rightMax_any ma n _ hn).mono ?_
 rintro e w'⟨rfl,hw⟩
 rw[hw]
 clear hw
 go_wp2_with fail
 refine hK.out _ _ (Below.refl _ _).drew (fun _=>?_)
 clear hK KK
 try go_frame
 refine wpAnyL_call (i:=6) rfl (by kernel_rfl) (fun KK hK=>?_)
 go_simp
 refine(number_any sec (rightI ma n) _).mono ?_
 rintro e v3⟨rfl,hb⟩
 have hv3:Below v2.heap.size v2 v3:=(Below.refl _ _).drew.trans hb
 have P2:Hid (RoP w v3 13 d ra rb (n:Int) h a b fl sec):=P1.out.below hv3
 simp only[VV.v]
 go_wp2_with fail
 refine hK.out _ _ hv3 (fun _=>?_)
 clear hK KK hb hv3 hHeld
 try go_frame
 obtain⟨r0,r1,r2,r3,r4,r5⟩:=P2.out.R.cells
 have rf:=P2.out.R.free
 have rl:=P2.out.R.lt
 refine wpAnyL_store rfl (by kernel_rfl) (by kernel_rfl) (fun KK hK=>?_)
 go_simp
 refine hK.out _ _ ?_
 clear hK KK
 go_wp2
 exact bodyPost_ret (v:=VV.v (numV sec (rightI ma n))) (by simp[results,Tryz.results67,go_sem,VV.v, *]) rfl ⟨congrArg (fun q=>Ending.returned (VV.v q)) (by have e:=HR.out;rw[HMA.out,Int.toNat_natCast]at e;exact e),below_putV P2.out.bel P2.out.oR _⟩
theorem bitsMax_int(a b:Int)(w:World)(ha: -1<=a/\a<=1099511627776)(hb: -1<=b/\b<=1099511627776):
 Calls Tryz.prog 89 #[.int .i64 a,.int .i64 b] w fun e w'=>e=.returned (.int .i64 (orI a b))/\w'=w:=by
 by_cases h1:a<0
 ·clear ha hb
  go_enter Tryz.func89,Tryz.ntmps89;go_wp2;all_goals(go_ret;exact⟨ret_int (by unfold orI;rw[if_pos (Or.inl h1)]),rfl⟩)
 ·by_cases h2:b<0
  ·clear ha hb
   go_enter Tryz.func89,Tryz.ntmps89;go_wp2;all_goals(go_ret;exact⟨ret_int (by unfold orI;rw[if_pos (Or.inr h2)]),rfl⟩)
  ·obtain⟨x,rfl⟩:∃x:Nat,a=x:=⟨a.toNat,by omega⟩
   obtain⟨y,rfl⟩:∃y:Nat,b=y:=⟨b.toNat,by omega⟩
   refine(bitsMax_any x y w (by omega) (by omega)).mono ?_;rintro e w'⟨rfl,hw⟩;exact⟨by unfold orI;rw[if_neg (by omega)],hw⟩
theorem resultOf_7(d ra rb imm h:Int)(a b:VV)(fl:Int)(sec:Bool)(hv:Value)(w:World)(ha:Bd a)(hb:Bd b):
 Calls Tryz.prog 67 #[.agg #[.int .i64 7,.int .i64 d,.int .i64 ra,.int .i64 rb,.int .i64 imm,.int .i64 h],.agg #[.int .i64 a.k,.bool a.s,.int .i64 a.m,.int .i64 a.h,.int .i64 a.lo,.int .i64 a.hi,.int .i64 b.k,.bool b.s,.int .i64 b.m,.int .i64 b.h,.int .i64 b.lo,.int .i64 b.hi,.int .i64 fl,.bool sec],hv] w fun e w'=>e=.returned (numV sec (orI (maxV a) (maxV b))).v/\Below w.heap.size w w':=by
 obtain⟨res,hres⟩:∃r,(numV sec (orI (maxV a) (maxV b)))=r:=⟨_,rfl⟩
 rw[hres]
 have HR:Hid ((numV sec (orI (maxV a) (maxV b)))=res):=hres
 have HA:Hid (Bd a):=ha
 have HB:Hid (Bd b):=hb
 clear hres ha hb
 go_enter Tryz.func67,Tryz.ntmps67
 go_upto_region 1 with fail
 obtain⟨u,hu,pu⟩:=ro_pre w (op:=7) (d:=d) (ra:=ra) (rb:=rb) (imm:=imm) (h:=h) a b fl sec
 rw[hu]
 have P0:Hid (RoP w u 7 d ra rb imm h a b fl sec):=pu
 clear hu pu
 have t0:∀w',Below u.heap.size u w'->w'.cell? ⟨w.heap.size+1,0,none⟩=some (.int .i64 a.k):=fun w' h=>(P0.out.O.below h).2 0 (by simp)
 have t1:∀w',Below u.heap.size u w'->w'.cell? ⟨w.heap.size+1,1,none⟩=some (.bool a.s):=fun w' h=>(P0.out.O.below h).2 1 (by simp)
 have t2:∀w',Below u.heap.size u w'->w'.cell? ⟨w.heap.size+1,2,none⟩=some (.int .i64 a.m):=fun w' h=>(P0.out.O.below h).2 2 (by simp)
 have t3:∀w',Below u.heap.size u w'->w'.cell? ⟨w.heap.size+1,3,none⟩=some (.int .i64 a.h):=fun w' h=>(P0.out.O.below h).2 3 (by simp)
 have t4:∀w',Below u.heap.size u w'->w'.cell? ⟨w.heap.size+1,4,none⟩=some (.int .i64 a.lo):=fun w' h=>(P0.out.O.below h).2 4 (by simp)
 have t5:∀w',Below u.heap.size u w'->w'.cell? ⟨w.heap.size+1,5,none⟩=some (.int .i64 a.hi):=fun w' h=>(P0.out.O.below h).2 5 (by simp)
 have t6:∀w',Below u.heap.size u w'->w'.cell? ⟨w.heap.size+1,6,none⟩=some (.int .i64 b.k):=fun w' h=>(P0.out.O.below h).2 6 (by simp)
 have t7:∀w',Below u.heap.size u w'->w'.cell? ⟨w.heap.size+1,7,none⟩=some (.bool b.s):=fun w' h=>(P0.out.O.below h).2 7 (by simp)
 have t8:∀w',Below u.heap.size u w'->w'.cell? ⟨w.heap.size+1,8,none⟩=some (.int .i64 b.m):=fun w' h=>(P0.out.O.below h).2 8 (by simp)
 have t9:∀w',Below u.heap.size u w'->w'.cell? ⟨w.heap.size+1,9,none⟩=some (.int .i64 b.h):=fun w' h=>(P0.out.O.below h).2 9 (by simp)
 have t10:∀w',Below u.heap.size u w'->w'.cell? ⟨w.heap.size+1,10,none⟩=some (.int .i64 b.lo):=fun w' h=>(P0.out.O.below h).2 10 (by simp)
 have t11:∀w',Below u.heap.size u w'->w'.cell? ⟨w.heap.size+1,11,none⟩=some (.int .i64 b.hi):=fun w' h=>(P0.out.O.below h).2 11 (by simp)
 refine wp_region_held_drew (S:=fun w'=>Below u.heap.size u w') (by kernel_rfl) (Below.refl _ _).drew (fun hHeld=>?_)
 refine wpAnyH_ta 0 rfl ?_
 refine wpAnyH_ta 1 rfl ?_
 refine wpAnyH_ta 3 rfl ?_
 refine wpAnyH_ta 4 rfl ?_
 clear t0 t1 t2 t3 t4 t5 t6 t7 t8 t9 t10 t11
 refine wpAnyH_ready (rs:=[2]) (by kernel_rfl) (by simp) ?_
 refine AllReadyH.cons rfl (fun KK hK=>?_) AllReadyH.nil
 go_simp
 refine(maxOf_any a.k a.s a.m a.h a.lo a.hi _).mono ?_
 rintro e v1⟨rfl,hb⟩
 have hv1:Below u.heap.size u v1:=(Below.refl _ _).drew.trans hb
 clear hb hHeld
 obtain⟨ma,hm⟩:∃m,maxV a=m:=⟨_,rfl⟩
 rw[show maxV ⟨a.k,a.s,a.m,a.h,a.lo,a.hi⟩=ma from hm]
 have HMA:Hid (maxV a=ma):=hm
 clear hm
 go_wp2_with fail
 refine hK.out _ _ hv1 (fun _=>?_)
 clear hK KK
 try go_frame
 refine wpAnyH_ready (rs:=[5]) (by kernel_rfl) (by simp) ?_
 refine AllReadyH.cons rfl (fun KK hK=>?_) AllReadyH.nil
 go_simp
 refine(maxOf_any b.k b.s b.m b.h b.lo b.hi _).mono ?_
 rintro e v2⟨rfl,hb⟩
 have hv2:Below u.heap.size u v2:=hv1.trans (hb.mono hv1.size)
 clear hb
 obtain⟨mb,hm⟩:∃m,maxV b=m:=⟨_,rfl⟩
 rw[show maxV ⟨b.k,b.s,b.m,b.h,b.lo,b.hi⟩=mb from hm]
 have HMB:Hid (maxV b=mb):=hm
 clear hm
 go_wp2_with fail
 refine hK.out _ _ hv2 (fun _=>?_)
 clear hK KK
 try go_frame
 refine wpAnyH_ta 6 rfl ?_
 refine wpAnyH_ta 7 rfl ?_
 refine wpAnyH_done (by kernel_rfl) ?_ _
 have P1:Hid (RoP w v2 7 d ra rb imm h a b fl sec):=P0.out.below hv2
 clear P0 hv1 hv2
 obtain⟨i0,i1,i2,i3,i4,i5⟩:=ins_cells P1.out.I
 obtain⟨o0,o1,o2,o3,o4,o5,o6,o7,o8,o9,o10,o11,o12,o13⟩:=ro_ops P1.out.O
 obtain⟨r0,r1,r2,r3,r4,r5⟩:=P1.out.R.cells
 have rf:=P1.out.R.free
 have rl:=P1.out.R.lt
 have qa: -1<=ma/\ma<=1099511627776:=HMA.out▸maxV_bd HA.out
 have qb: -1<=mb/\mb<=1099511627776:=HMB.out▸maxV_bd HB.out
 go_upto_region 16 with fail
 clear i0 i1 i2 i3 i4 i5 o0 o1 o2 o3 o4 o5 o6 o7 o8 o9 o10 o11 o12 o13 r0 r1 r2 r3 r4 r5 rf rl
 have t13:∀w',Below v2.heap.size v2 w'->w'.cell? ⟨w.heap.size+1,13,none⟩=some (.bool sec):=fun w' h=>(P1.out.O.below h).2 13 (by simp)
 have t4:∀w',Below v2.heap.size v2 w'->w'.cell? ⟨w.heap.size,4,none⟩=some (.int .i64 imm):=fun w' h=>(P1.out.I.below h).2 4 (by simp)
 refine wp_region_L (T:=fun w'=>Below v2.heap.size v2 w') (s:=6) (by kernel_rfl) (Below.refl _ _).drew (fun hHeld=>?_)
 refine wpAnyL_ta 0 rfl ?_
 refine wpAnyL_ta 1 rfl ?_
 refine wpAnyL_ta 2 rfl ?_
 refine wpAnyL_ta 3 rfl ?_
 clear t13 t4
 refine wpAnyL_call (i:=4) rfl (by kernel_rfl) (fun KK hK=>?_)
 go_simp
 refine(bitsMax_int ma mb _ qa qb).mono ?_
 rintro e w'⟨rfl,hw⟩
 rw[hw]
 clear hw
 go_wp2_with fail
 refine hK.out _ _ (Below.refl _ _).drew (fun _=>?_)
 clear hK KK
 try go_frame
 refine wpAnyL_call (i:=5) rfl (by kernel_rfl) (fun KK hK=>?_)
 go_simp
 refine(number_any sec (orI ma mb) _).mono ?_
 rintro e v3⟨rfl,hb⟩
 have hv3:Below v2.heap.size v2 v3:=(Below.refl _ _).drew.trans hb
 have P2:Hid (RoP w v3 7 d ra rb imm h a b fl sec):=P1.out.below hv3
 simp only[VV.v]
 go_wp2_with fail
 refine hK.out _ _ hv3 (fun _=>?_)
 clear hK KK hb hv3 hHeld
 try go_frame
 obtain⟨r0,r1,r2,r3,r4,r5⟩:=P2.out.R.cells
 have rf:=P2.out.R.free
 have rl:=P2.out.R.lt
 refine wpAnyL_store rfl (by kernel_rfl) (by kernel_rfl) (fun KK hK=>?_)
 go_simp
 refine hK.out _ _ ?_
 clear hK KK
 go_wp2
 exact bodyPost_ret (v:=VV.v (numV sec (orI ma mb))) (by simp[results,Tryz.results67,go_sem,VV.v, *]) rfl ⟨congrArg (fun q=>Ending.returned (VV.v q)) (by rw[<-HR.out,HMA.out,HMB.out]),below_putV P2.out.bel P2.out.oR _⟩
theorem resultOf_8(d ra rb imm h:Int)(a b:VV)(fl:Int)(sec:Bool)(hv:Value)(w:World)(ha:Bd a)(hb:Bd b):
 Calls Tryz.prog 67 #[.agg #[.int .i64 8,.int .i64 d,.int .i64 ra,.int .i64 rb,.int .i64 imm,.int .i64 h],.agg #[.int .i64 a.k,.bool a.s,.int .i64 a.m,.int .i64 a.h,.int .i64 a.lo,.int .i64 a.hi,.int .i64 b.k,.bool b.s,.int .i64 b.m,.int .i64 b.h,.int .i64 b.lo,.int .i64 b.hi,.int .i64 fl,.bool sec],hv] w fun e w'=>e=.returned (numV sec (orI (maxV a) (maxV b))).v/\Below w.heap.size w w':=by
 obtain⟨res,hres⟩:∃r,(numV sec (orI (maxV a) (maxV b)))=r:=⟨_,rfl⟩
 rw[hres]
 have HR:Hid ((numV sec (orI (maxV a) (maxV b)))=res):=hres
 have HA:Hid (Bd a):=ha
 have HB:Hid (Bd b):=hb
 clear hres ha hb
 go_enter Tryz.func67,Tryz.ntmps67
 go_upto_region 1 with fail
 obtain⟨u,hu,pu⟩:=ro_pre w (op:=8) (d:=d) (ra:=ra) (rb:=rb) (imm:=imm) (h:=h) a b fl sec
 rw[hu]
 have P0:Hid (RoP w u 8 d ra rb imm h a b fl sec):=pu
 clear hu pu
 have t0:∀w',Below u.heap.size u w'->w'.cell? ⟨w.heap.size+1,0,none⟩=some (.int .i64 a.k):=fun w' h=>(P0.out.O.below h).2 0 (by simp)
 have t1:∀w',Below u.heap.size u w'->w'.cell? ⟨w.heap.size+1,1,none⟩=some (.bool a.s):=fun w' h=>(P0.out.O.below h).2 1 (by simp)
 have t2:∀w',Below u.heap.size u w'->w'.cell? ⟨w.heap.size+1,2,none⟩=some (.int .i64 a.m):=fun w' h=>(P0.out.O.below h).2 2 (by simp)
 have t3:∀w',Below u.heap.size u w'->w'.cell? ⟨w.heap.size+1,3,none⟩=some (.int .i64 a.h):=fun w' h=>(P0.out.O.below h).2 3 (by simp)
 have t4:∀w',Below u.heap.size u w'->w'.cell? ⟨w.heap.size+1,4,none⟩=some (.int .i64 a.lo):=fun w' h=>(P0.out.O.below h).2 4 (by simp)
 have t5:∀w',Below u.heap.size u w'->w'.cell? ⟨w.heap.size+1,5,none⟩=some (.int .i64 a.hi):=fun w' h=>(P0.out.O.below h).2 5 (by simp)
 have t6:∀w',Below u.heap.size u w'->w'.cell? ⟨w.heap.size+1,6,none⟩=some (.int .i64 b.k):=fun w' h=>(P0.out.O.below h).2 6 (by simp)
 have t7:∀w',Below u.heap.size u w'->w'.cell? ⟨w.heap.size+1,7,none⟩=some (.bool b.s):=fun w' h=>(P0.out.O.below h).2 7 (by simp)
 have t8:∀w',Below u.heap.size u w'->w'.cell? ⟨w.heap.size+1,8,none⟩=some (.int .i64 b.m):=fun w' h=>(P0.out.O.below h).2 8 (by simp)
 have t9:∀w',Below u.heap.size u w'->w'.cell? ⟨w.heap.size+1,9,none⟩=some (.int .i64 b.h):=fun w' h=>(P0.out.O.below h).2 9 (by simp)
 have t10:∀w',Below u.heap.size u w'->w'.cell? ⟨w.heap.size+1,10,none⟩=some (.int .i64 b.lo):=fun w' h=>(P0.out.O.below h).2 10 (by simp)
 have t11:∀w',Below u.heap.size u w'->w'.cell? ⟨w.heap.size+1,11,none⟩=some (.int .i64 b.hi):=fun w' h=>(P0.out.O.below h).2 11 (by simp)
 refine wp_region_held_drew (S:=fun w'=>Below u.heap.size u w') (by kernel_rfl) (Below.refl _ _).drew (fun hHeld=>?_)
 refine wpAnyH_ta 0 rfl ?_
 refine wpAnyH_ta 1 rfl ?_
 refine wpAnyH_ta 3 rfl ?_
 refine wpAnyH_ta 4 rfl ?_
 clear t0 t1 t2 t3 t4 t5 t6 t7 t8 t9 t10 t11
 refine wpAnyH_ready (rs:=[2]) (by kernel_rfl) (by simp) ?_
 refine AllReadyH.cons rfl (fun KK hK=>?_) AllReadyH.nil
 go_simp
 refine(maxOf_any a.k a.s a.m a.h a.lo a.hi _).mono ?_
 rintro e v1⟨rfl,hb⟩
 have hv1:Below u.heap.size u v1:=(Below.refl _ _).drew.trans hb
 clear hb hHeld
 obtain⟨ma,hm⟩:∃m,maxV a=m:=⟨_,rfl⟩
 rw[show maxV ⟨a.k,a.s,a.m,a.h,a.lo,a.hi⟩=ma from hm]
 have HMA:Hid (maxV a=ma):=hm
 clear hm
 go_wp2_with fail
 refine hK.out _ _ hv1 (fun _=>?_)
 clear hK KK
 try go_frame
 refine wpAnyH_ready (rs:=[5]) (by kernel_rfl) (by simp) ?_
 refine AllReadyH.cons rfl (fun KK hK=>?_) AllReadyH.nil
 go_simp
 refine(maxOf_any b.k b.s b.m b.h b.lo b.hi _).mono ?_
 rintro e v2⟨rfl,hb⟩
 have hv2:Below u.heap.size u v2:=hv1.trans (hb.mono hv1.size)
 clear hb
 obtain⟨mb,hm⟩:∃m,maxV b=m:=⟨_,rfl⟩
 rw[show maxV ⟨b.k,b.s,b.m,b.h,b.lo,b.hi⟩=mb from hm]
 have HMB:Hid (maxV b=mb):=hm
 clear hm
 go_wp2_with fail
 refine hK.out _ _ hv2 (fun _=>?_)
 clear hK KK
 try go_frame
 refine wpAnyH_ta 6 rfl ?_
 refine wpAnyH_ta 7 rfl ?_
 refine wpAnyH_done (by kernel_rfl) ?_ _
 have P1:Hid (RoP w v2 8 d ra rb imm h a b fl sec):=P0.out.below hv2
 clear P0 hv1 hv2
 obtain⟨i0,i1,i2,i3,i4,i5⟩:=ins_cells P1.out.I
 obtain⟨o0,o1,o2,o3,o4,o5,o6,o7,o8,o9,o10,o11,o12,o13⟩:=ro_ops P1.out.O
 obtain⟨r0,r1,r2,r3,r4,r5⟩:=P1.out.R.cells
 have rf:=P1.out.R.free
 have rl:=P1.out.R.lt
 have qa: -1<=ma/\ma<=1099511627776:=HMA.out▸maxV_bd HA.out
 have qb: -1<=mb/\mb<=1099511627776:=HMB.out▸maxV_bd HB.out
 go_upto_region 16 with fail
 clear i0 i1 i2 i3 i4 i5 o0 o1 o2 o3 o4 o5 o6 o7 o8 o9 o10 o11 o12 o13 r0 r1 r2 r3 r4 r5 rf rl
 have t13:∀w',Below v2.heap.size v2 w'->w'.cell? ⟨w.heap.size+1,13,none⟩=some (.bool sec):=fun w' h=>(P1.out.O.below h).2 13 (by simp)
 have t4:∀w',Below v2.heap.size v2 w'->w'.cell? ⟨w.heap.size,4,none⟩=some (.int .i64 imm):=fun w' h=>(P1.out.I.below h).2 4 (by simp)
 refine wp_region_L (T:=fun w'=>Below v2.heap.size v2 w') (s:=6) (by kernel_rfl) (Below.refl _ _).drew (fun hHeld=>?_)
 refine wpAnyL_ta 0 rfl ?_
 refine wpAnyL_ta 1 rfl ?_
 refine wpAnyL_ta 2 rfl ?_
 refine wpAnyL_ta 3 rfl ?_
 clear t13 t4
 refine wpAnyL_call (i:=4) rfl (by kernel_rfl) (fun KK hK=>?_)
 go_simp
 refine(bitsMax_int ma mb _ qa qb).mono ?_
 rintro e w'⟨rfl,hw⟩
 rw[hw]
 clear hw
 go_wp2_with fail
 refine hK.out _ _ (Below.refl _ _).drew (fun _=>?_)
 clear hK KK
 try go_frame
 refine wpAnyL_call (i:=5) rfl (by kernel_rfl) (fun KK hK=>?_)
 go_simp
 refine(number_any sec (orI ma mb) _).mono ?_
 rintro e v3⟨rfl,hb⟩
 have hv3:Below v2.heap.size v2 v3:=(Below.refl _ _).drew.trans hb
 have P2:Hid (RoP w v3 8 d ra rb imm h a b fl sec):=P1.out.below hv3
 simp only[VV.v]
 go_wp2_with fail
 refine hK.out _ _ hv3 (fun _=>?_)
 clear hK KK hb hv3 hHeld
 try go_frame
 obtain⟨r0,r1,r2,r3,r4,r5⟩:=P2.out.R.cells
 have rf:=P2.out.R.free
 have rl:=P2.out.R.lt
 refine wpAnyL_store rfl (by kernel_rfl) (by kernel_rfl) (fun KK hK=>?_)
 go_simp
 refine hK.out _ _ ?_
 clear hK KK
 go_wp2
 exact bodyPost_ret (v:=VV.v (numV sec (orI ma mb))) (by simp[results,Tryz.results67,go_sem,VV.v, *]) rfl ⟨congrArg (fun q=>Ending.returned (VV.v q)) (by rw[<-HR.out,HMA.out,HMB.out]),below_putV P2.out.bel P2.out.oR _⟩
theorem resultOf_21(d ra rb imm:Int)(a b:VV)(fl:Int)(sec:Bool)(w:World)(ha:Bd a)(hb:Bd b)(bH cH nH q:Nat)(S:Nat->HS)(_lH:nH<=1048576)(hq:q<nH)(hh:Arr w bH (nH*3) (hsF S)):
 Calls Tryz.prog 67 #[.agg #[.int .i64 21,.int .i64 d,.int .i64 ra,.int .i64 rb,.int .i64 imm,.int .i64 (q:Int)],.agg #[.int .i64 a.k,.bool a.s,.int .i64 a.m,.int .i64 a.h,.int .i64 a.lo,.int .i64 a.hi,.int .i64 b.k,.bool b.s,.int .i64 b.m,.int .i64 b.h,.int .i64 b.lo,.int .i64 b.hi,.int .i64 fl,.bool sec],.slice (some ⟨bH,0,none⟩) nH cH] w fun e w'=>e=.returned (numV (S q).s 255).v/\Below w.heap.size w w':=by
 obtain⟨res,hres⟩:∃r,(numV (S q).s 255)=r:=⟨_,rfl⟩
 rw[hres]
 have HR:Hid ((numV (S q).s 255)=res):=hres
 have HA:Hid (Bd a):=ha
 have HB:Hid (Bd b):=hb
 clear hres ha hb
 have HH:Hid (Arr w bH (nH*3) (hsF S)):=hh
 clear hh
 go_enter Tryz.func67,Tryz.ntmps67
 go_upto_region 1 with fail
 obtain⟨u,hu,pu⟩:=ro_pre w (op:=21) (d:=d) (ra:=ra) (rb:=rb) (imm:=imm) (h:=(q:Int)) a b fl sec
 rw[hu]
 have P0:Hid (RoP w u 21 d ra rb imm (q:Int) a b fl sec):=pu
 clear hu pu
 have t0:∀w',Below u.heap.size u w'->w'.cell? ⟨w.heap.size+1,0,none⟩=some (.int .i64 a.k):=fun w' h=>(P0.out.O.below h).2 0 (by simp)
 have t1:∀w',Below u.heap.size u w'->w'.cell? ⟨w.heap.size+1,1,none⟩=some (.bool a.s):=fun w' h=>(P0.out.O.below h).2 1 (by simp)
 have t2:∀w',Below u.heap.size u w'->w'.cell? ⟨w.heap.size+1,2,none⟩=some (.int .i64 a.m):=fun w' h=>(P0.out.O.below h).2 2 (by simp)
 have t3:∀w',Below u.heap.size u w'->w'.cell? ⟨w.heap.size+1,3,none⟩=some (.int .i64 a.h):=fun w' h=>(P0.out.O.below h).2 3 (by simp)
 have t4:∀w',Below u.heap.size u w'->w'.cell? ⟨w.heap.size+1,4,none⟩=some (.int .i64 a.lo):=fun w' h=>(P0.out.O.below h).2 4 (by simp)
 have t5:∀w',Below u.heap.size u w'->w'.cell? ⟨w.heap.size+1,5,none⟩=some (.int .i64 a.hi):=fun w' h=>(P0.out.O.below h).2 5 (by simp)
 have t6:∀w',Below u.heap.size u w'->w'.cell? ⟨w.heap.size+1,6,none⟩=some (.int .i64 b.k):=fun w' h=>(P0.out.O.below h).2 6 (by simp)
 have t7:∀w',Below u.heap.size u w'->w'.cell? ⟨w.heap.size+1,7,none⟩=some (.bool b.s):=fun w' h=>(P0.out.O.below h).2 7 (by simp)
 have t8:∀w',Below u.heap.size u w'->w'.cell? ⟨w.heap.size+1,8,none⟩=some (.int .i64 b.m):=fun w' h=>(P0.out.O.below h).2 8 (by simp)
 have t9:∀w',Below u.heap.size u w'->w'.cell? ⟨w.heap.size+1,9,none⟩=some (.int .i64 b.h):=fun w' h=>(P0.out.O.below h).2 9 (by simp)
 have t10:∀w',Below u.heap.size u w'->w'.cell? ⟨w.heap.size+1,10,none⟩=some (.int .i64 b.lo):=fun w' h=>(P0.out.O.below h).2 10 (by simp)
 have t11:∀w',Below u.heap.size u w'->w'.cell? ⟨w.heap.size+1,11,none⟩=some (.int .i64 b.hi):=fun w' h=>(P0.out.O.below h).2 11 (by simp)
 refine wp_region_held_drew (S:=fun w'=>Below u.heap.size u w') (by kernel_rfl) (Below.refl _ _).drew (fun hHeld=>?_)
 refine wpAnyH_ta 0 rfl ?_
 refine wpAnyH_ta 1 rfl ?_
 refine wpAnyH_ta 3 rfl ?_
 refine wpAnyH_ta 4 rfl ?_
 clear t0 t1 t2 t3 t4 t5 t6 t7 t8 t9 t10 t11
 refine wpAnyH_ready (rs:=[2]) (by kernel_rfl) (by simp) ?_
 refine AllReadyH.cons rfl (fun KK hK=>?_) AllReadyH.nil
 go_simp
 refine(maxOf_any a.k a.s a.m a.h a.lo a.hi _).mono ?_
 rintro e v1⟨rfl,hb⟩
 have hv1:Below u.heap.size u v1:=(Below.refl _ _).drew.trans hb
 clear hb hHeld
 obtain⟨ma,hm⟩:∃m,maxV a=m:=⟨_,rfl⟩
 rw[show maxV ⟨a.k,a.s,a.m,a.h,a.lo,a.hi⟩=ma from hm]
 have HMA:Hid (maxV a=ma):=hm
 clear hm
 go_wp2_with fail
 refine hK.out _ _ hv1 (fun _=>?_)
 clear hK KK
 try go_frame
 refine wpAnyH_ready (rs:=[5]) (by kernel_rfl) (by simp) ?_
 refine AllReadyH.cons rfl (fun KK hK=>?_) AllReadyH.nil
 go_simp
 refine(maxOf_any b.k b.s b.m b.h b.lo b.hi _).mono ?_
 rintro e v2⟨rfl,hb⟩
 have hv2:Below u.heap.size u v2:=hv1.trans (hb.mono hv1.size)
 clear hb
 obtain⟨mb,hm⟩:∃m,maxV b=m:=⟨_,rfl⟩
 rw[show maxV ⟨b.k,b.s,b.m,b.h,b.lo,b.hi⟩=mb from hm]
 have HMB:Hid (maxV b=mb):=hm
 clear hm
 go_wp2_with fail
 refine hK.out _ _ hv2 (fun _=>?_)
 clear hK KK
 try go_frame
 refine wpAnyH_ta 6 rfl ?_
 refine wpAnyH_ta 7 rfl ?_
 refine wpAnyH_done (by kernel_rfl) ?_ _
 have P1:Hid (RoP w v2 21 d ra rb imm (q:Int) a b fl sec):=P0.out.below hv2
 clear P0 hv1 hv2
 obtain⟨i0,i1,i2,i3,i4,i5⟩:=ins_cells P1.out.I
 obtain⟨o0,o1,o2,o3,o4,o5,o6,o7,o8,o9,o10,o11,o12,o13⟩:=ro_ops P1.out.O
 obtain⟨r0,r1,r2,r3,r4,r5⟩:=P1.out.R.cells
 have rf:=P1.out.R.free
 have rl:=P1.out.R.lt
 have c0:v2.cell? ⟨bH,q*3+1,none⟩=some (.bool (S q).s):=by
  rw[(HH.out.below P1.out.bel HH.out.lt).cell (by omega),hsF_at S q 1 (by omega)]
  rfl
 go_wp2_with fail
 refine(number_any (S q).s 255 _).mono ?_
 rintro e y1⟨rfl,hb⟩
 have P2:Hid (RoP w y1 21 d ra rb imm (q:Int) a b fl sec):=P1.out.below hb
 clear hb
 clear i0 i1 i2 i3 i4 i5 o0 o1 o2 o3 o4 o5 o6 o7 o8 o9 o10 o11 o12 o13 r0 r1 r2 r3 r4 r5 rf rl
 obtain⟨i0,i1,i2,i3,i4,i5⟩:=ins_cells P2.out.I
 obtain⟨o0,o1,o2,o3,o4,o5,o6,o7,o8,o9,o10,o11,o12,o13⟩:=ro_ops P2.out.O
 obtain⟨r0,r1,r2,r3,r4,r5⟩:=P2.out.R.cells
 have rf:=P2.out.R.free
 have rl:=P2.out.R.lt
 simp only[VV.v]
 go_wp2
 exact bodyPost_ret (v:=VV.v (numV (S q).s 255)) (by simp[results,Tryz.results67,go_sem,VV.v, *]) rfl ⟨congrArg (fun q=>Ending.returned (VV.v q)) (by rw[<-HR.out]),below_putV P2.out.bel P2.out.oR _⟩
theorem resultOf_22(d ra rb imm:Int)(a b:VV)(fl:Int)(sec:Bool)(w:World)(ha:Bd a)(hb:Bd b)(bH cH nH q:Nat)(S:Nat->HS)(_lH:nH<=1048576)(hq:q<nH)(hh:Arr w bH (nH*3) (hsF S)):
 Calls Tryz.prog 67 #[.agg #[.int .i64 22,.int .i64 d,.int .i64 ra,.int .i64 rb,.int .i64 imm,.int .i64 (q:Int)],.agg #[.int .i64 a.k,.bool a.s,.int .i64 a.m,.int .i64 a.h,.int .i64 a.lo,.int .i64 a.hi,.int .i64 b.k,.bool b.s,.int .i64 b.m,.int .i64 b.h,.int .i64 b.lo,.int .i64 b.hi,.int .i64 fl,.bool sec],.slice (some ⟨bH,0,none⟩) nH cH] w fun e w'=>e=.returned (numV (S q).s (-1)).v/\Below w.heap.size w w':=by
 obtain⟨res,hres⟩:∃r,(numV (S q).s (-1))=r:=⟨_,rfl⟩
 rw[hres]
 have HR:Hid ((numV (S q).s (-1))=res):=hres
 have HA:Hid (Bd a):=ha
 have HB:Hid (Bd b):=hb
 clear hres ha hb
 have HH:Hid (Arr w bH (nH*3) (hsF S)):=hh
 clear hh
 go_enter Tryz.func67,Tryz.ntmps67
 go_upto_region 1 with fail
 obtain⟨u,hu,pu⟩:=ro_pre w (op:=22) (d:=d) (ra:=ra) (rb:=rb) (imm:=imm) (h:=(q:Int)) a b fl sec
 rw[hu]
 have P0:Hid (RoP w u 22 d ra rb imm (q:Int) a b fl sec):=pu
 clear hu pu
 have t0:∀w',Below u.heap.size u w'->w'.cell? ⟨w.heap.size+1,0,none⟩=some (.int .i64 a.k):=fun w' h=>(P0.out.O.below h).2 0 (by simp)
 have t1:∀w',Below u.heap.size u w'->w'.cell? ⟨w.heap.size+1,1,none⟩=some (.bool a.s):=fun w' h=>(P0.out.O.below h).2 1 (by simp)
 have t2:∀w',Below u.heap.size u w'->w'.cell? ⟨w.heap.size+1,2,none⟩=some (.int .i64 a.m):=fun w' h=>(P0.out.O.below h).2 2 (by simp)
 have t3:∀w',Below u.heap.size u w'->w'.cell? ⟨w.heap.size+1,3,none⟩=some (.int .i64 a.h):=fun w' h=>(P0.out.O.below h).2 3 (by simp)
 have t4:∀w',Below u.heap.size u w'->w'.cell? ⟨w.heap.size+1,4,none⟩=some (.int .i64 a.lo):=fun w' h=>(P0.out.O.below h).2 4 (by simp)
 have t5:∀w',Below u.heap.size u w'->w'.cell? ⟨w.heap.size+1,5,none⟩=some (.int .i64 a.hi):=fun w' h=>(P0.out.O.below h).2 5 (by simp)
 have t6:∀w',Below u.heap.size u w'->w'.cell? ⟨w.heap.size+1,6,none⟩=some (.int .i64 b.k):=fun w' h=>(P0.out.O.below h).2 6 (by simp)
 have t7:∀w',Below u.heap.size u w'->w'.cell? ⟨w.heap.size+1,7,none⟩=some (.bool b.s):=fun w' h=>(P0.out.O.below h).2 7 (by simp)
 have t8:∀w',Below u.heap.size u w'->w'.cell? ⟨w.heap.size+1,8,none⟩=some (.int .i64 b.m):=fun w' h=>(P0.out.O.below h).2 8 (by simp)
 have t9:∀w',Below u.heap.size u w'->w'.cell? ⟨w.heap.size+1,9,none⟩=some (.int .i64 b.h):=fun w' h=>(P0.out.O.below h).2 9 (by simp)
 have t10:∀w',Below u.heap.size u w'->w'.cell? ⟨w.heap.size+1,10,none⟩=some (.int .i64 b.lo):=fun w' h=>(P0.out.O.below h).2 10 (by simp)
 have t11:∀w',Below u.heap.size u w'->w'.cell? ⟨w.heap.size+1,11,none⟩=some (.int .i64 b.hi):=fun w' h=>(P0.out.O.below h).2 11 (by simp)
 refine wp_region_held_drew (S:=fun w'=>Below u.heap.size u w') (by kernel_rfl) (Below.refl _ _).drew (fun hHeld=>?_)
 refine wpAnyH_ta 0 rfl ?_
 refine wpAnyH_ta 1 rfl ?_
 refine wpAnyH_ta 3 rfl ?_
 refine wpAnyH_ta 4 rfl ?_
 clear t0 t1 t2 t3 t4 t5 t6 t7 t8 t9 t10 t11
 refine wpAnyH_ready (rs:=[2]) (by kernel_rfl) (by simp) ?_
 refine AllReadyH.cons rfl (fun KK hK=>?_) AllReadyH.nil
 go_simp
 refine(maxOf_any a.k a.s a.m a.h a.lo a.hi _).mono ?_
 rintro e v1⟨rfl,hb⟩
 have hv1:Below u.heap.size u v1:=(Below.refl _ _).drew.trans hb
 clear hb hHeld
 obtain⟨ma,hm⟩:∃m,maxV a=m:=⟨_,rfl⟩
 rw[show maxV ⟨a.k,a.s,a.m,a.h,a.lo,a.hi⟩=ma from hm]
 have HMA:Hid (maxV a=ma):=hm
 clear hm
 go_wp2_with fail
 refine hK.out _ _ hv1 (fun _=>?_)
 clear hK KK
 try go_frame
 refine wpAnyH_ready (rs:=[5]) (by kernel_rfl) (by simp) ?_
 refine AllReadyH.cons rfl (fun KK hK=>?_) AllReadyH.nil
 go_simp
 refine(maxOf_any b.k b.s b.m b.h b.lo b.hi _).mono ?_
 rintro e v2⟨rfl,hb⟩
 have hv2:Below u.heap.size u v2:=hv1.trans (hb.mono hv1.size)
 clear hb
 obtain⟨mb,hm⟩:∃m,maxV b=m:=⟨_,rfl⟩
 rw[show maxV ⟨b.k,b.s,b.m,b.h,b.lo,b.hi⟩=mb from hm]
 have HMB:Hid (maxV b=mb):=hm
 clear hm
 go_wp2_with fail
 refine hK.out _ _ hv2 (fun _=>?_)
 clear hK KK
 try go_frame
 refine wpAnyH_ta 6 rfl ?_
 refine wpAnyH_ta 7 rfl ?_
 refine wpAnyH_done (by kernel_rfl) ?_ _
 have P1:Hid (RoP w v2 22 d ra rb imm (q:Int) a b fl sec):=P0.out.below hv2
 clear P0 hv1 hv2
 obtain⟨i0,i1,i2,i3,i4,i5⟩:=ins_cells P1.out.I
 obtain⟨o0,o1,o2,o3,o4,o5,o6,o7,o8,o9,o10,o11,o12,o13⟩:=ro_ops P1.out.O
 obtain⟨r0,r1,r2,r3,r4,r5⟩:=P1.out.R.cells
 have rf:=P1.out.R.free
 have rl:=P1.out.R.lt
 have c0:v2.cell? ⟨bH,q*3+1,none⟩=some (.bool (S q).s):=by
  rw[(HH.out.below P1.out.bel HH.out.lt).cell (by omega),hsF_at S q 1 (by omega)]
  rfl
 go_wp2_with fail
 refine(number_any (S q).s (-1) _).mono ?_
 rintro e y1⟨rfl,hb⟩
 have P2:Hid (RoP w y1 22 d ra rb imm (q:Int) a b fl sec):=P1.out.below hb
 clear hb
 clear i0 i1 i2 i3 i4 i5 o0 o1 o2 o3 o4 o5 o6 o7 o8 o9 o10 o11 o12 o13 r0 r1 r2 r3 r4 r5 rf rl
 obtain⟨i0,i1,i2,i3,i4,i5⟩:=ins_cells P2.out.I
 obtain⟨o0,o1,o2,o3,o4,o5,o6,o7,o8,o9,o10,o11,o12,o13⟩:=ro_ops P2.out.O
 obtain⟨r0,r1,r2,r3,r4,r5⟩:=P2.out.R.cells
 have rf:=P2.out.R.free
 have rl:=P2.out.R.lt
 simp only[VV.v]
 go_wp2
 exact bodyPost_ret (v:=VV.v (numV (S q).s (-1))) (by simp[results,Tryz.results67,go_sem,VV.v, *]) rfl ⟨congrArg (fun q=>Ending.returned (VV.v q)) (by rw[<-HR.out]),below_putV P2.out.bel P2.out.oR _⟩
theorem resultOf_25(d ra rb imm:Int)(a b:VV)(fl:Int)(sec:Bool)(w:World)(ha:Bd a)(hb:Bd b)(bH cH nH q:Nat)(S:Nat->HS)(_lH:nH<=1048576)(hq:q<nH)(hh:Arr w bH (nH*3) (hsF S)):
 Calls Tryz.prog 67 #[.agg #[.int .i64 25,.int .i64 d,.int .i64 ra,.int .i64 rb,.int .i64 imm,.int .i64 (q:Int)],.agg #[.int .i64 a.k,.bool a.s,.int .i64 a.m,.int .i64 a.h,.int .i64 a.lo,.int .i64 a.hi,.int .i64 b.k,.bool b.s,.int .i64 b.m,.int .i64 b.h,.int .i64 b.lo,.int .i64 b.hi,.int .i64 fl,.bool sec],.slice (some ⟨bH,0,none⟩) nH cH] w fun e w'=>e=.returned (numV (S q).s 255).v/\Below w.heap.size w w':=by
 obtain⟨res,hres⟩:∃r,(numV (S q).s 255)=r:=⟨_,rfl⟩
 rw[hres]
 have HR:Hid ((numV (S q).s 255)=res):=hres
 have HA:Hid (Bd a):=ha
 have HB:Hid (Bd b):=hb
 clear hres ha hb
 have HH:Hid (Arr w bH (nH*3) (hsF S)):=hh
 clear hh
 go_enter Tryz.func67,Tryz.ntmps67
 go_upto_region 1 with fail
 obtain⟨u,hu,pu⟩:=ro_pre w (op:=25) (d:=d) (ra:=ra) (rb:=rb) (imm:=imm) (h:=(q:Int)) a b fl sec
 rw[hu]
 have P0:Hid (RoP w u 25 d ra rb imm (q:Int) a b fl sec):=pu
 clear hu pu
 have t0:∀w',Below u.heap.size u w'->w'.cell? ⟨w.heap.size+1,0,none⟩=some (.int .i64 a.k):=fun w' h=>(P0.out.O.below h).2 0 (by simp)
 have t1:∀w',Below u.heap.size u w'->w'.cell? ⟨w.heap.size+1,1,none⟩=some (.bool a.s):=fun w' h=>(P0.out.O.below h).2 1 (by simp)
 have t2:∀w',Below u.heap.size u w'->w'.cell? ⟨w.heap.size+1,2,none⟩=some (.int .i64 a.m):=fun w' h=>(P0.out.O.below h).2 2 (by simp)
 have t3:∀w',Below u.heap.size u w'->w'.cell? ⟨w.heap.size+1,3,none⟩=some (.int .i64 a.h):=fun w' h=>(P0.out.O.below h).2 3 (by simp)
 have t4:∀w',Below u.heap.size u w'->w'.cell? ⟨w.heap.size+1,4,none⟩=some (.int .i64 a.lo):=fun w' h=>(P0.out.O.below h).2 4 (by simp)
 have t5:∀w',Below u.heap.size u w'->w'.cell? ⟨w.heap.size+1,5,none⟩=some (.int .i64 a.hi):=fun w' h=>(P0.out.O.below h).2 5 (by simp)
 have t6:∀w',Below u.heap.size u w'->w'.cell? ⟨w.heap.size+1,6,none⟩=some (.int .i64 b.k):=fun w' h=>(P0.out.O.below h).2 6 (by simp)
 have t7:∀w',Below u.heap.size u w'->w'.cell? ⟨w.heap.size+1,7,none⟩=some (.bool b.s):=fun w' h=>(P0.out.O.below h).2 7 (by simp)
 have t8:∀w',Below u.heap.size u w'->w'.cell? ⟨w.heap.size+1,8,none⟩=some (.int .i64 b.m):=fun w' h=>(P0.out.O.below h).2 8 (by simp)
 have t9:∀w',Below u.heap.size u w'->w'.cell? ⟨w.heap.size+1,9,none⟩=some (.int .i64 b.h):=fun w' h=>(P0.out.O.below h).2 9 (by simp)
 have t10:∀w',Below u.heap.size u w'->w'.cell? ⟨w.heap.size+1,10,none⟩=some (.int .i64 b.lo):=fun w' h=>(P0.out.O.below h).2 10 (by simp)
 have t11:∀w',Below u.heap.size u w'->w'.cell? ⟨w.heap.size+1,11,none⟩=some (.int .i64 b.hi):=fun w' h=>(P0.out.O.below h).2 11 (by simp)
 refine wp_region_held_drew (S:=fun w'=>Below u.heap.size u w') (by kernel_rfl) (Below.refl _ _).drew (fun hHeld=>?_)
 refine wpAnyH_ta 0 rfl ?_
 refine wpAnyH_ta 1 rfl ?_
 refine wpAnyH_ta 3 rfl ?_
 refine wpAnyH_ta 4 rfl ?_
 clear t0 t1 t2 t3 t4 t5 t6 t7 t8 t9 t10 t11
 refine wpAnyH_ready (rs:=[2]) (by kernel_rfl) (by simp) ?_
 refine AllReadyH.cons rfl (fun KK hK=>?_) AllReadyH.nil
 go_simp
 refine(maxOf_any a.k a.s a.m a.h a.lo a.hi _).mono ?_
 rintro e v1⟨rfl,hb⟩
 have hv1:Below u.heap.size u v1:=(Below.refl _ _).drew.trans hb
 clear hb hHeld
 obtain⟨ma,hm⟩:∃m,maxV a=m:=⟨_,rfl⟩
 rw[show maxV ⟨a.k,a.s,a.m,a.h,a.lo,a.hi⟩=ma from hm]
 have HMA:Hid (maxV a=ma):=hm
 clear hm
 go_wp2_with fail
 refine hK.out _ _ hv1 (fun _=>?_)
 clear hK KK
 try go_frame
 refine wpAnyH_ready (rs:=[5]) (by kernel_rfl) (by simp) ?_
 refine AllReadyH.cons rfl (fun KK hK=>?_) AllReadyH.nil
 go_simp
 refine(maxOf_any b.k b.s b.m b.h b.lo b.hi _).mono ?_
 rintro e v2⟨rfl,hb⟩
 have hv2:Below u.heap.size u v2:=hv1.trans (hb.mono hv1.size)
 clear hb
 obtain⟨mb,hm⟩:∃m,maxV b=m:=⟨_,rfl⟩
 rw[show maxV ⟨b.k,b.s,b.m,b.h,b.lo,b.hi⟩=mb from hm]
 have HMB:Hid (maxV b=mb):=hm
 clear hm
 go_wp2_with fail
 refine hK.out _ _ hv2 (fun _=>?_)
 clear hK KK
 try go_frame
 refine wpAnyH_ta 6 rfl ?_
 refine wpAnyH_ta 7 rfl ?_
 refine wpAnyH_done (by kernel_rfl) ?_ _
 have P1:Hid (RoP w v2 25 d ra rb imm (q:Int) a b fl sec):=P0.out.below hv2
 clear P0 hv1 hv2
 obtain⟨i0,i1,i2,i3,i4,i5⟩:=ins_cells P1.out.I
 obtain⟨o0,o1,o2,o3,o4,o5,o6,o7,o8,o9,o10,o11,o12,o13⟩:=ro_ops P1.out.O
 obtain⟨r0,r1,r2,r3,r4,r5⟩:=P1.out.R.cells
 have rf:=P1.out.R.free
 have rl:=P1.out.R.lt
 have c0:v2.cell? ⟨bH,q*3+1,none⟩=some (.bool (S q).s):=by
  rw[(HH.out.below P1.out.bel HH.out.lt).cell (by omega),hsF_at S q 1 (by omega)]
  rfl
 go_wp2_with fail
 refine(number_any (S q).s 255 _).mono ?_
 rintro e y1⟨rfl,hb⟩
 have P2:Hid (RoP w y1 25 d ra rb imm (q:Int) a b fl sec):=P1.out.below hb
 clear hb
 clear i0 i1 i2 i3 i4 i5 o0 o1 o2 o3 o4 o5 o6 o7 o8 o9 o10 o11 o12 o13 r0 r1 r2 r3 r4 r5 rf rl
 obtain⟨i0,i1,i2,i3,i4,i5⟩:=ins_cells P2.out.I
 obtain⟨o0,o1,o2,o3,o4,o5,o6,o7,o8,o9,o10,o11,o12,o13⟩:=ro_ops P2.out.O
 obtain⟨r0,r1,r2,r3,r4,r5⟩:=P2.out.R.cells
 have rf:=P2.out.R.free
 have rl:=P2.out.R.lt
 simp only[VV.v]
 go_wp2
 exact bodyPost_ret (v:=VV.v (numV (S q).s 255)) (by simp[results,Tryz.results67,go_sem,VV.v, *]) rfl ⟨congrArg (fun q=>Ending.returned (VV.v q)) (by rw[<-HR.out]),below_putV P2.out.bel P2.out.oR _⟩
theorem resultOf_26(d ra rb imm:Int)(a b:VV)(fl:Int)(sec:Bool)(w:World)(ha:Bd a)(hb:Bd b)(bH cH nH q:Nat)(S:Nat->HS)(_lH:nH<=1048576)(hq:q<nH)(hh:Arr w bH (nH*3) (hsF S)):
 Calls Tryz.prog 67 #[.agg #[.int .i64 26,.int .i64 d,.int .i64 ra,.int .i64 rb,.int .i64 imm,.int .i64 (q:Int)],.agg #[.int .i64 a.k,.bool a.s,.int .i64 a.m,.int .i64 a.h,.int .i64 a.lo,.int .i64 a.hi,.int .i64 b.k,.bool b.s,.int .i64 b.m,.int .i64 b.h,.int .i64 b.lo,.int .i64 b.hi,.int .i64 fl,.bool sec],.slice (some ⟨bH,0,none⟩) nH cH] w fun e w'=>e=.returned (numV (S q).s (-1)).v/\Below w.heap.size w w':=by
 obtain⟨res,hres⟩:∃r,(numV (S q).s (-1))=r:=⟨_,rfl⟩
 rw[hres]
 have HR:Hid ((numV (S q).s (-1))=res):=hres
 have HA:Hid (Bd a):=ha
 have HB:Hid (Bd b):=hb
 clear hres ha hb
 have HH:Hid (Arr w bH (nH*3) (hsF S)):=hh
 clear hh
 go_enter Tryz.func67,Tryz.ntmps67
 go_upto_region 1 with fail
 obtain⟨u,hu,pu⟩:=ro_pre w (op:=26) (d:=d) (ra:=ra) (rb:=rb) (imm:=imm) (h:=(q:Int)) a b fl sec
 rw[hu]
 have P0:Hid (RoP w u 26 d ra rb imm (q:Int) a b fl sec):=pu
 clear hu pu
 have t0:∀w',Below u.heap.size u w'->w'.cell? ⟨w.heap.size+1,0,none⟩=some (.int .i64 a.k):=fun w' h=>(P0.out.O.below h).2 0 (by simp)
 have t1:∀w',Below u.heap.size u w'->w'.cell? ⟨w.heap.size+1,1,none⟩=some (.bool a.s):=fun w' h=>(P0.out.O.below h).2 1 (by simp)
 have t2:∀w',Below u.heap.size u w'->w'.cell? ⟨w.heap.size+1,2,none⟩=some (.int .i64 a.m):=fun w' h=>(P0.out.O.below h).2 2 (by simp)
 have t3:∀w',Below u.heap.size u w'->w'.cell? ⟨w.heap.size+1,3,none⟩=some (.int .i64 a.h):=fun w' h=>(P0.out.O.below h).2 3 (by simp)
 have t4:∀w',Below u.heap.size u w'->w'.cell? ⟨w.heap.size+1,4,none⟩=some (.int .i64 a.lo):=fun w' h=>(P0.out.O.below h).2 4 (by simp)
 have t5:∀w',Below u.heap.size u w'->w'.cell? ⟨w.heap.size+1,5,none⟩=some (.int .i64 a.hi):=fun w' h=>(P0.out.O.below h).2 5 (by simp)
 have t6:∀w',Below u.heap.size u w'->w'.cell? ⟨w.heap.size+1,6,none⟩=some (.int .i64 b.k):=fun w' h=>(P0.out.O.below h).2 6 (by simp)
 have t7:∀w',Below u.heap.size u w'->w'.cell? ⟨w.heap.size+1,7,none⟩=some (.bool b.s):=fun w' h=>(P0.out.O.below h).2 7 (by simp)
 have t8:∀w',Below u.heap.size u w'->w'.cell? ⟨w.heap.size+1,8,none⟩=some (.int .i64 b.m):=fun w' h=>(P0.out.O.below h).2 8 (by simp)
 have t9:∀w',Below u.heap.size u w'->w'.cell? ⟨w.heap.size+1,9,none⟩=some (.int .i64 b.h):=fun w' h=>(P0.out.O.below h).2 9 (by simp)
 have t10:∀w',Below u.heap.size u w'->w'.cell? ⟨w.heap.size+1,10,none⟩=some (.int .i64 b.lo):=fun w' h=>(P0.out.O.below h).2 10 (by simp)
 have t11:∀w',Below u.heap.size u w'->w'.cell? ⟨w.heap.size+1,11,none⟩=some (.int .i64 b.hi):=fun w' h=>(P0.out.O.below h).2 11 (by simp)
 refine wp_region_held_drew (S:=fun w'=>Below u.heap.size u w') (by kernel_rfl) (Below.refl _ _).drew (fun hHeld=>?_)
 refine wpAnyH_ta 0 rfl ?_
 refine wpAnyH_ta 1 rfl ?_
 refine wpAnyH_ta 3 rfl ?_
 refine wpAnyH_ta 4 rfl ?_
 clear t0 t1 t2 t3 t4 t5 t6 t7 t8 t9 t10 t11
 refine wpAnyH_ready (rs:=[2]) (by kernel_rfl) (by simp) ?_
 refine AllReadyH.cons rfl (fun KK hK=>?_) AllReadyH.nil
 go_simp
 refine(maxOf_any a.k a.s a.m a.h a.lo a.hi _).mono ?_
 rintro e v1⟨rfl,hb⟩
 have hv1:Below u.heap.size u v1:=(Below.refl _ _).drew.trans hb
 clear hb hHeld
 obtain⟨ma,hm⟩:∃m,maxV a=m:=⟨_,rfl⟩
 rw[show maxV ⟨a.k,a.s,a.m,a.h,a.lo,a.hi⟩=ma from hm]
 have HMA:Hid (maxV a=ma):=hm
 clear hm
 go_wp2_with fail
 refine hK.out _ _ hv1 (fun _=>?_)
 clear hK KK
 try go_frame
 refine wpAnyH_ready (rs:=[5]) (by kernel_rfl) (by simp) ?_
 refine AllReadyH.cons rfl (fun KK hK=>?_) AllReadyH.nil
 go_simp
 refine(maxOf_any b.k b.s b.m b.h b.lo b.hi _).mono ?_
 rintro e v2⟨rfl,hb⟩
 have hv2:Below u.heap.size u v2:=hv1.trans (hb.mono hv1.size)
 clear hb
 obtain⟨mb,hm⟩:∃m,maxV b=m:=⟨_,rfl⟩
 rw[show maxV ⟨b.k,b.s,b.m,b.h,b.lo,b.hi⟩=mb from hm]
 have HMB:Hid (maxV b=mb):=hm
 clear hm
 go_wp2_with fail
 refine hK.out _ _ hv2 (fun _=>?_)
 clear hK KK
 try go_frame
 refine wpAnyH_ta 6 rfl ?_
 refine wpAnyH_ta 7 rfl ?_
 refine wpAnyH_done (by kernel_rfl) ?_ _
 have P1:Hid (RoP w v2 26 d ra rb imm (q:Int) a b fl sec):=P0.out.below hv2
 clear P0 hv1 hv2
 obtain⟨i0,i1,i2,i3,i4,i5⟩:=ins_cells P1.out.I
 obtain⟨o0,o1,o2,o3,o4,o5,o6,o7,o8,o9,o10,o11,o12,o13⟩:=ro_ops P1.out.O
 obtain⟨r0,r1,r2,r3,r4,r5⟩:=P1.out.R.cells
 have rf:=P1.out.R.free
 have rl:=P1.out.R.lt
 have c0:v2.cell? ⟨bH,q*3+1,none⟩=some (.bool (S q).s):=by
  rw[(HH.out.below P1.out.bel HH.out.lt).cell (by omega),hsF_at S q 1 (by omega)]
  rfl
 go_wp2_with fail
 refine(number_any (S q).s (-1) _).mono ?_
 rintro e y1⟨rfl,hb⟩
 have P2:Hid (RoP w y1 26 d ra rb imm (q:Int) a b fl sec):=P1.out.below hb
 clear hb
 clear i0 i1 i2 i3 i4 i5 o0 o1 o2 o3 o4 o5 o6 o7 o8 o9 o10 o11 o12 o13 r0 r1 r2 r3 r4 r5 rf rl
 obtain⟨i0,i1,i2,i3,i4,i5⟩:=ins_cells P2.out.I
 obtain⟨o0,o1,o2,o3,o4,o5,o6,o7,o8,o9,o10,o11,o12,o13⟩:=ro_ops P2.out.O
 obtain⟨r0,r1,r2,r3,r4,r5⟩:=P2.out.R.cells
 have rf:=P2.out.R.free
 have rl:=P2.out.R.lt
 simp only[VV.v]
 go_wp2
 exact bodyPost_ret (v:=VV.v (numV (S q).s (-1))) (by simp[results,Tryz.results67,go_sem,VV.v, *]) rfl ⟨congrArg (fun q=>Ending.returned (VV.v q)) (by rw[<-HR.out]),below_putV P2.out.bel P2.out.oR _⟩
end Go.Proofs.YtbahofiiaodpdaaGreat
