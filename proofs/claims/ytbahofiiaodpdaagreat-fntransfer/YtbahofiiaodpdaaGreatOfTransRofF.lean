import Derived.Test.YtbahofiiaodpdaaGreatOfTransRofC
set_option maxHeartbeats 8000000
set_option maxRecDepth 20000
namespace Go.Proofs.YtbahofiiaodpdaaGreat
open Go.RowKit
theorem resultOf_9(d ra rb imm h:Int)(a b:VV)(fl:Int)(sec:Bool)(hv:Value)(w:World)(ha:Bd a)(hb:Bd b):
 Calls Tryz.prog 67 #[.agg #[.int .i64 9,.int .i64 d,.int .i64 ra,.int .i64 rb,.int .i64 imm,.int .i64 h],.agg #[.int .i64 a.k,.bool a.s,.int .i64 a.m,.int .i64 a.h,.int .i64 a.lo,.int .i64 a.hi,.int .i64 b.k,.bool b.s,.int .i64 b.m,.int .i64 b.h,.int .i64 b.lo,.int .i64 b.hi,.int .i64 fl,.bool sec],hv] w fun e w'=>e=.returned (numV sec (maxV a)).v/\Below w.heap.size w w':=by
 obtain⟨res,hres⟩:∃r,(numV sec (maxV a))=r:=⟨_,rfl⟩
 rw[hres]
 have HR:Hid ((numV sec (maxV a))=res):=hres
 have HA:Hid (Bd a):=ha
 have HB:Hid (Bd b):=hb
 clear hres ha hb
 go_enter Tryz.func67,Tryz.ntmps67
 go_upto_region 1 with fail
 obtain⟨u,hu,pu⟩:=ro_pre w (op:=9) (d:=d) (ra:=ra) (rb:=rb) (imm:=imm) (h:=h) a b fl sec
 rw[hu]
 have P0:Hid (RoP w u 9 d ra rb imm h a b fl sec):=pu
 clear hu pu
 have t0:∀w',Below u.heap.size u w'->w'.cell? ⟨w.heap.size+1,0,none⟩=some (.int .i64 a.k):=fun w' h=>(P0.out.O.below h).2 0 (by simp)
 have t1:∀w',Below u.heap.size u w'->w'.cell? ⟨w.heap.size+1,1,none⟩=some (.bool a.s):=fun w' h=>(P0.out.O.below h).2 1 (by simp)
 have t2:∀w',Below u.heap.size u w'->w'.cell? ⟨w.heap.size+1,2,none⟩=some (.int .i64 a.m):=fun w' h=>(P0.out.O.below h).2 2 (by simp)
 have t3:∀w',Below u.heap.size u w'->w'.cell? ⟨w.heap.size+1,3,none⟩=some (.int .i64 a.h):=fun w' h=>(P0.out.O.below h).2 3 (by simp)
 have t4:∀w',Below u.heap.size u w'->w'.cell? ⟨w.heap.size+1,4,none⟩=some (.int .i64 a.lo):=fun w' h=>(P0.out.O.below h).2 4 (by simp)
 have t5:∀w',Below u.heap.size u w'->w'.cell? ⟨w.heap.size+1,5,none⟩=some (.int .i64 a.hi):=fun w' h=>(P0.out.O.below h).2 5 (by simp)
 have t6:∀w',Below u.heap.size u w'->w'.cell? ⟨w.heap.size+1,6,none⟩=some (.int .i64 b.k):=fun w' h=>(P0.out.O.below h).2 6 (by simp)
 have t7:∀w',Below u.heap.size u w'->w'.cell? ⟨w.heap.size+1,7,none⟩=some (.bool b.s):=fun w' h=>(P0.out.O.below h).2 7 (by simp)
 have t8:∀w',Below u.heap.size u w'->w'.cell? ⟨w.heap.size+1,8,none⟩=some (.int .i64 b.m):=fun w' h=>(P0.out.O.below h).2 8 (by simp)
 have t9:∀w',Below u.heap.size u w'->w'.cell? ⟨w.heap.size+1,9,none⟩=some (.int .i64 b.h):=fun w' h=>(P0.out.O.below h).2 9 (by simp)
 have t10:∀w',Below u.heap.size u w'->w'.cell? ⟨w.heap.size+1,10,none⟩=some (.int .i64 b.lo):=fun w' h=>(P0.out.O.below h).2 10 (by simp)
 have t11:∀w',Below u.heap.size u w'->w'.cell? ⟨w.heap.size+1,11,none⟩=some (.int .i64 b.hi):=fun w' h=>(P0.out.O.below h).2 11 (by simp)
 refine wp_region_held_drew (S:=fun w'=>Below u.heap.size u w') (by kernel_rfl) (Below.refl _ _).drew (fun hHeld=>?_)
 refine wpAnyH_ta 0 rfl ?_
 refine wpAnyH_ta 1 rfl ?_
 refine wpAnyH_ta 3 rfl ?_
 refine wpAnyH_ta 4 rfl ?_
 clear t0 t1 t2 t3 t4 t5 t6 t7 t8 t9 t10 t11
 refine wpAnyH_ready (rs:=[2]) (by kernel_rfl) (by simp) ?_
 refine AllReadyH.cons rfl (fun KK hK=>?_) AllReadyH.nil
 go_simp
 refine(maxOf_any a.k a.s a.m a.h a.lo a.hi _).mono ?_
 rintro e v1⟨rfl,hb⟩
 have hv1:Below u.heap.size u v1:=(Below.refl _ _).drew.trans hb
 clear hb hHeld
 obtain⟨ma,hm⟩:∃m,maxV a=m:=⟨_,rfl⟩
 rw[show maxV ⟨a.k,a.s,a.m,a.h,a.lo,a.hi⟩=ma from hm]
 have HMA:Hid (maxV a=ma):=hm
 clear hm
 go_wp2_with fail
 refine hK.out _ _ hv1 (fun _=>?_)
 clear hK KK
 try go_frame
 refine wpAnyH_ready (rs:=[5]) (by kernel_rfl) (by simp) ?_
 refine AllReadyH.cons rfl (fun KK hK=>?_) AllReadyH.nil
 go_simp
 refine(maxOf_any b.k b.s b.m b.h b.lo b.hi _).mono ?_
 rintro e v2⟨rfl,hb⟩
 have hv2:Below u.heap.size u v2:=hv1.trans (hb.mono hv1.size)
 clear hb
 obtain⟨mb,hm⟩:∃m,maxV b=m:=⟨_,rfl⟩
 rw[show maxV ⟨b.k,b.s,b.m,b.h,b.lo,b.hi⟩=mb from hm]
 have HMB:Hid (maxV b=mb):=hm
 clear hm
 go_wp2_with fail
 refine hK.out _ _ hv2 (fun _=>?_)
 clear hK KK
 try go_frame
 refine wpAnyH_ta 6 rfl ?_
 refine wpAnyH_ta 7 rfl ?_
 refine wpAnyH_done (by kernel_rfl) ?_ _
 have P1:Hid (RoP w v2 9 d ra rb imm h a b fl sec):=P0.out.below hv2
 clear P0 hv1 hv2
 obtain⟨i0,i1,i2,i3,i4,i5⟩:=ins_cells P1.out.I
 obtain⟨o0,o1,o2,o3,o4,o5,o6,o7,o8,o9,o10,o11,o12,o13⟩:=ro_ops P1.out.O
 obtain⟨r0,r1,r2,r3,r4,r5⟩:=P1.out.R.cells
 have rf:=P1.out.R.free
 have rl:=P1.out.R.lt
 go_wp2_with fail
 refine(number_any sec ma _).mono ?_
 rintro e y1⟨rfl,hb⟩
 have P2:Hid (RoP w y1 9 d ra rb imm h a b fl sec):=P1.out.below hb
 clear hb
 clear i0 i1 i2 i3 i4 i5 o0 o1 o2 o3 o4 o5 o6 o7 o8 o9 o10 o11 o12 o13 r0 r1 r2 r3 r4 r5 rf rl
 obtain⟨i0,i1,i2,i3,i4,i5⟩:=ins_cells P2.out.I
 obtain⟨o0,o1,o2,o3,o4,o5,o6,o7,o8,o9,o10,o11,o12,o13⟩:=ro_ops P2.out.O
 obtain⟨r0,r1,r2,r3,r4,r5⟩:=P2.out.R.cells
 have rf:=P2.out.R.free
 have rl:=P2.out.R.lt
 simp only[VV.v]
 go_wp2
 exact bodyPost_ret (v:=VV.v (numV sec ma)) (by simp[results,Tryz.results67,go_sem,VV.v, *]) rfl ⟨congrArg (fun q=>Ending.returned (VV.v q)) (by rw[<-HR.out,HMA.out]),below_putV P2.out.bel P2.out.oR _⟩
theorem resultOf_4(d ra rb imm h:Int)(a b:VV)(fl:Int)(sec:Bool)(hv:Value)(w:World)(ha:Bd a)(hb:Bd b):
 Calls Tryz.prog 67 #[.agg #[.int .i64 4,.int .i64 d,.int .i64 ra,.int .i64 rb,.int .i64 imm,.int .i64 h],.agg #[.int .i64 a.k,.bool a.s,.int .i64 a.m,.int .i64 a.h,.int .i64 a.lo,.int .i64 a.hi,.int .i64 b.k,.bool b.s,.int .i64 b.m,.int .i64 b.h,.int .i64 b.lo,.int .i64 b.hi,.int .i64 fl,.bool sec],hv] w fun e w'=>e=.returned (numV sec (-1)).v/\Below w.heap.size w w':=by
 obtain⟨res,hres⟩:∃r,(numV sec (-1))=r:=⟨_,rfl⟩
 rw[hres]
 have HR:Hid ((numV sec (-1))=res):=hres
 have HA:Hid (Bd a):=ha
 have HB:Hid (Bd b):=hb
 clear hres ha hb
 go_enter Tryz.func67,Tryz.ntmps67
 go_upto_region 1 with fail
 obtain⟨u,hu,pu⟩:=ro_pre w (op:=4) (d:=d) (ra:=ra) (rb:=rb) (imm:=imm) (h:=h) a b fl sec
 rw[hu]
 have P0:Hid (RoP w u 4 d ra rb imm h a b fl sec):=pu
 clear hu pu
 have t0:∀w',Below u.heap.size u w'->w'.cell? ⟨w.heap.size+1,0,none⟩=some (.int .i64 a.k):=fun w' h=>(P0.out.O.below h).2 0 (by simp)
 have t1:∀w',Below u.heap.size u w'->w'.cell? ⟨w.heap.size+1,1,none⟩=some (.bool a.s):=fun w' h=>(P0.out.O.below h).2 1 (by simp)
 have t2:∀w',Below u.heap.size u w'->w'.cell? ⟨w.heap.size+1,2,none⟩=some (.int .i64 a.m):=fun w' h=>(P0.out.O.below h).2 2 (by simp)
 have t3:∀w',Below u.heap.size u w'->w'.cell? ⟨w.heap.size+1,3,none⟩=some (.int .i64 a.h):=fun w' h=>(P0.out.O.below h).2 3 (by simp)
 have t4:∀w',Below u.heap.size u w'->w'.cell? ⟨w.heap.size+1,4,none⟩=some (.int .i64 a.lo):=fun w' h=>(P0.out.O.below h).2 4 (by simp)
 have t5:∀w',Below u.heap.size u w'->w'.cell? ⟨w.heap.size+1,5,none⟩=some (.int .i64 a.hi):=fun w' h=>(P0.out.O.below h).2 5 (by simp)
 have t6:∀w',Below u.heap.size u w'->w'.cell? ⟨w.heap.size+1,6,none⟩=some (.int .i64 b.k):=fun w' h=>(P0.out.O.below h).2 6 (by simp)
 have t7:∀w',Below u.heap.size u w'->w'.cell? ⟨w.heap.size+1,7,none⟩=some (.bool b.s):=fun w' h=>(P0.out.O.below h).2 7 (by simp)
 have t8:∀w',Below u.heap.size u w'->w'.cell? ⟨w.heap.size+1,8,none⟩=some (.int .i64 b.m):=fun w' h=>(P0.out.O.below h).2 8 (by simp)
 have t9:∀w',Below u.heap.size u w'->w'.cell? ⟨w.heap.size+1,9,none⟩=some (.int .i64 b.h):=fun w' h=>(P0.out.O.below h).2 9 (by simp)
 have t10:∀w',Below u.heap.size u w'->w'.cell? ⟨w.heap.size+1,10,none⟩=some (.int .i64 b.lo):=fun w' h=>(P0.out.O.below h).2 10 (by simp)
 have t11:∀w',Below u.heap.size u w'->w'.cell? ⟨w.heap.size+1,11,none⟩=some (.int .i64 b.hi):=fun w' h=>(P0.out.O.below h).2 11 (by simp)
 refine wp_region_held_drew (S:=fun w'=>Below u.heap.size u w') (by kernel_rfl) (Below.refl _ _).drew (fun hHeld=>?_)
 refine wpAnyH_ta 0 rfl ?_
 refine wpAnyH_ta 1 rfl ?_
 refine wpAnyH_ta 3 rfl ?_
 refine wpAnyH_ta 4 rfl ?_
 clear t0 t1 t2 t3 t4 t5 t6 t7 t8 t9 t10 t11
 refine wpAnyH_ready (rs:=[2]) (by kernel_rfl) (by simp) ?_
 refine AllReadyH.cons rfl (fun KK hK=>?_) AllReadyH.nil
 go_simp
 refine(maxOf_any a.k a.s a.m a.h a.lo a.hi _).mono ?_
 rintro e v1⟨rfl,hb⟩
 have hv1:Below u.heap.size u v1:=(Below.refl _ _).drew.trans hb
 clear hb hHeld
 obtain⟨ma,hm⟩:∃m,maxV a=m:=⟨_,rfl⟩
 rw[show maxV ⟨a.k,a.s,a.m,a.h,a.lo,a.hi⟩=ma from hm]
 have HMA:Hid (maxV a=ma):=hm
 clear hm
 go_wp2_with fail
 refine hK.out _ _ hv1 (fun _=>?_)
 clear hK KK
 try go_frame
 refine wpAnyH_ready (rs:=[5]) (by kernel_rfl) (by simp) ?_
 refine AllReadyH.cons rfl (fun KK hK=>?_) AllReadyH.nil
 go_simp
 refine(maxOf_any b.k b.s b.m b.h b.lo b.hi _).mono ?_
 rintro e v2⟨rfl,hb⟩
 have hv2:Below u.heap.size u v2:=hv1.trans (hb.mono hv1.size)
 clear hb
 obtain⟨mb,hm⟩:∃m,maxV b=m:=⟨_,rfl⟩
 rw[show maxV ⟨b.k,b.s,b.m,b.h,b.lo,b.hi⟩=mb from hm]
 have HMB:Hid (maxV b=mb):=hm
 clear hm
 go_wp2_with fail
 refine hK.out _ _ hv2 (fun _=>?_)
 clear hK KK
 try go_frame
 refine wpAnyH_ta 6 rfl ?_
 refine wpAnyH_ta 7 rfl ?_
 refine wpAnyH_done (by kernel_rfl) ?_ _
 have P1:Hid (RoP w v2 4 d ra rb imm h a b fl sec):=P0.out.below hv2
 clear P0 hv1 hv2
 obtain⟨i0,i1,i2,i3,i4,i5⟩:=ins_cells P1.out.I
 obtain⟨o0,o1,o2,o3,o4,o5,o6,o7,o8,o9,o10,o11,o12,o13⟩:=ro_ops P1.out.O
 obtain⟨r0,r1,r2,r3,r4,r5⟩:=P1.out.R.cells
 have rf:=P1.out.R.free
 have rl:=P1.out.R.lt
 go_wp2_with fail
 refine(number_any sec (-1) _).mono ?_
 rintro e y1⟨rfl,hb⟩
 have P2:Hid (RoP w y1 4 d ra rb imm h a b fl sec):=P1.out.below hb
 clear hb
 clear i0 i1 i2 i3 i4 i5 o0 o1 o2 o3 o4 o5 o6 o7 o8 o9 o10 o11 o12 o13 r0 r1 r2 r3 r4 r5 rf rl
 obtain⟨i0,i1,i2,i3,i4,i5⟩:=ins_cells P2.out.I
 obtain⟨o0,o1,o2,o3,o4,o5,o6,o7,o8,o9,o10,o11,o12,o13⟩:=ro_ops P2.out.O
 obtain⟨r0,r1,r2,r3,r4,r5⟩:=P2.out.R.cells
 have rf:=P2.out.R.free
 have rl:=P2.out.R.lt
 simp only[VV.v]
 go_wp2
 exact bodyPost_ret (v:=VV.v (numV sec (-1))) (by simp[results,Tryz.results67,go_sem,VV.v, *]) rfl ⟨congrArg (fun q=>Ending.returned (VV.v q)) (by rw[<-HR.out]),below_putV P2.out.bel P2.out.oR _⟩
theorem resultOf_16(d ra rb imm h:Int)(a b:VV)(fl:Int)(sec:Bool)(hv:Value)(w:World)(ha:Bd a)(hb:Bd b):
 Calls Tryz.prog 67 #[.agg #[.int .i64 16,.int .i64 d,.int .i64 ra,.int .i64 rb,.int .i64 imm,.int .i64 h],.agg #[.int .i64 a.k,.bool a.s,.int .i64 a.m,.int .i64 a.h,.int .i64 a.lo,.int .i64 a.hi,.int .i64 b.k,.bool b.s,.int .i64 b.m,.int .i64 b.h,.int .i64 b.lo,.int .i64 b.hi,.int .i64 fl,.bool sec],hv] w fun e w'=>e=.returned (numV sec (-1)).v/\Below w.heap.size w w':=by
 obtain⟨res,hres⟩:∃r,(numV sec (-1))=r:=⟨_,rfl⟩
 rw[hres]
 have HR:Hid ((numV sec (-1))=res):=hres
 have HA:Hid (Bd a):=ha
 have HB:Hid (Bd b):=hb
 clear hres ha hb
 go_enter Tryz.func67,Tryz.ntmps67
 go_upto_region 1 with fail
 obtain⟨u,hu,pu⟩:=ro_pre w (op:=16) (d:=d) (ra:=ra) (rb:=rb) (imm:=imm) (h:=h) a b fl sec
 rw[hu]
 have P0:Hid (RoP w u 16 d ra rb imm h a b fl sec):=pu
 clear hu pu
 have t0:∀w',Below u.heap.size u w'->w'.cell? ⟨w.heap.size+1,0,none⟩=some (.int .i64 a.k):=fun w' h=>(P0.out.O.below h).2 0 (by simp)
 have t1:∀w',Below u.heap.size u w'->w'.cell? ⟨w.heap.size+1,1,none⟩=some (.bool a.s):=fun w' h=>(P0.out.O.below h).2 1 (by simp)
 have t2:∀w',Below u.heap.size u w'->w'.cell? ⟨w.heap.size+1,2,none⟩=some (.int .i64 a.m):=fun w' h=>(P0.out.O.below h).2 2 (by simp)
 have t3:∀w',Below u.heap.size u w'->w'.cell? ⟨w.heap.size+1,3,none⟩=some (.int .i64 a.h):=fun w' h=>(P0.out.O.below h).2 3 (by simp)
 have t4:∀w',Below u.heap.size u w'->w'.cell? ⟨w.heap.size+1,4,none⟩=some (.int .i64 a.lo):=fun w' h=>(P0.out.O.below h).2 4 (by simp)
 have t5:∀w',Below u.heap.size u w'->w'.cell? ⟨w.heap.size+1,5,none⟩=some (.int .i64 a.hi):=fun w' h=>(P0.out.O.below h).2 5 (by simp)
 have t6:∀w',Below u.heap.size u w'->w'.cell? ⟨w.heap.size+1,6,none⟩=some (.int .i64 b.k):=fun w' h=>(P0.out.O.below h).2 6 (by simp)
 have t7:∀w',Below u.heap.size u w'->w'.cell? ⟨w.heap.size+1,7,none⟩=some (.bool b.s):=fun w' h=>(P0.out.O.below h).2 7 (by simp)
 have t8:∀w',Below u.heap.size u w'->w'.cell? ⟨w.heap.size+1,8,none⟩=some (.int .i64 b.m):=fun w' h=>(P0.out.O.below h).2 8 (by simp)
 have t9:∀w',Below u.heap.size u w'->w'.cell? ⟨w.heap.size+1,9,none⟩=some (.int .i64 b.h):=fun w' h=>(P0.out.O.below h).2 9 (by simp)
 have t10:∀w',Below u.heap.size u w'->w'.cell? ⟨w.heap.size+1,10,none⟩=some (.int .i64 b.lo):=fun w' h=>(P0.out.O.below h).2 10 (by simp)
 have t11:∀w',Below u.heap.size u w'->w'.cell? ⟨w.heap.size+1,11,none⟩=some (.int .i64 b.hi):=fun w' h=>(P0.out.O.below h).2 11 (by simp)
 refine wp_region_held_drew (S:=fun w'=>Below u.heap.size u w') (by kernel_rfl) (Below.refl _ _).drew (fun hHeld=>?_)
 refine wpAnyH_ta 0 rfl ?_
 refine wpAnyH_ta 1 rfl ?_
 refine wpAnyH_ta 3 rfl ?_
 refine wpAnyH_ta 4 rfl ?_
 clear t0 t1 t2 t3 t4 t5 t6 t7 t8 t9 t10 t11
 refine wpAnyH_ready (rs:=[2]) (by kernel_rfl) (by simp) ?_
 refine AllReadyH.cons rfl (fun KK hK=>?_) AllReadyH.nil
 go_simp
 refine(maxOf_any a.k a.s a.m a.h a.lo a.hi _).mono ?_
 rintro e v1⟨rfl,hb⟩
 have hv1:Below u.heap.size u v1:=(Below.refl _ _).drew.trans hb
 clear hb hHeld
 obtain⟨ma,hm⟩:∃m,maxV a=m:=⟨_,rfl⟩
 rw[show maxV ⟨a.k,a.s,a.m,a.h,a.lo,a.hi⟩=ma from hm]
 have HMA:Hid (maxV a=ma):=hm
 clear hm
 go_wp2_with fail
 refine hK.out _ _ hv1 (fun _=>?_)
 clear hK KK
 try go_frame
 refine wpAnyH_ready (rs:=[5]) (by kernel_rfl) (by simp) ?_
 refine AllReadyH.cons rfl (fun KK hK=>?_) AllReadyH.nil
 go_simp
 refine(maxOf_any b.k b.s b.m b.h b.lo b.hi _).mono ?_
 rintro e v2⟨rfl,hb⟩
 have hv2:Below u.heap.size u v2:=hv1.trans (hb.mono hv1.size)
 clear hb
 obtain⟨mb,hm⟩:∃m,maxV b=m:=⟨_,rfl⟩
 rw[show maxV ⟨b.k,b.s,b.m,b.h,b.lo,b.hi⟩=mb from hm]
 have HMB:Hid (maxV b=mb):=hm
 clear hm
 go_wp2_with fail
 refine hK.out _ _ hv2 (fun _=>?_)
 clear hK KK
 try go_frame
 refine wpAnyH_ta 6 rfl ?_
 refine wpAnyH_ta 7 rfl ?_
 refine wpAnyH_done (by kernel_rfl) ?_ _
 have P1:Hid (RoP w v2 16 d ra rb imm h a b fl sec):=P0.out.below hv2
 clear P0 hv1 hv2
 obtain⟨i0,i1,i2,i3,i4,i5⟩:=ins_cells P1.out.I
 obtain⟨o0,o1,o2,o3,o4,o5,o6,o7,o8,o9,o10,o11,o12,o13⟩:=ro_ops P1.out.O
 obtain⟨r0,r1,r2,r3,r4,r5⟩:=P1.out.R.cells
 have rf:=P1.out.R.free
 have rl:=P1.out.R.lt
 go_wp2_with fail
 refine(number_any sec (-1) _).mono ?_
 rintro e y1⟨rfl,hb⟩
 have P2:Hid (RoP w y1 16 d ra rb imm h a b fl sec):=P1.out.below hb
 clear hb
 clear i0 i1 i2 i3 i4 i5 o0 o1 o2 o3 o4 o5 o6 o7 o8 o9 o10 o11 o12 o13 r0 r1 r2 r3 r4 r5 rf rl
 obtain⟨i0,i1,i2,i3,i4,i5⟩:=ins_cells P2.out.I
 obtain⟨o0,o1,o2,o3,o4,o5,o6,o7,o8,o9,o10,o11,o12,o13⟩:=ro_ops P2.out.O
 obtain⟨r0,r1,r2,r3,r4,r5⟩:=P2.out.R.cells
 have rf:=P2.out.R.free
 have rl:=P2.out.R.lt
 simp only[VV.v]
 go_wp2
 exact bodyPost_ret (v:=VV.v (numV sec (-1))) (by simp[results,Tryz.results67,go_sem,VV.v, *]) rfl ⟨congrArg (fun q=>Ending.returned (VV.v q)) (by rw[<-HR.out]),below_putV P2.out.bel P2.out.oR _⟩
theorem resultOf_6(d ra rb imm h:Int)(a b:VV)(fl:Int)(sec:Bool)(hv:Value)(w:World)(ha:Bd a)(hb:Bd b):
 Calls Tryz.prog 67 #[.agg #[.int .i64 6,.int .i64 d,.int .i64 ra,.int .i64 rb,.int .i64 imm,.int .i64 h],.agg #[.int .i64 a.k,.bool a.s,.int .i64 a.m,.int .i64 a.h,.int .i64 a.lo,.int .i64 a.hi,.int .i64 b.k,.bool b.s,.int .i64 b.m,.int .i64 b.h,.int .i64 b.lo,.int .i64 b.hi,.int .i64 fl,.bool sec],hv] w fun e w'=>e=.returned (numV sec (smallI (maxV a) (maxV b))).v/\Below w.heap.size w w':=by
 obtain⟨res,hres⟩:∃r,(numV sec (smallI (maxV a) (maxV b)))=r:=⟨_,rfl⟩
 rw[hres]
 have HR:Hid ((numV sec (smallI (maxV a) (maxV b)))=res):=hres
 have HA:Hid (Bd a):=ha
 have HB:Hid (Bd b):=hb
 clear hres ha hb
 go_enter Tryz.func67,Tryz.ntmps67
 go_upto_region 1 with fail
 obtain⟨u,hu,pu⟩:=ro_pre w (op:=6) (d:=d) (ra:=ra) (rb:=rb) (imm:=imm) (h:=h) a b fl sec
 rw[hu]
 have P0:Hid (RoP w u 6 d ra rb imm h a b fl sec):=pu
 clear hu pu
 have t0:∀w',Below u.heap.size u w'->w'.cell? ⟨w.heap.size+1,0,none⟩=some (.int .i64 a.k):=fun w' h=>(P0.out.O.below h).2 0 (by simp)
 have t1:∀w',Below u.heap.size u w'->w'.cell? ⟨w.heap.size+1,1,none⟩=some (.bool a.s):=fun w' h=>(P0.out.O.below h).2 1 (by simp)
 have t2:∀w',Below u.heap.size u w'->w'.cell? ⟨w.heap.size+1,2,none⟩=some (.int .i64 a.m):=fun w' h=>(P0.out.O.below h).2 2 (by simp)
 have t3:∀w',Below u.heap.size u w'->w'.cell? ⟨w.heap.size+1,3,none⟩=some (.int .i64 a.h):=fun w' h=>(P0.out.O.below h).2 3 (by simp)
 have t4:∀w',Below u.heap.size u w'->w'.cell? ⟨w.heap.size+1,4,none⟩=some (.int .i64 a.lo):=fun w' h=>(P0.out.O.below h).2 4 (by simp)
 have t5:∀w',Below u.heap.size u w'->w'.cell? ⟨w.heap.size+1,5,none⟩=some (.int .i64 a.hi):=fun w' h=>(P0.out.O.below h).2 5 (by simp)
 have t6:∀w',Below u.heap.size u w'->w'.cell? ⟨w.heap.size+1,6,none⟩=some (.int .i64 b.k):=fun w' h=>(P0.out.O.below h).2 6 (by simp)
 have t7:∀w',Below u.heap.size u w'->w'.cell? ⟨w.heap.size+1,7,none⟩=some (.bool b.s):=fun w' h=>(P0.out.O.below h).2 7 (by simp)
 have t8:∀w',Below u.heap.size u w'->w'.cell? ⟨w.heap.size+1,8,none⟩=some (.int .i64 b.m):=fun w' h=>(P0.out.O.below h).2 8 (by simp)
 have t9:∀w',Below u.heap.size u w'->w'.cell? ⟨w.heap.size+1,9,none⟩=some (.int .i64 b.h):=fun w' h=>(P0.out.O.below h).2 9 (by simp)
 have t10:∀w',Below u.heap.size u w'->w'.cell? ⟨w.heap.size+1,10,none⟩=some (.int .i64 b.lo):=fun w' h=>(P0.out.O.below h).2 10 (by simp)
 have t11:∀w',Below u.heap.size u w'->w'.cell? ⟨w.heap.size+1,11,none⟩=some (.int .i64 b.hi):=fun w' h=>(P0.out.O.below h).2 11 (by simp)
 refine wp_region_held_drew (S:=fun w'=>Below u.heap.size u w') (by kernel_rfl) (Below.refl _ _).drew (fun hHeld=>?_)
 refine wpAnyH_ta 0 rfl ?_
 refine wpAnyH_ta 1 rfl ?_
 refine wpAnyH_ta 3 rfl ?_
 refine wpAnyH_ta 4 rfl ?_
 clear t0 t1 t2 t3 t4 t5 t6 t7 t8 t9 t10 t11
 refine wpAnyH_ready (rs:=[2]) (by kernel_rfl) (by simp) ?_
 refine AllReadyH.cons rfl (fun KK hK=>?_) AllReadyH.nil
 go_simp
 refine(maxOf_any a.k a.s a.m a.h a.lo a.hi _).mono ?_
 rintro e v1⟨rfl,hb⟩
 have hv1:Below u.heap.size u v1:=(Below.refl _ _).drew.trans hb
 clear hb hHeld
 obtain⟨ma,hm⟩:∃m,maxV a=m:=⟨_,rfl⟩
 rw[show maxV ⟨a.k,a.s,a.m,a.h,a.lo,a.hi⟩=ma from hm]
 have HMA:Hid (maxV a=ma):=hm
 clear hm
 go_wp2_with fail
 refine hK.out _ _ hv1 (fun _=>?_)
 clear hK KK
 try go_frame
 refine wpAnyH_ready (rs:=[5]) (by kernel_rfl) (by simp) ?_
 refine AllReadyH.cons rfl (fun KK hK=>?_) AllReadyH.nil
 go_simp
 refine(maxOf_any b.k b.s b.m b.h b.lo b.hi _).mono ?_
 rintro e v2⟨rfl,hb⟩
 have hv2:Below u.heap.size u v2:=hv1.trans (hb.mono hv1.size)
 clear hb
 obtain⟨mb,hm⟩:∃m,maxV b=m:=⟨_,rfl⟩
 rw[show maxV ⟨b.k,b.s,b.m,b.h,b.lo,b.hi⟩=mb from hm]
 have HMB:Hid (maxV b=mb):=hm
 clear hm
 go_wp2_with fail
 refine hK.out _ _ hv2 (fun _=>?_)
 clear hK KK
 try go_frame
 refine wpAnyH_ta 6 rfl ?_
 refine wpAnyH_ta 7 rfl ?_
 refine wpAnyH_done (by kernel_rfl) ?_ _
 have P1:Hid (RoP w v2 6 d ra rb imm h a b fl sec):=P0.out.below hv2
 clear P0 hv1 hv2
 obtain⟨i0,i1,i2,i3,i4,i5⟩:=ins_cells P1.out.I
 obtain⟨o0,o1,o2,o3,o4,o5,o6,o7,o8,o9,o10,o11,o12,o13⟩:=ro_ops P1.out.O
 obtain⟨r0,r1,r2,r3,r4,r5⟩:=P1.out.R.cells
 have rf:=P1.out.R.free
 have rl:=P1.out.R.lt
 go_upto_region 13 with fail
 clear i0 i1 i2 i3 i4 i5 o0 o1 o2 o3 o4 o5 o6 o7 o8 o9 o10 o11 o12 o13 r0 r1 r2 r3 r4 r5 rf rl
 have t13:∀w',Below v2.heap.size v2 w'->w'.cell? ⟨w.heap.size+1,13,none⟩=some (.bool sec):=fun w' h=>(P1.out.O.below h).2 13 (by simp)
 have t4:∀w',Below v2.heap.size v2 w'->w'.cell? ⟨w.heap.size,4,none⟩=some (.int .i64 imm):=fun w' h=>(P1.out.I.below h).2 4 (by simp)
 refine wp_region_L (T:=fun w'=>Below v2.heap.size v2 w') (s:=6) (by kernel_rfl) (Below.refl _ _).drew (fun hHeld=>?_)
 refine wpAnyL_ta 0 rfl ?_
 refine wpAnyL_ta 1 rfl ?_
 refine wpAnyL_ta 2 rfl ?_
 refine wpAnyL_ta 3 rfl ?_
 clear t13 t4
 refine wpAnyL_call (i:=4) rfl (by kernel_rfl) (fun KK hK=>?_)
 go_simp
 refine(smallerMax_any ma mb _).mono ?_
 rintro e w'⟨rfl,hw⟩
 rw[hw]
 clear hw
 go_wp2_with fail
 refine hK.out _ _ (Below.refl _ _).drew (fun _=>?_)
 clear hK KK
 try go_frame
 refine wpAnyL_call (i:=5) rfl (by kernel_rfl) (fun KK hK=>?_)
 go_simp
 refine(number_any sec (smallI ma mb) _).mono ?_
 rintro e v3⟨rfl,hb⟩
 have hv3:Below v2.heap.size v2 v3:=(Below.refl _ _).drew.trans hb
 have P2:Hid (RoP w v3 6 d ra rb imm h a b fl sec):=P1.out.below hv3
 simp only[VV.v]
 go_wp2_with fail
 refine hK.out _ _ hv3 (fun _=>?_)
 clear hK KK hb hv3 hHeld
 try go_frame
 obtain⟨r0,r1,r2,r3,r4,r5⟩:=P2.out.R.cells
 have rf:=P2.out.R.free
 have rl:=P2.out.R.lt
 refine wpAnyL_store rfl (by kernel_rfl) (by kernel_rfl) (fun KK hK=>?_)
 go_simp
 refine hK.out _ _ ?_
 clear hK KK
 go_wp2
 exact bodyPost_ret (v:=VV.v (numV sec (smallI ma mb))) (by simp[results,Tryz.results67,go_sem,VV.v, *]) rfl ⟨congrArg (fun q=>Ending.returned (VV.v q)) (by rw[<-HR.out,HMA.out,HMB.out]),below_putV P2.out.bel P2.out.oR _⟩
theorem resultOf_11(d ra rb imm h:Int)(a b:VV)(fl:Int)(sec:Bool)(hv:Value)(w:World)(ha:Bd a)(hb:Bd b):
 Calls Tryz.prog 67 #[.agg #[.int .i64 11,.int .i64 d,.int .i64 ra,.int .i64 rb,.int .i64 imm,.int .i64 h],.agg #[.int .i64 a.k,.bool a.s,.int .i64 a.m,.int .i64 a.h,.int .i64 a.lo,.int .i64 a.hi,.int .i64 b.k,.bool b.s,.int .i64 b.m,.int .i64 b.h,.int .i64 b.lo,.int .i64 b.hi,.int .i64 fl,.bool sec],hv] w fun e w'=>e=.returned (numV sec (smallI (maxV a) imm)).v/\Below w.heap.size w w':=by
 obtain⟨res,hres⟩:∃r,(numV sec (smallI (maxV a) imm))=r:=⟨_,rfl⟩
 rw[hres]
 have HR:Hid ((numV sec (smallI (maxV a) imm))=res):=hres
 have HA:Hid (Bd a):=ha
 have HB:Hid (Bd b):=hb
 clear hres ha hb
 go_enter Tryz.func67,Tryz.ntmps67
 go_upto_region 1 with fail
 obtain⟨u,hu,pu⟩:=ro_pre w (op:=11) (d:=d) (ra:=ra) (rb:=rb) (imm:=imm) (h:=h) a b fl sec
 rw[hu]
 have P0:Hid (RoP w u 11 d ra rb imm h a b fl sec):=pu
 clear hu pu
 have t0:∀w',Below u.heap.size u w'->w'.cell? ⟨w.heap.size+1,0,none⟩=some (.int .i64 a.k):=fun w' h=>(P0.out.O.below h).2 0 (by simp)
 have t1:∀w',Below u.heap.size u w'->w'.cell? ⟨w.heap.size+1,1,none⟩=some (.bool a.s):=fun w' h=>(P0.out.O.below h).2 1 (by simp)
 have t2:∀w',Below u.heap.size u w'->w'.cell? ⟨w.heap.size+1,2,none⟩=some (.int .i64 a.m):=fun w' h=>(P0.out.O.below h).2 2 (by simp)
 have t3:∀w',Below u.heap.size u w'->w'.cell? ⟨w.heap.size+1,3,none⟩=some (.int .i64 a.h):=fun w' h=>(P0.out.O.below h).2 3 (by simp)
 have t4:∀w',Below u.heap.size u w'->w'.cell? ⟨w.heap.size+1,4,none⟩=some (.int .i64 a.lo):=fun w' h=>(P0.out.O.below h).2 4 (by simp)
 have t5:∀w',Below u.heap.size u w'->w'.cell? ⟨w.heap.size+1,5,none⟩=some (.int .i64 a.hi):=fun w' h=>(P0.out.O.below h).2 5 (by simp)
 have t6:∀w',Below u.heap.size u w'->w'.cell? ⟨w.heap.size+1,6,none⟩=some (.int .i64 b.k):=fun w' h=>(P0.out.O.below h).2 6 (by simp)
 have t7:∀w',Below u.heap.size u w'->w'.cell? ⟨w.heap.size+1,7,none⟩=some (.bool b.s):=fun w' h=>(P0.out.O.below h).2 7 (by simp)
 have t8:∀w',Below u.heap.size u w'->w'.cell? ⟨w.heap.size+1,8,none⟩=some (.int .i64 b.m):=fun w' h=>(P0.out.O.below h).2 8 (by simp)
 have t9:∀w',Below u.heap.size u w'->w'.cell? ⟨w.heap.size+1,9,none⟩=some (.int .i64 b.h):=fun w' h=>(P0.out.O.below h).2 9 (by simp)
 have t10:∀w',Below u.heap.size u w'->w'.cell? ⟨w.heap.size+1,10,none⟩=some (.int .i64 b.lo):=fun w' h=>(P0.out.O.below h).2 10 (by simp)
 have t11:∀w',Below u.heap.size u w'->w'.cell? ⟨w.heap.size+1,11,none⟩=some (.int .i64 b.hi):=fun w' h=>(P0.out.O.below h).2 11 (by simp)
 refine wp_region_held_drew (S:=fun w'=>Below u.heap.size u w') (by kernel_rfl) (Below.refl _ _).drew (fun hHeld=>?_)
 refine wpAnyH_ta 0 rfl ?_
 refine wpAnyH_ta 1 rfl ?_
 refine wpAnyH_ta 3 rfl ?_
 refine wpAnyH_ta 4 rfl ?_
 clear t0 t1 t2 t3 t4 t5 t6 t7 t8 t9 t10 t11
 refine wpAnyH_ready (rs:=[2]) (by kernel_rfl) (by simp) ?_
 refine AllReadyH.cons rfl (fun KK hK=>?_) AllReadyH.nil
 go_simp
 refine(maxOf_any a.k a.s a.m a.h a.lo a.hi _).mono ?_
 rintro e v1⟨rfl,hb⟩
 have hv1:Below u.heap.size u v1:=(Below.refl _ _).drew.trans hb
 clear hb hHeld
 obtain⟨ma,hm⟩:∃m,maxV a=m:=⟨_,rfl⟩
 rw[show maxV ⟨a.k,a.s,a.m,a.h,a.lo,a.hi⟩=ma from hm]
 have HMA:Hid (maxV a=ma):=hm
 clear hm
 go_wp2_with fail
 refine hK.out _ _ hv1 (fun _=>?_)
 clear hK KK
 try go_frame
 refine wpAnyH_ready (rs:=[5]) (by kernel_rfl) (by simp) ?_
 refine AllReadyH.cons rfl (fun KK hK=>?_) AllReadyH.nil
 go_simp
 refine(maxOf_any b.k b.s b.m b.h b.lo b.hi _).mono ?_
 rintro e v2⟨rfl,hb⟩
 have hv2:Below u.heap.size u v2:=hv1.trans (hb.mono hv1.size)
 clear hb
 obtain⟨mb,hm⟩:∃m,maxV b=m:=⟨_,rfl⟩
 rw[show maxV ⟨b.k,b.s,b.m,b.h,b.lo,b.hi⟩=mb from hm]
 have HMB:Hid (maxV b=mb):=hm
 clear hm
 go_wp2_with fail
 refine hK.out _ _ hv2 (fun _=>?_)
 clear hK KK
 try go_frame
 refine wpAnyH_ta 6 rfl ?_
 refine wpAnyH_ta 7 rfl ?_
 refine wpAnyH_done (by kernel_rfl) ?_ _
 have P1:Hid (RoP w v2 11 d ra rb imm h a b fl sec):=P0.out.below hv2
 clear P0 hv1 hv2
 obtain⟨i0,i1,i2,i3,i4,i5⟩:=ins_cells P1.out.I
 obtain⟨o0,o1,o2,o3,o4,o5,o6,o7,o8,o9,o10,o11,o12,o13⟩:=ro_ops P1.out.O
 obtain⟨r0,r1,r2,r3,r4,r5⟩:=P1.out.R.cells
 have rf:=P1.out.R.free
 have rl:=P1.out.R.lt
 go_upto_region 22 with fail
 clear i0 i1 i2 i3 i4 i5 o0 o1 o2 o3 o4 o5 o6 o7 o8 o9 o10 o11 o12 o13 r0 r1 r2 r3 r4 r5 rf rl
 have t13:∀w',Below v2.heap.size v2 w'->w'.cell? ⟨w.heap.size+1,13,none⟩=some (.bool sec):=fun w' h=>(P1.out.O.below h).2 13 (by simp)
 have t4:∀w',Below v2.heap.size v2 w'->w'.cell? ⟨w.heap.size,4,none⟩=some (.int .i64 imm):=fun w' h=>(P1.out.I.below h).2 4 (by simp)
 refine wp_region_L (T:=fun w'=>Below v2.heap.size v2 w') (s:=7) (by kernel_rfl) (Below.refl _ _).drew (fun hHeld=>?_)
 refine wpAnyL_ta 0 rfl ?_
 refine wpAnyL_ta 1 rfl ?_
 refine wpAnyL_ta 2 rfl ?_
 refine wpAnyL_ta 3 rfl ?_
 refine wpAnyL_ta 4 rfl ?_
 clear t13 t4
 refine wpAnyL_call (i:=5) rfl (by kernel_rfl) (fun KK hK=>?_)
 go_simp
 refine(smallerMax_any ma imm _).mono ?_
 rintro e w'⟨rfl,hw⟩
 rw[hw]
 clear hw
 go_wp2_with fail
 refine hK.out _ _ (Below.refl _ _).drew (fun _=>?_)
 clear hK KK
 try go_frame
 refine wpAnyL_call (i:=6) rfl (by kernel_rfl) (fun KK hK=>?_)
 go_simp
 refine(number_any sec (smallI ma imm) _).mono ?_
 rintro e v3⟨rfl,hb⟩
 have hv3:Below v2.heap.size v2 v3:=(Below.refl _ _).drew.trans hb
 have P2:Hid (RoP w v3 11 d ra rb imm h a b fl sec):=P1.out.below hv3
 simp only[VV.v]
 go_wp2_with fail
 refine hK.out _ _ hv3 (fun _=>?_)
 clear hK KK hb hv3 hHeld
 try go_frame
 obtain⟨r0,r1,r2,r3,r4,r5⟩:=P2.out.R.cells
 have rf:=P2.out.R.free
 have rl:=P2.out.R.lt
 refine wpAnyL_store rfl (by kernel_rfl) (by kernel_rfl) (fun KK hK=>?_)
 go_simp
 refine hK.out _ _ ?_
 clear hK KK
 go_wp2
 exact bodyPost_ret (v:=VV.v (numV sec (smallI ma imm))) (by simp[results,Tryz.results67,go_sem,VV.v, *]) rfl ⟨congrArg (fun q=>Ending.returned (VV.v q)) (by rw[<-HR.out,HMA.out]),below_putV P2.out.bel P2.out.oR _⟩
theorem resultOf_5(d ra rb imm h:Int)(a b:VV)(fl:Int)(sec:Bool)(hv:Value)(w:World)(ha:Bd a)(hb:Bd b):
 Calls Tryz.prog 67 #[.agg #[.int .i64 5,.int .i64 d,.int .i64 ra,.int .i64 rb,.int .i64 imm,.int .i64 h],.agg #[.int .i64 a.k,.bool a.s,.int .i64 a.m,.int .i64 a.h,.int .i64 a.lo,.int .i64 a.hi,.int .i64 b.k,.bool b.s,.int .i64 b.m,.int .i64 b.h,.int .i64 b.lo,.int .i64 b.hi,.int .i64 fl,.bool sec],hv] w fun e w'=>e=.returned (numV sec (prodI (maxV a) (maxV b))).v/\Below w.heap.size w w':=by
 obtain⟨res,hres⟩:∃r,(numV sec (prodI (maxV a) (maxV b)))=r:=⟨_,rfl⟩
 rw[hres]
 have HR:Hid ((numV sec (prodI (maxV a) (maxV b)))=res):=hres
 have HA:Hid (Bd a):=ha
 have HB:Hid (Bd b):=hb
 clear hres ha hb
 go_enter Tryz.func67,Tryz.ntmps67
 go_upto_region 1 with fail
 obtain⟨u,hu,pu⟩:=ro_pre w (op:=5) (d:=d) (ra:=ra) (rb:=rb) (imm:=imm) (h:=h) a b fl sec
 rw[hu]
 have P0:Hid (RoP w u 5 d ra rb imm h a b fl sec):=pu
 clear hu pu
 have t0:∀w',Below u.heap.size u w'->w'.cell? ⟨w.heap.size+1,0,none⟩=some (.int .i64 a.k):=fun w' h=>(P0.out.O.below h).2 0 (by simp)
 have t1:∀w',Below u.heap.size u w'->w'.cell? ⟨w.heap.size+1,1,none⟩=some (.bool a.s):=fun w' h=>(P0.out.O.below h).2 1 (by simp)
 have t2:∀w',Below u.heap.size u w'->w'.cell? ⟨w.heap.size+1,2,none⟩=some (.int .i64 a.m):=fun w' h=>(P0.out.O.below h).2 2 (by simp)
 have t3:∀w',Below u.heap.size u w'->w'.cell? ⟨w.heap.size+1,3,none⟩=some (.int .i64 a.h):=fun w' h=>(P0.out.O.below h).2 3 (by simp)
 have t4:∀w',Below u.heap.size u w'->w'.cell? ⟨w.heap.size+1,4,none⟩=some (.int .i64 a.lo):=fun w' h=>(P0.out.O.below h).2 4 (by simp)
 have t5:∀w',Below u.heap.size u w'->w'.cell? ⟨w.heap.size+1,5,none⟩=some (.int .i64 a.hi):=fun w' h=>(P0.out.O.below h).2 5 (by simp)
 have t6:∀w',Below u.heap.size u w'->w'.cell? ⟨w.heap.size+1,6,none⟩=some (.int .i64 b.k):=fun w' h=>(P0.out.O.below h).2 6 (by simp)
 have t7:∀w',Below u.heap.size u w'->w'.cell? ⟨w.heap.size+1,7,none⟩=some (.bool b.s):=fun w' h=>(P0.out.O.below h).2 7 (by simp)
 have t8:∀w',Below u.heap.size u w'->w'.cell? ⟨w.heap.size+1,8,none⟩=some (.int .i64 b.m):=fun w' h=>(P0.out.O.below h).2 8 (by simp)
 have t9:∀w',Below u.heap.size u w'->w'.cell? ⟨w.heap.size+1,9,none⟩=some (.int .i64 b.h):=fun w' h=>(P0.out.O.below h).2 9 (by simp)
 have t10:∀w',Below u.heap.size u w'->w'.cell? ⟨w.heap.size+1,10,none⟩=some (.int .i64 b.lo):=fun w' h=>(P0.out.O.below h).2 10 (by simp)
 have t11:∀w',Below u.heap.size u w'->w'.cell? ⟨w.heap.size+1,11,none⟩=some (.int .i64 b.hi):=fun w' h=>(P0.out.O.below h).2 11 (by simp)
 refine wp_region_held_drew (S:=fun w'=>Below u.heap.size u w') (by kernel_rfl) (Below.refl _ _).drew (fun hHeld=>?_)
 refine wpAnyH_ta 0 rfl ?_
 refine wpAnyH_ta 1 rfl ?_
 refine wpAnyH_ta 3 rfl ?_
 refine wpAnyH_ta 4 rfl ?_
 clear t0 t1 t2 t3 t4 t5 t6 t7 t8 t9 t10 t11
 refine wpAnyH_ready (rs:=[2]) (by kernel_rfl) (by simp) ?_
 refine AllReadyH.cons rfl (fun KK hK=>?_) AllReadyH.nil
 go_simp
 refine(maxOf_any a.k a.s a.m a.h a.lo a.hi _).mono ?_
 rintro e v1⟨rfl,hb⟩
 have hv1:Below u.heap.size u v1:=(Below.refl _ _).drew.trans hb
 clear hb hHeld
 obtain⟨ma,hm⟩:∃m,maxV a=m:=⟨_,rfl⟩
 rw[show maxV ⟨a.k,a.s,a.m,a.h,a.lo,a.hi⟩=ma from hm]
 have HMA:Hid (maxV a=ma):=hm
 clear hm
 go_wp2_with fail
 refine hK.out _ _ hv1 (fun _=>?_)
 clear hK KK
 try go_frame
 refine wpAnyH_ready (rs:=[5]) (by kernel_rfl) (by simp) ?_
 refine AllReadyH.cons rfl (fun KK hK=>?_) AllReadyH.nil
 go_simp
 refine(maxOf_any b.k b.s b.m b.h b.lo b.hi _).mono ?_
 rintro e v2⟨rfl,hb⟩
 have hv2:Below u.heap.size u v2:=hv1.trans (hb.mono hv1.size)
 clear hb
 obtain⟨mb,hm⟩:∃m,maxV b=m:=⟨_,rfl⟩
 rw[show maxV ⟨b.k,b.s,b.m,b.h,b.lo,b.hi⟩=mb from hm]
 have HMB:Hid (maxV b=mb):=hm
 clear hm
 go_wp2_with fail
 refine hK.out _ _ hv2 (fun _=>?_)
 clear hK KK
 try go_frame
 refine wpAnyH_ta 6 rfl ?_
 refine wpAnyH_ta 7 rfl ?_
 refine wpAnyH_done (by kernel_rfl) ?_ _
 have P1:Hid (RoP w v2 5 d ra rb imm h a b fl sec):=P0.out.below hv2
 clear P0 hv1 hv2
 obtain⟨i0,i1,i2,i3,i4,i5⟩:=ins_cells P1.out.I
 obtain⟨o0,o1,o2,o3,o4,o5,o6,o7,o8,o9,o10,o11,o12,o13⟩:=ro_ops P1.out.O
 obtain⟨r0,r1,r2,r3,r4,r5⟩:=P1.out.R.cells
 have rf:=P1.out.R.free
 have rl:=P1.out.R.lt
 have qa: -1<=ma/\ma<=1099511627776:=HMA.out▸maxV_bd HA.out
 have qb: -1<=mb/\mb<=1099511627776:=HMB.out▸maxV_bd HB.out
 go_upto_region 11 with fail
 clear i0 i1 i2 i3 i4 i5 o0 o1 o2 o3 o4 o5 o6 o7 o8 o9 o10 o11 o12 o13 r0 r1 r2 r3 r4 r5 rf rl
 have t13:∀w',Below v2.heap.size v2 w'->w'.cell? ⟨w.heap.size+1,13,none⟩=some (.bool sec):=fun w' h=>(P1.out.O.below h).2 13 (by simp)
 have t4:∀w',Below v2.heap.size v2 w'->w'.cell? ⟨w.heap.size,4,none⟩=some (.int .i64 imm):=fun w' h=>(P1.out.I.below h).2 4 (by simp)
 refine wp_region_L (T:=fun w'=>Below v2.heap.size v2 w') (s:=6) (by kernel_rfl) (Below.refl _ _).drew (fun hHeld=>?_)
 refine wpAnyL_ta 0 rfl ?_
 refine wpAnyL_ta 1 rfl ?_
 refine wpAnyL_ta 2 rfl ?_
 refine wpAnyL_ta 3 rfl ?_
 clear t13 t4
 refine wpAnyL_call (i:=4) rfl (by kernel_rfl) (fun KK hK=>?_)
 go_simp
 refine(productMax_any ma mb _ qa.1 qa.2 qb.1 qb.2).mono ?_
 rintro e w'⟨rfl,hw⟩
 rw[hw]
 clear hw
 go_wp2_with fail
 refine hK.out _ _ (Below.refl _ _).drew (fun _=>?_)
 clear hK KK
 try go_frame
 refine wpAnyL_call (i:=5) rfl (by kernel_rfl) (fun KK hK=>?_)
 go_simp
 refine(number_any sec (prodI ma mb) _).mono ?_
 rintro e v3⟨rfl,hb⟩
 have hv3:Below v2.heap.size v2 v3:=(Below.refl _ _).drew.trans hb
 have P2:Hid (RoP w v3 5 d ra rb imm h a b fl sec):=P1.out.below hv3
 simp only[VV.v]
 go_wp2_with fail
 refine hK.out _ _ hv3 (fun _=>?_)
 clear hK KK hb hv3 hHeld
 try go_frame
 obtain⟨r0,r1,r2,r3,r4,r5⟩:=P2.out.R.cells
 have rf:=P2.out.R.free
 have rl:=P2.out.R.lt
 refine wpAnyL_store rfl (by kernel_rfl) (by kernel_rfl) (fun KK hK=>?_)
 go_simp
 refine hK.out _ _ ?_
 clear hK KK
 go_wp2
 exact bodyPost_ret (v:=VV.v (numV sec (prodI ma mb))) (by simp[results,Tryz.results67,go_sem,VV.v, *]) rfl ⟨congrArg (fun q=>Ending.returned (VV.v q)) (by rw[<-HR.out,HMA.out,HMB.out]),below_putV P2.out.bel P2.out.oR _⟩
theorem resultOf_15(d ra rb imm h:Int)(a b:VV)(fl:Int)(sec:Bool)(hv:Value)(w:World)(ha:Bd a)(hb:Bd b):
 Calls Tryz.prog 67 #[.agg #[.int .i64 15,.int .i64 d,.int .i64 ra,.int .i64 rb,.int .i64 imm,.int .i64 h],.agg #[.int .i64 a.k,.bool a.s,.int .i64 a.m,.int .i64 a.h,.int .i64 a.lo,.int .i64 a.hi,.int .i64 b.k,.bool b.s,.int .i64 b.m,.int .i64 b.h,.int .i64 b.lo,.int .i64 b.hi,.int .i64 fl,.bool sec],hv] w fun e w'=>e=.returned (numV sec (sumI (sumI (maxV a) (maxV b)) 1)).v/\Below w.heap.size w w':=by
 obtain⟨res,hres⟩:∃r,(numV sec (sumI (sumI (maxV a) (maxV b)) 1))=r:=⟨_,rfl⟩
 rw[hres]
 have HR:Hid ((numV sec (sumI (sumI (maxV a) (maxV b)) 1))=res):=hres
 have HA:Hid (Bd a):=ha
 have HB:Hid (Bd b):=hb
 clear hres ha hb
 go_enter Tryz.func67,Tryz.ntmps67
 go_upto_region 1 with fail
 obtain⟨u,hu,pu⟩:=ro_pre w (op:=15) (d:=d) (ra:=ra) (rb:=rb) (imm:=imm) (h:=h) a b fl sec
 rw[hu]
 have P0:Hid (RoP w u 15 d ra rb imm h a b fl sec):=pu
 clear hu pu
 have t0:∀w',Below u.heap.size u w'->w'.cell? ⟨w.heap.size+1,0,none⟩=some (.int .i64 a.k):=fun w' h=>(P0.out.O.below h).2 0 (by simp)
 have t1:∀w',Below u.heap.size u w'->w'.cell? ⟨w.heap.size+1,1,none⟩=some (.bool a.s):=fun w' h=>(P0.out.O.below h).2 1 (by simp)
 have t2:∀w',Below u.heap.size u w'->w'.cell? ⟨w.heap.size+1,2,none⟩=some (.int .i64 a.m):=fun w' h=>(P0.out.O.below h).2 2 (by simp)
 have t3:∀w',Below u.heap.size u w'->w'.cell? ⟨w.heap.size+1,3,none⟩=some (.int .i64 a.h):=fun w' h=>(P0.out.O.below h).2 3 (by simp)
 have t4:∀w',Below u.heap.size u w'->w'.cell? ⟨w.heap.size+1,4,none⟩=some (.int .i64 a.lo):=fun w' h=>(P0.out.O.below h).2 4 (by simp)
 have t5:∀w',Below u.heap.size u w'->w'.cell? ⟨w.heap.size+1,5,none⟩=some (.int .i64 a.hi):=fun w' h=>(P0.out.O.below h).2 5 (by simp)
 have t6:∀w',Below u.heap.size u w'->w'.cell? ⟨w.heap.size+1,6,none⟩=some (.int .i64 b.k):=fun w' h=>(P0.out.O.below h).2 6 (by simp)
 have t7:∀w',Below u.heap.size u w'->w'.cell? ⟨w.heap.size+1,7,none⟩=some (.bool b.s):=fun w' h=>(P0.out.O.below h).2 7 (by simp)
 have t8:∀w',Below u.heap.size u w'->w'.cell? ⟨w.heap.size+1,8,none⟩=some (.int .i64 b.m):=fun w' h=>(P0.out.O.below h).2 8 (by simp)
 have t9:∀w',Below u.heap.size u w'->w'.cell? ⟨w.heap.size+1,9,none⟩=some (.int .i64 b.h):=fun w' h=>(P0.out.O.below h).2 9 (by simp)
 have t10:∀w',Below u.heap.size u w'->w'.cell? ⟨w.heap.size+1,10,none⟩=some (.int .i64 b.lo):=fun w' h=>(P0.out.O.below h).2 10 (by simp)
 have t11:∀w',Below u.heap.size u w'->w'.cell? ⟨w.heap.size+1,11,none⟩=some (.int .i64 b.hi):=fun w' h=>(P0.out.O.below h).2 11 (by simp)
 refine wp_region_held_drew (S:=fun w'=>Below u.heap.size u w') (by kernel_rfl) (Below.refl _ _).drew (fun hHeld=>?_)
 refine wpAnyH_ta 0 rfl ?_
 refine wpAnyH_ta 1 rfl ?_
 refine wpAnyH_ta 3 rfl ?_
 refine wpAnyH_ta 4 rfl ?_
 clear t0 t1 t2 t3 t4 t5 t6 t7 t8 t9 t10 t11
 refine wpAnyH_ready (rs:=[2]) (by kernel_rfl) (by simp) ?_
 refine AllReadyH.cons rfl (fun KK hK=>?_) AllReadyH.nil
 go_simp
 refine(maxOf_any a.k a.s a.m a.h a.lo a.hi _).mono ?_
 rintro e v1⟨rfl,hb⟩
 have hv1:Below u.heap.size u v1:=(Below.refl _ _).drew.trans hb
 clear hb hHeld
 obtain⟨ma,hm⟩:∃m,maxV a=m:=⟨_,rfl⟩
 rw[show maxV ⟨a.k,a.s,a.m,a.h,a.lo,a.hi⟩=ma from hm]
 have HMA:Hid (maxV a=ma):=hm
 clear hm
 go_wp2_with fail
 refine hK.out _ _ hv1 (fun _=>?_)
 clear hK KK
 try go_frame
 refine wpAnyH_ready (rs:=[5]) (by kernel_rfl) (by simp) ?_
 refine AllReadyH.cons rfl (fun KK hK=>?_) AllReadyH.nil
 go_simp
 refine(maxOf_any b.k b.s b.m b.h b.lo b.hi _).mono ?_
 rintro e v2⟨rfl,hb⟩
 have hv2:Below u.heap.size u v2:=hv1.trans (hb.mono hv1.size)
 clear hb
 obtain⟨mb,hm⟩:∃m,maxV b=m:=⟨_,rfl⟩
 rw[show maxV ⟨b.k,b.s,b.m,b.h,b.lo,b.hi⟩=mb from hm]
 have HMB:Hid (maxV b=mb):=hm
 clear hm
 go_wp2_with fail
 refine hK.out _ _ hv2 (fun _=>?_)
 clear hK KK
 try go_frame
 refine wpAnyH_ta 6 rfl ?_
 refine wpAnyH_ta 7 rfl ?_
 refine wpAnyH_done (by kernel_rfl) ?_ _
 have P1:Hid (RoP w v2 15 d ra rb imm h a b fl sec):=P0.out.below hv2
 clear P0 hv1 hv2
 obtain⟨i0,i1,i2,i3,i4,i5⟩:=ins_cells P1.out.I
 obtain⟨o0,o1,o2,o3,o4,o5,o6,o7,o8,o9,o10,o11,o12,o13⟩:=ro_ops P1.out.O
 obtain⟨r0,r1,r2,r3,r4,r5⟩:=P1.out.R.cells
 have rf:=P1.out.R.free
 have rl:=P1.out.R.lt
 have qa: -1<=ma/\ma<=1099511627776:=HMA.out▸maxV_bd HA.out
 have qb: -1<=mb/\mb<=1099511627776:=HMB.out▸maxV_bd HB.out
 have qc: -1<=sumI ma mb/\sumI ma mb<=2199023255552:=by unfold sumI;split<;>constructor<;>omega
 go_upto_region 28 with fail
 clear i0 i1 i2 i3 i4 i5 o0 o1 o2 o3 o4 o5 o6 o7 o8 o9 o10 o11 o12 o13 r0 r1 r2 r3 r4 r5 rf rl
 have t13:∀w',Below v2.heap.size v2 w'->w'.cell? ⟨w.heap.size+1,13,none⟩=some (.bool sec):=fun w' h=>(P1.out.O.below h).2 13 (by simp)
 have t4:∀w',Below v2.heap.size v2 w'->w'.cell? ⟨w.heap.size,4,none⟩=some (.int .i64 imm):=fun w' h=>(P1.out.I.below h).2 4 (by simp)
 refine wp_region_L (T:=fun w'=>Below v2.heap.size v2 w') (s:=7) (by kernel_rfl) (Below.refl _ _).drew (fun hHeld=>?_)
 refine wpAnyL_ta 0 rfl ?_
 refine wpAnyL_ta 1 rfl ?_
 refine wpAnyL_ta 2 rfl ?_
 refine wpAnyL_ta 3 rfl ?_
 clear t13 t4
 refine wpAnyL_call (i:=4) rfl (by kernel_rfl) (fun KK hK=>?_)
 go_simp
 refine(sumMax_any ma mb _ qa.1 (by omega) (by omega) qb.2).mono ?_
 rintro e w'⟨rfl,hw⟩
 rw[hw]
 clear hw
 go_wp2_with fail
 refine hK.out _ _ (Below.refl _ _).drew (fun _=>?_)
 clear hK KK
 try go_frame
 refine wpAnyL_call (i:=5) rfl (by kernel_rfl) (fun KK hK=>?_)
 go_simp
 refine(sumMax_any (sumI ma mb) 1 _ qc.1 qc.2 (by omega) (by omega)).mono ?_
 rintro e w'⟨rfl,hw⟩
 rw[hw]
 clear hw
 go_wp2_with fail
 refine hK.out _ _ (Below.refl _ _).drew (fun _=>?_)
 clear hK KK
 try go_frame
 refine wpAnyL_call (i:=6) rfl (by kernel_rfl) (fun KK hK=>?_)
 go_simp
 refine(number_any sec (sumI (sumI ma mb) 1) _).mono ?_
 rintro e v3⟨rfl,hb⟩
 have hv3:Below v2.heap.size v2 v3:=(Below.refl _ _).drew.trans hb
 have P2:Hid (RoP w v3 15 d ra rb imm h a b fl sec):=P1.out.below hv3
 simp only[VV.v]
 go_wp2_with fail
 refine hK.out _ _ hv3 (fun _=>?_)
 clear hK KK hb hv3 hHeld
 try go_frame
 obtain⟨r0,r1,r2,r3,r4,r5⟩:=P2.out.R.cells
 have rf:=P2.out.R.free
 have rl:=P2.out.R.lt
 refine wpAnyL_store rfl (by kernel_rfl) (by kernel_rfl) (fun KK hK=>?_)
 go_simp
 refine hK.out _ _ ?_
 clear hK KK
 go_wp2
 exact bodyPost_ret (v:=VV.v (numV sec (sumI (sumI ma mb) 1))) (by simp[results,Tryz.results67,go_sem,VV.v, *]) rfl ⟨congrArg (fun q=>Ending.returned (VV.v q)) (by rw[<-HR.out,HMA.out,HMB.out]),below_putV P2.out.bel P2.out.oR _⟩
end Go.Proofs.YtbahofiiaodpdaaGreat
