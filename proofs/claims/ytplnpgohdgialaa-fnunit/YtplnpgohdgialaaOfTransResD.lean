import Derived.Test.YtplnpgohdgialaaOfTransAcc
set_option maxHeartbeats 4000000
set_option maxRecDepth 20000
namespace Go.Proofs.Ytplnpgohdgialaa
open Go.RowKit
theorem l4Result_3(d ra rb imm h:Int)(a b:VV)(s:Bool)(w:World)(ha:Bd a)(hb:Bd b):
 Calls Try.prog 67 #[.agg #[.int .i64 3,.int .i64 d,.int .i64 ra,.int .i64 rb,.int .i64 imm,.int .i64 h],.agg #[.int .i64 a.k,.bool a.s,.int .i64 a.m,.int .i64 a.h,.int .i64 a.lo,.int .i64 a.hi],.agg #[.int .i64 b.k,.bool b.s,.int .i64 b.m,.int .i64 b.h,.int .i64 b.lo,.int .i64 b.hi],.bool s] w fun e w'=>e=.returned (resV 3 imm a b s).v/\Below w.heap.size w w':=by
 go_enter Try.func67,Try.ntmps67;go_upto_region 1 with fail;obtain⟨u0,hu,pu⟩:=res_pre w (op:=3) (d:=d) (ra:=ra) (rb:=rb) (imm:=imm) (h:=h) a b;rw[hu];have P0:Hid (ResP w u0 3 d ra rb imm h a b):=pu;clear hu pu;obtain⟨i0,i1,i2,i3,i4,i5⟩:=ins_cells P0.out.I;obtain⟨a0,a1,a2,a3,a4,a5⟩:=P0.out.A.cells;obtain⟨b0,b1,b2,b3,b4,b5⟩:=P0.out.B.cells;obtain⟨r0,r1,r2,r3,r4,r5⟩:=P0.out.R.cells;have rf:=P0.out.R.free;have rl:=P0.out.R.lt;have af:=P0.out.A.free;go_wp2_with fail;refine(l4Sum_any a b _ ha hb).mono ?_;rintro e u1⟨rfl,hb⟩;have P1:Hid (ResP w u1 3 d ra rb imm h a b):=P0.out.below hb;clear hb;clear i0 i1 i2 i3 i4 i5 a0 a1 a2 a3 a4 a5 b0 b1 b2 b3 b4 b5 r0 r1 r2 r3 r4 r5 rf rl af;simp only[VV.v];obtain⟨i0,i1,i2,i3,i4,i5⟩:=ins_cells P1.out.I;obtain⟨a0,a1,a2,a3,a4,a5⟩:=P1.out.A.cells;obtain⟨b0,b1,b2,b3,b4,b5⟩:=P1.out.B.cells;obtain⟨r0,r1,r2,r3,r4,r5⟩:=P1.out.R.cells;have rf:=P1.out.R.free;have rl:=P1.out.R.lt;have af:=P1.out.A.free;go_wp2;exact bodyPost_ret (v:=VV.v (sumV a b)) (by simp[results,Try.results67,go_sem,VV.v, *]) rfl ⟨congrArg (fun v=>Ending.returned (VV.v v)) (by simp[resV]),below_putV P1.out.bel P1.out.oR (sumV a b)⟩
theorem l4Result_14(d ra rb imm h:Int)(a b:VV)(s:Bool)(w:World)(ha:Bd a)(hb:Bd b):
 Calls Try.prog 67 #[.agg #[.int .i64 14,.int .i64 d,.int .i64 ra,.int .i64 rb,.int .i64 imm,.int .i64 h],.agg #[.int .i64 a.k,.bool a.s,.int .i64 a.m,.int .i64 a.h,.int .i64 a.lo,.int .i64 a.hi],.agg #[.int .i64 b.k,.bool b.s,.int .i64 b.m,.int .i64 b.h,.int .i64 b.lo,.int .i64 b.hi],.bool s] w fun e w'=>e=.returned (resV 14 imm a b s).v/\Below w.heap.size w w':=by
 go_enter Try.func67,Try.ntmps67;go_upto_region 1 with fail;obtain⟨u0,hu,pu⟩:=res_pre w (op:=14) (d:=d) (ra:=ra) (rb:=rb) (imm:=imm) (h:=h) a b;rw[hu];have P0:Hid (ResP w u0 14 d ra rb imm h a b):=pu;clear hu pu;obtain⟨i0,i1,i2,i3,i4,i5⟩:=ins_cells P0.out.I;obtain⟨a0,a1,a2,a3,a4,a5⟩:=P0.out.A.cells;obtain⟨b0,b1,b2,b3,b4,b5⟩:=P0.out.B.cells;obtain⟨r0,r1,r2,r3,r4,r5⟩:=P0.out.R.cells;have rf:=P0.out.R.free;have rl:=P0.out.R.lt;have af:=P0.out.A.free;go_wp2_with fail;refine(l4Sum_any a b _ ha hb).mono ?_;rintro e u1⟨rfl,hb⟩;have P1:Hid (ResP w u1 14 d ra rb imm h a b):=P0.out.below hb;clear hb;clear i0 i1 i2 i3 i4 i5 a0 a1 a2 a3 a4 a5 b0 b1 b2 b3 b4 b5 r0 r1 r2 r3 r4 r5 rf rl af;simp only[VV.v];obtain⟨i0,i1,i2,i3,i4,i5⟩:=ins_cells P1.out.I;obtain⟨a0,a1,a2,a3,a4,a5⟩:=P1.out.A.cells;obtain⟨b0,b1,b2,b3,b4,b5⟩:=P1.out.B.cells;obtain⟨r0,r1,r2,r3,r4,r5⟩:=P1.out.R.cells;have rf:=P1.out.R.free;have rl:=P1.out.R.lt;have af:=P1.out.A.free;go_wp2;exact bodyPost_ret (v:=VV.v (sumV a b)) (by simp[results,Try.results67,go_sem,VV.v, *]) rfl ⟨congrArg (fun v=>Ending.returned (VV.v v)) (by simp[resV]),below_putV P1.out.bel P1.out.oR (sumV a b)⟩
theorem l4Result_4(d ra rb imm h:Int)(a b:VV)(s:Bool)(w:World):
 Calls Try.prog 67 #[.agg #[.int .i64 4,.int .i64 d,.int .i64 ra,.int .i64 rb,.int .i64 imm,.int .i64 h],.agg #[.int .i64 a.k,.bool a.s,.int .i64 a.m,.int .i64 a.h,.int .i64 a.lo,.int .i64 a.hi],.agg #[.int .i64 b.k,.bool b.s,.int .i64 b.m,.int .i64 b.h,.int .i64 b.lo,.int .i64 b.hi],.bool s] w fun e w'=>e=.returned (resV 4 imm a b s).v/\Below w.heap.size w w':=by
 go_enter Try.func67,Try.ntmps67;go_upto_region 1 with fail;obtain⟨u0,hu,pu⟩:=res_pre w (op:=4) (d:=d) (ra:=ra) (rb:=rb) (imm:=imm) (h:=h) a b;rw[hu];have P0:Hid (ResP w u0 4 d ra rb imm h a b):=pu;clear hu pu;obtain⟨i0,i1,i2,i3,i4,i5⟩:=ins_cells P0.out.I;obtain⟨a0,a1,a2,a3,a4,a5⟩:=P0.out.A.cells;obtain⟨b0,b1,b2,b3,b4,b5⟩:=P0.out.B.cells;obtain⟨r0,r1,r2,r3,r4,r5⟩:=P0.out.R.cells;have rf:=P0.out.R.free;have rl:=P0.out.R.lt;have af:=P0.out.A.free;go_wp2_with fail;refine(l4Num_any s (-1) _).mono ?_;rintro e u1⟨rfl,hb⟩;have P1:Hid (ResP w u1 4 d ra rb imm h a b):=P0.out.below hb;clear hb;clear i0 i1 i2 i3 i4 i5 a0 a1 a2 a3 a4 a5 b0 b1 b2 b3 b4 b5 r0 r1 r2 r3 r4 r5 rf rl af;simp only[VV.v];obtain⟨i0,i1,i2,i3,i4,i5⟩:=ins_cells P1.out.I;obtain⟨a0,a1,a2,a3,a4,a5⟩:=P1.out.A.cells;obtain⟨b0,b1,b2,b3,b4,b5⟩:=P1.out.B.cells;obtain⟨r0,r1,r2,r3,r4,r5⟩:=P1.out.R.cells;have rf:=P1.out.R.free;have rl:=P1.out.R.lt;have af:=P1.out.A.free;go_wp2;exact bodyPost_ret (v:=VV.v (numV s (-1))) (by simp[results,Try.results67,go_sem,VV.v, *]) rfl ⟨congrArg (fun v=>Ending.returned (VV.v v)) (by simp[resV]),below_putV P1.out.bel P1.out.oR (numV s (-1))⟩
theorem l4Result_16(d ra rb imm h:Int)(a b:VV)(s:Bool)(w:World):
 Calls Try.prog 67 #[.agg #[.int .i64 16,.int .i64 d,.int .i64 ra,.int .i64 rb,.int .i64 imm,.int .i64 h],.agg #[.int .i64 a.k,.bool a.s,.int .i64 a.m,.int .i64 a.h,.int .i64 a.lo,.int .i64 a.hi],.agg #[.int .i64 b.k,.bool b.s,.int .i64 b.m,.int .i64 b.h,.int .i64 b.lo,.int .i64 b.hi],.bool s] w fun e w'=>e=.returned (resV 16 imm a b s).v/\Below w.heap.size w w':=by
 go_enter Try.func67,Try.ntmps67;go_upto_region 1 with fail;obtain⟨u0,hu,pu⟩:=res_pre w (op:=16) (d:=d) (ra:=ra) (rb:=rb) (imm:=imm) (h:=h) a b;rw[hu];have P0:Hid (ResP w u0 16 d ra rb imm h a b):=pu;clear hu pu;obtain⟨i0,i1,i2,i3,i4,i5⟩:=ins_cells P0.out.I;obtain⟨a0,a1,a2,a3,a4,a5⟩:=P0.out.A.cells;obtain⟨b0,b1,b2,b3,b4,b5⟩:=P0.out.B.cells;obtain⟨r0,r1,r2,r3,r4,r5⟩:=P0.out.R.cells;have rf:=P0.out.R.free;have rl:=P0.out.R.lt;have af:=P0.out.A.free;go_wp2_with fail;refine(l4Num_any s (-1) _).mono ?_;rintro e u1⟨rfl,hb⟩;have P1:Hid (ResP w u1 16 d ra rb imm h a b):=P0.out.below hb;clear hb;clear i0 i1 i2 i3 i4 i5 a0 a1 a2 a3 a4 a5 b0 b1 b2 b3 b4 b5 r0 r1 r2 r3 r4 r5 rf rl af;simp only[VV.v];obtain⟨i0,i1,i2,i3,i4,i5⟩:=ins_cells P1.out.I;obtain⟨a0,a1,a2,a3,a4,a5⟩:=P1.out.A.cells;obtain⟨b0,b1,b2,b3,b4,b5⟩:=P1.out.B.cells;obtain⟨r0,r1,r2,r3,r4,r5⟩:=P1.out.R.cells;have rf:=P1.out.R.free;have rl:=P1.out.R.lt;have af:=P1.out.A.free;go_wp2;exact bodyPost_ret (v:=VV.v (numV s (-1))) (by simp[results,Try.results67,go_sem,VV.v, *]) rfl ⟨congrArg (fun v=>Ending.returned (VV.v v)) (by simp[resV]),below_putV P1.out.bel P1.out.oR (numV s (-1))⟩
theorem l4Result_9(d ra rb imm h:Int)(a b:VV)(s:Bool)(w:World):
 Calls Try.prog 67 #[.agg #[.int .i64 9,.int .i64 d,.int .i64 ra,.int .i64 rb,.int .i64 imm,.int .i64 h],.agg #[.int .i64 a.k,.bool a.s,.int .i64 a.m,.int .i64 a.h,.int .i64 a.lo,.int .i64 a.hi],.agg #[.int .i64 b.k,.bool b.s,.int .i64 b.m,.int .i64 b.h,.int .i64 b.lo,.int .i64 b.hi],.bool s] w fun e w'=>e=.returned (resV 9 imm a b s).v/\Below w.heap.size w w':=by
 go_enter Try.func67,Try.ntmps67;go_upto_region 1 with fail;obtain⟨u0,hu,pu⟩:=res_pre w (op:=9) (d:=d) (ra:=ra) (rb:=rb) (imm:=imm) (h:=h) a b;rw[hu];have P0:Hid (ResP w u0 9 d ra rb imm h a b):=pu;clear hu pu;obtain⟨i0,i1,i2,i3,i4,i5⟩:=ins_cells P0.out.I;obtain⟨a0,a1,a2,a3,a4,a5⟩:=P0.out.A.cells;obtain⟨b0,b1,b2,b3,b4,b5⟩:=P0.out.B.cells;obtain⟨r0,r1,r2,r3,r4,r5⟩:=P0.out.R.cells;have rf:=P0.out.R.free;have rl:=P0.out.R.lt;have af:=P0.out.A.free;go_wp2_with fail;refine(l4Max_any a.k a.s a.m a.h a.lo a.hi _).mono ?_;rintro e u1⟨rfl,hb⟩;have P1:Hid (ResP w u1 9 d ra rb imm h a b):=P0.out.below hb;clear hb;clear i0 i1 i2 i3 i4 i5 a0 a1 a2 a3 a4 a5 b0 b1 b2 b3 b4 b5 r0 r1 r2 r3 r4 r5 rf rl af;obtain⟨i0,i1,i2,i3,i4,i5⟩:=ins_cells P1.out.I;obtain⟨a0,a1,a2,a3,a4,a5⟩:=P1.out.A.cells;obtain⟨b0,b1,b2,b3,b4,b5⟩:=P1.out.B.cells;obtain⟨r0,r1,r2,r3,r4,r5⟩:=P1.out.R.cells;have rf:=P1.out.R.free;have rl:=P1.out.R.lt;have af:=P1.out.A.free;go_wp2_with fail;refine(l4Num_any s (maxV a) _).mono ?_;rintro e u2⟨rfl,hb⟩;have P2:Hid (ResP w u2 9 d ra rb imm h a b):=P1.out.below hb;clear hb;clear i0 i1 i2 i3 i4 i5 a0 a1 a2 a3 a4 a5 b0 b1 b2 b3 b4 b5 r0 r1 r2 r3 r4 r5 rf rl af;simp only[VV.v];obtain⟨i0,i1,i2,i3,i4,i5⟩:=ins_cells P2.out.I;obtain⟨a0,a1,a2,a3,a4,a5⟩:=P2.out.A.cells;obtain⟨b0,b1,b2,b3,b4,b5⟩:=P2.out.B.cells;obtain⟨r0,r1,r2,r3,r4,r5⟩:=P2.out.R.cells;have rf:=P2.out.R.free;have rl:=P2.out.R.lt;have af:=P2.out.A.free;go_wp2;exact bodyPost_ret (v:=VV.v (numV s (maxV a))) (by simp[results,Try.results67,go_sem,VV.v, *]) rfl ⟨congrArg (fun v=>Ending.returned (VV.v v)) (by simp[resV]),below_putV P2.out.bel P2.out.oR (numV s (maxV a))⟩
theorem l4Result_5(d ra rb imm h:Int)(a b:VV)(s:Bool)(w:World)(ha:Bd a)(hb:Bd b):
 Calls Try.prog 67 #[.agg #[.int .i64 5,.int .i64 d,.int .i64 ra,.int .i64 rb,.int .i64 imm,.int .i64 h],.agg #[.int .i64 a.k,.bool a.s,.int .i64 a.m,.int .i64 a.h,.int .i64 a.lo,.int .i64 a.hi],.agg #[.int .i64 b.k,.bool b.s,.int .i64 b.m,.int .i64 b.h,.int .i64 b.lo,.int .i64 b.hi],.bool s] w fun e w'=>e=.returned (resV 5 imm a b s).v/\Below w.heap.size w w':=by
 go_enter Try.func67,Try.ntmps67;go_upto_region 1 with fail;obtain⟨u0,hu,pu⟩:=res_pre w (op:=5) (d:=d) (ra:=ra) (rb:=rb) (imm:=imm) (h:=h) a b;rw[hu];have P0:Hid (ResP w u0 5 d ra rb imm h a b):=pu;clear hu pu;obtain⟨i0,i1,i2,i3,i4,i5⟩:=ins_cells P0.out.I;obtain⟨a0,a1,a2,a3,a4,a5⟩:=P0.out.A.cells;obtain⟨b0,b1,b2,b3,b4,b5⟩:=P0.out.B.cells;obtain⟨r0,r1,r2,r3,r4,r5⟩:=P0.out.R.cells;have rf:=P0.out.R.free;have rl:=P0.out.R.lt;have af:=P0.out.A.free;go_wp2_with fail;refine(l4Both_any a.k a.s a.m a.h a.lo a.hi b.k b.s b.m b.h b.lo b.hi _).mono ?_;rintro e u1⟨rfl,hb⟩;have P1:Hid (ResP w u1 5 d ra rb imm h a b):=P0.out.below hb;clear hb;clear i0 i1 i2 i3 i4 i5 a0 a1 a2 a3 a4 a5 b0 b1 b2 b3 b4 b5 r0 r1 r2 r3 r4 r5 rf rl af;obtain⟨i0,i1,i2,i3,i4,i5⟩:=ins_cells P1.out.I;obtain⟨a0,a1,a2,a3,a4,a5⟩:=P1.out.A.cells;obtain⟨b0,b1,b2,b3,b4,b5⟩:=P1.out.B.cells;obtain⟨r0,r1,r2,r3,r4,r5⟩:=P1.out.R.cells;have rf:=P1.out.R.free;have rl:=P1.out.R.lt;have af:=P1.out.A.free;by_cases hc:0<=maxV a/\0<=maxV b
 ·have hd:decide (0<=maxV a/\0<=maxV b)=true:=by simp[hc]
  obtain⟨p0,p1⟩:=max_m hc.1 ha;obtain⟨q0,q1⟩:=max_m hc.2 hb;have HC:Hid (0<=maxV a/\0<=maxV b):=hc;clear hc;rw[show decide (0<=maxV ⟨a.k,a.s,a.m,a.h,a.lo,a.hi⟩/\0<=maxV ⟨b.k,b.s,b.m,b.h,b.lo,b.hi⟩)=true from hd];clear hd;go_wp2_with fail;refine(l4Times_any a.m b.m _ p0 p1 q0 q1).mono ?_;rintro e w'⟨rfl,hw⟩;rw[hw];clear hw;go_wp2_with fail;refine(l4Num_any s (timesI a.m b.m) _).mono ?_;rintro e u2⟨rfl,hb⟩;have P2:Hid (ResP w u2 5 d ra rb imm h a b):=P1.out.below hb;clear hb;clear i0 i1 i2 i3 i4 i5 a0 a1 a2 a3 a4 a5 b0 b1 b2 b3 b4 b5 r0 r1 r2 r3 r4 r5 rf rl af;simp only[VV.v];obtain⟨i0,i1,i2,i3,i4,i5⟩:=ins_cells P2.out.I;obtain⟨a0,a1,a2,a3,a4,a5⟩:=P2.out.A.cells;obtain⟨b0,b1,b2,b3,b4,b5⟩:=P2.out.B.cells;obtain⟨r0,r1,r2,r3,r4,r5⟩:=P2.out.R.cells;have rf:=P2.out.R.free;have rl:=P2.out.R.lt;have af:=P2.out.A.free;go_wp2;exact bodyPost_ret (v:=VV.v (numV s (timesI a.m b.m))) (by simp[results,Try.results67,go_sem,VV.v, *]) rfl ⟨congrArg (fun v=>Ending.returned (VV.v v)) (by simp[resV,HC.out]),below_putV P2.out.bel P2.out.oR (numV s (timesI a.m b.m))⟩
 ·have hd:decide (0<=maxV a/\0<=maxV b)=false:=by simp only[decide_eq_false_iff_not];exact hc
  have HC:Hid (¬(0<=maxV a/\0<=maxV b)):=hc;clear hc;rw[show decide (0<=maxV ⟨a.k,a.s,a.m,a.h,a.lo,a.hi⟩/\0<=maxV ⟨b.k,b.s,b.m,b.h,b.lo,b.hi⟩)=false from hd];clear hd;go_wp2_with fail;refine(l4Num_any s (-1) _).mono ?_;rintro e u2⟨rfl,hb⟩;have P2:Hid (ResP w u2 5 d ra rb imm h a b):=P1.out.below hb;clear hb;clear i0 i1 i2 i3 i4 i5 a0 a1 a2 a3 a4 a5 b0 b1 b2 b3 b4 b5 r0 r1 r2 r3 r4 r5 rf rl af;simp only[VV.v];obtain⟨i0,i1,i2,i3,i4,i5⟩:=ins_cells P2.out.I;obtain⟨a0,a1,a2,a3,a4,a5⟩:=P2.out.A.cells;obtain⟨b0,b1,b2,b3,b4,b5⟩:=P2.out.B.cells;obtain⟨r0,r1,r2,r3,r4,r5⟩:=P2.out.R.cells;have rf:=P2.out.R.free;have rl:=P2.out.R.lt;have af:=P2.out.A.free;go_wp2;exact bodyPost_ret (v:=VV.v (numV s (-1))) (by simp[results,Try.results67,go_sem,VV.v, *]) rfl ⟨congrArg (fun v=>Ending.returned (VV.v v)) (by simp only[resV,if_neg HC.out];simp),below_putV P2.out.bel P2.out.oR (numV s (-1))⟩
theorem l4Result_7(d ra rb imm h:Int)(a b:VV)(s:Bool)(w:World)(ha:Bd a)(hb:Bd b):
 Calls Try.prog 67 #[.agg #[.int .i64 7,.int .i64 d,.int .i64 ra,.int .i64 rb,.int .i64 imm,.int .i64 h],.agg #[.int .i64 a.k,.bool a.s,.int .i64 a.m,.int .i64 a.h,.int .i64 a.lo,.int .i64 a.hi],.agg #[.int .i64 b.k,.bool b.s,.int .i64 b.m,.int .i64 b.h,.int .i64 b.lo,.int .i64 b.hi],.bool s] w fun e w'=>e=.returned (resV 7 imm a b s).v/\Below w.heap.size w w':=by
 go_enter Try.func67,Try.ntmps67;go_upto_region 1 with fail;obtain⟨u0,hu,pu⟩:=res_pre w (op:=7) (d:=d) (ra:=ra) (rb:=rb) (imm:=imm) (h:=h) a b;rw[hu];have P0:Hid (ResP w u0 7 d ra rb imm h a b):=pu;clear hu pu;obtain⟨i0,i1,i2,i3,i4,i5⟩:=ins_cells P0.out.I;obtain⟨a0,a1,a2,a3,a4,a5⟩:=P0.out.A.cells;obtain⟨b0,b1,b2,b3,b4,b5⟩:=P0.out.B.cells;obtain⟨r0,r1,r2,r3,r4,r5⟩:=P0.out.R.cells;have rf:=P0.out.R.free;have rl:=P0.out.R.lt;have af:=P0.out.A.free;go_wp2_with fail;refine(l4Both_any a.k a.s a.m a.h a.lo a.hi b.k b.s b.m b.h b.lo b.hi _).mono ?_;rintro e u1⟨rfl,hb⟩;have P1:Hid (ResP w u1 7 d ra rb imm h a b):=P0.out.below hb;clear hb;clear i0 i1 i2 i3 i4 i5 a0 a1 a2 a3 a4 a5 b0 b1 b2 b3 b4 b5 r0 r1 r2 r3 r4 r5 rf rl af;obtain⟨i0,i1,i2,i3,i4,i5⟩:=ins_cells P1.out.I;obtain⟨a0,a1,a2,a3,a4,a5⟩:=P1.out.A.cells;obtain⟨b0,b1,b2,b3,b4,b5⟩:=P1.out.B.cells;obtain⟨r0,r1,r2,r3,r4,r5⟩:=P1.out.R.cells;have rf:=P1.out.R.free;have rl:=P1.out.R.lt;have af:=P1.out.A.free;by_cases hc:0<=maxV a/\0<=maxV b
 ·have hd:decide (0<=maxV a/\0<=maxV b)=true:=by simp[hc]
  obtain⟨p0,p1⟩:=max_m hc.1 ha;obtain⟨q0,q1⟩:=max_m hc.2 hb;have HC:Hid (0<=maxV a/\0<=maxV b):=hc;clear hc;rw[show decide (0<=maxV ⟨a.k,a.s,a.m,a.h,a.lo,a.hi⟩/\0<=maxV ⟨b.k,b.s,b.m,b.h,b.lo,b.hi⟩)=true from hd];clear hd;go_wp2_with fail;refine(l4Bigger_any a.m b.m _).mono ?_;rintro e w'⟨rfl,hw⟩;rw[hw];clear hw;go_wp2_with fail;refine(l4Ones_any (bigI a.m b.m) _ (by unfold bigI;split<;>omega) (by unfold bigI;split<;>omega)).mono ?_;rintro e w'⟨rfl,hw⟩;rw[hw];clear hw;go_wp2_with fail;refine(l4Num_any s (onesI (bigI a.m b.m)) _).mono ?_;rintro e u2⟨rfl,hb⟩;have P2:Hid (ResP w u2 7 d ra rb imm h a b):=P1.out.below hb;clear hb;clear i0 i1 i2 i3 i4 i5 a0 a1 a2 a3 a4 a5 b0 b1 b2 b3 b4 b5 r0 r1 r2 r3 r4 r5 rf rl af;simp only[VV.v];obtain⟨i0,i1,i2,i3,i4,i5⟩:=ins_cells P2.out.I;obtain⟨a0,a1,a2,a3,a4,a5⟩:=P2.out.A.cells;obtain⟨b0,b1,b2,b3,b4,b5⟩:=P2.out.B.cells;obtain⟨r0,r1,r2,r3,r4,r5⟩:=P2.out.R.cells;have rf:=P2.out.R.free;have rl:=P2.out.R.lt;have af:=P2.out.A.free;go_wp2;exact bodyPost_ret (v:=VV.v (numV s (onesI (bigI a.m b.m)))) (by simp[results,Try.results67,go_sem,VV.v, *]) rfl ⟨congrArg (fun v=>Ending.returned (VV.v v)) (by simp[resV,HC.out]),below_putV P2.out.bel P2.out.oR (numV s (onesI (bigI a.m b.m)))⟩
 ·have hd:decide (0<=maxV a/\0<=maxV b)=false:=by simp only[decide_eq_false_iff_not];exact hc
  have HC:Hid (¬(0<=maxV a/\0<=maxV b)):=hc;clear hc;rw[show decide (0<=maxV ⟨a.k,a.s,a.m,a.h,a.lo,a.hi⟩/\0<=maxV ⟨b.k,b.s,b.m,b.h,b.lo,b.hi⟩)=false from hd];clear hd;go_wp2_with fail;refine(l4Num_any s (-1) _).mono ?_;rintro e u2⟨rfl,hb⟩;have P2:Hid (ResP w u2 7 d ra rb imm h a b):=P1.out.below hb;clear hb;clear i0 i1 i2 i3 i4 i5 a0 a1 a2 a3 a4 a5 b0 b1 b2 b3 b4 b5 r0 r1 r2 r3 r4 r5 rf rl af;simp only[VV.v];obtain⟨i0,i1,i2,i3,i4,i5⟩:=ins_cells P2.out.I;obtain⟨a0,a1,a2,a3,a4,a5⟩:=P2.out.A.cells;obtain⟨b0,b1,b2,b3,b4,b5⟩:=P2.out.B.cells;obtain⟨r0,r1,r2,r3,r4,r5⟩:=P2.out.R.cells;have rf:=P2.out.R.free;have rl:=P2.out.R.lt;have af:=P2.out.A.free;go_wp2;exact bodyPost_ret (v:=VV.v (numV s (-1))) (by simp[results,Try.results67,go_sem,VV.v, *]) rfl ⟨congrArg (fun v=>Ending.returned (VV.v v)) (by simp only[resV,if_neg HC.out];simp),below_putV P2.out.bel P2.out.oR (numV s (-1))⟩
theorem l4Result_8(d ra rb imm h:Int)(a b:VV)(s:Bool)(w:World)(ha:Bd a)(hb:Bd b):
 Calls Try.prog 67 #[.agg #[.int .i64 8,.int .i64 d,.int .i64 ra,.int .i64 rb,.int .i64 imm,.int .i64 h],.agg #[.int .i64 a.k,.bool a.s,.int .i64 a.m,.int .i64 a.h,.int .i64 a.lo,.int .i64 a.hi],.agg #[.int .i64 b.k,.bool b.s,.int .i64 b.m,.int .i64 b.h,.int .i64 b.lo,.int .i64 b.hi],.bool s] w fun e w'=>e=.returned (resV 8 imm a b s).v/\Below w.heap.size w w':=by
 go_enter Try.func67,Try.ntmps67;go_upto_region 1 with fail;obtain⟨u0,hu,pu⟩:=res_pre w (op:=8) (d:=d) (ra:=ra) (rb:=rb) (imm:=imm) (h:=h) a b;rw[hu];have P0:Hid (ResP w u0 8 d ra rb imm h a b):=pu;clear hu pu;obtain⟨i0,i1,i2,i3,i4,i5⟩:=ins_cells P0.out.I;obtain⟨a0,a1,a2,a3,a4,a5⟩:=P0.out.A.cells;obtain⟨b0,b1,b2,b3,b4,b5⟩:=P0.out.B.cells;obtain⟨r0,r1,r2,r3,r4,r5⟩:=P0.out.R.cells;have rf:=P0.out.R.free;have rl:=P0.out.R.lt;have af:=P0.out.A.free;go_wp2_with fail;refine(l4Both_any a.k a.s a.m a.h a.lo a.hi b.k b.s b.m b.h b.lo b.hi _).mono ?_;rintro e u1⟨rfl,hb⟩;have P1:Hid (ResP w u1 8 d ra rb imm h a b):=P0.out.below hb;clear hb;clear i0 i1 i2 i3 i4 i5 a0 a1 a2 a3 a4 a5 b0 b1 b2 b3 b4 b5 r0 r1 r2 r3 r4 r5 rf rl af;obtain⟨i0,i1,i2,i3,i4,i5⟩:=ins_cells P1.out.I;obtain⟨a0,a1,a2,a3,a4,a5⟩:=P1.out.A.cells;obtain⟨b0,b1,b2,b3,b4,b5⟩:=P1.out.B.cells;obtain⟨r0,r1,r2,r3,r4,r5⟩:=P1.out.R.cells;have rf:=P1.out.R.free;have rl:=P1.out.R.lt;have af:=P1.out.A.free;by_cases hc:0<=maxV a/\0<=maxV b
 ·have hd:decide (0<=maxV a/\0<=maxV b)=true:=by simp[hc]
  obtain⟨p0,p1⟩:=max_m hc.1 ha;obtain⟨q0,q1⟩:=max_m hc.2 hb;have HC:Hid (0<=maxV a/\0<=maxV b):=hc;clear hc;rw[show decide (0<=maxV ⟨a.k,a.s,a.m,a.h,a.lo,a.hi⟩/\0<=maxV ⟨b.k,b.s,b.m,b.h,b.lo,b.hi⟩)=true from hd];clear hd;go_wp2_with fail;refine(l4Bigger_any a.m b.m _).mono ?_;rintro e w'⟨rfl,hw⟩;rw[hw];clear hw;go_wp2_with fail;refine(l4Ones_any (bigI a.m b.m) _ (by unfold bigI;split<;>omega) (by unfold bigI;split<;>omega)).mono ?_;rintro e w'⟨rfl,hw⟩;rw[hw];clear hw;go_wp2_with fail;refine(l4Num_any s (onesI (bigI a.m b.m)) _).mono ?_;rintro e u2⟨rfl,hb⟩;have P2:Hid (ResP w u2 8 d ra rb imm h a b):=P1.out.below hb;clear hb;clear i0 i1 i2 i3 i4 i5 a0 a1 a2 a3 a4 a5 b0 b1 b2 b3 b4 b5 r0 r1 r2 r3 r4 r5 rf rl af;simp only[VV.v];obtain⟨i0,i1,i2,i3,i4,i5⟩:=ins_cells P2.out.I;obtain⟨a0,a1,a2,a3,a4,a5⟩:=P2.out.A.cells;obtain⟨b0,b1,b2,b3,b4,b5⟩:=P2.out.B.cells;obtain⟨r0,r1,r2,r3,r4,r5⟩:=P2.out.R.cells;have rf:=P2.out.R.free;have rl:=P2.out.R.lt;have af:=P2.out.A.free;go_wp2;exact bodyPost_ret (v:=VV.v (numV s (onesI (bigI a.m b.m)))) (by simp[results,Try.results67,go_sem,VV.v, *]) rfl ⟨congrArg (fun v=>Ending.returned (VV.v v)) (by simp[resV,HC.out]),below_putV P2.out.bel P2.out.oR (numV s (onesI (bigI a.m b.m)))⟩
 ·have hd:decide (0<=maxV a/\0<=maxV b)=false:=by simp only[decide_eq_false_iff_not];exact hc
  have HC:Hid (¬(0<=maxV a/\0<=maxV b)):=hc;clear hc;rw[show decide (0<=maxV ⟨a.k,a.s,a.m,a.h,a.lo,a.hi⟩/\0<=maxV ⟨b.k,b.s,b.m,b.h,b.lo,b.hi⟩)=false from hd];clear hd;go_wp2_with fail;refine(l4Num_any s (-1) _).mono ?_;rintro e u2⟨rfl,hb⟩;have P2:Hid (ResP w u2 8 d ra rb imm h a b):=P1.out.below hb;clear hb;clear i0 i1 i2 i3 i4 i5 a0 a1 a2 a3 a4 a5 b0 b1 b2 b3 b4 b5 r0 r1 r2 r3 r4 r5 rf rl af;simp only[VV.v];obtain⟨i0,i1,i2,i3,i4,i5⟩:=ins_cells P2.out.I;obtain⟨a0,a1,a2,a3,a4,a5⟩:=P2.out.A.cells;obtain⟨b0,b1,b2,b3,b4,b5⟩:=P2.out.B.cells;obtain⟨r0,r1,r2,r3,r4,r5⟩:=P2.out.R.cells;have rf:=P2.out.R.free;have rl:=P2.out.R.lt;have af:=P2.out.A.free;go_wp2;exact bodyPost_ret (v:=VV.v (numV s (-1))) (by simp[results,Try.results67,go_sem,VV.v, *]) rfl ⟨congrArg (fun v=>Ending.returned (VV.v v)) (by simp only[resV,if_neg HC.out];simp),below_putV P2.out.bel P2.out.oR (numV s (-1))⟩
theorem l4Result_15(d ra rb imm h:Int)(a b:VV)(s:Bool)(w:World)(ha:Bd a)(hb:Bd b):
 Calls Try.prog 67 #[.agg #[.int .i64 15,.int .i64 d,.int .i64 ra,.int .i64 rb,.int .i64 imm,.int .i64 h],.agg #[.int .i64 a.k,.bool a.s,.int .i64 a.m,.int .i64 a.h,.int .i64 a.lo,.int .i64 a.hi],.agg #[.int .i64 b.k,.bool b.s,.int .i64 b.m,.int .i64 b.h,.int .i64 b.lo,.int .i64 b.hi],.bool s] w fun e w'=>e=.returned (resV 15 imm a b s).v/\Below w.heap.size w w':=by
 go_enter Try.func67,Try.ntmps67;go_upto_region 1 with fail;obtain⟨u0,hu,pu⟩:=res_pre w (op:=15) (d:=d) (ra:=ra) (rb:=rb) (imm:=imm) (h:=h) a b;rw[hu];have P0:Hid (ResP w u0 15 d ra rb imm h a b):=pu;clear hu pu;obtain⟨i0,i1,i2,i3,i4,i5⟩:=ins_cells P0.out.I;obtain⟨a0,a1,a2,a3,a4,a5⟩:=P0.out.A.cells;obtain⟨b0,b1,b2,b3,b4,b5⟩:=P0.out.B.cells;obtain⟨r0,r1,r2,r3,r4,r5⟩:=P0.out.R.cells;have rf:=P0.out.R.free;have rl:=P0.out.R.lt;have af:=P0.out.A.free;go_wp2_with fail;refine(l4Both_any a.k a.s a.m a.h a.lo a.hi b.k b.s b.m b.h b.lo b.hi _).mono ?_;rintro e u1⟨rfl,hb⟩;have P1:Hid (ResP w u1 15 d ra rb imm h a b):=P0.out.below hb;clear hb;clear i0 i1 i2 i3 i4 i5 a0 a1 a2 a3 a4 a5 b0 b1 b2 b3 b4 b5 r0 r1 r2 r3 r4 r5 rf rl af;obtain⟨i0,i1,i2,i3,i4,i5⟩:=ins_cells P1.out.I;obtain⟨a0,a1,a2,a3,a4,a5⟩:=P1.out.A.cells;obtain⟨b0,b1,b2,b3,b4,b5⟩:=P1.out.B.cells;obtain⟨r0,r1,r2,r3,r4,r5⟩:=P1.out.R.cells;have rf:=P1.out.R.free;have rl:=P1.out.R.lt;have af:=P1.out.A.free;by_cases hc:0<=maxV a/\0<=maxV b
 ·have hd:decide (0<=maxV a/\0<=maxV b)=true:=by simp[hc]
  obtain⟨p0,p1⟩:=max_m hc.1 ha;obtain⟨q0,q1⟩:=max_m hc.2 hb;have HC:Hid (0<=maxV a/\0<=maxV b):=hc;clear hc;rw[show decide (0<=maxV ⟨a.k,a.s,a.m,a.h,a.lo,a.hi⟩/\0<=maxV ⟨b.k,b.s,b.m,b.h,b.lo,b.hi⟩)=true from hd];clear hd;go_wp2_with fail;refine(l4Num_any s (a.m+b.m+1) _).mono ?_;rintro e u2⟨rfl,hb⟩;have P2:Hid (ResP w u2 15 d ra rb imm h a b):=P1.out.below hb;clear hb;clear i0 i1 i2 i3 i4 i5 a0 a1 a2 a3 a4 a5 b0 b1 b2 b3 b4 b5 r0 r1 r2 r3 r4 r5 rf rl af;simp only[VV.v];obtain⟨i0,i1,i2,i3,i4,i5⟩:=ins_cells P2.out.I;obtain⟨a0,a1,a2,a3,a4,a5⟩:=P2.out.A.cells;obtain⟨b0,b1,b2,b3,b4,b5⟩:=P2.out.B.cells;obtain⟨r0,r1,r2,r3,r4,r5⟩:=P2.out.R.cells;have rf:=P2.out.R.free;have rl:=P2.out.R.lt;have af:=P2.out.A.free;go_wp2;exact bodyPost_ret (v:=VV.v (numV s (a.m+b.m+1))) (by simp[results,Try.results67,go_sem,VV.v, *]) rfl ⟨congrArg (fun v=>Ending.returned (VV.v v)) (by simp[resV,HC.out]),below_putV P2.out.bel P2.out.oR (numV s (a.m+b.m+1))⟩
 ·have hd:decide (0<=maxV a/\0<=maxV b)=false:=by simp only[decide_eq_false_iff_not];exact hc
  have HC:Hid (¬(0<=maxV a/\0<=maxV b)):=hc;clear hc;rw[show decide (0<=maxV ⟨a.k,a.s,a.m,a.h,a.lo,a.hi⟩/\0<=maxV ⟨b.k,b.s,b.m,b.h,b.lo,b.hi⟩)=false from hd];clear hd;go_wp2_with fail;refine(l4Num_any s (-1) _).mono ?_;rintro e u2⟨rfl,hb⟩;have P2:Hid (ResP w u2 15 d ra rb imm h a b):=P1.out.below hb;clear hb;clear i0 i1 i2 i3 i4 i5 a0 a1 a2 a3 a4 a5 b0 b1 b2 b3 b4 b5 r0 r1 r2 r3 r4 r5 rf rl af;simp only[VV.v];obtain⟨i0,i1,i2,i3,i4,i5⟩:=ins_cells P2.out.I;obtain⟨a0,a1,a2,a3,a4,a5⟩:=P2.out.A.cells;obtain⟨b0,b1,b2,b3,b4,b5⟩:=P2.out.B.cells;obtain⟨r0,r1,r2,r3,r4,r5⟩:=P2.out.R.cells;have rf:=P2.out.R.free;have rl:=P2.out.R.lt;have af:=P2.out.A.free;go_wp2;exact bodyPost_ret (v:=VV.v (numV s (-1))) (by simp[results,Try.results67,go_sem,VV.v, *]) rfl ⟨congrArg (fun v=>Ending.returned (VV.v v)) (by simp only[resV,if_neg HC.out];simp),below_putV P2.out.bel P2.out.oR (numV s (-1))⟩
theorem l4Result_6(d ra rb imm h:Int)(a b:VV)(s:Bool)(w:World):
 Calls Try.prog 67 #[.agg #[.int .i64 6,.int .i64 d,.int .i64 ra,.int .i64 rb,.int .i64 imm,.int .i64 h],.agg #[.int .i64 a.k,.bool a.s,.int .i64 a.m,.int .i64 a.h,.int .i64 a.lo,.int .i64 a.hi],.agg #[.int .i64 b.k,.bool b.s,.int .i64 b.m,.int .i64 b.h,.int .i64 b.lo,.int .i64 b.hi],.bool s] w fun e w'=>e=.returned (resV 6 imm a b s).v/\Below w.heap.size w w':=by
 go_enter Try.func67,Try.ntmps67
 go_upto_region 1 with fail
 obtain⟨u0,hu,pu⟩:=res_pre w (op:=6) (d:=d) (ra:=ra) (rb:=rb) (imm:=imm) (h:=h) a b
 rw[hu]
 have P0:Hid (ResP w u0 6 d ra rb imm h a b):=pu
 clear hu pu
 obtain⟨i0,i1,i2,i3,i4,i5⟩:=ins_cells P0.out.I
 obtain⟨a0,a1,a2,a3,a4,a5⟩:=P0.out.A.cells
 obtain⟨b0,b1,b2,b3,b4,b5⟩:=P0.out.B.cells
 obtain⟨r0,r1,r2,r3,r4,r5⟩:=P0.out.R.cells
 have rf:=P0.out.R.free
 have rl:=P0.out.R.lt
 have af:=P0.out.A.free
 go_upto_region 13 with fail
 clear i0 i1 i2 i3 i4 i5 a0 a1 a2 a3 a4 a5 b0 b1 b2 b3 b4 b5 r0 r1 r2 r3 r4 r5 rf rl af
 have sa:∀w',(Vb w' (w.heap.size+1) a/\Vb w' (w.heap.size+1+1) b/\w'.cell? ⟨w.heap.size,4,none⟩=some (.int .i64 imm))->w'.cell? ⟨w.heap.size,4,none⟩=some (.int .i64 imm):=fun w' h=>h.2.2
 have x0:∀w',(Vb w' (w.heap.size+1) a/\Vb w' (w.heap.size+1+1) b/\w'.cell? ⟨w.heap.size,4,none⟩=some (.int .i64 imm))->w'.cell? ⟨w.heap.size+1,0,none⟩=some (.int .i64 a.k):=fun w' h=>h.1.cells.1
 have x1:∀w',(Vb w' (w.heap.size+1) a/\Vb w' (w.heap.size+1+1) b/\w'.cell? ⟨w.heap.size,4,none⟩=some (.int .i64 imm))->w'.cell? ⟨w.heap.size+1,1,none⟩=some (.bool a.s):=fun w' h=>h.1.cells.2.1
 have x2:∀w',(Vb w' (w.heap.size+1) a/\Vb w' (w.heap.size+1+1) b/\w'.cell? ⟨w.heap.size,4,none⟩=some (.int .i64 imm))->w'.cell? ⟨w.heap.size+1,2,none⟩=some (.int .i64 a.m):=fun w' h=>h.1.cells.2.2.1
 have x3:∀w',(Vb w' (w.heap.size+1) a/\Vb w' (w.heap.size+1+1) b/\w'.cell? ⟨w.heap.size,4,none⟩=some (.int .i64 imm))->w'.cell? ⟨w.heap.size+1,3,none⟩=some (.int .i64 a.h):=fun w' h=>h.1.cells.2.2.2.1
 have x4:∀w',(Vb w' (w.heap.size+1) a/\Vb w' (w.heap.size+1+1) b/\w'.cell? ⟨w.heap.size,4,none⟩=some (.int .i64 imm))->w'.cell? ⟨w.heap.size+1,4,none⟩=some (.int .i64 a.lo):=fun w' h=>h.1.cells.2.2.2.2.1
 have x5:∀w',(Vb w' (w.heap.size+1) a/\Vb w' (w.heap.size+1+1) b/\w'.cell? ⟨w.heap.size,4,none⟩=some (.int .i64 imm))->w'.cell? ⟨w.heap.size+1,5,none⟩=some (.int .i64 a.hi):=fun w' h=>h.1.cells.2.2.2.2.2
 have y0:∀w',(Vb w' (w.heap.size+1) a/\Vb w' (w.heap.size+1+1) b/\w'.cell? ⟨w.heap.size,4,none⟩=some (.int .i64 imm))->w'.cell? ⟨w.heap.size+1+1,0,none⟩=some (.int .i64 b.k):=fun w' h=>h.2.1.cells.1
 have y1:∀w',(Vb w' (w.heap.size+1) a/\Vb w' (w.heap.size+1+1) b/\w'.cell? ⟨w.heap.size,4,none⟩=some (.int .i64 imm))->w'.cell? ⟨w.heap.size+1+1,1,none⟩=some (.bool b.s):=fun w' h=>h.2.1.cells.2.1
 have y2:∀w',(Vb w' (w.heap.size+1) a/\Vb w' (w.heap.size+1+1) b/\w'.cell? ⟨w.heap.size,4,none⟩=some (.int .i64 imm))->w'.cell? ⟨w.heap.size+1+1,2,none⟩=some (.int .i64 b.m):=fun w' h=>h.2.1.cells.2.2.1
 have y3:∀w',(Vb w' (w.heap.size+1) a/\Vb w' (w.heap.size+1+1) b/\w'.cell? ⟨w.heap.size,4,none⟩=some (.int .i64 imm))->w'.cell? ⟨w.heap.size+1+1,3,none⟩=some (.int .i64 b.h):=fun w' h=>h.2.1.cells.2.2.2.1
 have y4:∀w',(Vb w' (w.heap.size+1) a/\Vb w' (w.heap.size+1+1) b/\w'.cell? ⟨w.heap.size,4,none⟩=some (.int .i64 imm))->w'.cell? ⟨w.heap.size+1+1,4,none⟩=some (.int .i64 b.lo):=fun w' h=>h.2.1.cells.2.2.2.2.1
 have y5:∀w',(Vb w' (w.heap.size+1) a/\Vb w' (w.heap.size+1+1) b/\w'.cell? ⟨w.heap.size,4,none⟩=some (.int .i64 imm))->w'.cell? ⟨w.heap.size+1+1,5,none⟩=some (.int .i64 b.hi):=fun w' h=>h.2.1.cells.2.2.2.2.2
 obtain⟨u1,hd,hb⟩:∃v,u0.drew=v/\Below u0.heap.size u0 v:=⟨_,rfl,(Below.refl _ _).drew⟩
 have P1:Hid (ResP w u1 6 d ra rb imm h a b):=P0.out.below hb
 have hS1:=P1.out.S
 refine wp_region_held_drew (S:=fun w'=>Vb w' (w.heap.size+1) a/\Vb w' (w.heap.size+1+1) b/\w'.cell? ⟨w.heap.size,4,none⟩=some (.int .i64 imm)) (by kernel_rfl) (by rw[hd];exact hS1) (fun _=>?_)
 rw[hd]
 clear hd hb
 refine wpAnyH_tk 0 ?k1v rfl ?k1y ?k1r
 case k1y=>(intro w hSw;(try dsimp only at hSw);go_simp;try with_reducible rfl)
 try go_frame
 refine wpAnyH_tk 1 ?k2v rfl ?k2y ?k2r
 case k2y=>(intro w hSw;(try dsimp only at hSw);go_simp;try with_reducible rfl)
 try go_frame
 refine wpAnyH_tk 3 ?k3v rfl ?k3y ?k3r
 case k3y=>(intro w hSw;(try dsimp only at hSw);go_simp;try with_reducible rfl)
 try go_frame
 refine wpAnyH_ready (rs:=[2]) (by kernel_rfl) (by simp) ?_
 refine AllReadyH.cons rfl (fun KK hK=>?_) AllReadyH.nil
 go_simp
 refine(l4Max_any a.k a.s a.m a.h a.lo a.hi _).mono ?_
 rintro e u2⟨rfl,hb⟩
 have P2:Hid (ResP w u2 6 d ra rb imm h a b):=P1.out.below hb
 clear hb
 go_wp2_with fail
 refine hK.out _ _ P2.out.S (fun hS2=>?_)
 clear hK KK
 try go_frame
 refine wpAnyH_ready (rs:=[4]) (by kernel_rfl) (by simp) ?_
 refine AllReadyH.cons rfl (fun KK hK=>?_) AllReadyH.nil
 go_simp
 refine(l4Max_any b.k b.s b.m b.h b.lo b.hi _).mono ?_
 rintro e u3⟨rfl,hb⟩
 have P3:Hid (ResP w u3 6 d ra rb imm h a b):=P2.out.below hb
 clear hb
 go_wp2_with fail
 refine hK.out _ _ P3.out.S (fun hS3=>?_)
 clear hK KK
 try go_frame
 refine wpAnyH_ready (rs:=[5]) (by kernel_rfl) (by simp) ?_
 refine AllReadyH.cons rfl (fun KK hK=>?_) AllReadyH.nil
 go_simp
 refine(l4Least_any (maxV a) (maxV b) _).mono ?_
 rintro e w'⟨rfl,hw⟩
 rw[hw]
 clear hw
 go_wp2_with fail
 refine hK.out _ _ P3.out.S (fun hS3'=>?_)
 clear hK KK
 try go_frame
 refine wpAnyH_ready (rs:=[6]) (by kernel_rfl) (by simp) ?_
 refine AllReadyH.cons rfl (fun KK hK=>?_) AllReadyH.nil
 go_simp
 refine(l4Num_any s (leastI (maxV a) (maxV b)) _).mono ?_
 rintro e u4⟨rfl,hb⟩
 have P4:Hid (ResP w u4 6 d ra rb imm h a b):=P3.out.below hb
 clear hb
 simp only[VV.v]
 go_wp2_with fail
 refine hK.out _ _ P4.out.S (fun hS4=>?_)
 clear hK KK
 try go_frame
 obtain⟨i0,i1,i2,i3,i4,i5⟩:=ins_cells P4.out.I
 obtain⟨a0,a1,a2,a3,a4,a5⟩:=P4.out.A.cells
 obtain⟨b0,b1,b2,b3,b4,b5⟩:=P4.out.B.cells
 obtain⟨r0,r1,r2,r3,r4,r5⟩:=P4.out.R.cells
 have rf:=P4.out.R.free
 have rl:=P4.out.R.lt
 have af:=P4.out.A.free
 refine wpAnyH_ready (rs:=[7]) (by kernel_rfl) (by simp) ?_
 refine AllReadyH.cons rfl (fun KK hK=>?_) AllReadyH.nil
 go_simp
 change KK _ (putV u4 (w.heap.size+1+1+1) (numV s (leastI (maxV a) (maxV b))))
 obtain⟨z,hz,hbz,vz,va,vb,vi⟩:∃v,putV u4 (w.heap.size+1+1+1) (numV s (leastI (maxV a) (maxV b)))=v/\Below w.heap.size w v/\Vb v (w.heap.size+1+1+1) (numV s (leastI (maxV a) (maxV b)))/\Vb v (w.heap.size+1) a/\Vb v (w.heap.size+1+1) b/\v.cell? ⟨w.heap.size,4,none⟩=some (.int .i64 imm):=⟨_,rfl,below_putV P4.out.bel P4.out.oR _,vb_put P4.out.R _,vb_off P4.out.A _ (by omega),vb_off P4.out.B _ (by omega),by rw[<-i4];exact cell_putV (by omega)⟩
 rw[hz]
 refine hK.out _ _ ⟨va,vb,vi⟩ (fun _=>?_)
 clear hK KK hz
 refine wpAnyH_done (by kernel_rfl) ?_ _
 clear i0 i1 i2 i3 i4 i5 a0 a1 a2 a3 a4 a5 b0 b1 b2 b3 b4 b5 r0 r1 r2 r3 r4 r5 rf rl af
 obtain⟨r0,r1,r2,r3,r4,r5⟩:=vz.cells
 have HB:Hid (Below w.heap.size w z):=hbz
 clear hbz vz va vb vi sa x0 x1 x2 x3 x4 x5 y0 y1 y2 y3 y4 y5
 go_wp2
 exact bodyPost_ret (v:=VV.v (numV s (leastI (maxV a) (maxV b)))) (by simp[results,Try.results67,go_sem,VV.v, *]) rfl ⟨congrArg (fun v=>Ending.returned (VV.v v)) (by simp[resV]),HB.out⟩
theorem l4Result_11(d ra rb imm h:Int)(a b:VV)(s:Bool)(w:World):
 Calls Try.prog 67 #[.agg #[.int .i64 11,.int .i64 d,.int .i64 ra,.int .i64 rb,.int .i64 imm,.int .i64 h],.agg #[.int .i64 a.k,.bool a.s,.int .i64 a.m,.int .i64 a.h,.int .i64 a.lo,.int .i64 a.hi],.agg #[.int .i64 b.k,.bool b.s,.int .i64 b.m,.int .i64 b.h,.int .i64 b.lo,.int .i64 b.hi],.bool s] w fun e w'=>e=.returned (resV 11 imm a b s).v/\Below w.heap.size w w':=by
 go_enter Try.func67,Try.ntmps67
 go_upto_region 1 with fail
 obtain⟨u0,hu,pu⟩:=res_pre w (op:=11) (d:=d) (ra:=ra) (rb:=rb) (imm:=imm) (h:=h) a b
 rw[hu]
 have P0:Hid (ResP w u0 11 d ra rb imm h a b):=pu
 clear hu pu
 obtain⟨i0,i1,i2,i3,i4,i5⟩:=ins_cells P0.out.I
 obtain⟨a0,a1,a2,a3,a4,a5⟩:=P0.out.A.cells
 obtain⟨b0,b1,b2,b3,b4,b5⟩:=P0.out.B.cells
 obtain⟨r0,r1,r2,r3,r4,r5⟩:=P0.out.R.cells
 have rf:=P0.out.R.free
 have rl:=P0.out.R.lt
 have af:=P0.out.A.free
 go_upto_region 28 with fail
 clear i0 i1 i2 i3 i4 i5 a0 a1 a2 a3 a4 a5 b0 b1 b2 b3 b4 b5 r0 r1 r2 r3 r4 r5 rf rl af
 have sa:∀w',(Vb w' (w.heap.size+1) a/\Vb w' (w.heap.size+1+1) b/\w'.cell? ⟨w.heap.size,4,none⟩=some (.int .i64 imm))->w'.cell? ⟨w.heap.size,4,none⟩=some (.int .i64 imm):=fun w' h=>h.2.2
 have x0:∀w',(Vb w' (w.heap.size+1) a/\Vb w' (w.heap.size+1+1) b/\w'.cell? ⟨w.heap.size,4,none⟩=some (.int .i64 imm))->w'.cell? ⟨w.heap.size+1,0,none⟩=some (.int .i64 a.k):=fun w' h=>h.1.cells.1
 have x1:∀w',(Vb w' (w.heap.size+1) a/\Vb w' (w.heap.size+1+1) b/\w'.cell? ⟨w.heap.size,4,none⟩=some (.int .i64 imm))->w'.cell? ⟨w.heap.size+1,1,none⟩=some (.bool a.s):=fun w' h=>h.1.cells.2.1
 have x2:∀w',(Vb w' (w.heap.size+1) a/\Vb w' (w.heap.size+1+1) b/\w'.cell? ⟨w.heap.size,4,none⟩=some (.int .i64 imm))->w'.cell? ⟨w.heap.size+1,2,none⟩=some (.int .i64 a.m):=fun w' h=>h.1.cells.2.2.1
 have x3:∀w',(Vb w' (w.heap.size+1) a/\Vb w' (w.heap.size+1+1) b/\w'.cell? ⟨w.heap.size,4,none⟩=some (.int .i64 imm))->w'.cell? ⟨w.heap.size+1,3,none⟩=some (.int .i64 a.h):=fun w' h=>h.1.cells.2.2.2.1
 have x4:∀w',(Vb w' (w.heap.size+1) a/\Vb w' (w.heap.size+1+1) b/\w'.cell? ⟨w.heap.size,4,none⟩=some (.int .i64 imm))->w'.cell? ⟨w.heap.size+1,4,none⟩=some (.int .i64 a.lo):=fun w' h=>h.1.cells.2.2.2.2.1
 have x5:∀w',(Vb w' (w.heap.size+1) a/\Vb w' (w.heap.size+1+1) b/\w'.cell? ⟨w.heap.size,4,none⟩=some (.int .i64 imm))->w'.cell? ⟨w.heap.size+1,5,none⟩=some (.int .i64 a.hi):=fun w' h=>h.1.cells.2.2.2.2.2
 have y0:∀w',(Vb w' (w.heap.size+1) a/\Vb w' (w.heap.size+1+1) b/\w'.cell? ⟨w.heap.size,4,none⟩=some (.int .i64 imm))->w'.cell? ⟨w.heap.size+1+1,0,none⟩=some (.int .i64 b.k):=fun w' h=>h.2.1.cells.1
 have y1:∀w',(Vb w' (w.heap.size+1) a/\Vb w' (w.heap.size+1+1) b/\w'.cell? ⟨w.heap.size,4,none⟩=some (.int .i64 imm))->w'.cell? ⟨w.heap.size+1+1,1,none⟩=some (.bool b.s):=fun w' h=>h.2.1.cells.2.1
 have y2:∀w',(Vb w' (w.heap.size+1) a/\Vb w' (w.heap.size+1+1) b/\w'.cell? ⟨w.heap.size,4,none⟩=some (.int .i64 imm))->w'.cell? ⟨w.heap.size+1+1,2,none⟩=some (.int .i64 b.m):=fun w' h=>h.2.1.cells.2.2.1
 have y3:∀w',(Vb w' (w.heap.size+1) a/\Vb w' (w.heap.size+1+1) b/\w'.cell? ⟨w.heap.size,4,none⟩=some (.int .i64 imm))->w'.cell? ⟨w.heap.size+1+1,3,none⟩=some (.int .i64 b.h):=fun w' h=>h.2.1.cells.2.2.2.1
 have y4:∀w',(Vb w' (w.heap.size+1) a/\Vb w' (w.heap.size+1+1) b/\w'.cell? ⟨w.heap.size,4,none⟩=some (.int .i64 imm))->w'.cell? ⟨w.heap.size+1+1,4,none⟩=some (.int .i64 b.lo):=fun w' h=>h.2.1.cells.2.2.2.2.1
 have y5:∀w',(Vb w' (w.heap.size+1) a/\Vb w' (w.heap.size+1+1) b/\w'.cell? ⟨w.heap.size,4,none⟩=some (.int .i64 imm))->w'.cell? ⟨w.heap.size+1+1,5,none⟩=some (.int .i64 b.hi):=fun w' h=>h.2.1.cells.2.2.2.2.2
 obtain⟨u1,hd,hb⟩:∃v,u0.drew=v/\Below u0.heap.size u0 v:=⟨_,rfl,(Below.refl _ _).drew⟩
 have P1:Hid (ResP w u1 11 d ra rb imm h a b):=P0.out.below hb
 have hS1:=P1.out.S
 refine wp_region_held_drew (S:=fun w'=>Vb w' (w.heap.size+1) a/\Vb w' (w.heap.size+1+1) b/\w'.cell? ⟨w.heap.size,4,none⟩=some (.int .i64 imm)) (by kernel_rfl) (by rw[hd];exact hS1) (fun _=>?_)
 rw[hd]
 clear hd hb
 refine wpAnyH_tk 0 ?k4v rfl ?k4y ?k4r
 case k4y=>(intro w hSw;(try dsimp only at hSw);go_simp;try with_reducible rfl)
 try go_frame
 refine wpAnyH_tk 1 ?k5v rfl ?k5y ?k5r
 case k5y=>(intro w hSw;(try dsimp only at hSw);go_simp;try with_reducible rfl)
 try go_frame
 refine wpAnyH_tk 2 ?k6v rfl ?k6y ?k6r
 case k6y=>(intro w hSw;(try dsimp only at hSw);go_simp;try with_reducible rfl)
 try go_frame
 refine wpAnyH_tk 3 ?k7v rfl ?k7y ?k7r
 case k7y=>(intro w hSw;(try dsimp only at hSw);go_simp;try with_reducible rfl)
 try go_frame
 refine wpAnyH_ready (rs:=[4]) (by kernel_rfl) (by simp) ?_
 refine AllReadyH.cons rfl (fun KK hK=>?_) AllReadyH.nil
 go_simp
 refine(l4Max_any a.k a.s a.m a.h a.lo a.hi _).mono ?_
 rintro e u2⟨rfl,hb⟩
 have P2:Hid (ResP w u2 11 d ra rb imm h a b):=P1.out.below hb
 clear hb
 go_wp2_with fail
 refine hK.out _ _ P2.out.S (fun hS2=>?_)
 clear hK KK
 try go_frame
 refine wpAnyH_ready (rs:=[5]) (by kernel_rfl) (by simp) ?_
 refine AllReadyH.cons rfl (fun KK hK=>?_) AllReadyH.nil
 go_simp
 refine(l4Least_any imm (maxV a) _).mono ?_
 rintro e w'⟨rfl,hw⟩
 rw[hw]
 clear hw
 go_wp2_with fail
 refine hK.out _ _ P2.out.S (fun hS2'=>?_)
 clear hK KK
 try go_frame
 refine wpAnyH_ready (rs:=[6]) (by kernel_rfl) (by simp) ?_
 refine AllReadyH.cons rfl (fun KK hK=>?_) AllReadyH.nil
 go_simp
 refine(l4Num_any s (leastI imm (maxV a)) _).mono ?_
 rintro e u3⟨rfl,hb⟩
 have P3:Hid (ResP w u3 11 d ra rb imm h a b):=P2.out.below hb
 clear hb
 simp only[VV.v]
 go_wp2_with fail
 refine hK.out _ _ P3.out.S (fun hS3=>?_)
 clear hK KK
 try go_frame
 obtain⟨i0,i1,i2,i3,i4,i5⟩:=ins_cells P3.out.I
 obtain⟨a0,a1,a2,a3,a4,a5⟩:=P3.out.A.cells
 obtain⟨b0,b1,b2,b3,b4,b5⟩:=P3.out.B.cells
 obtain⟨r0,r1,r2,r3,r4,r5⟩:=P3.out.R.cells
 have rf:=P3.out.R.free
 have rl:=P3.out.R.lt
 have af:=P3.out.A.free
 refine wpAnyH_ready (rs:=[7]) (by kernel_rfl) (by simp) ?_
 refine AllReadyH.cons rfl (fun KK hK=>?_) AllReadyH.nil
 go_simp
 change KK _ (putV u3 (w.heap.size+1+1+1) (numV s (leastI imm (maxV a))))
 obtain⟨z,hz,hbz,vz,va,vb,vi⟩:∃v,putV u3 (w.heap.size+1+1+1) (numV s (leastI imm (maxV a)))=v/\Below w.heap.size w v/\Vb v (w.heap.size+1+1+1) (numV s (leastI imm (maxV a)))/\Vb v (w.heap.size+1) a/\Vb v (w.heap.size+1+1) b/\v.cell? ⟨w.heap.size,4,none⟩=some (.int .i64 imm):=⟨_,rfl,below_putV P3.out.bel P3.out.oR _,vb_put P3.out.R _,vb_off P3.out.A _ (by omega),vb_off P3.out.B _ (by omega),by rw[<-i4];exact cell_putV (by omega)⟩
 rw[hz]
 refine hK.out _ _ ⟨va,vb,vi⟩ (fun _=>?_)
 clear hK KK hz
 refine wpAnyH_done (by kernel_rfl) ?_ _
 clear i0 i1 i2 i3 i4 i5 a0 a1 a2 a3 a4 a5 b0 b1 b2 b3 b4 b5 r0 r1 r2 r3 r4 r5 rf rl af
 obtain⟨r0,r1,r2,r3,r4,r5⟩:=vz.cells
 have HB:Hid (Below w.heap.size w z):=hbz
 clear hbz vz va vb vi sa x0 x1 x2 x3 x4 x5 y0 y1 y2 y3 y4 y5
 go_wp2
 exact bodyPost_ret (v:=VV.v (numV s (leastI imm (maxV a)))) (by simp[results,Try.results67,go_sem,VV.v, *]) rfl ⟨congrArg (fun v=>Ending.returned (VV.v v)) (by simp[resV]),HB.out⟩
end Go.Proofs.Ytplnpgohdgialaa
