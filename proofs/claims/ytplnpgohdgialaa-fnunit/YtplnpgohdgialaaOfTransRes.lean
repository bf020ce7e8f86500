import Derived.Test.YtplnpgohdgialaaOfTransAcc
import Derived.Test.YtplnpgohdgialaaOfTransResD
set_option maxHeartbeats 40000000
set_option maxRecDepth 20000
namespace Go.Proofs.Ytplnpgohdgialaa
open Go.RowKit
theorem l4Result_10(d ra rb imm h:Int)(a b:VV)(s:Bool)(w:World)(ha:Bd a)(g0: -1000000<=imm)(g1:imm<=1000000):
 Calls Try.prog 67 #[.agg #[.int .i64 10,.int .i64 d,.int .i64 ra,.int .i64 rb,.int .i64 imm,.int .i64 h],.agg #[.int .i64 a.k,.bool a.s,.int .i64 a.m,.int .i64 a.h,.int .i64 a.lo,.int .i64 a.hi],.agg #[.int .i64 b.k,.bool b.s,.int .i64 b.m,.int .i64 b.h,.int .i64 b.lo,.int .i64 b.hi],.bool s] w fun e w'=>e=.returned (resV 10 imm a b s).v/\Below w.heap.size w w':=by
 have al0:=ha.l0;have al1:=ha.l1;have ah0:=ha.h0;have ah1:=ha.h1;have am1:=ha.m1;have am0:=ha.m0;go_enter Try.func67,Try.ntmps67;go_upto_region 1 with fail;obtain⟨u0,hu,pu⟩:=res_pre w (op:=10) (d:=d) (ra:=ra) (rb:=rb) (imm:=imm) (h:=h) a b;rw[hu];have P0:Hid (ResP w u0 10 d ra rb imm h a b):=pu;clear hu pu;obtain⟨i0,i1,i2,i3,i4,i5⟩:=ins_cells P0.out.I;obtain⟨a0,a1,a2,a3,a4,a5⟩:=P0.out.A.cells;obtain⟨b0,b1,b2,b3,b4,b5⟩:=P0.out.B.cells;obtain⟨r0,r1,r2,r3,r4,r5⟩:=P0.out.R.cells;have rf:=P0.out.R.free;have rl:=P0.out.R.lt;have af:=P0.out.A.free;have hi0:=i0;by_cases c:a.k=1/\ -1099511627776<=a.lo+imm/\a.hi+imm<=1099511627776
 ·obtain⟨c1,c2,c3⟩:=c
  have e1:(a.k==1)=true:=by simp[c1]
  have e2:decide (-1099511627776<=a.lo+imm)=true:=by simp[c2]
  have e3:decide (a.hi+imm<=1099511627776)=true:=by simp[c3]
  have HC:Hid (a.k=1/\ -1099511627776<=a.lo+imm/\a.hi+imm<=1099511627776):=⟨c1,c2,c3⟩
  go_wp2;exact bodyPost_ret (v:=VV.v ⟨1,a.s,a.m,a.h,a.lo+imm,a.hi+imm⟩) (by simp[results,Try.results67,go_sem,VV.v, *]) rfl ⟨congrArg (fun v=>Ending.returned (VV.v v)) (by simp only[resV,if_pos HC.out];simp[HC.out.1]),by(iterate 6 refine Below.setCell ?_ (show w.heap.size<=w.heap.size+1+1+1 by omega) _);(iterate 2 refine Below.setCell ?_ (show w.heap.size<=w.heap.size+1 by omega) _);exact P0.out.bel⟩
 ·have HC:Hid (¬(a.k=1/\ -1099511627776<=a.lo+imm/\a.hi+imm<=1099511627776)):=c
  by_cases c1:a.k=1
  ·have e1:(a.k==1)=true:=by simp[c1]
   by_cases c2: -1099511627776<=a.lo+imm
   ·have c3:¬a.hi+imm<=1099511627776:=fun q=>c ⟨c1,c2,q⟩
    have e2:decide (-1099511627776<=a.lo+imm)=true:=by simp[c2]
    have e3:decide (a.hi+imm<=1099511627776)=false:=by simp;omega
    clear c c1;go_wp2_with fail;refine(l4Max_any a.k a.s a.m a.h a.lo a.hi _).mono ?_;rintro e u1⟨rfl,hb⟩;have P1:Hid (ResP w u1 10 d ra rb imm h a b):=P0.out.below hb;clear hb;clear i0 i1 i2 i3 i4 i5 a0 a1 a2 a3 a4 a5 b0 b1 b2 b3 b4 b5 r0 r1 r2 r3 r4 r5 rf rl af;obtain⟨i0,i1,i2,i3,i4,i5⟩:=ins_cells P1.out.I;obtain⟨a0,a1,a2,a3,a4,a5⟩:=P1.out.A.cells;obtain⟨b0,b1,b2,b3,b4,b5⟩:=P1.out.B.cells;obtain⟨r0,r1,r2,r3,r4,r5⟩:=P1.out.R.cells;have rf:=P1.out.R.free;have rl:=P1.out.R.lt;have af:=P1.out.A.free;obtain⟨mx,hmx⟩:∃mx,maxV a=mx:=⟨_,rfl⟩
    have HX:Hid (maxV a=mx):=hmx;rw[show maxV ⟨a.k,a.s,a.m,a.h,a.lo,a.hi⟩=mx from hmx];clear hmx;clear al0 al1 ah0 ah1;by_cases m0:0<=mx
    ·by_cases j0:0<=imm
     ·skip
      have HQ:Hid (0<=maxV a/\0<=imm):=⟨by rw[HX.out];exact m0,j0⟩
      have e4:decide (0<=mx)=true:=by simp[m0]
      have e5:decide (0<=imm)=true:=by simp[j0]
      go_wp2_with fail;refine(l4Num_any s (a.m+imm) _).mono ?_;rintro e u2⟨rfl,hb⟩;have P2:Hid (ResP w u2 10 d ra rb imm h a b):=P1.out.below hb;clear hb;clear i0 i1 i2 i3 i4 i5 a0 a1 a2 a3 a4 a5 b0 b1 b2 b3 b4 b5 r0 r1 r2 r3 r4 r5 rf rl af;simp only[VV.v];obtain⟨i0,i1,i2,i3,i4,i5⟩:=ins_cells P2.out.I;obtain⟨a0,a1,a2,a3,a4,a5⟩:=P2.out.A.cells;obtain⟨b0,b1,b2,b3,b4,b5⟩:=P2.out.B.cells;obtain⟨r0,r1,r2,r3,r4,r5⟩:=P2.out.R.cells;have rf:=P2.out.R.free;have rl:=P2.out.R.lt;have af:=P2.out.A.free;go_wp2;exact bodyPost_ret (v:=VV.v (numV s (a.m+imm))) (by simp[results,Try.results67,go_sem,VV.v, *]) rfl ⟨congrArg (fun v=>Ending.returned (VV.v v)) (by simp only[resV,if_neg HC.out,if_pos HQ.out];simp),below_putV P2.out.bel P2.out.oR (numV s (a.m+imm))⟩
     ·have HQ:Hid (¬(0<=maxV a/\0<=imm)):=fun q=>j0 q.2
      have e4:decide (0<=mx)=true:=by simp[m0]
      have e5:decide (0<=imm)=false:=by simp;omega
      go_wp2_with fail;refine(l4Num_any s (-1) _).mono ?_;rintro e u2⟨rfl,hb⟩;have P2:Hid (ResP w u2 10 d ra rb imm h a b):=P1.out.below hb;clear hb;clear i0 i1 i2 i3 i4 i5 a0 a1 a2 a3 a4 a5 b0 b1 b2 b3 b4 b5 r0 r1 r2 r3 r4 r5 rf rl af;simp only[VV.v];obtain⟨i0,i1,i2,i3,i4,i5⟩:=ins_cells P2.out.I;obtain⟨a0,a1,a2,a3,a4,a5⟩:=P2.out.A.cells;obtain⟨b0,b1,b2,b3,b4,b5⟩:=P2.out.B.cells;obtain⟨r0,r1,r2,r3,r4,r5⟩:=P2.out.R.cells;have rf:=P2.out.R.free;have rl:=P2.out.R.lt;have af:=P2.out.A.free;go_wp2;exact bodyPost_ret (v:=VV.v (numV s (-1))) (by simp[results,Try.results67,go_sem,VV.v, *]) rfl ⟨congrArg (fun v=>Ending.returned (VV.v v)) (by simp only[resV,if_neg HC.out,if_neg HQ.out];simp),below_putV P2.out.bel P2.out.oR (numV s (-1))⟩
    ·have HQ:Hid (¬(0<=maxV a/\0<=imm)):=fun q=>m0 (by rw[<-HX.out];exact q.1)
     have e4:decide (0<=mx)=false:=by simp;omega
     go_wp2_with fail;refine(l4Num_any s (-1) _).mono ?_;rintro e u2⟨rfl,hb⟩;have P2:Hid (ResP w u2 10 d ra rb imm h a b):=P1.out.below hb;clear hb;clear i0 i1 i2 i3 i4 i5 a0 a1 a2 a3 a4 a5 b0 b1 b2 b3 b4 b5 r0 r1 r2 r3 r4 r5 rf rl af;simp only[VV.v];obtain⟨i0,i1,i2,i3,i4,i5⟩:=ins_cells P2.out.I;obtain⟨a0,a1,a2,a3,a4,a5⟩:=P2.out.A.cells;obtain⟨b0,b1,b2,b3,b4,b5⟩:=P2.out.B.cells;obtain⟨r0,r1,r2,r3,r4,r5⟩:=P2.out.R.cells;have rf:=P2.out.R.free;have rl:=P2.out.R.lt;have af:=P2.out.A.free;go_wp2;exact bodyPost_ret (v:=VV.v (numV s (-1))) (by simp[results,Try.results67,go_sem,VV.v, *]) rfl ⟨congrArg (fun v=>Ending.returned (VV.v v)) (by simp only[resV,if_neg HC.out,if_neg HQ.out];simp),below_putV P2.out.bel P2.out.oR (numV s (-1))⟩
   ·have e2:decide (-1099511627776<=a.lo+imm)=false:=by simp;omega
    clear c c1;go_wp2_with fail;refine(l4Max_any a.k a.s a.m a.h a.lo a.hi _).mono ?_;rintro e u1⟨rfl,hb⟩;have P1:Hid (ResP w u1 10 d ra rb imm h a b):=P0.out.below hb;clear hb;clear i0 i1 i2 i3 i4 i5 a0 a1 a2 a3 a4 a5 b0 b1 b2 b3 b4 b5 r0 r1 r2 r3 r4 r5 rf rl af;obtain⟨i0,i1,i2,i3,i4,i5⟩:=ins_cells P1.out.I;obtain⟨a0,a1,a2,a3,a4,a5⟩:=P1.out.A.cells;obtain⟨b0,b1,b2,b3,b4,b5⟩:=P1.out.B.cells;obtain⟨r0,r1,r2,r3,r4,r5⟩:=P1.out.R.cells;have rf:=P1.out.R.free;have rl:=P1.out.R.lt;have af:=P1.out.A.free;obtain⟨mx,hmx⟩:∃mx,maxV a=mx:=⟨_,rfl⟩
    have HX:Hid (maxV a=mx):=hmx;rw[show maxV ⟨a.k,a.s,a.m,a.h,a.lo,a.hi⟩=mx from hmx];clear hmx;clear al0 al1 ah0 ah1;by_cases m0:0<=mx
    ·by_cases j0:0<=imm
     ·skip
      have HQ:Hid (0<=maxV a/\0<=imm):=⟨by rw[HX.out];exact m0,j0⟩
      have e4:decide (0<=mx)=true:=by simp[m0]
      have e5:decide (0<=imm)=true:=by simp[j0]
      go_wp2_with fail;refine(l4Num_any s (a.m+imm) _).mono ?_;rintro e u2⟨rfl,hb⟩;have P2:Hid (ResP w u2 10 d ra rb imm h a b):=P1.out.below hb;clear hb;clear i0 i1 i2 i3 i4 i5 a0 a1 a2 a3 a4 a5 b0 b1 b2 b3 b4 b5 r0 r1 r2 r3 r4 r5 rf rl af;simp only[VV.v];obtain⟨i0,i1,i2,i3,i4,i5⟩:=ins_cells P2.out.I;obtain⟨a0,a1,a2,a3,a4,a5⟩:=P2.out.A.cells;obtain⟨b0,b1,b2,b3,b4,b5⟩:=P2.out.B.cells;obtain⟨r0,r1,r2,r3,r4,r5⟩:=P2.out.R.cells;have rf:=P2.out.R.free;have rl:=P2.out.R.lt;have af:=P2.out.A.free;go_wp2;exact bodyPost_ret (v:=VV.v (numV s (a.m+imm))) (by simp[results,Try.results67,go_sem,VV.v, *]) rfl ⟨congrArg (fun v=>Ending.returned (VV.v v)) (by simp only[resV,if_neg HC.out,if_pos HQ.out];simp),below_putV P2.out.bel P2.out.oR (numV s (a.m+imm))⟩
     ·have HQ:Hid (¬(0<=maxV a/\0<=imm)):=fun q=>j0 q.2
      have e4:decide (0<=mx)=true:=by simp[m0]
      have e5:decide (0<=imm)=false:=by simp;omega
      go_wp2_with fail;refine(l4Num_any s (-1) _).mono ?_;rintro e u2⟨rfl,hb⟩;have P2:Hid (ResP w u2 10 d ra rb imm h a b):=P1.out.below hb;clear hb;clear i0 i1 i2 i3 i4 i5 a0 a1 a2 a3 a4 a5 b0 b1 b2 b3 b4 b5 r0 r1 r2 r3 r4 r5 rf rl af;simp only[VV.v];obtain⟨i0,i1,i2,i3,i4,i5⟩:=ins_cells P2.out.I;obtain⟨a0,a1,a2,a3,a4,a5⟩:=P2.out.A.cells;obtain⟨b0,b1,b2,b3,b4,b5⟩:=P2.out.B.cells;obtain⟨r0,r1,r2,r3,r4,r5⟩:=P2.out.R.cells;have rf:=P2.out.R.free;have rl:=P2.out.R.lt;have af:=P2.out.A.free;go_wp2;exact bodyPost_ret (v:=VV.v (numV s (-1))) (by simp[results,Try.results67,go_sem,VV.v, *]) rfl ⟨congrArg (fun v=>Ending.returned (VV.v v)) (by simp only[resV,if_neg HC.out,if_neg HQ.out];simp),below_putV P2.out.bel P2.out.oR (numV s (-1))⟩
    ·have HQ:Hid (¬(0<=maxV a/\0<=imm)):=fun q=>m0 (by rw[<-HX.out];exact q.1)
     have e4:decide (0<=mx)=false:=by simp;omega
     go_wp2_with fail;refine(l4Num_any s (-1) _).mono ?_;rintro e u2⟨rfl,hb⟩;have P2:Hid (ResP w u2 10 d ra rb imm h a b):=P1.out.below hb;clear hb;clear i0 i1 i2 i3 i4 i5 a0 a1 a2 a3 a4 a5 b0 b1 b2 b3 b4 b5 r0 r1 r2 r3 r4 r5 rf rl af;simp only[VV.v];obtain⟨i0,i1,i2,i3,i4,i5⟩:=ins_cells P2.out.I;obtain⟨a0,a1,a2,a3,a4,a5⟩:=P2.out.A.cells;obtain⟨b0,b1,b2,b3,b4,b5⟩:=P2.out.B.cells;obtain⟨r0,r1,r2,r3,r4,r5⟩:=P2.out.R.cells;have rf:=P2.out.R.free;have rl:=P2.out.R.lt;have af:=P2.out.A.free;go_wp2;exact bodyPost_ret (v:=VV.v (numV s (-1))) (by simp[results,Try.results67,go_sem,VV.v, *]) rfl ⟨congrArg (fun v=>Ending.returned (VV.v v)) (by simp only[resV,if_neg HC.out,if_neg HQ.out];simp),below_putV P2.out.bel P2.out.oR (numV s (-1))⟩
  ·have e1:(a.k==1)=false:=by simp[c1]
   clear c;go_wp2_with fail;refine(l4Max_any a.k a.s a.m a.h a.lo a.hi _).mono ?_;rintro e u1⟨rfl,hb⟩;have P1:Hid (ResP w u1 10 d ra rb imm h a b):=P0.out.below hb;clear hb;clear i0 i1 i2 i3 i4 i5 a0 a1 a2 a3 a4 a5 b0 b1 b2 b3 b4 b5 r0 r1 r2 r3 r4 r5 rf rl af;obtain⟨i0,i1,i2,i3,i4,i5⟩:=ins_cells P1.out.I;obtain⟨a0,a1,a2,a3,a4,a5⟩:=P1.out.A.cells;obtain⟨b0,b1,b2,b3,b4,b5⟩:=P1.out.B.cells;obtain⟨r0,r1,r2,r3,r4,r5⟩:=P1.out.R.cells;have rf:=P1.out.R.free;have rl:=P1.out.R.lt;have af:=P1.out.A.free;obtain⟨mx,hmx⟩:∃mx,maxV a=mx:=⟨_,rfl⟩
   have HX:Hid (maxV a=mx):=hmx;rw[show maxV ⟨a.k,a.s,a.m,a.h,a.lo,a.hi⟩=mx from hmx];clear hmx;clear al0 al1 ah0 ah1;by_cases m0:0<=mx
   ·by_cases j0:0<=imm
    ·skip
     have HQ:Hid (0<=maxV a/\0<=imm):=⟨by rw[HX.out];exact m0,j0⟩
     have e4:decide (0<=mx)=true:=by simp[m0]
     have e5:decide (0<=imm)=true:=by simp[j0]
     go_wp2_with fail;refine(l4Num_any s (a.m+imm) _).mono ?_;rintro e u2⟨rfl,hb⟩;have P2:Hid (ResP w u2 10 d ra rb imm h a b):=P1.out.below hb;clear hb;clear i0 i1 i2 i3 i4 i5 a0 a1 a2 a3 a4 a5 b0 b1 b2 b3 b4 b5 r0 r1 r2 r3 r4 r5 rf rl af;simp only[VV.v];obtain⟨i0,i1,i2,i3,i4,i5⟩:=ins_cells P2.out.I;obtain⟨a0,a1,a2,a3,a4,a5⟩:=P2.out.A.cells;obtain⟨b0,b1,b2,b3,b4,b5⟩:=P2.out.B.cells;obtain⟨r0,r1,r2,r3,r4,r5⟩:=P2.out.R.cells;have rf:=P2.out.R.free;have rl:=P2.out.R.lt;have af:=P2.out.A.free;go_wp2;exact bodyPost_ret (v:=VV.v (numV s (a.m+imm))) (by simp[results,Try.results67,go_sem,VV.v, *]) rfl ⟨congrArg (fun v=>Ending.returned (VV.v v)) (by simp only[resV,if_neg HC.out,if_pos HQ.out];simp),below_putV P2.out.bel P2.out.oR (numV s (a.m+imm))⟩
    ·have HQ:Hid (¬(0<=maxV a/\0<=imm)):=fun q=>j0 q.2
     have e4:decide (0<=mx)=true:=by simp[m0]
     have e5:decide (0<=imm)=false:=by simp;omega
     go_wp2_with fail;refine(l4Num_any s (-1) _).mono ?_;rintro e u2⟨rfl,hb⟩;have P2:Hid (ResP w u2 10 d ra rb imm h a b):=P1.out.below hb;clear hb;clear i0 i1 i2 i3 i4 i5 a0 a1 a2 a3 a4 a5 b0 b1 b2 b3 b4 b5 r0 r1 r2 r3 r4 r5 rf rl af;simp only[VV.v];obtain⟨i0,i1,i2,i3,i4,i5⟩:=ins_cells P2.out.I;obtain⟨a0,a1,a2,a3,a4,a5⟩:=P2.out.A.cells;obtain⟨b0,b1,b2,b3,b4,b5⟩:=P2.out.B.cells;obtain⟨r0,r1,r2,r3,r4,r5⟩:=P2.out.R.cells;have rf:=P2.out.R.free;have rl:=P2.out.R.lt;have af:=P2.out.A.free;go_wp2;exact bodyPost_ret (v:=VV.v (numV s (-1))) (by simp[results,Try.results67,go_sem,VV.v, *]) rfl ⟨congrArg (fun v=>Ending.returned (VV.v v)) (by simp only[resV,if_neg HC.out,if_neg HQ.out];simp),below_putV P2.out.bel P2.out.oR (numV s (-1))⟩
   ·have HQ:Hid (¬(0<=maxV a/\0<=imm)):=fun q=>m0 (by rw[<-HX.out];exact q.1)
    have e4:decide (0<=mx)=false:=by simp;omega
    go_wp2_with fail;refine(l4Num_any s (-1) _).mono ?_;rintro e u2⟨rfl,hb⟩;have P2:Hid (ResP w u2 10 d ra rb imm h a b):=P1.out.below hb;clear hb;clear i0 i1 i2 i3 i4 i5 a0 a1 a2 a3 a4 a5 b0 b1 b2 b3 b4 b5 r0 r1 r2 r3 r4 r5 rf rl af;simp only[VV.v];obtain⟨i0,i1,i2,i3,i4,i5⟩:=ins_cells P2.out.I;obtain⟨a0,a1,a2,a3,a4,a5⟩:=P2.out.A.cells;obtain⟨b0,b1,b2,b3,b4,b5⟩:=P2.out.B.cells;obtain⟨r0,r1,r2,r3,r4,r5⟩:=P2.out.R.cells;have rf:=P2.out.R.free;have rl:=P2.out.R.lt;have af:=P2.out.A.free;go_wp2;exact bodyPost_ret (v:=VV.v (numV s (-1))) (by simp[results,Try.results67,go_sem,VV.v, *]) rfl ⟨congrArg (fun v=>Ending.returned (VV.v v)) (by simp only[resV,if_neg HC.out,if_neg HQ.out];simp),below_putV P2.out.bel P2.out.oR (numV s (-1))⟩
theorem l4Result_12(d ra rb imm h:Int)(a b:VV)(s:Bool)(w:World)(ha:Bd a)(g0:0<=imm)(g1:imm<=63):
 Calls Try.prog 67 #[.agg #[.int .i64 12,.int .i64 d,.int .i64 ra,.int .i64 rb,.int .i64 imm,.int .i64 h],.agg #[.int .i64 a.k,.bool a.s,.int .i64 a.m,.int .i64 a.h,.int .i64 a.lo,.int .i64 a.hi],.agg #[.int .i64 b.k,.bool b.s,.int .i64 b.m,.int .i64 b.h,.int .i64 b.lo,.int .i64 b.hi],.bool s] w fun e w'=>e=.returned (resV 12 imm a b s).v/\Below w.heap.size w w':=by
 have am0:=ha.m0
 have am1:=ha.m1
 obtain⟨mx,hmx⟩:∃mx,maxV a=mx:=⟨_,rfl⟩
 have HX:Hid (maxV a=mx):=hmx
 have hmm:0<=mx->mx=a.m:=by intro q;rw[<-hmx]at q⊢;unfold maxV at q⊢;split at q<;>simp_all
 clear hmx
 go_enter Try.func67,Try.ntmps67
 go_upto_region 1 with fail
 obtain⟨u0,hu,pu⟩:=res_pre w (op:=12) (d:=d) (ra:=ra) (rb:=rb) (imm:=imm) (h:=h) a b
 rw[hu]
 have P0:Hid (ResP w u0 12 d ra rb imm h a b):=pu
 clear hu pu
 obtain⟨i0,i1,i2,i3,i4,i5⟩:=ins_cells P0.out.I
 obtain⟨a0,a1,a2,a3,a4,a5⟩:=P0.out.A.cells
 obtain⟨b0,b1,b2,b3,b4,b5⟩:=P0.out.B.cells
 obtain⟨r0,r1,r2,r3,r4,r5⟩:=P0.out.R.cells
 have rf:=P0.out.R.free
 have rl:=P0.out.R.lt
 have af:=P0.out.A.free
 go_wp2_with fail
 refine(l4Max_any a.k a.s a.m a.h a.lo a.hi _).mono ?_
 rintro e u1⟨rfl,hb⟩
 have P1:Hid (ResP w u1 12 d ra rb imm h a b):=P0.out.below hb
 clear hb
 clear i0 i1 i2 i3 i4 i5 a0 a1 a2 a3 a4 a5 b0 b1 b2 b3 b4 b5 r0 r1 r2 r3 r4 r5 rf rl af
 obtain⟨i0,i1,i2,i3,i4,i5⟩:=ins_cells P1.out.I
 obtain⟨a0,a1,a2,a3,a4,a5⟩:=P1.out.A.cells
 obtain⟨b0,b1,b2,b3,b4,b5⟩:=P1.out.B.cells
 obtain⟨r0,r1,r2,r3,r4,r5⟩:=P1.out.R.cells
 have rf:=P1.out.R.free
 have rl:=P1.out.R.lt
 have af:=P1.out.A.free
 rw[show maxV ⟨a.k,a.s,a.m,a.h,a.lo,a.hi⟩=mx from HX.out]
 by_cases z:mx=0
 ·subst z
  clear hmm
  go_wp2_with fail
  refine(l4Num_any s (0) _).mono ?_
  rintro e u2⟨rfl,hb⟩
  have P2:Hid (ResP w u2 12 d ra rb imm h a b):=P1.out.below hb
  clear hb
  clear i0 i1 i2 i3 i4 i5 a0 a1 a2 a3 a4 a5 b0 b1 b2 b3 b4 b5 r0 r1 r2 r3 r4 r5 rf rl af
  simp only[VV.v]
  obtain⟨i0,i1,i2,i3,i4,i5⟩:=ins_cells P2.out.I
  obtain⟨a0,a1,a2,a3,a4,a5⟩:=P2.out.A.cells
  obtain⟨b0,b1,b2,b3,b4,b5⟩:=P2.out.B.cells
  obtain⟨r0,r1,r2,r3,r4,r5⟩:=P2.out.R.cells
  have rf:=P2.out.R.free
  have rl:=P2.out.R.lt
  have af:=P2.out.A.free
  go_wp2
  exact bodyPost_ret (v:=VV.v (numV s (0))) (by simp[results,Try.results67,go_sem,VV.v, *]) rfl ⟨congrArg (fun v=>Ending.returned (VV.v v)) (by simp only[resV,if_pos HX.out];simp),below_putV P2.out.bel P2.out.oR (numV s (0))⟩
 ·have e0:(mx==0)=false:=by simp[z]
  have HZ:Hid (¬maxV a=0):=by rw[show(maxV a=0)=(mx=0)from by rw[HX.out]];exact z
  go_wp2_with fail
  refine(l4Max_any a.k a.s a.m a.h a.lo a.hi _).mono ?_
  rintro e u2⟨rfl,hb⟩
  have P2:Hid (ResP w u2 12 d ra rb imm h a b):=P1.out.below hb
  clear hb
  clear i0 i1 i2 i3 i4 i5 a0 a1 a2 a3 a4 a5 b0 b1 b2 b3 b4 b5 r0 r1 r2 r3 r4 r5 rf rl af
  obtain⟨i0,i1,i2,i3,i4,i5⟩:=ins_cells P2.out.I
  obtain⟨a0,a1,a2,a3,a4,a5⟩:=P2.out.A.cells
  obtain⟨b0,b1,b2,b3,b4,b5⟩:=P2.out.B.cells
  obtain⟨r0,r1,r2,r3,r4,r5⟩:=P2.out.R.cells
  have rf:=P2.out.R.free
  have rl:=P2.out.R.lt
  have af:=P2.out.A.free
  rw[show maxV ⟨a.k,a.s,a.m,a.h,a.lo,a.hi⟩=mx from HX.out]
  by_cases p:0<mx
  ·have ea:mx=a.m:=hmm (by omega)
   subst ea
   clear hmm e0 z
   have e1:decide (0<a.m)=true:=by simp[p]
   by_cases q:imm<=40
   ·have e2:decide (imm<=40)=true:=by simp[q]
    have HQ:Hid (0<maxV a/\imm<=40):=⟨by rw[HX.out];exact p,q⟩
    obtain⟨pw,hpw,w0,w1⟩:=pow40 g0 q
    have f1:IntKind.i64.wrap pw=pw:=by rw[IntKind.wrap_i64];omega
    have f2:wrap64 pw=pw:=by unfold wrap64;omega
    go_upto_region 33 with fail
    clear i0 i1 i2 i3 i4 i5 a0 a1 a2 a3 a4 a5 b0 b1 b2 b3 b4 b5 r0 r1 r2 r3 r4 r5 rf rl af
    have sa:∀w',(Vb w' (w.heap.size+1) a/\Vb w' (w.heap.size+1+1) b/\w'.cell? ⟨w.heap.size,4,none⟩=some (.int .i64 imm))->w'.cell? ⟨w.heap.size,4,none⟩=some (.int .i64 imm):=fun w' h=>h.2.2
    have x0:∀w',(Vb w' (w.heap.size+1) a/\Vb w' (w.heap.size+1+1) b/\w'.cell? ⟨w.heap.size,4,none⟩=some (.int .i64 imm))->w'.cell? ⟨w.heap.size+1,0,none⟩=some (.int .i64 a.k):=fun w' h=>h.1.cells.1
    have x1:∀w',(Vb w' (w.heap.size+1) a/\Vb w' (w.heap.size+1+1) b/\w'.cell? ⟨w.heap.size,4,none⟩=some (.int .i64 imm))->w'.cell? ⟨w.heap.size+1,1,none⟩=some (.bool a.s):=fun w' h=>h.1.cells.2.1
    have x2:∀w',(Vb w' (w.heap.size+1) a/\Vb w' (w.heap.size+1+1) b/\w'.cell? ⟨w.heap.size,4,none⟩=some (.int .i64 imm))->w'.cell? ⟨w.heap.size+1,2,none⟩=some (.int .i64 a.m):=fun w' h=>h.1.cells.2.2.1
    have x3:∀w',(Vb w' (w.heap.size+1) a/\Vb w' (w.heap.size+1+1) b/\w'.cell? ⟨w.heap.size,4,none⟩=some (.int .i64 imm))->w'.cell? ⟨w.heap.size+1,3,none⟩=some (.int .i64 a.h):=fun w' h=>h.1.cells.2.2.2.1
    have x4:∀w',(Vb w' (w.heap.size+1) a/\Vb w' (w.heap.size+1+1) b/\w'.cell? ⟨w.heap.size,4,none⟩=some (.int .i64 imm))->w'.cell? ⟨w.heap.size+1,4,none⟩=some (.int .i64 a.lo):=fun w' h=>h.1.cells.2.2.2.2.1
    have x5:∀w',(Vb w' (w.heap.size+1) a/\Vb w' (w.heap.size+1+1) b/\w'.cell? ⟨w.heap.size,4,none⟩=some (.int .i64 imm))->w'.cell? ⟨w.heap.size+1,5,none⟩=some (.int .i64 a.hi):=fun w' h=>h.1.cells.2.2.2.2.2
    have y0:∀w',(Vb w' (w.heap.size+1) a/\Vb w' (w.heap.size+1+1) b/\w'.cell? ⟨w.heap.size,4,none⟩=some (.int .i64 imm))->w'.cell? ⟨w.heap.size+1+1,0,none⟩=some (.int .i64 b.k):=fun w' h=>h.2.1.cells.1
    have y1:∀w',(Vb w' (w.heap.size+1) a/\Vb w' (w.heap.size+1+1) b/\w'.cell? ⟨w.heap.size,4,none⟩=some (.int .i64 imm))->w'.cell? ⟨w.heap.size+1+1,1,none⟩=some (.bool b.s):=fun w' h=>h.2.1.cells.2.1
    have y2:∀w',(Vb w' (w.heap.size+1) a/\Vb w' (w.heap.size+1+1) b/\w'.cell? ⟨w.heap.size,4,none⟩=some (.int .i64 imm))->w'.cell? ⟨w.heap.size+1+1,2,none⟩=some (.int .i64 b.m):=fun w' h=>h.2.1.cells.2.2.1
    have y3:∀w',(Vb w' (w.heap.size+1) a/\Vb w' (w.heap.size+1+1) b/\w'.cell? ⟨w.heap.size,4,none⟩=some (.int .i64 imm))->w'.cell? ⟨w.heap.size+1+1,3,none⟩=some (.int .i64 b.h):=fun w' h=>h.2.1.cells.2.2.2.1
    have y4:∀w',(Vb w' (w.heap.size+1) a/\Vb w' (w.heap.size+1+1) b/\w'.cell? ⟨w.heap.size,4,none⟩=some (.int .i64 imm))->w'.cell? ⟨w.heap.size+1+1,4,none⟩=some (.int .i64 b.lo):=fun w' h=>h.2.1.cells.2.2.2.2.1
    have y5:∀w',(Vb w' (w.heap.size+1) a/\Vb w' (w.heap.size+1+1) b/\w'.cell? ⟨w.heap.size,4,none⟩=some (.int .i64 imm))->w'.cell? ⟨w.heap.size+1+1,5,none⟩=some (.int .i64 b.hi):=fun w' h=>h.2.1.cells.2.2.2.2.2
    obtain⟨u3,hd,hb⟩:∃v,u2.drew=v/\Below u2.heap.size u2 v:=⟨_,rfl,(Below.refl _ _).drew⟩
    have P3:Hid (ResP w u3 12 d ra rb imm h a b):=P2.out.below hb
    have hS3:=P3.out.S
    refine wp_region_held_drew (S:=fun w'=>Vb w' (w.heap.size+1) a/\Vb w' (w.heap.size+1+1) b/\w'.cell? ⟨w.heap.size,4,none⟩=some (.int .i64 imm)) (by kernel_rfl) (by rw[hd];exact hS3) (fun _=>?_)
    rw[hd]
    clear hd hb
    refine wpAnyH_tk 0 ?k1v rfl ?k1y ?k1r
    case k1y=>(intro w hSw;(try dsimp only at hSw);go_simp;try with_reducible rfl)
    try go_frame
    refine wpAnyH_tk 1 ?k2v rfl ?k2y ?k2r
    case k2y=>(intro w hSw;(try dsimp only at hSw);go_simp;try with_reducible rfl)
    try go_frame
    refine wpAnyH_tk 2 ?k3v rfl ?k3y ?k3r
    case k3y=>(intro w hSw;(try dsimp only at hSw);go_simp;try with_reducible rfl)
    try go_frame
    refine wpAnyH_tk 3 ?k4v rfl ?k4y ?k4r
    case k4y=>(intro w hSw;(try dsimp only at hSw);go_simp;try with_reducible rfl)
    try go_frame
    refine wpAnyH_tk 4 ?k5v rfl ?k5y ?k5r
    case k5y=>(intro w hSw;(try dsimp only at hSw);go_simp;try with_reducible rfl)
    try go_frame
    refine wpAnyH_ready (rs:=[5]) (by kernel_rfl) (by simp) ?_
    refine AllReadyH.cons rfl (fun KK hK=>?_) AllReadyH.nil
    go_simp
    refine(l1Pow_int imm _ g0 g1).mono ?_
    rintro e w'⟨rfl,hw⟩
    rw[hw]
    clear hw
    go_wp2_with fail
    refine hK.out _ _ P3.out.S (fun hS3'=>?_)
    clear hK KK
    try go_frame
    try rw[hpw]
    refine wpAnyH_tk 6 ?k6v rfl ?k6y ?k6r
    case k6y=>(intro w hSw;(try dsimp only at hSw);go_simp;try with_reducible rfl)
    try go_frame
    refine wpAnyH_ready (rs:=[7]) (by kernel_rfl) (by simp) ?_
    refine AllReadyH.cons rfl (fun KK hK=>?_) AllReadyH.nil
    go_simp
    refine(l4Times_any a.m pw _ (by omega) am1 (by omega) w1).mono ?_
    rintro e w'⟨rfl,hw⟩
    rw[hw]
    clear hw
    go_wp2_with fail
    refine hK.out _ _ P3.out.S (fun hS3'=>?_)
    clear hK KK
    try go_frame
    refine wpAnyH_ready (rs:=[8]) (by kernel_rfl) (by simp) ?_
    refine AllReadyH.cons rfl (fun KK hK=>?_) AllReadyH.nil
    go_simp
    refine(l4Num_any s (timesI a.m pw) _).mono ?_
    rintro e u4⟨rfl,hb⟩
    have P4:Hid (ResP w u4 12 d ra rb imm h a b):=P3.out.below hb
    clear hb
    simp only[VV.v]
    go_wp2_with fail
    refine hK.out _ _ P4.out.S (fun hS4=>?_)
    clear hK KK
    try go_frame
    obtain⟨i0,i1,i2,i3,i4,i5⟩:=ins_cells P4.out.I
    obtain⟨a0,a1,a2,a3,a4,a5⟩:=P4.out.A.cells
    obtain⟨b0,b1,b2,b3,b4,b5⟩:=P4.out.B.cells
    obtain⟨r0,r1,r2,r3,r4,r5⟩:=P4.out.R.cells
    have rf:=P4.out.R.free
    have rl:=P4.out.R.lt
    have af:=P4.out.A.free
    refine wpAnyH_ready (rs:=[9]) (by kernel_rfl) (by simp) ?_
    refine AllReadyH.cons rfl (fun KK hK=>?_) AllReadyH.nil
    go_simp
    change KK _ (putV u4 (w.heap.size+1+1+1) (numV s (timesI a.m pw)))
    obtain⟨z,hz,hbz,vz,va,vb,vi⟩:∃v,putV u4 (w.heap.size+1+1+1) (numV s (timesI a.m pw))=v/\Below w.heap.size w v/\Vb v (w.heap.size+1+1+1) (numV s (timesI a.m pw))/\Vb v (w.heap.size+1) a/\Vb v (w.heap.size+1+1) b/\v.cell? ⟨w.heap.size,4,none⟩=some (.int .i64 imm):=⟨_,rfl,below_putV P4.out.bel P4.out.oR _,vb_put P4.out.R _,vb_off P4.out.A _ (by omega),vb_off P4.out.B _ (by omega),by rw[<-i4];exact cell_putV (by omega)⟩
    rw[hz]
    refine hK.out _ _ ⟨va,vb,vi⟩ (fun _=>?_)
    clear hK KK hz
    refine wpAnyH_done (by kernel_rfl) ?_ _
    clear i0 i1 i2 i3 i4 i5 a0 a1 a2 a3 a4 a5 b0 b1 b2 b3 b4 b5 r0 r1 r2 r3 r4 r5 rf rl af
    obtain⟨r0,r1,r2,r3,r4,r5⟩:=vz.cells
    have HB:Hid (Below w.heap.size w z):=hbz
    clear hbz vz va vb vi sa x0 x1 x2 x3 x4 x5 y0 y1 y2 y3 y4 y5
    go_wp2
    exact bodyPost_ret (v:=VV.v (numV s (timesI a.m pw))) (by simp[results,Try.results67,go_sem,VV.v, *]) rfl ⟨congrArg (fun v=>Ending.returned (VV.v v)) (by simp only[resV,if_neg HZ.out,if_pos HQ.out,<-hpw];simp),HB.out⟩
   ·have e2:decide (imm<=40)=false:=by simp;omega
    have HQ:Hid (¬(0<maxV a/\imm<=40)):=fun t=>q t.2
    go_wp2_with fail
    refine(l4Num_any s (-1) _).mono ?_
    rintro e u3⟨rfl,hb⟩
    have P3:Hid (ResP w u3 12 d ra rb imm h a b):=P2.out.below hb
    clear hb
    clear i0 i1 i2 i3 i4 i5 a0 a1 a2 a3 a4 a5 b0 b1 b2 b3 b4 b5 r0 r1 r2 r3 r4 r5 rf rl af
    simp only[VV.v]
    obtain⟨i0,i1,i2,i3,i4,i5⟩:=ins_cells P3.out.I
    obtain⟨a0,a1,a2,a3,a4,a5⟩:=P3.out.A.cells
    obtain⟨b0,b1,b2,b3,b4,b5⟩:=P3.out.B.cells
    obtain⟨r0,r1,r2,r3,r4,r5⟩:=P3.out.R.cells
    have rf:=P3.out.R.free
    have rl:=P3.out.R.lt
    have af:=P3.out.A.free
    go_wp2
    exact bodyPost_ret (v:=VV.v (numV s (-1))) (by simp[results,Try.results67,go_sem,VV.v, *]) rfl ⟨congrArg (fun v=>Ending.returned (VV.v v)) (by simp only[resV,if_neg HZ.out,if_neg HQ.out];simp),below_putV P3.out.bel P3.out.oR (numV s (-1))⟩
  ·have e1:decide (0<mx)=false:=by simp;omega
   have HQ:Hid (¬(0<maxV a/\imm<=40)):=fun t=>p (by rw[<-HX.out];exact t.1)
   go_wp2_with fail
   refine(l4Num_any s (-1) _).mono ?_
   rintro e u3⟨rfl,hb⟩
   have P3:Hid (ResP w u3 12 d ra rb imm h a b):=P2.out.below hb
   clear hb
   clear i0 i1 i2 i3 i4 i5 a0 a1 a2 a3 a4 a5 b0 b1 b2 b3 b4 b5 r0 r1 r2 r3 r4 r5 rf rl af
   simp only[VV.v]
   obtain⟨i0,i1,i2,i3,i4,i5⟩:=ins_cells P3.out.I
   obtain⟨a0,a1,a2,a3,a4,a5⟩:=P3.out.A.cells
   obtain⟨b0,b1,b2,b3,b4,b5⟩:=P3.out.B.cells
   obtain⟨r0,r1,r2,r3,r4,r5⟩:=P3.out.R.cells
   have rf:=P3.out.R.free
   have rl:=P3.out.R.lt
   have af:=P3.out.A.free
   go_wp2
   exact bodyPost_ret (v:=VV.v (numV s (-1))) (by simp[results,Try.results67,go_sem,VV.v, *]) rfl ⟨congrArg (fun v=>Ending.returned (VV.v v)) (by simp only[resV,if_neg HZ.out,if_neg HQ.out];simp),below_putV P3.out.bel P3.out.oR (numV s (-1))⟩
theorem l4Result_13(d ra rb imm h:Int)(a b:VV)(s:Bool)(w:World)(ha:Bd a)(g0:0<=imm)(g1:imm<=63):
 Calls Try.prog 67 #[.agg #[.int .i64 13,.int .i64 d,.int .i64 ra,.int .i64 rb,.int .i64 imm,.int .i64 h],.agg #[.int .i64 a.k,.bool a.s,.int .i64 a.m,.int .i64 a.h,.int .i64 a.lo,.int .i64 a.hi],.agg #[.int .i64 b.k,.bool b.s,.int .i64 b.m,.int .i64 b.h,.int .i64 b.lo,.int .i64 b.hi],.bool s] w fun e w'=>e=.returned (resV 13 imm a b s).v/\Below w.heap.size w w':=by
 have am0:=ha.m0
 have am1:=ha.m1
 obtain⟨mx,hmx⟩:∃mx,maxV a=mx:=⟨_,rfl⟩
 have HX:Hid (maxV a=mx):=hmx
 have hmm:0<=mx->mx=a.m:=by intro q;rw[<-hmx]at q⊢;unfold maxV at q⊢;split at q<;>simp_all
 clear hmx
 go_enter Try.func67,Try.ntmps67
 go_upto_region 1 with fail
 obtain⟨u0,hu,pu⟩:=res_pre w (op:=13) (d:=d) (ra:=ra) (rb:=rb) (imm:=imm) (h:=h) a b
 rw[hu]
 have P0:Hid (ResP w u0 13 d ra rb imm h a b):=pu
 clear hu pu
 obtain⟨i0,i1,i2,i3,i4,i5⟩:=ins_cells P0.out.I
 obtain⟨a0,a1,a2,a3,a4,a5⟩:=P0.out.A.cells
 obtain⟨b0,b1,b2,b3,b4,b5⟩:=P0.out.B.cells
 obtain⟨r0,r1,r2,r3,r4,r5⟩:=P0.out.R.cells
 have rf:=P0.out.R.free
 have rl:=P0.out.R.lt
 have af:=P0.out.A.free
 go_wp2_with fail
 refine(l4Max_any a.k a.s a.m a.h a.lo a.hi _).mono ?_
 rintro e u1⟨rfl,hb⟩
 have P1:Hid (ResP w u1 13 d ra rb imm h a b):=P0.out.below hb
 clear hb
 clear i0 i1 i2 i3 i4 i5 a0 a1 a2 a3 a4 a5 b0 b1 b2 b3 b4 b5 r0 r1 r2 r3 r4 r5 rf rl af
 obtain⟨i0,i1,i2,i3,i4,i5⟩:=ins_cells P1.out.I
 obtain⟨a0,a1,a2,a3,a4,a5⟩:=P1.out.A.cells
 obtain⟨b0,b1,b2,b3,b4,b5⟩:=P1.out.B.cells
 obtain⟨r0,r1,r2,r3,r4,r5⟩:=P1.out.R.cells
 have rf:=P1.out.R.free
 have rl:=P1.out.R.lt
 have af:=P1.out.A.free
 rw[show maxV ⟨a.k,a.s,a.m,a.h,a.lo,a.hi⟩=mx from HX.out]
 by_cases p:0<=mx
 ·have ea:mx=a.m:=hmm p
  subst ea
  clear hmm
  have HQ:Hid (0<=maxV a):=by rw[show(0<=maxV a)=(0<=a.m)from by rw[HX.out]];exact p
  obtain⟨pw,hpw,w0,w1⟩:=pow63 g0 g1
  obtain⟨y,hy,y0,y1⟩:=quo_le (m:=a.m) p am1 w0
  have f3:IntKind.u64.wrap a.m=a.m:=by rw[IntKind.wrap_u64];omega
  have f4:¬pw=0:=by omega
  have f5:a.m.tdiv pw=y:=by rw[Int.tdiv_eq_ediv_of_nonneg p];exact hy
  have f6:IntKind.u64.wrap y=y:=by rw[IntKind.wrap_u64];omega
  have f7:IntKind.i64.wrap y=y:=by rw[IntKind.wrap_i64];omega
  have f8:wrap64 y=y:=by unfold wrap64;omega
  have HY:Hid (a.m/pw=y):=hy
  clear hy
  go_upto_region 36 with fail
  clear i0 i1 i2 i3 i4 i5 a0 a1 a2 a3 a4 a5 b0 b1 b2 b3 b4 b5 r0 r1 r2 r3 r4 r5 rf rl af
  have sa:∀w',(Vb w' (w.heap.size+1) a/\Vb w' (w.heap.size+1+1) b/\w'.cell? ⟨w.heap.size,4,none⟩=some (.int .i64 imm))->w'.cell? ⟨w.heap.size,4,none⟩=some (.int .i64 imm):=fun w' h=>h.2.2
  have x0:∀w',(Vb w' (w.heap.size+1) a/\Vb w' (w.heap.size+1+1) b/\w'.cell? ⟨w.heap.size,4,none⟩=some (.int .i64 imm))->w'.cell? ⟨w.heap.size+1,0,none⟩=some (.int .i64 a.k):=fun w' h=>h.1.cells.1
  have x1:∀w',(Vb w' (w.heap.size+1) a/\Vb w' (w.heap.size+1+1) b/\w'.cell? ⟨w.heap.size,4,none⟩=some (.int .i64 imm))->w'.cell? ⟨w.heap.size+1,1,none⟩=some (.bool a.s):=fun w' h=>h.1.cells.2.1
  have x2:∀w',(Vb w' (w.heap.size+1) a/\Vb w' (w.heap.size+1+1) b/\w'.cell? ⟨w.heap.size,4,none⟩=some (.int .i64 imm))->w'.cell? ⟨w.heap.size+1,2,none⟩=some (.int .i64 a.m):=fun w' h=>h.1.cells.2.2.1
  have x3:∀w',(Vb w' (w.heap.size+1) a/\Vb w' (w.heap.size+1+1) b/\w'.cell? ⟨w.heap.size,4,none⟩=some (.int .i64 imm))->w'.cell? ⟨w.heap.size+1,3,none⟩=some (.int .i64 a.h):=fun w' h=>h.1.cells.2.2.2.1
  have x4:∀w',(Vb w' (w.heap.size+1) a/\Vb w' (w.heap.size+1+1) b/\w'.cell? ⟨w.heap.size,4,none⟩=some (.int .i64 imm))->w'.cell? ⟨w.heap.size+1,4,none⟩=some (.int .i64 a.lo):=fun w' h=>h.1.cells.2.2.2.2.1
  have x5:∀w',(Vb w' (w.heap.size+1) a/\Vb w' (w.heap.size+1+1) b/\w'.cell? ⟨w.heap.size,4,none⟩=some (.int .i64 imm))->w'.cell? ⟨w.heap.size+1,5,none⟩=some (.int .i64 a.hi):=fun w' h=>h.1.cells.2.2.2.2.2
  have y0:∀w',(Vb w' (w.heap.size+1) a/\Vb w' (w.heap.size+1+1) b/\w'.cell? ⟨w.heap.size,4,none⟩=some (.int .i64 imm))->w'.cell? ⟨w.heap.size+1+1,0,none⟩=some (.int .i64 b.k):=fun w' h=>h.2.1.cells.1
  have y1:∀w',(Vb w' (w.heap.size+1) a/\Vb w' (w.heap.size+1+1) b/\w'.cell? ⟨w.heap.size,4,none⟩=some (.int .i64 imm))->w'.cell? ⟨w.heap.size+1+1,1,none⟩=some (.bool b.s):=fun w' h=>h.2.1.cells.2.1
  have y2:∀w',(Vb w' (w.heap.size+1) a/\Vb w' (w.heap.size+1+1) b/\w'.cell? ⟨w.heap.size,4,none⟩=some (.int .i64 imm))->w'.cell? ⟨w.heap.size+1+1,2,none⟩=some (.int .i64 b.m):=fun w' h=>h.2.1.cells.2.2.1
  have y3:∀w',(Vb w' (w.heap.size+1) a/\Vb w' (w.heap.size+1+1) b/\w'.cell? ⟨w.heap.size,4,none⟩=some (.int .i64 imm))->w'.cell? ⟨w.heap.size+1+1,3,none⟩=some (.int .i64 b.h):=fun w' h=>h.2.1.cells.2.2.2.1
  have y4:∀w',(Vb w' (w.heap.size+1) a/\Vb w' (w.heap.size+1+1) b/\w'.cell? ⟨w.heap.size,4,none⟩=some (.int .i64 imm))->w'.cell? ⟨w.heap.size+1+1,4,none⟩=some (.int .i64 b.lo):=fun w' h=>h.2.1.cells.2.2.2.2.1
  have y5:∀w',(Vb w' (w.heap.size+1) a/\Vb w' (w.heap.size+1+1) b/\w'.cell? ⟨w.heap.size,4,none⟩=some (.int .i64 imm))->w'.cell? ⟨w.heap.size+1+1,5,none⟩=some (.int .i64 b.hi):=fun w' h=>h.2.1.cells.2.2.2.2.2
  obtain⟨u2,hd,hb⟩:∃v,u1.drew=v/\Below u1.heap.size u1 v:=⟨_,rfl,(Below.refl _ _).drew⟩
  have P2:Hid (ResP w u2 13 d ra rb imm h a b):=P1.out.below hb
  have hS2:=P2.out.S
  refine wp_region_held_drew (S:=fun w'=>Vb w' (w.heap.size+1) a/\Vb w' (w.heap.size+1+1) b/\w'.cell? ⟨w.heap.size,4,none⟩=some (.int .i64 imm)) (by kernel_rfl) (by rw[hd];exact hS2) (fun _=>?_)
  rw[hd]
  clear hd hb
  refine wpAnyH_tk 0 ?k1v rfl ?k1y ?k1r
  case k1y=>(intro w hSw;(try dsimp only at hSw);go_simp;try with_reducible rfl)
  try go_frame
  refine wpAnyH_tk 1 ?k2v rfl ?k2y ?k2r
  case k2y=>(intro w hSw;(try dsimp only at hSw);go_simp;try with_reducible rfl)
  try go_frame
  refine wpAnyH_tk 2 ?k3v rfl ?k3y ?k3r
  case k3y=>(intro w hSw;(try dsimp only at hSw);go_simp;try with_reducible rfl)
  try go_frame
  refine wpAnyH_tk 3 ?k4v rfl ?k4y ?k4r
  case k4y=>(intro w hSw;(try dsimp only at hSw);go_simp;try with_reducible rfl)
  try go_frame
  refine wpAnyH_tk 4 ?k5v rfl ?k5y ?k5r
  case k5y=>(intro w hSw;(try dsimp only at hSw);go_simp;try with_reducible rfl)
  try go_frame
  refine wpAnyH_tk 5 ?k6v rfl ?k6y ?k6r
  case k6y=>(intro w hSw;(try dsimp only at hSw);go_simp;try with_reducible rfl)
  try go_frame
  refine wpAnyH_ready (rs:=[6]) (by kernel_rfl) (by simp) ?_
  refine AllReadyH.cons rfl (fun KK hK=>?_) AllReadyH.nil
  go_simp
  refine(l1Pow_int imm _ g0 g1).mono ?_
  rintro e w'⟨rfl,hw⟩
  rw[hw]
  clear hw
  go_wp2_with fail
  refine hK.out _ _ P2.out.S (fun hS2'=>?_)
  clear hK KK
  try go_frame
  try rw[hpw]
  refine wpAnyH_tk 7 ?k7v rfl ?k7y ?k7r
  case k7y=>(intro w hSw;(try dsimp only at hSw);go_simp;try with_reducible rfl)
  try go_frame
  refine wpAnyH_tk 8 ?k8v rfl ?k8y ?k8r
  case k8y=>(intro w hSw;(try dsimp only at hSw);go_simp;try with_reducible rfl)
  try go_frame
  refine wpAnyH_ready (rs:=[9]) (by kernel_rfl) (by simp) ?_
  refine AllReadyH.cons rfl (fun KK hK=>?_) AllReadyH.nil
  go_simp
  refine(l4Num_any s y _).mono ?_
  rintro e u3⟨rfl,hb⟩
  have P3:Hid (ResP w u3 13 d ra rb imm h a b):=P2.out.below hb
  clear hb
  simp only[VV.v]
  go_wp2_with fail
  refine hK.out _ _ P3.out.S (fun hS3=>?_)
  clear hK KK
  try go_frame
  obtain⟨i0,i1,i2,i3,i4,i5⟩:=ins_cells P3.out.I
  obtain⟨a0,a1,a2,a3,a4,a5⟩:=P3.out.A.cells
  obtain⟨b0,b1,b2,b3,b4,b5⟩:=P3.out.B.cells
  obtain⟨r0,r1,r2,r3,r4,r5⟩:=P3.out.R.cells
  have rf:=P3.out.R.free
  have rl:=P3.out.R.lt
  have af:=P3.out.A.free
  refine wpAnyH_ready (rs:=[10]) (by kernel_rfl) (by simp) ?_
  refine AllReadyH.cons rfl (fun KK hK=>?_) AllReadyH.nil
  go_simp
  change KK _ (putV u3 (w.heap.size+1+1+1) (numV s y))
  obtain⟨z,hz,hbz,vz,va,vb,vi⟩:∃v,putV u3 (w.heap.size+1+1+1) (numV s y)=v/\Below w.heap.size w v/\Vb v (w.heap.size+1+1+1) (numV s y)/\Vb v (w.heap.size+1) a/\Vb v (w.heap.size+1+1) b/\v.cell? ⟨w.heap.size,4,none⟩=some (.int .i64 imm):=⟨_,rfl,below_putV P3.out.bel P3.out.oR _,vb_put P3.out.R _,vb_off P3.out.A _ (by omega),vb_off P3.out.B _ (by omega),by rw[<-i4];exact cell_putV (by omega)⟩
  rw[hz]
  refine hK.out _ _ ⟨va,vb,vi⟩ (fun _=>?_)
  clear hK KK hz
  refine wpAnyH_done (by kernel_rfl) ?_ _
  clear i0 i1 i2 i3 i4 i5 a0 a1 a2 a3 a4 a5 b0 b1 b2 b3 b4 b5 r0 r1 r2 r3 r4 r5 rf rl af
  obtain⟨r0,r1,r2,r3,r4,r5⟩:=vz.cells
  have HB:Hid (Below w.heap.size w z):=hbz
  clear hbz vz va vb vi sa x0 x1 x2 x3 x4 x5 y0 y1 y2 y3 y4 y5
  go_wp2
  exact bodyPost_ret (v:=VV.v (numV s y)) (by simp[results,Try.results67,go_sem,VV.v, *]) rfl ⟨congrArg (fun v=>Ending.returned (VV.v v)) (by rw[<-HY.out,<-hpw];simp only[resV,if_pos HQ.out];simp),HB.out⟩
 ·have HQ:Hid (¬0<=maxV a):=fun t=>p (by rw[<-HX.out];exact t)
  clear hmm
  by_cases q:24<=imm
  ·have HE:Hid (24<=imm):=q
   obtain⟨pw,hpw,w0,w1⟩:=pow40 (i:=64-imm) (by omega) (by omega)
   have f1:IntKind.i64.wrap pw=pw:=by rw[IntKind.wrap_i64];omega
   have f2:wrap64 pw=pw:=by unfold wrap64;omega
   go_wp2_with fail
   refine(l1Pow_int (64-imm) _ (by omega) (by omega)).mono ?_
   rintro e w'⟨rfl,hw⟩
   rw[hw]
   clear hw
   try rw[hpw]
   go_wp2_with fail
   refine(l4Num_any s (pw-1) _).mono ?_
   rintro e u2⟨rfl,hb⟩
   have P2:Hid (ResP w u2 13 d ra rb imm h a b):=P1.out.below hb
   clear hb
   clear i0 i1 i2 i3 i4 i5 a0 a1 a2 a3 a4 a5 b0 b1 b2 b3 b4 b5 r0 r1 r2 r3 r4 r5 rf rl af
   simp only[VV.v]
   obtain⟨i0,i1,i2,i3,i4,i5⟩:=ins_cells P2.out.I
   obtain⟨a0,a1,a2,a3,a4,a5⟩:=P2.out.A.cells
   obtain⟨b0,b1,b2,b3,b4,b5⟩:=P2.out.B.cells
   obtain⟨r0,r1,r2,r3,r4,r5⟩:=P2.out.R.cells
   have rf:=P2.out.R.free
   have rl:=P2.out.R.lt
   have af:=P2.out.A.free
   go_wp2
   exact bodyPost_ret (v:=VV.v (numV s (pw-1))) (by simp[results,Try.results67,go_sem,VV.v, *]) rfl ⟨congrArg (fun v=>Ending.returned (VV.v v)) (by rw[<-hpw];simp only[resV,if_neg (show¬0<=maxV a by have:=HQ.out;omega),if_pos HE.out];simp),below_putV P2.out.bel P2.out.oR (numV s (pw-1))⟩
  ·have HE:Hid (¬24<=imm):=q
   go_wp2_with fail
   refine(l4Num_any s (-1) _).mono ?_
   rintro e u2⟨rfl,hb⟩
   have P2:Hid (ResP w u2 13 d ra rb imm h a b):=P1.out.below hb
   clear hb
   clear i0 i1 i2 i3 i4 i5 a0 a1 a2 a3 a4 a5 b0 b1 b2 b3 b4 b5 r0 r1 r2 r3 r4 r5 rf rl af
   simp only[VV.v]
   obtain⟨i0,i1,i2,i3,i4,i5⟩:=ins_cells P2.out.I
   obtain⟨a0,a1,a2,a3,a4,a5⟩:=P2.out.A.cells
   obtain⟨b0,b1,b2,b3,b4,b5⟩:=P2.out.B.cells
   obtain⟨r0,r1,r2,r3,r4,r5⟩:=P2.out.R.cells
   have rf:=P2.out.R.free
   have rl:=P2.out.R.lt
   have af:=P2.out.A.free
   go_wp2
   exact bodyPost_ret (v:=VV.v (numV s (-1))) (by simp[results,Try.results67,go_sem,VV.v, *]) rfl ⟨congrArg (fun v=>Ending.returned (VV.v v)) (by simp only[resV,if_neg (show¬0<=maxV a by have:=HQ.out;omega),if_neg (show¬24<=imm by have:=HE.out;omega)];simp),below_putV P2.out.bel P2.out.oR (numV s (-1))⟩
theorem l4Result_any(op d ra rb imm h:Int)(a b:VV)(s:Bool)(w:World)(o1:1<=op)(o16:op<=16)(ha:Bd a)(hb:Bd b)(i0: -1000000<=imm)(i1:imm<=1000000)(i2:op=12∨op=13->0<=imm/\imm<=63):
 Calls Try.prog 67 #[.agg #[.int .i64 op,.int .i64 d,.int .i64 ra,.int .i64 rb,.int .i64 imm,.int .i64 h],.agg #[.int .i64 a.k,.bool a.s,.int .i64 a.m,.int .i64 a.h,.int .i64 a.lo,.int .i64 a.hi],.agg #[.int .i64 b.k,.bool b.s,.int .i64 b.m,.int .i64 b.h,.int .i64 b.lo,.int .i64 b.hi],.bool s] w fun e w'=>e=.returned (resV op imm a b s).v/\Below w.heap.size w w':=by
 have hop:op=1∨op=2∨op=3∨op=4∨op=5∨op=6∨op=7∨op=8∨op=9∨op=10∨op=11∨op=12∨op=13∨op=14∨op=15∨op=16:=by omega
 rcases hop with rfl|rfl|rfl|rfl|rfl|rfl|rfl|rfl|rfl|rfl|rfl|rfl|rfl|rfl|rfl|rfl
 ·exact l4Result_1 d ra rb imm h a b s w
 ·exact l4Result_2 d ra rb imm h a b s w
 ·exact l4Result_3 d ra rb imm h a b s w ha hb
 ·exact l4Result_4 d ra rb imm h a b s w
 ·exact l4Result_5 d ra rb imm h a b s w ha hb
 ·exact l4Result_6 d ra rb imm h a b s w
 ·exact l4Result_7 d ra rb imm h a b s w ha hb
 ·exact l4Result_8 d ra rb imm h a b s w ha hb
 ·exact l4Result_9 d ra rb imm h a b s w
 ·exact l4Result_10 d ra rb imm h a b s w ha i0 i1
 ·exact l4Result_11 d ra rb imm h a b s w
 ·exact l4Result_12 d ra rb imm h a b s w ha (i2 (by omega)).1 (i2 (by omega)).2
 ·exact l4Result_13 d ra rb imm h a b s w ha (i2 (by omega)).1 (i2 (by omega)).2
 ·exact l4Result_14 d ra rb imm h a b s w ha hb
 ·exact l4Result_15 d ra rb imm h a b s w ha hb
 ·exact l4Result_16 d ra rb imm h a b s w
end Go.Proofs.Ytplnpgohdgialaa
