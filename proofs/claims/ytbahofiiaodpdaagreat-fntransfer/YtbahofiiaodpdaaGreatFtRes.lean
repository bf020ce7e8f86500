import Derived.Test.YtbahofiiaodpdaaGreatOfTransResA
set_option maxHeartbeats 32000000
set_option maxRecDepth 20000
namespace Go.Proofs.YtbahofiiaodpdaaGreat
open Go.RowKit
theorem l4Result_w(op d ra rb imm h:Int)(a b:VV)(s:Bool)(w:World)(o1:1<=op)(o16:op<=16)(ha:Bd a)(hb:Bd b)(i0: -1000000<=imm)(i1:imm<=1000000)(i2:op=12∨op=13->0<=imm/\imm<=63):
 Calls Tryz.prog 28 #[.agg #[.int .i64 op,.int .i64 d,.int .i64 ra,.int .i64 rb,.int .i64 imm,.int .i64 h],.agg #[.int .i64 a.k,.bool a.s,.int .i64 a.m,.int .i64 a.h,.int .i64 a.lo,.int .i64 a.hi],.agg #[.int .i64 b.k,.bool b.s,.int .i64 b.m,.int .i64 b.h,.int .i64 b.lo,.int .i64 b.hi],.bool s] w fun e w'=>(∃r:VV,e=.returned r.v)/\Below w.heap.size w w':=by
 have hop:op=1∨op=2∨(op=3∨op=14)∨(op=4∨op=16)∨op=5∨op=6∨(op=7∨op=8)∨op=9∨op=10∨op=11∨op=12∨op=13∨op=15:=by omega
 have g0:Hid (-1000000<=imm):=i0
 have g1:Hid (imm<=1000000):=i1
 have g2:Hid (op=12∨op=13->0<=imm/\imm<=63):=i2
 clear o1 o16 i0 i1 i2
 go_enter Tryz.func28,Tryz.ntmps28
 go_upto_region 1 with fail
 obtain⟨u0,hu,pu⟩:=res_pre w (op:=op) (d:=d) (ra:=ra) (rb:=rb) (imm:=imm) (h:=h) a b
 rw[hu]
 have P0:Hid (ResP w u0 op d ra rb imm h a b):=pu
 clear hu pu
 obtain⟨⟨i0,i1,i2,i3,i4,i5⟩,⟨a0,a1,a2,a3,a4,a5⟩,⟨b0,b1,b2,b3,b4,b5⟩,⟨r0,r1,r2,r3,r4,r5⟩,rf,rl,af⟩:=P0.out.all
 rcases hop with rfl|rfl|ho|ho|rfl|rfl|ho|rfl|rfl|rfl|rfl|rfl|rfl
 ·skip
  go_wp2
  exact bodyPost_ret (v:=VV.v a) (by simp[results,Tryz.results28,go_sem,VV.v, *]) rfl ⟨⟨_,rfl⟩,below_putV P0.out.bel P0.out.oR a⟩
 ·skip
  go_wp2_with fail
  refine(l4Num_any false (imm) _).mono ?_
  rintro e u1⟨rfl,hb⟩
  have P1:Hid (ResP w u1 2 d ra rb imm h a b):=P0.out.below hb
  clear hb
  clear i0 i1 i2 i3 i4 i5 a0 a1 a2 a3 a4 a5 b0 b1 b2 b3 b4 b5 r0 r1 r2 r3 r4 r5 rf rl af
  simp only[VV.v]
  obtain⟨⟨i0,i1,i2,i3,i4,i5⟩,⟨a0,a1,a2,a3,a4,a5⟩,⟨b0,b1,b2,b3,b4,b5⟩,⟨r0,r1,r2,r3,r4,r5⟩,rf,rl,af⟩:=P1.out.all
  go_wp2
  exact bodyPost_ret (v:=VV.v (numV false (imm))) (by simp[results,Tryz.results28,go_sem,VV.v, *]) rfl ⟨⟨_,rfl⟩,below_putV P1.out.bel P1.out.oR (numV false (imm))⟩
 ·skip
  rcases ho with rfl|rfl<;>
  (
   go_wp2_with fail
   refine(l4Sum_any a b _ ha hb).mono ?_
   rintro e u1⟨rfl,hb⟩
   have P1:Hid (ResP w u1 _ d ra rb imm h a b):=P0.out.below hb
   clear hb
   clear i0 i1 i2 i3 i4 i5 a0 a1 a2 a3 a4 a5 b0 b1 b2 b3 b4 b5 r0 r1 r2 r3 r4 r5 rf rl af
   simp only[VV.v]
   obtain⟨⟨i0,i1,i2,i3,i4,i5⟩,⟨a0,a1,a2,a3,a4,a5⟩,⟨b0,b1,b2,b3,b4,b5⟩,⟨r0,r1,r2,r3,r4,r5⟩,rf,rl,af⟩:=P1.out.all
   go_wp2
   exact bodyPost_ret (v:=VV.v (sumV a b)) (by simp[results,Tryz.results28,go_sem,VV.v, *]) rfl ⟨⟨_,rfl⟩,below_putV P1.out.bel P1.out.oR (sumV a b)⟩)
 ·skip
  rcases ho with rfl|rfl<;>
  (
   go_wp2_with fail
   refine(l4Num_any s (-1) _).mono ?_
   rintro e u1⟨rfl,hb⟩
   have P1:Hid (ResP w u1 _ d ra rb imm h a b):=P0.out.below hb
   clear hb
   clear i0 i1 i2 i3 i4 i5 a0 a1 a2 a3 a4 a5 b0 b1 b2 b3 b4 b5 r0 r1 r2 r3 r4 r5 rf rl af
   simp only[VV.v]
   obtain⟨⟨i0,i1,i2,i3,i4,i5⟩,⟨a0,a1,a2,a3,a4,a5⟩,⟨b0,b1,b2,b3,b4,b5⟩,⟨r0,r1,r2,r3,r4,r5⟩,rf,rl,af⟩:=P1.out.all
   go_wp2
   exact bodyPost_ret (v:=VV.v (numV s (-1))) (by simp[results,Tryz.results28,go_sem,VV.v, *]) rfl ⟨⟨_,rfl⟩,below_putV P1.out.bel P1.out.oR (numV s (-1))⟩)
 ·skip
  go_wp2_with fail
  refine(l4Both_any a.k a.s a.m a.h a.lo a.hi b.k b.s b.m b.h b.lo b.hi _).mono ?_
  rintro e u1⟨rfl,hb⟩
  have P1:Hid (ResP w u1 5 d ra rb imm h a b):=P0.out.below hb
  clear hb
  clear i0 i1 i2 i3 i4 i5 a0 a1 a2 a3 a4 a5 b0 b1 b2 b3 b4 b5 r0 r1 r2 r3 r4 r5 rf rl af
  obtain⟨⟨i0,i1,i2,i3,i4,i5⟩,⟨a0,a1,a2,a3,a4,a5⟩,⟨b0,b1,b2,b3,b4,b5⟩,⟨r0,r1,r2,r3,r4,r5⟩,rf,rl,af⟩:=P1.out.all
  by_cases hc:0<=maxV a/\0<=maxV b
  ·have hd:decide (0<=maxV a/\0<=maxV b)=true:=by simp[hc]
   obtain⟨p0,p1⟩:=max_m hc.1 ha
   obtain⟨q0,q1⟩:=max_m hc.2 hb
   have HC:Hid (0<=maxV a/\0<=maxV b):=hc
   clear hc
   rw[show decide (0<=maxV ⟨a.k,a.s,a.m,a.h,a.lo,a.hi⟩/\0<=maxV ⟨b.k,b.s,b.m,b.h,b.lo,b.hi⟩)=true from hd]
   clear hd
   go_wp2_with fail
   refine(l4Times_any a.m b.m _ p0 p1 q0 q1).mono ?_
   rintro e w'⟨rfl,hw⟩
   rw[hw]
   clear hw
   go_wp2_with fail
   refine(l4Num_any s (timesI a.m b.m) _).mono ?_
   rintro e u2⟨rfl,hb⟩
   have P2:Hid (ResP w u2 5 d ra rb imm h a b):=P1.out.below hb
   clear hb
   clear i0 i1 i2 i3 i4 i5 a0 a1 a2 a3 a4 a5 b0 b1 b2 b3 b4 b5 r0 r1 r2 r3 r4 r5 rf rl af
   simp only[VV.v]
   obtain⟨⟨i0,i1,i2,i3,i4,i5⟩,⟨a0,a1,a2,a3,a4,a5⟩,⟨b0,b1,b2,b3,b4,b5⟩,⟨r0,r1,r2,r3,r4,r5⟩,rf,rl,af⟩:=P2.out.all
   go_wp2
   exact bodyPost_ret (v:=VV.v (numV s (timesI a.m b.m))) (by simp[results,Tryz.results28,go_sem,VV.v, *]) rfl ⟨⟨_,rfl⟩,below_putV P2.out.bel P2.out.oR (numV s (timesI a.m b.m))⟩
  ·have hd:decide (0<=maxV a/\0<=maxV b)=false:=by simp only[decide_eq_false_iff_not];exact hc
   have HC:Hid (¬(0<=maxV a/\0<=maxV b)):=hc
   clear hc
   rw[show decide (0<=maxV ⟨a.k,a.s,a.m,a.h,a.lo,a.hi⟩/\0<=maxV ⟨b.k,b.s,b.m,b.h,b.lo,b.hi⟩)=false from hd]
   clear hd
   go_wp2_with fail
   refine(l4Num_any s (-1) _).mono ?_
   rintro e u2⟨rfl,hb⟩
   have P2:Hid (ResP w u2 5 d ra rb imm h a b):=P1.out.below hb
   clear hb
   clear i0 i1 i2 i3 i4 i5 a0 a1 a2 a3 a4 a5 b0 b1 b2 b3 b4 b5 r0 r1 r2 r3 r4 r5 rf rl af
   simp only[VV.v]
   obtain⟨⟨i0,i1,i2,i3,i4,i5⟩,⟨a0,a1,a2,a3,a4,a5⟩,⟨b0,b1,b2,b3,b4,b5⟩,⟨r0,r1,r2,r3,r4,r5⟩,rf,rl,af⟩:=P2.out.all
   go_wp2
   exact bodyPost_ret (v:=VV.v (numV s (-1))) (by simp[results,Tryz.results28,go_sem,VV.v, *]) rfl ⟨⟨_,rfl⟩,below_putV P2.out.bel P2.out.oR (numV s (-1))⟩
 ·skip
  go_upto_region 13 with fail
  clear i0 i1 i2 i3 i4 i5 a0 a1 a2 a3 a4 a5 b0 b1 b2 b3 b4 b5 r0 r1 r2 r3 r4 r5 rf rl af
  have sa:∀w',(Vb w' (w.heap.size+1) a/\Vb w' (w.heap.size+1+1) b/\w'.cell? ⟨w.heap.size,4,none⟩=some (.int .i64 imm))->w'.cell? ⟨w.heap.size,4,none⟩=some (.int .i64 imm):=fun w' h=>h.2.2
  have x0:∀w',(Vb w' (w.heap.size+1) a/\Vb w' (w.heap.size+1+1) b/\w'.cell? ⟨w.heap.size,4,none⟩=some (.int .i64 imm))->w'.cell? ⟨w.heap.size+1,0,none⟩=some (.int .i64 a.k):=fun w' h=>h.1.cells.1
  have x1:∀w',(Vb w' (w.heap.size+1) a/\Vb w' (w.heap.size+1+1) b/\w'.cell? ⟨w.heap.size,4,none⟩=some (.int .i64 imm))->w'.cell? ⟨w.heap.size+1,1,none⟩=some (.bool a.s):=fun w' h=>h.1.cells.2.1
  have x2:∀w',(Vb w' (w.heap.size+1) a/\Vb w' (w.heap.size+1+1) b/\w'.cell? ⟨w.heap.size,4,none⟩=some (.int .i64 imm))->w'.cell? ⟨w.heap.size+1,2,none⟩=some (.int .i64 a.m):=fun w' h=>h.1.cells.2.2.1
  have x3:∀w',(Vb w' (w.heap.size+1) a/\Vb w' (w.heap.size+1+1) b/\w'.cell? ⟨w.heap.size,4,none⟩=some (.int .i64 imm))->w'.cell? ⟨w.heap.size+1,3,none⟩=some (.int .i64 a.h):=fun w' h=>h.1.cells.2.2.2.1
  have x4:∀w',(Vb w' (w.heap.size+1) a/\Vb w' (w.heap.size+1+1) b/\w'.cell? ⟨w.heap.size,4,none⟩=some (.int .i64 imm))->w'.cell? ⟨w.heap.size+1,4,none⟩=some (.int .i64 a.lo):=fun w' h=>h.1.cells.2.2.2.2.1
  have x5:∀w',(Vb w' (w.heap.size+1) a/\Vb w' (w.heap.size+1+1) b/\w'.cell? ⟨w.heap.size,4,none⟩=some (.int .i64 imm))->w'.cell? ⟨w.heap.size+1,5,none⟩=some (.int .i64 a.hi):=fun w' h=>h.1.cells.2.2.2.2.2
  have y0:∀w',(Vb w' (w.heap.size+1) a/\Vb w' (w.heap.size+1+1) b/\w'.cell? ⟨w.heap.size,4,none⟩=some (.int .i64 imm))->w'.cell? ⟨w.heap.size+1+1,0,none⟩=some (.int .i64 b.k):=fun w' h=>h.2.1.cells.1
  have y1:∀w',(Vb w' (w.heap.size+1) a/\Vb w' (w.heap.size+1+1) b/\w'.cell? ⟨w.heap.size,4,none⟩=some (.int .i64 imm))->w'.cell? ⟨w.heap.size+1+1,1,none⟩=some (.bool b.s):=fun w' h=>h.2.1.cells.2.1
  have y2:∀w',(Vb w' (w.heap.size+1) a/\Vb w' (w.heap.size+1+1) b/\w'.cell? ⟨w.heap.size,4,none⟩=some (.int .i64 imm))->w'.cell? ⟨w.heap.size+1+1,2,none⟩=some (.int .i64 b.m):=fun w' h=>h.2.1.cells.2.2.1
  have y3:∀w',(Vb w' (w.heap.size+1) a/\Vb w' (w.heap.size+1+1) b/\w'.cell? ⟨w.heap.size,4,none⟩=some (.int .i64 imm))->w'.cell? ⟨w.heap.size+1+1,3,none⟩=some (.int .i64 b.h):=fun w' h=>h.2.1.cells.2.2.2.1
  have y4:∀w',(Vb w' (w.heap.size+1) a/\Vb w' (w.heap.size+1+1) b/\w'.cell? ⟨w.heap.size,4,none⟩=some (.int .i64 imm))->w'.cell? ⟨w.heap.size+1+1,4,none⟩=some (.int .i64 b.lo):=fun w' h=>h.2.1.cells.2.2.2.2.1
  have y5:∀w',(Vb w' (w.heap.size+1) a/\Vb w' (w.heap.size+1+1) b/\w'.cell? ⟨w.heap.size,4,none⟩=some (.int .i64 imm))->w'.cell? ⟨w.heap.size+1+1,5,none⟩=some (.int .i64 b.hi):=fun w' h=>h.2.1.cells.2.2.2.2.2
  obtain⟨u1,hd,hb⟩:∃v,u0.drew=v/\Below u0.heap.size u0 v:=⟨_,rfl,(Below.refl _ _).drew⟩
  have P1:Hid (ResP w u1 6 d ra rb imm h a b):=P0.out.below hb
  have hS1:=P1.out.S
  refine wp_region_held_drew (S:=fun w'=>Vb w' (w.heap.size+1) a/\Vb w' (w.heap.size+1+1) b/\w'.cell? ⟨w.heap.size,4,none⟩=some (.int .i64 imm)) (by kernel_rfl) (by rw[hd];exact hS1) (fun _=>?_)
  rw[hd]
  clear hd hb
  refine wpAnyH_ta 0 rfl ?_
  refine wpAnyH_ta 1 rfl ?_
  refine wpAnyH_ta 3 rfl ?_
  refine wpAnyH_ready (rs:=[2]) (by kernel_rfl) (by simp) ?_
  refine AllReadyH.cons rfl (fun KK hK=>?_) AllReadyH.nil
  go_simp
  refine(l4Max_any a.k a.s a.m a.h a.lo a.hi _).mono ?_
  rintro e u2⟨rfl,hb⟩
  have P2:Hid (ResP w u2 6 d ra rb imm h a b):=P1.out.below hb
  clear hb
  go_wp2_with fail
  refine hK.out _ _ P2.out.S (fun hS2=>?_)
  clear hK KK
  try go_frame
  refine wpAnyH_ready (rs:=[4]) (by kernel_rfl) (by simp) ?_
  refine AllReadyH.cons rfl (fun KK hK=>?_) AllReadyH.nil
  go_simp
  refine(l4Max_any b.k b.s b.m b.h b.lo b.hi _).mono ?_
  rintro e u3⟨rfl,hb⟩
  have P3:Hid (ResP w u3 6 d ra rb imm h a b):=P2.out.below hb
  clear hb
  go_wp2_with fail
  refine hK.out _ _ P3.out.S (fun hS3=>?_)
  clear hK KK
  try go_frame
  refine wpAnyH_ready (rs:=[5]) (by kernel_rfl) (by simp) ?_
  refine AllReadyH.cons rfl (fun KK hK=>?_) AllReadyH.nil
  go_simp
  refine(l4Least_any (maxV a) (maxV b) _).mono ?_
  rintro e w'⟨rfl,hw⟩
  rw[hw]
  clear hw
  go_wp2_with fail
  refine hK.out _ _ P3.out.S (fun hS3'=>?_)
  clear hK KK
  try go_frame
  refine wpAnyH_ready (rs:=[6]) (by kernel_rfl) (by simp) ?_
  refine AllReadyH.cons rfl (fun KK hK=>?_) AllReadyH.nil
  go_simp
  refine(l4Num_any s (leastI (maxV a) (maxV b)) _).mono ?_
  rintro e u4⟨rfl,hb⟩
  have P4:Hid (ResP w u4 6 d ra rb imm h a b):=P3.out.below hb
  clear hb
  simp only[VV.v]
  go_wp2_with fail
  refine hK.out _ _ P4.out.S (fun hS4=>?_)
  clear hK KK
  try go_frame
  obtain⟨⟨i0,i1,i2,i3,i4,i5⟩,⟨a0,a1,a2,a3,a4,a5⟩,⟨b0,b1,b2,b3,b4,b5⟩,⟨r0,r1,r2,r3,r4,r5⟩,rf,rl,af⟩:=P4.out.all
  refine wpAnyH_ready (rs:=[7]) (by kernel_rfl) (by simp) ?_
  refine AllReadyH.cons rfl (fun KK hK=>?_) AllReadyH.nil
  go_simp
  change KK _ (putV u4 (w.heap.size+1+1+1) (numV s (leastI (maxV a) (maxV b))))
  obtain⟨z,hz,hbz,vz,va,vb,vi⟩:∃v,putV u4 (w.heap.size+1+1+1) (numV s (leastI (maxV a) (maxV b)))=v/\Below w.heap.size w v/\Vb v (w.heap.size+1+1+1) (numV s (leastI (maxV a) (maxV b)))/\Vb v (w.heap.size+1) a/\Vb v (w.heap.size+1+1) b/\v.cell? ⟨w.heap.size,4,none⟩=some (.int .i64 imm):=⟨_,rfl,below_putV P4.out.bel P4.out.oR _,vb_put P4.out.R _,vb_off P4.out.A _ (by omega),vb_off P4.out.B _ (by omega),by rw[<-i4];exact cell_putV (by omega)⟩
  rw[hz]
  refine hK.out _ _ ⟨va,vb,vi⟩ (fun _=>?_)
  clear hK KK hz
  refine wpAnyH_done (by kernel_rfl) ?_ _
  clear i0 i1 i2 i3 i4 i5 a0 a1 a2 a3 a4 a5 b0 b1 b2 b3 b4 b5 r0 r1 r2 r3 r4 r5 rf rl af
  obtain⟨r0,r1,r2,r3,r4,r5⟩:=vz.cells
  have HB:Hid (Below w.heap.size w z):=hbz
  clear hbz vz va vb vi sa x0 x1 x2 x3 x4 x5 y0 y1 y2 y3 y4 y5
  go_wp2
  exact bodyPost_ret (v:=VV.v (numV s (leastI (maxV a) (maxV b)))) (by simp[results,Tryz.results28,go_sem,VV.v, *]) rfl ⟨⟨_,rfl⟩,HB.out⟩
 ·skip
  rcases ho with rfl|rfl<;>
  (
   go_wp2_with fail
   refine(l4Both_any a.k a.s a.m a.h a.lo a.hi b.k b.s b.m b.h b.lo b.hi _).mono ?_
   rintro e u1⟨rfl,hb⟩
   have P1:Hid (ResP w u1 _ d ra rb imm h a b):=P0.out.below hb
   clear hb
   clear i0 i1 i2 i3 i4 i5 a0 a1 a2 a3 a4 a5 b0 b1 b2 b3 b4 b5 r0 r1 r2 r3 r4 r5 rf rl af
   obtain⟨⟨i0,i1,i2,i3,i4,i5⟩,⟨a0,a1,a2,a3,a4,a5⟩,⟨b0,b1,b2,b3,b4,b5⟩,⟨r0,r1,r2,r3,r4,r5⟩,rf,rl,af⟩:=P1.out.all
   by_cases hc:0<=maxV a/\0<=maxV b
   ·have hd:decide (0<=maxV a/\0<=maxV b)=true:=by simp[hc]
    obtain⟨p0,p1⟩:=max_m hc.1 ha
    obtain⟨q0,q1⟩:=max_m hc.2 hb
    have HC:Hid (0<=maxV a/\0<=maxV b):=hc
    clear hc
    rw[show decide (0<=maxV ⟨a.k,a.s,a.m,a.h,a.lo,a.hi⟩/\0<=maxV ⟨b.k,b.s,b.m,b.h,b.lo,b.hi⟩)=true from hd]
    clear hd
    go_wp2_with fail
    refine(l4Bigger_any a.m b.m _).mono ?_
    rintro e w'⟨rfl,hw⟩
    rw[hw]
    clear hw
    go_wp2_with fail
    refine(l4Ones_any (bigI a.m b.m) _ (by unfold bigI;split<;>omega) (by unfold bigI;split<;>omega)).mono ?_
    rintro e w'⟨rfl,hw⟩
    rw[hw]
    clear hw
    go_wp2_with fail
    refine(l4Num_any s (onesI (bigI a.m b.m)) _).mono ?_
    rintro e u2⟨rfl,hb⟩
    have P2:Hid (ResP w u2 _ d ra rb imm h a b):=P1.out.below hb
    clear hb
    clear i0 i1 i2 i3 i4 i5 a0 a1 a2 a3 a4 a5 b0 b1 b2 b3 b4 b5 r0 r1 r2 r3 r4 r5 rf rl af
    simp only[VV.v]
    obtain⟨⟨i0,i1,i2,i3,i4,i5⟩,⟨a0,a1,a2,a3,a4,a5⟩,⟨b0,b1,b2,b3,b4,b5⟩,⟨r0,r1,r2,r3,r4,r5⟩,rf,rl,af⟩:=P2.out.all
    go_wp2
    exact bodyPost_ret (v:=VV.v (numV s (onesI (bigI a.m b.m)))) (by simp[results,Tryz.results28,go_sem,VV.v, *]) rfl ⟨⟨_,rfl⟩,below_putV P2.out.bel P2.out.oR (numV s (onesI (bigI a.m b.m)))⟩
   ·have hd:decide (0<=maxV a/\0<=maxV b)=false:=by simp only[decide_eq_false_iff_not];exact hc
    have HC:Hid (¬(0<=maxV a/\0<=maxV b)):=hc
    clear hc
    rw[show decide (0<=maxV ⟨a.k,a.s,a.m,a.h,a.lo,a.hi⟩/\0<=maxV ⟨b.k,b.s,b.m,b.h,b.lo,b.hi⟩)=false from hd]
    clear hd
    go_wp2_with fail
    refine(l4Num_any s (-1) _).mono ?_
    rintro e u2⟨rfl,hb⟩
    have P2:Hid (ResP w u2 _ d ra rb imm h a b):=P1.out.below hb
    clear hb
    clear i0 i1 i2 i3 i4 i5 a0 a1 a2 a3 a4 a5 b0 b1 b2 b3 b4 b5 r0 r1 r2 r3 r4 r5 rf rl af
    simp only[VV.v]
    obtain⟨⟨i0,i1,i2,i3,i4,i5⟩,⟨a0,a1,a2,a3,a4,a5⟩,⟨b0,b1,b2,b3,b4,b5⟩,⟨r0,r1,r2,r3,r4,r5⟩,rf,rl,af⟩:=P2.out.all
    go_wp2
    exact bodyPost_ret (v:=VV.v (numV s (-1))) (by simp[results,Tryz.results28,go_sem,VV.v, *]) rfl ⟨⟨_,rfl⟩,below_putV P2.out.bel P2.out.oR (numV s (-1))⟩)
 ·skip
  go_wp2_with fail
  refine(l4Max_any a.k a.s a.m a.h a.lo a.hi _).mono ?_
  rintro e u1⟨rfl,hb⟩
  have P1:Hid (ResP w u1 9 d ra rb imm h a b):=P0.out.below hb
  clear hb
  clear i0 i1 i2 i3 i4 i5 a0 a1 a2 a3 a4 a5 b0 b1 b2 b3 b4 b5 r0 r1 r2 r3 r4 r5 rf rl af
  obtain⟨⟨i0,i1,i2,i3,i4,i5⟩,⟨a0,a1,a2,a3,a4,a5⟩,⟨b0,b1,b2,b3,b4,b5⟩,⟨r0,r1,r2,r3,r4,r5⟩,rf,rl,af⟩:=P1.out.all
  go_wp2_with fail
  refine(l4Num_any s (maxV a) _).mono ?_
  rintro e u2⟨rfl,hb⟩
  have P2:Hid (ResP w u2 9 d ra rb imm h a b):=P1.out.below hb
  clear hb
  clear i0 i1 i2 i3 i4 i5 a0 a1 a2 a3 a4 a5 b0 b1 b2 b3 b4 b5 r0 r1 r2 r3 r4 r5 rf rl af
  simp only[VV.v]
  obtain⟨⟨i0,i1,i2,i3,i4,i5⟩,⟨a0,a1,a2,a3,a4,a5⟩,⟨b0,b1,b2,b3,b4,b5⟩,⟨r0,r1,r2,r3,r4,r5⟩,rf,rl,af⟩:=P2.out.all
  go_wp2
  exact bodyPost_ret (v:=VV.v (numV s (maxV a))) (by simp[results,Tryz.results28,go_sem,VV.v, *]) rfl ⟨⟨_,rfl⟩,below_putV P2.out.bel P2.out.oR (numV s (maxV a))⟩
 ·skip
  have g0:=g0.out
  have g1:=g1.out
  have al0:=ha.l0
  have al1:=ha.l1
  have ah0:=ha.h0
  have ah1:=ha.h1
  have am1:=ha.m1
  have am0:=ha.m0
  have hi0:=i0
  by_cases c:a.k=1/\ -1099511627776<=a.lo+imm/\a.hi+imm<=1099511627776
  ·obtain⟨c1,c2,c3⟩:=c
   have e1:(a.k==1)=true:=by simp[c1]
   have e2:decide (-1099511627776<=a.lo+imm)=true:=by simp[c2]
   have e3:decide (a.hi+imm<=1099511627776)=true:=by simp[c3]
   have HC:Hid (a.k=1/\ -1099511627776<=a.lo+imm/\a.hi+imm<=1099511627776):=⟨c1,c2,c3⟩
   go_wp2
   exact bodyPost_ret (v:=VV.v ⟨1,a.s,a.m,a.h,a.lo+imm,a.hi+imm⟩) (by simp[results,Tryz.results28,go_sem,VV.v, *]) rfl ⟨⟨_,rfl⟩,by(iterate 6 refine Below.setCell ?_ (show w.heap.size<=w.heap.size+1+1+1 by omega) _);(iterate 2 refine Below.setCell ?_ (show w.heap.size<=w.heap.size+1 by omega) _);exact P0.out.bel⟩
  ·have HC:Hid (¬(a.k=1/\ -1099511627776<=a.lo+imm/\a.hi+imm<=1099511627776)):=c
   by_cases c1:a.k=1
   ·have e1:(a.k==1)=true:=by simp[c1]
    by_cases c2: -1099511627776<=a.lo+imm
    ·have c3:¬a.hi+imm<=1099511627776:=fun q=>c ⟨c1,c2,q⟩
     have e2:decide (-1099511627776<=a.lo+imm)=true:=by simp[c2]
     have e3:decide (a.hi+imm<=1099511627776)=false:=by simp;omega
     clear c c1
     go_wp2_with fail
     refine(l4Max_any a.k a.s a.m a.h a.lo a.hi _).mono ?_
     rintro e u1⟨rfl,hb⟩
     have P1:Hid (ResP w u1 10 d ra rb imm h a b):=P0.out.below hb
     clear hb
     clear i0 i1 i2 i3 i4 i5 a0 a1 a2 a3 a4 a5 b0 b1 b2 b3 b4 b5 r0 r1 r2 r3 r4 r5 rf rl af
     obtain⟨⟨i0,i1,i2,i3,i4,i5⟩,⟨a0,a1,a2,a3,a4,a5⟩,⟨b0,b1,b2,b3,b4,b5⟩,⟨r0,r1,r2,r3,r4,r5⟩,rf,rl,af⟩:=P1.out.all
     obtain⟨mx,hmx⟩:∃mx,maxV a=mx:=⟨_,rfl⟩
     have HX:Hid (maxV a=mx):=hmx
     rw[show maxV ⟨a.k,a.s,a.m,a.h,a.lo,a.hi⟩=mx from hmx]
     clear hmx
     clear al0 al1 ah0 ah1
     by_cases m0:0<=mx
     ·by_cases j0:0<=imm
      ·skip
       have HQ:Hid (0<=maxV a/\0<=imm):=⟨by rw[HX.out];exact m0,j0⟩
       have e4:decide (0<=mx)=true:=by simp[m0]
       have e5:decide (0<=imm)=true:=by simp[j0]
       go_wp2_with fail
       refine(l4Num_any s (a.m+imm) _).mono ?_
       rintro e u2⟨rfl,hb⟩
       have P2:Hid (ResP w u2 10 d ra rb imm h a b):=P1.out.below hb
       clear hb
       clear i0 i1 i2 i3 i4 i5 a0 a1 a2 a3 a4 a5 b0 b1 b2 b3 b4 b5 r0 r1 r2 r3 r4 r5 rf rl af
       simp only[VV.v]
       obtain⟨⟨i0,i1,i2,i3,i4,i5⟩,⟨a0,a1,a2,a3,a4,a5⟩,⟨b0,b1,b2,b3,b4,b5⟩,⟨r0,r1,r2,r3,r4,r5⟩,rf,rl,af⟩:=P2.out.all
       go_wp2
       exact bodyPost_ret (v:=VV.v (numV s (a.m+imm))) (by simp[results,Tryz.results28,go_sem,VV.v, *]) rfl ⟨⟨_,rfl⟩,below_putV P2.out.bel P2.out.oR (numV s (a.m+imm))⟩
      ·have HQ:Hid (¬(0<=maxV a/\0<=imm)):=fun q=>j0 q.2
       have e4:decide (0<=mx)=true:=by simp[m0]
       have e5:decide (0<=imm)=false:=by simp;omega
       go_wp2_with fail
       refine(l4Num_any s (-1) _).mono ?_
       rintro e u2⟨rfl,hb⟩
       have P2:Hid (ResP w u2 10 d ra rb imm h a b):=P1.out.below hb
       clear hb
       clear i0 i1 i2 i3 i4 i5 a0 a1 a2 a3 a4 a5 b0 b1 b2 b3 b4 b5 r0 r1 r2 r3 r4 r5 rf rl af
       simp only[VV.v]
       obtain⟨⟨i0,i1,i2,i3,i4,i5⟩,⟨a0,a1,a2,a3,a4,a5⟩,⟨b0,b1,b2,b3,b4,b5⟩,⟨r0,r1,r2,r3,r4,r5⟩,rf,rl,af⟩:=P2.out.all
       go_wp2
       exact bodyPost_ret (v:=VV.v (numV s (-1))) (by simp[results,Tryz.results28,go_sem,VV.v, *]) rfl ⟨⟨_,rfl⟩,below_putV P2.out.bel P2.out.oR (numV s (-1))⟩
     ·have HQ:Hid (¬(0<=maxV a/\0<=imm)):=fun q=>m0 (by rw[<-HX.out];exact q.1)
      have e4:decide (0<=mx)=false:=by simp;omega
      go_wp2_with fail
      refine(l4Num_any s (-1) _).mono ?_
      rintro e u2⟨rfl,hb⟩
      have P2:Hid (ResP w u2 10 d ra rb imm h a b):=P1.out.below hb
      clear hb
      clear i0 i1 i2 i3 i4 i5 a0 a1 a2 a3 a4 a5 b0 b1 b2 b3 b4 b5 r0 r1 r2 r3 r4 r5 rf rl af
      simp only[VV.v]
      obtain⟨⟨i0,i1,i2,i3,i4,i5⟩,⟨a0,a1,a2,a3,a4,a5⟩,⟨b0,b1,b2,b3,b4,b5⟩,⟨r0,r1,r2,r3,r4,r5⟩,rf,rl,af⟩:=P2.out.all
      go_wp2
      exact bodyPost_ret (v:=VV.v (numV s (-1))) (by simp[results,Tryz.results28,go_sem,VV.v, *]) rfl ⟨⟨_,rfl⟩,below_putV P2.out.bel P2.out.oR (numV s (-1))⟩
    ·have e2:decide (-1099511627776<=a.lo+imm)=false:=by simp;omega
     clear c c1
     go_wp2_with fail
     refine(l4Max_any a.k a.s a.m a.h a.lo a.hi _).mono ?_
     rintro e u1⟨rfl,hb⟩
     have P1:Hid (ResP w u1 10 d ra rb imm h a b):=P0.out.below hb
     clear hb
     clear i0 i1 i2 i3 i4 i5 a0 a1 a2 a3 a4 a5 b0 b1 b2 b3 b4 b5 r0 r1 r2 r3 r4 r5 rf rl af
     obtain⟨⟨i0,i1,i2,i3,i4,i5⟩,⟨a0,a1,a2,a3,a4,a5⟩,⟨b0,b1,b2,b3,b4,b5⟩,⟨r0,r1,r2,r3,r4,r5⟩,rf,rl,af⟩:=P1.out.all
     obtain⟨mx,hmx⟩:∃mx,maxV a=mx:=⟨_,rfl⟩
     have HX:Hid (maxV a=mx):=hmx
     rw[show maxV ⟨a.k,a.s,a.m,a.h,a.lo,a.hi⟩=mx from hmx]
     clear hmx
     clear al0 al1 ah0 ah1
     by_cases m0:0<=mx
     ·by_cases j0:0<=imm
      ·skip
       have HQ:Hid (0<=maxV a/\0<=imm):=⟨by rw[HX.out];exact m0,j0⟩
       have e4:decide (0<=mx)=true:=by simp[m0]
       have e5:decide (0<=imm)=true:=by simp[j0]
       go_wp2_with fail
       refine(l4Num_any s (a.m+imm) _).mono ?_
       rintro e u2⟨rfl,hb⟩
       have P2:Hid (ResP w u2 10 d ra rb imm h a b):=P1.out.below hb
       clear hb
       clear i0 i1 i2 i3 i4 i5 a0 a1 a2 a3 a4 a5 b0 b1 b2 b3 b4 b5 r0 r1 r2 r3 r4 r5 rf rl af
       simp only[VV.v]
       obtain⟨⟨i0,i1,i2,i3,i4,i5⟩,⟨a0,a1,a2,a3,a4,a5⟩,⟨b0,b1,b2,b3,b4,b5⟩,⟨r0,r1,r2,r3,r4,r5⟩,rf,rl,af⟩:=P2.out.all
       go_wp2
       exact bodyPost_ret (v:=VV.v (numV s (a.m+imm))) (by simp[results,Tryz.results28,go_sem,VV.v, *]) rfl ⟨⟨_,rfl⟩,below_putV P2.out.bel P2.out.oR (numV s (a.m+imm))⟩
      ·have HQ:Hid (¬(0<=maxV a/\0<=imm)):=fun q=>j0 q.2
       have e4:decide (0<=mx)=true:=by simp[m0]
       have e5:decide (0<=imm)=false:=by simp;omega
       go_wp2_with fail
       refine(l4Num_any s (-1) _).mono ?_
       rintro e u2⟨rfl,hb⟩
       have P2:Hid (ResP w u2 10 d ra rb imm h a b):=P1.out.below hb
       clear hb
       clear i0 i1 i2 i3 i4 i5 a0 a1 a2 a3 a4 a5 b0 b1 b2 b3 b4 b5 r0 r1 r2 r3 r4 r5 rf rl af
       simp only[VV.v]
       obtain⟨⟨i0,i1,i2,i3,i4,i5⟩,⟨a0,a1,a2,a3,a4,a5⟩,⟨b0,b1,b2,b3,b4,b5⟩,⟨r0,r1,r2,r3,r4,r5⟩,rf,rl,af⟩:=P2.out.all
       go_wp2
       exact bodyPost_ret (v:=VV.v (numV s (-1))) (by simp[results,Tryz.results28,go_sem,VV.v, *]) rfl ⟨⟨_,rfl⟩,below_putV P2.out.bel P2.out.oR (numV s (-1))⟩
     ·have HQ:Hid (¬(0<=maxV a/\0<=imm)):=fun q=>m0 (by rw[<-HX.out];exact q.1)
      have e4:decide (0<=mx)=false:=by simp;omega
      go_wp2_with fail
      refine(l4Num_any s (-1) _).mono ?_
      rintro e u2⟨rfl,hb⟩
      have P2:Hid (ResP w u2 10 d ra rb imm h a b):=P1.out.below hb
      clear hb
      clear i0 i1 i2 i3 i4 i5 a0 a1 a2 a3 a4 a5 b0 b1 b2 b3 b4 b5 r0 r1 r2 r3 r4 r5 rf rl af
      simp only[VV.v]
      obtain⟨⟨i0,i1,i2,i3,i4,i5⟩,⟨a0,a1,a2,a3,a4,a5⟩,⟨b0,b1,b2,b3,b4,b5⟩,⟨r0,r1,r2,r3,r4,r5⟩,rf,rl,af⟩:=P2.out.all
      go_wp2
      exact bodyPost_ret (v:=VV.v (numV s (-1))) (by simp[results,Tryz.results28,go_sem,VV.v, *]) rfl ⟨⟨_,rfl⟩,below_putV P2.out.bel P2.out.oR (numV s (-1))⟩
   ·have e1:(a.k==1)=false:=by simp[c1]
    clear c
    go_wp2_with fail
    refine(l4Max_any a.k a.s a.m a.h a.lo a.hi _).mono ?_
    rintro e u1⟨rfl,hb⟩
    have P1:Hid (ResP w u1 10 d ra rb imm h a b):=P0.out.below hb
    clear hb
    clear i0 i1 i2 i3 i4 i5 a0 a1 a2 a3 a4 a5 b0 b1 b2 b3 b4 b5 r0 r1 r2 r3 r4 r5 rf rl af
    obtain⟨⟨i0,i1,i2,i3,i4,i5⟩,⟨a0,a1,a2,a3,a4,a5⟩,⟨b0,b1,b2,b3,b4,b5⟩,⟨r0,r1,r2,r3,r4,r5⟩,rf,rl,af⟩:=P1.out.all
    obtain⟨mx,hmx⟩:∃mx,maxV a=mx:=⟨_,rfl⟩
    have HX:Hid (maxV a=mx):=hmx
    rw[show maxV ⟨a.k,a.s,a.m,a.h,a.lo,a.hi⟩=mx from hmx]
    clear hmx
    clear al0 al1 ah0 ah1
    by_cases m0:0<=mx
    ·by_cases j0:0<=imm
     ·skip
      have HQ:Hid (0<=maxV a/\0<=imm):=⟨by rw[HX.out];exact m0,j0⟩
      have e4:decide (0<=mx)=true:=by simp[m0]
      have e5:decide (0<=imm)=true:=by simp[j0]
      go_wp2_with fail
      refine(l4Num_any s (a.m+imm) _).mono ?_
      rintro e u2⟨rfl,hb⟩
      have P2:Hid (ResP w u2 10 d ra rb imm h a b):=P1.out.below hb
      clear hb
      clear i0 i1 i2 i3 i4 i5 a0 a1 a2 a3 a4 a5 b0 b1 b2 b3 b4 b5 r0 r1 r2 r3 r4 r5 rf rl af
      simp only[VV.v]
      obtain⟨⟨i0,i1,i2,i3,i4,i5⟩,⟨a0,a1,a2,a3,a4,a5⟩,⟨b0,b1,b2,b3,b4,b5⟩,⟨r0,r1,r2,r3,r4,r5⟩,rf,rl,af⟩:=P2.out.all
      go_wp2
      exact bodyPost_ret (v:=VV.v (numV s (a.m+imm))) (by simp[results,Tryz.results28,go_sem,VV.v, *]) rfl ⟨⟨_,rfl⟩,below_putV P2.out.bel P2.out.oR (numV s (a.m+imm))⟩
     ·have HQ:Hid (¬(0<=maxV a/\0<=imm)):=fun q=>j0 q.2
      have e4:decide (0<=mx)=true:=by simp[m0]
      have e5:decide (0<=imm)=false:=by simp;omega
      go_wp2_with fail
      refine(l4Num_any s (-1) _).mono ?_
      rintro e u2⟨rfl,hb⟩
      have P2:Hid (ResP w u2 10 d ra rb imm h a b):=P1.out.below hb
      clear hb
      clear i0 i1 i2 i3 i4 i5 a0 a1 a2 a3 a4 a5 b0 b1 b2 b3 b4 b5 r0 r1 r2 r3 r4 r5 rf rl af
      simp only[VV.v]
      obtain⟨⟨i0,i1,i2,i3,i4,i5⟩,⟨a0,a1,a2,a3,a4,a5⟩,⟨b0,b1,b2,b3,b4,b5⟩,⟨r0,r1,r2,r3,r4,r5⟩,rf,rl,af⟩:=P2.out.all
      go_wp2
      exact bodyPost_ret (v:=VV.v (numV s (-1))) (by simp[results,Tryz.results28,go_sem,VV.v, *]) rfl ⟨⟨_,rfl⟩,below_putV P2.out.bel P2.out.oR (numV s (-1))⟩
    ·have HQ:Hid (¬(0<=maxV a/\0<=imm)):=fun q=>m0 (by rw[<-HX.out];exact q.1)
     have e4:decide (0<=mx)=false:=by simp;omega
     go_wp2_with fail
     refine(l4Num_any s (-1) _).mono ?_
     rintro e u2⟨rfl,hb⟩
     have P2:Hid (ResP w u2 10 d ra rb imm h a b):=P1.out.below hb
     clear hb
     clear i0 i1 i2 i3 i4 i5 a0 a1 a2 a3 a4 a5 b0 b1 b2 b3 b4 b5 r0 r1 r2 r3 r4 r5 rf rl af
     simp only[VV.v]
     obtain⟨⟨i0,i1,i2,i3,i4,i5⟩,⟨a0,a1,a2,a3,a4,a5⟩,⟨b0,b1,b2,b3,b4,b5⟩,⟨r0,r1,r2,r3,r4,r5⟩,rf,rl,af⟩:=P2.out.all
     go_wp2
     exact bodyPost_ret (v:=VV.v (numV s (-1))) (by simp[results,Tryz.results28,go_sem,VV.v, *]) rfl ⟨⟨_,rfl⟩,below_putV P2.out.bel P2.out.oR (numV s (-1))⟩
 ·skip
  go_upto_region 28 with fail
  clear i0 i1 i2 i3 i4 i5 a0 a1 a2 a3 a4 a5 b0 b1 b2 b3 b4 b5 r0 r1 r2 r3 r4 r5 rf rl af
  have sa:∀w',(Vb w' (w.heap.size+1) a/\Vb w' (w.heap.size+1+1) b/\w'.cell? ⟨w.heap.size,4,none⟩=some (.int .i64 imm))->w'.cell? ⟨w.heap.size,4,none⟩=some (.int .i64 imm):=fun w' h=>h.2.2
  have x0:∀w',(Vb w' (w.heap.size+1) a/\Vb w' (w.heap.size+1+1) b/\w'.cell? ⟨w.heap.size,4,none⟩=some (.int .i64 imm))->w'.cell? ⟨w.heap.size+1,0,none⟩=some (.int .i64 a.k):=fun w' h=>h.1.cells.1
  have x1:∀w',(Vb w' (w.heap.size+1) a/\Vb w' (w.heap.size+1+1) b/\w'.cell? ⟨w.heap.size,4,none⟩=some (.int .i64 imm))->w'.cell? ⟨w.heap.size+1,1,none⟩=some (.bool a.s):=fun w' h=>h.1.cells.2.1
  have x2:∀w',(Vb w' (w.heap.size+1) a/\Vb w' (w.heap.size+1+1) b/\w'.cell? ⟨w.heap.size,4,none⟩=some (.int .i64 imm))->w'.cell? ⟨w.heap.size+1,2,none⟩=some (.int .i64 a.m):=fun w' h=>h.1.cells.2.2.1
  have x3:∀w',(Vb w' (w.heap.size+1) a/\Vb w' (w.heap.size+1+1) b/\w'.cell? ⟨w.heap.size,4,none⟩=some (.int .i64 imm))->w'.cell? ⟨w.heap.size+1,3,none⟩=some (.int .i64 a.h):=fun w' h=>h.1.cells.2.2.2.1
  have x4:∀w',(Vb w' (w.heap.size+1) a/\Vb w' (w.heap.size+1+1) b/\w'.cell? ⟨w.heap.size,4,none⟩=some (.int .i64 imm))->w'.cell? ⟨w.heap.size+1,4,none⟩=some (.int .i64 a.lo):=fun w' h=>h.1.cells.2.2.2.2.1
  have x5:∀w',(Vb w' (w.heap.size+1) a/\Vb w' (w.heap.size+1+1) b/\w'.cell? ⟨w.heap.size,4,none⟩=some (.int .i64 imm))->w'.cell? ⟨w.heap.size+1,5,none⟩=some (.int .i64 a.hi):=fun w' h=>h.1.cells.2.2.2.2.2
  have y0:∀w',(Vb w' (w.heap.size+1) a/\Vb w' (w.heap.size+1+1) b/\w'.cell? ⟨w.heap.size,4,none⟩=some (.int .i64 imm))->w'.cell? ⟨w.heap.size+1+1,0,none⟩=some (.int .i64 b.k):=fun w' h=>h.2.1.cells.1
  have y1:∀w',(Vb w' (w.heap.size+1) a/\Vb w' (w.heap.size+1+1) b/\w'.cell? ⟨w.heap.size,4,none⟩=some (.int .i64 imm))->w'.cell? ⟨w.heap.size+1+1,1,none⟩=some (.bool b.s):=fun w' h=>h.2.1.cells.2.1
  have y2:∀w',(Vb w' (w.heap.size+1) a/\Vb w' (w.heap.size+1+1) b/\w'.cell? ⟨w.heap.size,4,none⟩=some (.int .i64 imm))->w'.cell? ⟨w.heap.size+1+1,2,none⟩=some (.int .i64 b.m):=fun w' h=>h.2.1.cells.2.2.1
  have y3:∀w',(Vb w' (w.heap.size+1) a/\Vb w' (w.heap.size+1+1) b/\w'.cell? ⟨w.heap.size,4,none⟩=some (.int .i64 imm))->w'.cell? ⟨w.heap.size+1+1,3,none⟩=some (.int .i64 b.h):=fun w' h=>h.2.1.cells.2.2.2.1
  have y4:∀w',(Vb w' (w.heap.size+1) a/\Vb w' (w.heap.size+1+1) b/\w'.cell? ⟨w.heap.size,4,none⟩=some (.int .i64 imm))->w'.cell? ⟨w.heap.size+1+1,4,none⟩=some (.int .i64 b.lo):=fun w' h=>h.2.1.cells.2.2.2.2.1
  have y5:∀w',(Vb w' (w.heap.size+1) a/\Vb w' (w.heap.size+1+1) b/\w'.cell? ⟨w.heap.size,4,none⟩=some (.int .i64 imm))->w'.cell? ⟨w.heap.size+1+1,5,none⟩=some (.int .i64 b.hi):=fun w' h=>h.2.1.cells.2.2.2.2.2
  obtain⟨u1,hd,hb⟩:∃v,u0.drew=v/\Below u0.heap.size u0 v:=⟨_,rfl,(Below.refl _ _).drew⟩
  have P1:Hid (ResP w u1 11 d ra rb imm h a b):=P0.out.below hb
  have hS1:=P1.out.S
  refine wp_region_held_drew (S:=fun w'=>Vb w' (w.heap.size+1) a/\Vb w' (w.heap.size+1+1) b/\w'.cell? ⟨w.heap.size,4,none⟩=some (.int .i64 imm)) (by kernel_rfl) (by rw[hd];exact hS1) (fun _=>?_)
  rw[hd]
  clear hd hb
  refine wpAnyH_ta 0 rfl ?_
  refine wpAnyH_ta 1 rfl ?_
  refine wpAnyH_ta 2 rfl ?_
  refine wpAnyH_ta 3 rfl ?_
  refine wpAnyH_ready (rs:=[4]) (by kernel_rfl) (by simp) ?_
  refine AllReadyH.cons rfl (fun KK hK=>?_) AllReadyH.nil
  go_simp
  refine(l4Max_any a.k a.s a.m a.h a.lo a.hi _).mono ?_
  rintro e u2⟨rfl,hb⟩
  have P2:Hid (ResP w u2 11 d ra rb imm h a b):=P1.out.below hb
  clear hb
  go_wp2_with fail
  refine hK.out _ _ P2.out.S (fun hS2=>?_)
  clear hK KK
  try go_frame
  refine wpAnyH_ready (rs:=[5]) (by kernel_rfl) (by simp) ?_
  refine AllReadyH.cons rfl (fun KK hK=>?_) AllReadyH.nil
  go_simp
  refine(l4Least_any imm (maxV a) _).mono ?_
  rintro e w'⟨rfl,hw⟩
  rw[hw]
  clear hw
  go_wp2_with fail
  refine hK.out _ _ P2.out.S (fun hS2'=>?_)
  clear hK KK
  try go_frame
  refine wpAnyH_ready (rs:=[6]) (by kernel_rfl) (by simp) ?_
  refine AllReadyH.cons rfl (fun KK hK=>?_) AllReadyH.nil
  go_simp
  refine(l4Num_any s (leastI imm (maxV a)) _).mono ?_
  rintro e u3⟨rfl,hb⟩
  have P3:Hid (ResP w u3 11 d ra rb imm h a b):=P2.out.below hb
  clear hb
  simp only[VV.v]
  go_wp2_with fail
  refine hK.out _ _ P3.out.S (fun hS3=>?_)
  clear hK KK
  try go_frame
  obtain⟨⟨i0,i1,i2,i3,i4,i5⟩,⟨a0,a1,a2,a3,a4,a5⟩,⟨b0,b1,b2,b3,b4,b5⟩,⟨r0,r1,r2,r3,r4,r5⟩,rf,rl,af⟩:=P3.out.all
  refine wpAnyH_ready (rs:=[7]) (by kernel_rfl) (by simp) ?_
  refine AllReadyH.cons rfl (fun KK hK=>?_) AllReadyH.nil
  go_simp
  change KK _ (putV u3 (w.heap.size+1+1+1) (numV s (leastI imm (maxV a))))
  obtain⟨z,hz,hbz,vz,va,vb,vi⟩:∃v,putV u3 (w.heap.size+1+1+1) (numV s (leastI imm (maxV a)))=v/\Below w.heap.size w v/\Vb v (w.heap.size+1+1+1) (numV s (leastI imm (maxV a)))/\Vb v (w.heap.size+1) a/\Vb v (w.heap.size+1+1) b/\v.cell? ⟨w.heap.size,4,none⟩=some (.int .i64 imm):=⟨_,rfl,below_putV P3.out.bel P3.out.oR _,vb_put P3.out.R _,vb_off P3.out.A _ (by omega),vb_off P3.out.B _ (by omega),by rw[<-i4];exact cell_putV (by omega)⟩
  rw[hz]
  refine hK.out _ _ ⟨va,vb,vi⟩ (fun _=>?_)
  clear hK KK hz
  refine wpAnyH_done (by kernel_rfl) ?_ _
  clear i0 i1 i2 i3 i4 i5 a0 a1 a2 a3 a4 a5 b0 b1 b2 b3 b4 b5 r0 r1 r2 r3 r4 r5 rf rl af
  obtain⟨r0,r1,r2,r3,r4,r5⟩:=vz.cells
  have HB:Hid (Below w.heap.size w z):=hbz
  clear hbz vz va vb vi sa x0 x1 x2 x3 x4 x5 y0 y1 y2 y3 y4 y5
  go_wp2
  exact bodyPost_ret (v:=VV.v (numV s (leastI imm (maxV a)))) (by simp[results,Tryz.results28,go_sem,VV.v, *]) rfl ⟨⟨_,rfl⟩,HB.out⟩
 ·skip
  have g1:=(g2.out (by decide)).2
  have g0:=(g2.out (by decide)).1
  have am0:=ha.m0
  have am1:=ha.m1
  obtain⟨mx,hmx⟩:∃mx,maxV a=mx:=⟨_,rfl⟩
  have HX:Hid (maxV a=mx):=hmx
  have hmm:0<=mx->mx=a.m:=by intro q;rw[<-hmx]at q⊢;unfold maxV at q⊢;split at q<;>simp_all
  clear hmx
  go_wp2_with fail
  refine(l4Max_any a.k a.s a.m a.h a.lo a.hi _).mono ?_
  rintro e u1⟨rfl,hb⟩
  have P1:Hid (ResP w u1 12 d ra rb imm h a b):=P0.out.below hb
  clear hb
  clear i0 i1 i2 i3 i4 i5 a0 a1 a2 a3 a4 a5 b0 b1 b2 b3 b4 b5 r0 r1 r2 r3 r4 r5 rf rl af
  obtain⟨⟨i0,i1,i2,i3,i4,i5⟩,⟨a0,a1,a2,a3,a4,a5⟩,⟨b0,b1,b2,b3,b4,b5⟩,⟨r0,r1,r2,r3,r4,r5⟩,rf,rl,af⟩:=P1.out.all
  rw[show maxV ⟨a.k,a.s,a.m,a.h,a.lo,a.hi⟩=mx from HX.out]
  by_cases z:mx=0
  ·subst z
   clear hmm
   go_wp2_with fail
   refine(l4Num_any s (0) _).mono ?_
   rintro e u2⟨rfl,hb⟩
   have P2:Hid (ResP w u2 12 d ra rb imm h a b):=P1.out.below hb
   clear hb
   clear i0 i1 i2 i3 i4 i5 a0 a1 a2 a3 a4 a5 b0 b1 b2 b3 b4 b5 r0 r1 r2 r3 r4 r5 rf rl af
   simp only[VV.v]
   obtain⟨⟨i0,i1,i2,i3,i4,i5⟩,⟨a0,a1,a2,a3,a4,a5⟩,⟨b0,b1,b2,b3,b4,b5⟩,⟨r0,r1,r2,r3,r4,r5⟩,rf,rl,af⟩:=P2.out.all
   go_wp2
   exact bodyPost_ret (v:=VV.v (numV s (0))) (by simp[results,Tryz.results28,go_sem,VV.v, *]) rfl ⟨⟨_,rfl⟩,below_putV P2.out.bel P2.out.oR (numV s (0))⟩
  ·have e0:(mx==0)=false:=by simp[z]
   have HZ:Hid (¬maxV a=0):=by rw[show(maxV a=0)=(mx=0)from by rw[HX.out]];exact z
   go_wp2_with fail
   refine(l4Max_any a.k a.s a.m a.h a.lo a.hi _).mono ?_
   rintro e u2⟨rfl,hb⟩
   have P2:Hid (ResP w u2 12 d ra rb imm h a b):=P1.out.below hb
   clear hb
   clear i0 i1 i2 i3 i4 i5 a0 a1 a2 a3 a4 a5 b0 b1 b2 b3 b4 b5 r0 r1 r2 r3 r4 r5 rf rl af
   obtain⟨⟨i0,i1,i2,i3,i4,i5⟩,⟨a0,a1,a2,a3,a4,a5⟩,⟨b0,b1,b2,b3,b4,b5⟩,⟨r0,r1,r2,r3,r4,r5⟩,rf,rl,af⟩:=P2.out.all
   rw[show maxV ⟨a.k,a.s,a.m,a.h,a.lo,a.hi⟩=mx from HX.out]
   by_cases p:0<mx
   ·have ea:mx=a.m:=hmm (by omega)
    subst ea
    clear hmm e0 z
    have e1:decide (0<a.m)=true:=by simp[p]
    by_cases q:imm<=40
    ·have e2:decide (imm<=40)=true:=by simp[q]
     have HQ:Hid (0<maxV a/\imm<=40):=⟨by rw[HX.out];exact p,q⟩
     obtain⟨pw,hpw,w0,w1⟩:=pow40 g0 q
     have f1:IntKind.i64.wrap pw=pw:=by rw[IntKind.wrap_i64];omega
     have f2:wrap64 pw=pw:=by unfold wrap64;omega
     go_upto_region 33 with fail
     clear i0 i1 i2 i3 i4 i5 a0 a1 a2 a3 a4 a5 b0 b1 b2 b3 b4 b5 r0 r1 r2 r3 r4 r5 rf rl af
     have sa:∀w',(Vb w' (w.heap.size+1) a/\Vb w' (w.heap.size+1+1) b/\w'.cell? ⟨w.heap.size,4,none⟩=some (.int .i64 imm))->w'.cell? ⟨w.heap.size,4,none⟩=some (.int .i64 imm):=fun w' h=>h.2.2
     have x0:∀w',(Vb w' (w.heap.size+1) a/\Vb w' (w.heap.size+1+1) b/\w'.cell? ⟨w.heap.size,4,none⟩=some (.int .i64 imm))->w'.cell? ⟨w.heap.size+1,0,none⟩=some (.int .i64 a.k):=fun w' h=>h.1.cells.1
     have x1:∀w',(Vb w' (w.heap.size+1) a/\Vb w' (w.heap.size+1+1) b/\w'.cell? ⟨w.heap.size,4,none⟩=some (.int .i64 imm))->w'.cell? ⟨w.heap.size+1,1,none⟩=some (.bool a.s):=fun w' h=>h.1.cells.2.1
     have x2:∀w',(Vb w' (w.heap.size+1) a/\Vb w' (w.heap.size+1+1) b/\w'.cell? ⟨w.heap.size,4,none⟩=some (.int .i64 imm))->w'.cell? ⟨w.heap.size+1,2,none⟩=some (.int .i64 a.m):=fun w' h=>h.1.cells.2.2.1
     have x3:∀w',(Vb w' (w.heap.size+1) a/\Vb w' (w.heap.size+1+1) b/\w'.cell? ⟨w.heap.size,4,none⟩=some (.int .i64 imm))->w'.cell? ⟨w.heap.size+1,3,none⟩=some (.int .i64 a.h):=fun w' h=>h.1.cells.2.2.2.1
     have x4:∀w',(Vb w' (w.heap.size+1) a/\Vb w' (w.heap.size+1+1) b/\w'.cell? ⟨w.heap.size,4,none⟩=some (.int .i64 imm))->w'.cell? ⟨w.heap.size+1,4,none⟩=some (.int .i64 a.lo):=fun w' h=>h.1.cells.2.2.2.2.1
     have x5:∀w',(Vb w' (w.heap.size+1) a/\Vb w' (w.heap.size+1+1) b/\w'.cell? ⟨w.heap.size,4,none⟩=some (.int .i64 imm))->w'.cell? ⟨w.heap.size+1,5,none⟩=some (.int .i64 a.hi):=fun w' h=>h.1.cells.2.2.2.2.2
     have y0:∀w',(Vb w' (w.heap.size+1) a/\Vb w' (w.heap.size+1+1) b/\w'.cell? ⟨w.heap.size,4,none⟩=some (.int .i64 imm))->w'.cell? ⟨w.heap.size+1+1,0,none⟩=some (.int .i64 b.k):=fun w' h=>h.2.1.cells.1
     have y1:∀w',(Vb w' (w.heap.size+1) a/\Vb w' (w.heap.size+1+1) b/\w'.cell? ⟨w.heap.size,4,none⟩=some (.int .i64 imm))->w'.cell? ⟨w.heap.size+1+1,1,none⟩=some (.bool b.s):=fun w' h=>h.2.1.cells.2.1
     have y2:∀w',(Vb w' (w.heap.size+1) a/\Vb w' (w.heap.size+1+1) b/\w'.cell? ⟨w.heap.size,4,none⟩=some (.int .i64 imm))->w'.cell? ⟨w.heap.size+1+1,2,none⟩=some (.int .i64 b.m):=fun w' h=>h.2.1.cells.2.2.1
     have y3:∀w',(Vb w' (w.heap.size+1) a/\Vb w' (w.heap.size+1+1) b/\w'.cell? ⟨w.heap.size,4,none⟩=some (.int .i64 imm))->w'.cell? ⟨w.heap.size+1+1,3,none⟩=some (.int .i64 b.h):=fun w' h=>h.2.1.cells.2.2.2.1
     have y4:∀w',(Vb w' (w.heap.size+1) a/\Vb w' (w.heap.size+1+1) b/\w'.cell? ⟨w.heap.size,4,none⟩=some (.int .i64 imm))->w'.cell? ⟨w.heap.size+1+1,4,none⟩=some (.int .i64 b.lo):=fun w' h=>h.2.1.cells.2.2.2.2.1
     have y5:∀w',(Vb w' (w.heap.size+1) a/\Vb w' (w.heap.size+1+1) b/\w'.cell? ⟨w.heap.size,4,none⟩=some (.int .i64 imm))->w'.cell? ⟨w.heap.size+1+1,5,none⟩=some (.int .i64 b.hi):=fun w' h=>h.2.1.cells.2.2.2.2.2
     obtain⟨u3,hd,hb⟩:∃v,u2.drew=v/\Below u2.heap.size u2 v:=⟨_,rfl,(Below.refl _ _).drew⟩
     have P3:Hid (ResP w u3 12 d ra rb imm h a b):=P2.out.below hb
     have hS3:=P3.out.S
     refine wp_region_held_drew (S:=fun w'=>Vb w' (w.heap.size+1) a/\Vb w' (w.heap.size+1+1) b/\w'.cell? ⟨w.heap.size,4,none⟩=some (.int .i64 imm)) (by kernel_rfl) (by rw[hd];exact hS3) (fun _=>?_)
     rw[hd]
     clear hd hb
     refine wpAnyH_ta 0 rfl ?_
     refine wpAnyH_ta 1 rfl ?_
     refine wpAnyH_ta 2 rfl ?_
     refine wpAnyH_ta 3 rfl ?_
     refine wpAnyH_ta 4 rfl ?_
     refine wpAnyH_ready (rs:=[5]) (by kernel_rfl) (by simp) ?_
     refine AllReadyH.cons rfl (fun KK hK=>?_) AllReadyH.nil
     go_simp
     refine(l1Pow_int imm _ g0 g1).mono ?_
     rintro e w'⟨rfl,hw⟩
     rw[hw]
     clear hw
     go_wp2_with fail
     refine hK.out _ _ P3.out.S (fun hS3'=>?_)
     clear hK KK
     try go_frame
     try rw[hpw]
     refine wpAnyH_ta 6 rfl ?_
     refine wpAnyH_ready (rs:=[7]) (by kernel_rfl) (by simp) ?_
     refine AllReadyH.cons rfl (fun KK hK=>?_) AllReadyH.nil
     go_simp
     refine(l4Times_any a.m pw _ (by omega) am1 (by omega) w1).mono ?_
     rintro e w'⟨rfl,hw⟩
     rw[hw]
     clear hw
     go_wp2_with fail
     refine hK.out _ _ P3.out.S (fun hS3'=>?_)
     clear hK KK
     try go_frame
     refine wpAnyH_ready (rs:=[8]) (by kernel_rfl) (by simp) ?_
     refine AllReadyH.cons rfl (fun KK hK=>?_) AllReadyH.nil
     go_simp
     refine(l4Num_any s (timesI a.m pw) _).mono ?_
     rintro e u4⟨rfl,hb⟩
     have P4:Hid (ResP w u4 12 d ra rb imm h a b):=P3.out.below hb
     clear hb
     simp only[VV.v]
     go_wp2_with fail
     refine hK.out _ _ P4.out.S (fun hS4=>?_)
     clear hK KK
     try go_frame
     obtain⟨⟨i0,i1,i2,i3,i4,i5⟩,⟨a0,a1,a2,a3,a4,a5⟩,⟨b0,b1,b2,b3,b4,b5⟩,⟨r0,r1,r2,r3,r4,r5⟩,rf,rl,af⟩:=P4.out.all
     refine wpAnyH_ready (rs:=[9]) (by kernel_rfl) (by simp) ?_
     refine AllReadyH.cons rfl (fun KK hK=>?_) AllReadyH.nil
     go_simp
     change KK _ (putV u4 (w.heap.size+1+1+1) (numV s (timesI a.m pw)))
     obtain⟨z,hz,hbz,vz,va,vb,vi⟩:∃v,putV u4 (w.heap.size+1+1+1) (numV s (timesI a.m pw))=v/\Below w.heap.size w v/\Vb v (w.heap.size+1+1+1) (numV s (timesI a.m pw))/\Vb v (w.heap.size+1) a/\Vb v (w.heap.size+1+1) b/\v.cell? ⟨w.heap.size,4,none⟩=some (.int .i64 imm):=⟨_,rfl,below_putV P4.out.bel P4.out.oR _,vb_put P4.out.R _,vb_off P4.out.A _ (by omega),vb_off P4.out.B _ (by omega),by rw[<-i4];exact cell_putV (by omega)⟩
     rw[hz]
     refine hK.out _ _ ⟨va,vb,vi⟩ (fun _=>?_)
     clear hK KK hz
     refine wpAnyH_done (by kernel_rfl) ?_ _
     clear i0 i1 i2 i3 i4 i5 a0 a1 a2 a3 a4 a5 b0 b1 b2 b3 b4 b5 r0 r1 r2 r3 r4 r5 rf rl af
     obtain⟨r0,r1,r2,r3,r4,r5⟩:=vz.cells
     have HB:Hid (Below w.heap.size w z):=hbz
     clear hbz vz va vb vi sa x0 x1 x2 x3 x4 x5 y0 y1 y2 y3 y4 y5
     go_wp2
     exact bodyPost_ret (v:=VV.v (numV s (timesI a.m pw))) (by simp[results,Tryz.results28,go_sem,VV.v, *]) rfl ⟨⟨_,rfl⟩,HB.out⟩
    ·have e2:decide (imm<=40)=false:=by simp;omega
     have HQ:Hid (¬(0<maxV a/\imm<=40)):=fun t=>q t.2
     go_wp2_with fail
     refine(l4Num_any s (-1) _).mono ?_
     rintro e u3⟨rfl,hb⟩
     have P3:Hid (ResP w u3 12 d ra rb imm h a b):=P2.out.below hb
     clear hb
     clear i0 i1 i2 i3 i4 i5 a0 a1 a2 a3 a4 a5 b0 b1 b2 b3 b4 b5 r0 r1 r2 r3 r4 r5 rf rl af
     simp only[VV.v]
     obtain⟨⟨i0,i1,i2,i3,i4,i5⟩,⟨a0,a1,a2,a3,a4,a5⟩,⟨b0,b1,b2,b3,b4,b5⟩,⟨r0,r1,r2,r3,r4,r5⟩,rf,rl,af⟩:=P3.out.all
     go_wp2
     exact bodyPost_ret (v:=VV.v (numV s (-1))) (by simp[results,Tryz.results28,go_sem,VV.v, *]) rfl ⟨⟨_,rfl⟩,below_putV P3.out.bel P3.out.oR (numV s (-1))⟩
   ·have e1:decide (0<mx)=false:=by simp;omega
    have HQ:Hid (¬(0<maxV a/\imm<=40)):=fun t=>p (by rw[<-HX.out];exact t.1)
    go_wp2_with fail
    refine(l4Num_any s (-1) _).mono ?_
    rintro e u3⟨rfl,hb⟩
    have P3:Hid (ResP w u3 12 d ra rb imm h a b):=P2.out.below hb
    clear hb
    clear i0 i1 i2 i3 i4 i5 a0 a1 a2 a3 a4 a5 b0 b1 b2 b3 b4 b5 r0 r1 r2 r3 r4 r5 rf rl af
    simp only[VV.v]
    obtain⟨⟨i0,i1,i2,i3,i4,i5⟩,⟨a0,a1,a2,a3,a4,a5⟩,⟨b0,b1,b2,b3,b4,b5⟩,⟨r0,r1,r2,r3,r4,r5⟩,rf,rl,af⟩:=P3.out.all
    go_wp2
    exact bodyPost_ret (v:=VV.v (numV s (-1))) (by simp[results,Tryz.results28,go_sem,VV.v, *]) rfl ⟨⟨_,rfl⟩,below_putV P3.out.bel P3.out.oR (numV s (-1))⟩
 ·skip
  have g1:=(g2.out (by decide)).2
  have g0:=(g2.out (by decide)).1
  have am0:=ha.m0
  have am1:=ha.m1
  obtain⟨mx,hmx⟩:∃mx,maxV a=mx:=⟨_,rfl⟩
  have HX:Hid (maxV a=mx):=hmx
  have hmm:0<=mx->mx=a.m:=by intro q;rw[<-hmx]at q⊢;unfold maxV at q⊢;split at q<;>simp_all
  clear hmx
  go_wp2_with fail
  refine(l4Max_any a.k a.s a.m a.h a.lo a.hi _).mono ?_
  rintro e u1⟨rfl,hb⟩
  have P1:Hid (ResP w u1 13 d ra rb imm h a b):=P0.out.below hb
  clear hb
  clear i0 i1 i2 i3 i4 i5 a0 a1 a2 a3 a4 a5 b0 b1 b2 b3 b4 b5 r0 r1 r2 r3 r4 r5 rf rl af
  obtain⟨⟨i0,i1,i2,i3,i4,i5⟩,⟨a0,a1,a2,a3,a4,a5⟩,⟨b0,b1,b2,b3,b4,b5⟩,⟨r0,r1,r2,r3,r4,r5⟩,rf,rl,af⟩:=P1.out.all
  rw[show maxV ⟨a.k,a.s,a.m,a.h,a.lo,a.hi⟩=mx from HX.out]
  by_cases p:0<=mx
  ·have ea:mx=a.m:=hmm p
   subst ea
   clear hmm
   have HQ:Hid (0<=maxV a):=by rw[show(0<=maxV a)=(0<=a.m)from by rw[HX.out]];exact p
   obtain⟨pw,hpw,w0,w1⟩:=pow63 g0 g1
   obtain⟨y,hy,y0,y1⟩:=quo_le (m:=a.m) p am1 w0
   have f3:IntKind.u64.wrap a.m=a.m:=by rw[IntKind.wrap_u64];omega
   have f4:¬pw=0:=by omega
   have f5:a.m.tdiv pw=y:=by rw[Int.tdiv_eq_ediv_of_nonneg p];exact hy
   have f6:IntKind.u64.wrap y=y:=by rw[IntKind.wrap_u64];omega
   have f7:IntKind.i64.wrap y=y:=by rw[IntKind.wrap_i64];omega
   have f8:wrap64 y=y:=by unfold wrap64;omega
   have HY:Hid (a.m/pw=y):=hy
   clear hy
   go_upto_region 36 with fail
   clear i0 i1 i2 i3 i4 i5 a0 a1 a2 a3 a4 a5 b0 b1 b2 b3 b4 b5 r0 r1 r2 r3 r4 r5 rf rl af
   have sa:∀w',(Vb w' (w.heap.size+1) a/\Vb w' (w.heap.size+1+1) b/\w'.cell? ⟨w.heap.size,4,none⟩=some (.int .i64 imm))->w'.cell? ⟨w.heap.size,4,none⟩=some (.int .i64 imm):=fun w' h=>h.2.2
   have x0:∀w',(Vb w' (w.heap.size+1) a/\Vb w' (w.heap.size+1+1) b/\w'.cell? ⟨w.heap.size,4,none⟩=some (.int .i64 imm))->w'.cell? ⟨w.heap.size+1,0,none⟩=some (.int .i64 a.k):=fun w' h=>h.1.cells.1
   have x1:∀w',(Vb w' (w.heap.size+1) a/\Vb w' (w.heap.size+1+1) b/\w'.cell? ⟨w.heap.size,4,none⟩=some (.int .i64 imm))->w'.cell? ⟨w.heap.size+1,1,none⟩=some (.bool a.s):=fun w' h=>h.1.cells.2.1
   have x2:∀w',(Vb w' (w.heap.size+1) a/\Vb w' (w.heap.size+1+1) b/\w'.cell? ⟨w.heap.size,4,none⟩=some (.int .i64 imm))->w'.cell? ⟨w.heap.size+1,2,none⟩=some (.int .i64 a.m):=fun w' h=>h.1.cells.2.2.1
   have x3:∀w',(Vb w' (w.heap.size+1) a/\Vb w' (w.heap.size+1+1) b/\w'.cell? ⟨w.heap.size,4,none⟩=some (.int .i64 imm))->w'.cell? ⟨w.heap.size+1,3,none⟩=some (.int .i64 a.h):=fun w' h=>h.1.cells.2.2.2.1
   have x4:∀w',(Vb w' (w.heap.size+1) a/\Vb w' (w.heap.size+1+1) b/\w'.cell? ⟨w.heap.size,4,none⟩=some (.int .i64 imm))->w'.cell? ⟨w.heap.size+1,4,none⟩=some (.int .i64 a.lo):=fun w' h=>h.1.cells.2.2.2.2.1
   have x5:∀w',(Vb w' (w.heap.size+1) a/\Vb w' (w.heap.size+1+1) b/\w'.cell? ⟨w.heap.size,4,none⟩=some (.int .i64 imm))->w'.cell? ⟨w.heap.size+1,5,none⟩=some (.int .i64 a.hi):=fun w' h=>h.1.cells.2.2.2.2.2
   have y0:∀w',(Vb w' (w.heap.size+1) a/\Vb w' (w.heap.size+1+1) b/\w'.cell? ⟨w.heap.size,4,none⟩=some (.int .i64 imm))->w'.cell? ⟨w.heap.size+1+1,0,none⟩=some (.int .i64 b.k):=fun w' h=>h.2.1.cells.1
   have y1:∀w',(Vb w' (w.heap.size+1) a/\Vb w' (w.heap.size+1+1) b/\w'.cell? ⟨w.heap.size,4,none⟩=some (.int .i64 imm))->w'.cell? ⟨w.heap.size+1+1,1,none⟩=some (.bool b.s):=fun w' h=>h.2.1.cells.2.1
   have y2:∀w',(Vb w' (w.heap.size+1) a/\Vb w' (w.heap.size+1+1) b/\w'.cell? ⟨w.heap.size,4,none⟩=some (.int .i64 imm))->w'.cell? ⟨w.heap.size+1+1,2,none⟩=some (.int .i64 b.m):=fun w' h=>h.2.1.cells.2.2.1
   have y3:∀w',(Vb w' (w.heap.size+1) a/\Vb w' (w.heap.size+1+1) b/\w'.cell? ⟨w.heap.size,4,none⟩=some (.int .i64 imm))->w'.cell? ⟨w.heap.size+1+1,3,none⟩=some (.int .i64 b.h):=fun w' h=>h.2.1.cells.2.2.2.1
   have y4:∀w',(Vb w' (w.heap.size+1) a/\Vb w' (w.heap.size+1+1) b/\w'.cell? ⟨w.heap.size,4,none⟩=some (.int .i64 imm))->w'.cell? ⟨w.heap.size+1+1,4,none⟩=some (.int .i64 b.lo):=fun w' h=>h.2.1.cells.2.2.2.2.1
   have y5:∀w',(Vb w' (w.heap.size+1) a/\Vb w' (w.heap.size+1+1) b/\w'.cell? ⟨w.heap.size,4,none⟩=some (.int .i64 imm))->w'.cell? ⟨w.heap.size+1+1,5,none⟩=some (.int .i64 b.hi):=fun w' h=>h.2.1.cells.2.2.2.2.2
   obtain⟨u2,hd,hb⟩:∃v,u1.drew=v/\Below u1.heap.size u1 v:=⟨_,rfl,(Below.refl _ _).drew⟩
   have P2:Hid (ResP w u2 13 d ra rb imm h a b):=P1.out.below hb
   have hS2:=P2.out.S
   refine wp_region_held_drew (S:=fun w'=>Vb w' (w.heap.size+1) a/\Vb w' (w.heap.size+1+1) b/\w'.cell? ⟨w.heap.size,4,none⟩=some (.int .i64 imm)) (by kernel_rfl) (by rw[hd];exact hS2) (fun _=>?_)
   rw[hd]
   clear hd hb
   refine wpAnyH_ta 0 rfl ?_
   refine wpAnyH_ta 1 rfl ?_
   refine wpAnyH_ta 2 rfl ?_
   refine wpAnyH_ta 3 rfl ?_
   refine wpAnyH_ta 4 rfl ?_
   refine wpAnyH_ta 5 rfl ?_
   refine wpAnyH_ready (rs:=[6]) (by kernel_rfl) (by simp) ?_
   refine AllReadyH.cons rfl (fun KK hK=>?_) AllReadyH.nil
   go_simp
   refine(l1Pow_int imm _ g0 g1).mono ?_
   rintro e w'⟨rfl,hw⟩
   rw[hw]
   clear hw
   go_wp2_with fail
   refine hK.out _ _ P2.out.S (fun hS2'=>?_)
   clear hK KK
   try go_frame
   try rw[hpw]
   refine wpAnyH_ta 7 rfl ?_
   refine wpAnyH_ta 8 rfl ?_
   refine wpAnyH_ready (rs:=[9]) (by kernel_rfl) (by simp) ?_
   refine AllReadyH.cons rfl (fun KK hK=>?_) AllReadyH.nil
   go_simp
   refine(l4Num_any s y _).mono ?_
   rintro e u3⟨rfl,hb⟩
   have P3:Hid (ResP w u3 13 d ra rb imm h a b):=P2.out.below hb
   clear hb
   simp only[VV.v]
   go_wp2_with fail
   refine hK.out _ _ P3.out.S (fun hS3=>?_)
   clear hK KK
   try go_frame
   obtain⟨⟨i0,i1,i2,i3,i4,i5⟩,⟨a0,a1,a2,a3,a4,a5⟩,⟨b0,b1,b2,b3,b4,b5⟩,⟨r0,r1,r2,r3,r4,r5⟩,rf,rl,af⟩:=P3.out.all
   refine wpAnyH_ready (rs:=[10]) (by kernel_rfl) (by simp) ?_
   refine AllReadyH.cons rfl (fun KK hK=>?_) AllReadyH.nil
   go_simp
   change KK _ (putV u3 (w.heap.size+1+1+1) (numV s y))
   obtain⟨z,hz,hbz,vz,va,vb,vi⟩:∃v,putV u3 (w.heap.size+1+1+1) (numV s y)=v/\Below w.heap.size w v/\Vb v (w.heap.size+1+1+1) (numV s y)/\Vb v (w.heap.size+1) a/\Vb v (w.heap.size+1+1) b/\v.cell? ⟨w.heap.size,4,none⟩=some (.int .i64 imm):=⟨_,rfl,below_putV P3.out.bel P3.out.oR _,vb_put P3.out.R _,vb_off P3.out.A _ (by omega),vb_off P3.out.B _ (by omega),by rw[<-i4];exact cell_putV (by omega)⟩
   rw[hz]
   refine hK.out _ _ ⟨va,vb,vi⟩ (fun _=>?_)
   clear hK KK hz
   refine wpAnyH_done (by kernel_rfl) ?_ _
   clear i0 i1 i2 i3 i4 i5 a0 a1 a2 a3 a4 a5 b0 b1 b2 b3 b4 b5 r0 r1 r2 r3 r4 r5 rf rl af
   obtain⟨r0,r1,r2,r3,r4,r5⟩:=vz.cells
   have HB:Hid (Below w.heap.size w z):=hbz
   clear hbz vz va vb vi sa x0 x1 x2 x3 x4 x5 y0 y1 y2 y3 y4 y5
   go_wp2
   exact bodyPost_ret (v:=VV.v (numV s y)) (by simp[results,Tryz.results28,go_sem,VV.v, *]) rfl ⟨⟨_,rfl⟩,HB.out⟩
  ·have HQ:Hid (¬0<=maxV a):=fun t=>p (by rw[<-HX.out];exact t)
   clear hmm
   by_cases q:24<=imm
   ·have HE:Hid (24<=imm):=q
    obtain⟨pw,hpw,w0,w1⟩:=pow40 (i:=64-imm) (by omega) (by omega)
    have f1:IntKind.i64.wrap pw=pw:=by rw[IntKind.wrap_i64];omega
    have f2:wrap64 pw=pw:=by unfold wrap64;omega
    go_wp2_with fail
    refine(l1Pow_int (64-imm) _ (by omega) (by omega)).mono ?_
    rintro e w'⟨rfl,hw⟩
    rw[hw]
    clear hw
    try rw[hpw]
    go_wp2_with fail
    refine(l4Num_any s (pw-1) _).mono ?_
    rintro e u2⟨rfl,hb⟩
    have P2:Hid (ResP w u2 13 d ra rb imm h a b):=P1.out.below hb
    clear hb
    clear i0 i1 i2 i3 i4 i5 a0 a1 a2 a3 a4 a5 b0 b1 b2 b3 b4 b5 r0 r1 r2 r3 r4 r5 rf rl af
    simp only[VV.v]
    obtain⟨⟨i0,i1,i2,i3,i4,i5⟩,⟨a0,a1,a2,a3,a4,a5⟩,⟨b0,b1,b2,b3,b4,b5⟩,⟨r0,r1,r2,r3,r4,r5⟩,rf,rl,af⟩:=P2.out.all
    go_wp2
    exact bodyPost_ret (v:=VV.v (numV s (pw-1))) (by simp[results,Tryz.results28,go_sem,VV.v, *]) rfl ⟨⟨_,rfl⟩,below_putV P2.out.bel P2.out.oR (numV s (pw-1))⟩
   ·have HE:Hid (¬24<=imm):=q
    go_wp2_with fail
    refine(l4Num_any s (-1) _).mono ?_
    rintro e u2⟨rfl,hb⟩
    have P2:Hid (ResP w u2 13 d ra rb imm h a b):=P1.out.below hb
    clear hb
    clear i0 i1 i2 i3 i4 i5 a0 a1 a2 a3 a4 a5 b0 b1 b2 b3 b4 b5 r0 r1 r2 r3 r4 r5 rf rl af
    simp only[VV.v]
    obtain⟨⟨i0,i1,i2,i3,i4,i5⟩,⟨a0,a1,a2,a3,a4,a5⟩,⟨b0,b1,b2,b3,b4,b5⟩,⟨r0,r1,r2,r3,r4,r5⟩,rf,rl,af⟩:=P2.out.all
    go_wp2
    exact bodyPost_ret (v:=VV.v (numV s (-1))) (by simp[results,Tryz.results28,go_sem,VV.v, *]) rfl ⟨⟨_,rfl⟩,below_putV P2.out.bel P2.out.oR (numV s (-1))⟩
 ·skip
  go_wp2_with fail
  refine(l4Both_any a.k a.s a.m a.h a.lo a.hi b.k b.s b.m b.h b.lo b.hi _).mono ?_
  rintro e u1⟨rfl,hb⟩
  have P1:Hid (ResP w u1 15 d ra rb imm h a b):=P0.out.below hb
  clear hb
  clear i0 i1 i2 i3 i4 i5 a0 a1 a2 a3 a4 a5 b0 b1 b2 b3 b4 b5 r0 r1 r2 r3 r4 r5 rf rl af
  obtain⟨⟨i0,i1,i2,i3,i4,i5⟩,⟨a0,a1,a2,a3,a4,a5⟩,⟨b0,b1,b2,b3,b4,b5⟩,⟨r0,r1,r2,r3,r4,r5⟩,rf,rl,af⟩:=P1.out.all
  by_cases hc:0<=maxV a/\0<=maxV b
  ·have hd:decide (0<=maxV a/\0<=maxV b)=true:=by simp[hc]
   obtain⟨p0,p1⟩:=max_m hc.1 ha
   obtain⟨q0,q1⟩:=max_m hc.2 hb
   have HC:Hid (0<=maxV a/\0<=maxV b):=hc
   clear hc
   rw[show decide (0<=maxV ⟨a.k,a.s,a.m,a.h,a.lo,a.hi⟩/\0<=maxV ⟨b.k,b.s,b.m,b.h,b.lo,b.hi⟩)=true from hd]
   clear hd
   go_wp2_with fail
   refine(l4Num_any s (a.m+b.m+1) _).mono ?_
   rintro e u2⟨rfl,hb⟩
   have P2:Hid (ResP w u2 15 d ra rb imm h a b):=P1.out.below hb
   clear hb
   clear i0 i1 i2 i3 i4 i5 a0 a1 a2 a3 a4 a5 b0 b1 b2 b3 b4 b5 r0 r1 r2 r3 r4 r5 rf rl af
   simp only[VV.v]
   obtain⟨⟨i0,i1,i2,i3,i4,i5⟩,⟨a0,a1,a2,a3,a4,a5⟩,⟨b0,b1,b2,b3,b4,b5⟩,⟨r0,r1,r2,r3,r4,r5⟩,rf,rl,af⟩:=P2.out.all
   go_wp2
   exact bodyPost_ret (v:=VV.v (numV s (a.m+b.m+1))) (by simp[results,Tryz.results28,go_sem,VV.v, *]) rfl ⟨⟨_,rfl⟩,below_putV P2.out.bel P2.out.oR (numV s (a.m+b.m+1))⟩
  ·have hd:decide (0<=maxV a/\0<=maxV b)=false:=by simp only[decide_eq_false_iff_not];exact hc
   have HC:Hid (¬(0<=maxV a/\0<=maxV b)):=hc
   clear hc
   rw[show decide (0<=maxV ⟨a.k,a.s,a.m,a.h,a.lo,a.hi⟩/\0<=maxV ⟨b.k,b.s,b.m,b.h,b.lo,b.hi⟩)=false from hd]
   clear hd
   go_wp2_with fail
   refine(l4Num_any s (-1) _).mono ?_
   rintro e u2⟨rfl,hb⟩
   have P2:Hid (ResP w u2 15 d ra rb imm h a b):=P1.out.below hb
   clear hb
   clear i0 i1 i2 i3 i4 i5 a0 a1 a2 a3 a4 a5 b0 b1 b2 b3 b4 b5 r0 r1 r2 r3 r4 r5 rf rl af
   simp only[VV.v]
   obtain⟨⟨i0,i1,i2,i3,i4,i5⟩,⟨a0,a1,a2,a3,a4,a5⟩,⟨b0,b1,b2,b3,b4,b5⟩,⟨r0,r1,r2,r3,r4,r5⟩,rf,rl,af⟩:=P2.out.all
   go_wp2
   exact bodyPost_ret (v:=VV.v (numV s (-1))) (by simp[results,Tryz.results28,go_sem,VV.v, *]) rfl ⟨⟨_,rfl⟩,below_putV P2.out.bel P2.out.oR (numV s (-1))⟩
end Go.Proofs.YtbahofiiaodpdaaGreat
