import Derived.Test.YtjnooklalbcamaaOfTransFacts
import Derived.Test.YtjnooklalbcamaaOfTransResB
import Derived.Test.YtjnooklalbcamaaOfTransResD
import Derived.Test.YtjnooklalbcamaaOfTransResF
import Derived.Test.YtjnooklalbcamaaOfTransAll2
/- The Val of the register that an instruction gives. -/
namespace Go.Proofs.Ytjnooklalbcamaa
open Go.RowKit

set_option maxRecDepth 20000 in
set_option maxHeartbeats 4000000 in
theorem l4Result_13 (d ra rb imm h : Int) (a b : VV) (s : Bool) (w : World) (ha : Bd a) (g0 : 0 ≤ imm) (g1 : imm ≤ 63) :
    Calls Try.prog 79 #[.agg #[.int .i64 13, .int .i64 d, .int .i64 ra, .int .i64 rb, .int .i64 imm, .int .i64 h], .agg #[.int .i64 a.k, .bool a.s, .int .i64 a.m, .int .i64 a.h, .int .i64 a.lo, .int .i64 a.hi], .agg #[.int .i64 b.k, .bool b.s, .int .i64 b.m, .int .i64 b.h, .int .i64 b.lo, .int .i64 b.hi], .bool s] w fun e w' => e = .returned (resV 13 imm a b s).v ∧ Below w.heap.size w w' := by
  have am0 := ha.m0
  have am1 := ha.m1
  obtain ⟨mx, hmx⟩ : ∃ mx, maxV a = mx := ⟨_, rfl⟩
  have HX : Hid (maxV a = mx) := hmx
  have hmm : 0 ≤ mx → mx = a.m := by intro q; rw [← hmx] at q ⊢; unfold maxV at q ⊢; split at q <;> simp_all
  clear hmx
  go_enter Try.func79, Try.ntmps79
  go_upto_region 1 with fail
  obtain ⟨u0, hu, pu⟩ := res_pre w (op := 13) (d := d) (ra := ra) (rb := rb) (imm := imm) (h := h) a b
  rw [hu]
  have P0 : Hid (ResP w u0 13 d ra rb imm h a b) := pu
  clear hu pu
  obtain ⟨i0, i1, i2, i3, i4, i5⟩ := ins_cells P0.out.I
  obtain ⟨a0, a1, a2, a3, a4, a5⟩ := P0.out.A.cells
  obtain ⟨b0, b1, b2, b3, b4, b5⟩ := P0.out.B.cells
  obtain ⟨r0, r1, r2, r3, r4, r5⟩ := P0.out.R.cells
  have rf := P0.out.R.free
  have rl := P0.out.R.lt
  have af := P0.out.A.free
  go_wp2_with fail
  refine (l4Max_any a.k a.s a.m a.h a.lo a.hi _).mono ?_
  rintro e u1 ⟨rfl, hb⟩
  have P1 : Hid (ResP w u1 13 d ra rb imm h a b) := P0.out.below hb
  clear hb
  clear i0 i1 i2 i3 i4 i5 a0 a1 a2 a3 a4 a5 b0 b1 b2 b3 b4 b5 r0 r1 r2 r3 r4 r5 rf rl af
  obtain ⟨i0, i1, i2, i3, i4, i5⟩ := ins_cells P1.out.I
  obtain ⟨a0, a1, a2, a3, a4, a5⟩ := P1.out.A.cells
  obtain ⟨b0, b1, b2, b3, b4, b5⟩ := P1.out.B.cells
  obtain ⟨r0, r1, r2, r3, r4, r5⟩ := P1.out.R.cells
  have rf := P1.out.R.free
  have rl := P1.out.R.lt
  have af := P1.out.A.free
  rw [show maxV ⟨a.k, a.s, a.m, a.h, a.lo, a.hi⟩ = mx from HX.out]
  by_cases p : 0 ≤ mx
  · have ea : mx = a.m := hmm p
    subst ea
    clear hmm
    have HQ : Hid (0 ≤ maxV a) := by rw [show (0 ≤ maxV a) = (0 ≤ a.m) from by rw [HX.out]]; exact p
    obtain ⟨pw, hpw, w0, w1⟩ := pow63 g0 g1
    obtain ⟨y, hy, y0, y1⟩ := quo_le (m := a.m) p am1 w0
    have f3 : IntKind.u64.wrap a.m = a.m := by rw [IntKind.wrap_u64]; omega
    have f4 : ¬ pw = 0 := by omega
    have f5 : a.m.tdiv pw = y := by rw [Int.tdiv_eq_ediv_of_nonneg p]; exact hy
    have f6 : IntKind.u64.wrap y = y := by rw [IntKind.wrap_u64]; omega
    have f7 : IntKind.i64.wrap y = y := by rw [IntKind.wrap_i64]; omega
    have f8 : wrap64 y = y := by unfold wrap64; omega
    have HY : Hid (a.m / pw = y) := hy
    clear hy
    go_upto_region 36 with fail
    clear i0 i1 i2 i3 i4 i5 a0 a1 a2 a3 a4 a5 b0 b1 b2 b3 b4 b5 r0 r1 r2 r3 r4 r5 rf rl af
    have sa : ∀ w', (Vb w' (w.heap.size + 1) a ∧ Vb w' (w.heap.size + 1 + 1) b ∧ w'.cell? ⟨w.heap.size, 4, none⟩ = some (.int .i64 imm)) → w'.cell? ⟨w.heap.size, 4, none⟩ = some (.int .i64 imm) := fun w' h => h.2.2
    have x0 : ∀ w', (Vb w' (w.heap.size + 1) a ∧ Vb w' (w.heap.size + 1 + 1) b ∧ w'.cell? ⟨w.heap.size, 4, none⟩ = some (.int .i64 imm)) → w'.cell? ⟨w.heap.size + 1, 0, none⟩ = some (.int .i64 a.k) := fun w' h => h.1.cells.1
    have x1 : ∀ w', (Vb w' (w.heap.size + 1) a ∧ Vb w' (w.heap.size + 1 + 1) b ∧ w'.cell? ⟨w.heap.size, 4, none⟩ = some (.int .i64 imm)) → w'.cell? ⟨w.heap.size + 1, 1, none⟩ = some (.bool a.s) := fun w' h => h.1.cells.2.1
    have x2 : ∀ w', (Vb w' (w.heap.size + 1) a ∧ Vb w' (w.heap.size + 1 + 1) b ∧ w'.cell? ⟨w.heap.size, 4, none⟩ = some (.int .i64 imm)) → w'.cell? ⟨w.heap.size + 1, 2, none⟩ = some (.int .i64 a.m) := fun w' h => h.1.cells.2.2.1
    have x3 : ∀ w', (Vb w' (w.heap.size + 1) a ∧ Vb w' (w.heap.size + 1 + 1) b ∧ w'.cell? ⟨w.heap.size, 4, none⟩ = some (.int .i64 imm)) → w'.cell? ⟨w.heap.size + 1, 3, none⟩ = some (.int .i64 a.h) := fun w' h => h.1.cells.2.2.2.1
    have x4 : ∀ w', (Vb w' (w.heap.size + 1) a ∧ Vb w' (w.heap.size + 1 + 1) b ∧ w'.cell? ⟨w.heap.size, 4, none⟩ = some (.int .i64 imm)) → w'.cell? ⟨w.heap.size + 1, 4, none⟩ = some (.int .i64 a.lo) := fun w' h => h.1.cells.2.2.2.2.1
    have x5 : ∀ w', (Vb w' (w.heap.size + 1) a ∧ Vb w' (w.heap.size + 1 + 1) b ∧ w'.cell? ⟨w.heap.size, 4, none⟩ = some (.int .i64 imm)) → w'.cell? ⟨w.heap.size + 1, 5, none⟩ = some (.int .i64 a.hi) := fun w' h => h.1.cells.2.2.2.2.2
    have y0 : ∀ w', (Vb w' (w.heap.size + 1) a ∧ Vb w' (w.heap.size + 1 + 1) b ∧ w'.cell? ⟨w.heap.size, 4, none⟩ = some (.int .i64 imm)) → w'.cell? ⟨w.heap.size + 1 + 1, 0, none⟩ = some (.int .i64 b.k) := fun w' h => h.2.1.cells.1
    have y1 : ∀ w', (Vb w' (w.heap.size + 1) a ∧ Vb w' (w.heap.size + 1 + 1) b ∧ w'.cell? ⟨w.heap.size, 4, none⟩ = some (.int .i64 imm)) → w'.cell? ⟨w.heap.size + 1 + 1, 1, none⟩ = some (.bool b.s) := fun w' h => h.2.1.cells.2.1
    have y2 : ∀ w', (Vb w' (w.heap.size + 1) a ∧ Vb w' (w.heap.size + 1 + 1) b ∧ w'.cell? ⟨w.heap.size, 4, none⟩ = some (.int .i64 imm)) → w'.cell? ⟨w.heap.size + 1 + 1, 2, none⟩ = some (.int .i64 b.m) := fun w' h => h.2.1.cells.2.2.1
    have y3 : ∀ w', (Vb w' (w.heap.size + 1) a ∧ Vb w' (w.heap.size + 1 + 1) b ∧ w'.cell? ⟨w.heap.size, 4, none⟩ = some (.int .i64 imm)) → w'.cell? ⟨w.heap.size + 1 + 1, 3, none⟩ = some (.int .i64 b.h) := fun w' h => h.2.1.cells.2.2.2.1
    have y4 : ∀ w', (Vb w' (w.heap.size + 1) a ∧ Vb w' (w.heap.size + 1 + 1) b ∧ w'.cell? ⟨w.heap.size, 4, none⟩ = some (.int .i64 imm)) → w'.cell? ⟨w.heap.size + 1 + 1, 4, none⟩ = some (.int .i64 b.lo) := fun w' h => h.2.1.cells.2.2.2.2.1
    have y5 : ∀ w', (Vb w' (w.heap.size + 1) a ∧ Vb w' (w.heap.size + 1 + 1) b ∧ w'.cell? ⟨w.heap.size, 4, none⟩ = some (.int .i64 imm)) → w'.cell? ⟨w.heap.size + 1 + 1, 5, none⟩ = some (.int .i64 b.hi) := fun w' h => h.2.1.cells.2.2.2.2.2
    obtain ⟨u2, hd, hb⟩ : ∃ v, u1.drew = v ∧ Below u1.heap.size u1 v := ⟨_, rfl, (Below.refl _ _).drew⟩
    have P2 : Hid (ResP w u2 13 d ra rb imm h a b) := P1.out.below hb
    have hS2 := P2.out.S
    refine wp_region_held_drew (S := fun w' => Vb w' (w.heap.size + 1) a ∧ Vb w' (w.heap.size + 1 + 1) b ∧ w'.cell? ⟨w.heap.size, 4, none⟩ = some (.int .i64 imm)) (by kernel_rfl) (by rw [hd]; exact hS2) (fun _ => ?_)
    rw [hd]
    clear hd hb
    refine wpAnyH_tk 0 ?k1v rfl ?k1y ?k1r
    case k1y => (intro w hSw; (try dsimp only at hSw); go_simp; try with_reducible rfl)
    try go_frame
    refine wpAnyH_tk 1 ?k2v rfl ?k2y ?k2r
    case k2y => (intro w hSw; (try dsimp only at hSw); go_simp; try with_reducible rfl)
    try go_frame
    refine wpAnyH_tk 2 ?k3v rfl ?k3y ?k3r
    case k3y => (intro w hSw; (try dsimp only at hSw); go_simp; try with_reducible rfl)
    try go_frame
    refine wpAnyH_tk 3 ?k4v rfl ?k4y ?k4r
    case k4y => (intro w hSw; (try dsimp only at hSw); go_simp; try with_reducible rfl)
    try go_frame
    refine wpAnyH_tk 4 ?k5v rfl ?k5y ?k5r
    case k5y => (intro w hSw; (try dsimp only at hSw); go_simp; try with_reducible rfl)
    try go_frame
    refine wpAnyH_tk 5 ?k6v rfl ?k6y ?k6r
    case k6y => (intro w hSw; (try dsimp only at hSw); go_simp; try with_reducible rfl)
    try go_frame
    refine wpAnyH_ready (rs := [6]) (by kernel_rfl) (by simp) ?_
    refine AllReadyH.cons rfl (fun KK hK => ?_) AllReadyH.nil
    go_simp
    refine (l1Pow_int imm _ g0 g1).mono ?_
    rintro e w' ⟨rfl, hw⟩
    rw [hw]
    clear hw
    go_wp2_with fail
    refine hK.out _ _ P2.out.S (fun hS2' => ?_)
    clear hK KK
    try go_frame
    try rw [hpw]
    refine wpAnyH_tk 7 ?k7v rfl ?k7y ?k7r
    case k7y => (intro w hSw; (try dsimp only at hSw); go_simp; try with_reducible rfl)
    try go_frame
    refine wpAnyH_tk 8 ?k8v rfl ?k8y ?k8r
    case k8y => (intro w hSw; (try dsimp only at hSw); go_simp; try with_reducible rfl)
    try go_frame
    refine wpAnyH_ready (rs := [9]) (by kernel_rfl) (by simp) ?_
    refine AllReadyH.cons rfl (fun KK hK => ?_) AllReadyH.nil
    go_simp
    refine (l4Num_any s y _).mono ?_
    rintro e u3 ⟨rfl, hb⟩
    have P3 : Hid (ResP w u3 13 d ra rb imm h a b) := P2.out.below hb
    clear hb
    simp only [VV.v]
    go_wp2_with fail
    refine hK.out _ _ P3.out.S (fun hS3 => ?_)
    clear hK KK
    try go_frame
    obtain ⟨i0, i1, i2, i3, i4, i5⟩ := ins_cells P3.out.I
    obtain ⟨a0, a1, a2, a3, a4, a5⟩ := P3.out.A.cells
    obtain ⟨b0, b1, b2, b3, b4, b5⟩ := P3.out.B.cells
    obtain ⟨r0, r1, r2, r3, r4, r5⟩ := P3.out.R.cells
    have rf := P3.out.R.free
    have rl := P3.out.R.lt
    have af := P3.out.A.free
    refine wpAnyH_ready (rs := [10]) (by kernel_rfl) (by simp) ?_
    refine AllReadyH.cons rfl (fun KK hK => ?_) AllReadyH.nil
    go_simp
    change KK _ (putV u3 (w.heap.size + 1 + 1 + 1) (numV s y))
    obtain ⟨z, hz, hbz, vz, va, vb, vi⟩ : ∃ v, putV u3 (w.heap.size + 1 + 1 + 1) (numV s y) = v ∧ Below w.heap.size w v ∧ Vb v (w.heap.size + 1 + 1 + 1) (numV s y) ∧ Vb v (w.heap.size + 1) a ∧ Vb v (w.heap.size + 1 + 1) b ∧ v.cell? ⟨w.heap.size, 4, none⟩ = some (.int .i64 imm) := ⟨_, rfl, below_putV P3.out.bel P3.out.oR _, vb_put P3.out.R _, vb_off P3.out.A _ (by omega), vb_off P3.out.B _ (by omega), by rw [← i4]; exact cell_putV (by omega)⟩
    rw [hz]
    refine hK.out _ _ ⟨va, vb, vi⟩ (fun _ => ?_)
    clear hK KK hz
    refine wpAnyH_done (by kernel_rfl) ?_ _
    clear i0 i1 i2 i3 i4 i5 a0 a1 a2 a3 a4 a5 b0 b1 b2 b3 b4 b5 r0 r1 r2 r3 r4 r5 rf rl af
    obtain ⟨r0, r1, r2, r3, r4, r5⟩ := vz.cells
    have HB : Hid (Below w.heap.size w z) := hbz
    clear hbz vz va vb vi sa x0 x1 x2 x3 x4 x5 y0 y1 y2 y3 y4 y5
    go_wp2
    exact bodyPost_ret (v := VV.v (numV s y)) (by simp [results, Try.results79, go_sem, VV.v, *]) rfl ⟨congrArg (fun v => Ending.returned (VV.v v)) (by rw [← HY.out, ← hpw]; simp only [resV, if_pos HQ.out]; simp), HB.out⟩
  · have HQ : Hid (¬ 0 ≤ maxV a) := fun t => p (by rw [← HX.out]; exact t)
    clear hmm
    by_cases q : 24 ≤ imm
    · have HE : Hid (24 ≤ imm) := q
      obtain ⟨pw, hpw, w0, w1⟩ := pow40 (i := 64 - imm) (by omega) (by omega)
      have f1 : IntKind.i64.wrap pw = pw := by rw [IntKind.wrap_i64]; omega
      have f2 : wrap64 pw = pw := by unfold wrap64; omega
      go_wp2_with fail
      refine (l1Pow_int (64 - imm) _ (by omega) (by omega)).mono ?_
      rintro e w' ⟨rfl, hw⟩
      rw [hw]
      clear hw
      try rw [hpw]
      go_wp2_with fail
      refine (l4Num_any s (pw - 1) _).mono ?_
      rintro e u2 ⟨rfl, hb⟩
      have P2 : Hid (ResP w u2 13 d ra rb imm h a b) := P1.out.below hb
      clear hb
      clear i0 i1 i2 i3 i4 i5 a0 a1 a2 a3 a4 a5 b0 b1 b2 b3 b4 b5 r0 r1 r2 r3 r4 r5 rf rl af
      simp only [VV.v]
      obtain ⟨i0, i1, i2, i3, i4, i5⟩ := ins_cells P2.out.I
      obtain ⟨a0, a1, a2, a3, a4, a5⟩ := P2.out.A.cells
      obtain ⟨b0, b1, b2, b3, b4, b5⟩ := P2.out.B.cells
      obtain ⟨r0, r1, r2, r3, r4, r5⟩ := P2.out.R.cells
      have rf := P2.out.R.free
      have rl := P2.out.R.lt
      have af := P2.out.A.free
      go_wp2
      exact bodyPost_ret (v := VV.v (numV s (pw - 1))) (by simp [results, Try.results79, go_sem, VV.v, *]) rfl ⟨congrArg (fun v => Ending.returned (VV.v v)) (by rw [← hpw]; simp only [resV, if_neg (show ¬ 0 ≤ maxV a by have := HQ.out; omega), if_pos HE.out]; simp), below_putV P2.out.bel P2.out.oR (numV s (pw - 1))⟩
    · have HE : Hid (¬ 24 ≤ imm) := q
      go_wp2_with fail
      refine (l4Num_any s (-1) _).mono ?_
      rintro e u2 ⟨rfl, hb⟩
      have P2 : Hid (ResP w u2 13 d ra rb imm h a b) := P1.out.below hb
      clear hb
      clear i0 i1 i2 i3 i4 i5 a0 a1 a2 a3 a4 a5 b0 b1 b2 b3 b4 b5 r0 r1 r2 r3 r4 r5 rf rl af
      simp only [VV.v]
      obtain ⟨i0, i1, i2, i3, i4, i5⟩ := ins_cells P2.out.I
      obtain ⟨a0, a1, a2, a3, a4, a5⟩ := P2.out.A.cells
      obtain ⟨b0, b1, b2, b3, b4, b5⟩ := P2.out.B.cells
      obtain ⟨r0, r1, r2, r3, r4, r5⟩ := P2.out.R.cells
      have rf := P2.out.R.free
      have rl := P2.out.R.lt
      have af := P2.out.A.free
      go_wp2
      exact bodyPost_ret (v := VV.v (numV s (-1))) (by simp [results, Try.results79, go_sem, VV.v, *]) rfl ⟨congrArg (fun v => Ending.returned (VV.v v)) (by simp only [resV, if_neg (show ¬ 0 ≤ maxV a by have := HQ.out; omega), if_neg (show ¬ 24 ≤ imm by have := HE.out; omega)]; simp), below_putV P2.out.bel P2.out.oR (numV s (-1))⟩
end Go.Proofs.Ytjnooklalbcamaa
/- spec.l4Result, whatever the op. -/
namespace Go.Proofs.Ytjnooklalbcamaa
open Go.RowKit
theorem l4Result_any (op d ra rb imm h : Int) (a b : VV) (s : Bool) (w : World) (o1 : 1 ≤ op) (o16 : op ≤ 16) (ha : Bd a) (hb : Bd b) (i0 : -1000000 ≤ imm) (i1 : imm ≤ 1000000) (i2 : op = 12 ∨ op = 13 → 0 ≤ imm ∧ imm ≤ 63) :
    Calls Try.prog 79 #[.agg #[.int .i64 op, .int .i64 d, .int .i64 ra, .int .i64 rb, .int .i64 imm, .int .i64 h], .agg #[.int .i64 a.k, .bool a.s, .int .i64 a.m, .int .i64 a.h, .int .i64 a.lo, .int .i64 a.hi], .agg #[.int .i64 b.k, .bool b.s, .int .i64 b.m, .int .i64 b.h, .int .i64 b.lo, .int .i64 b.hi], .bool s] w fun e w' => e = .returned (resV op imm a b s).v ∧ Below w.heap.size w w' := by
  have hop : op = 1 ∨ op = 2 ∨ op = 3 ∨ op = 4 ∨ op = 5 ∨ op = 6 ∨ op = 7 ∨ op = 8 ∨ op = 9 ∨ op = 10 ∨ op = 11 ∨ op = 12 ∨ op = 13 ∨ op = 14 ∨ op = 15 ∨ op = 16 := by omega
  rcases hop with rfl | rfl | rfl | rfl | rfl | rfl | rfl | rfl | rfl | rfl | rfl | rfl | rfl | rfl | rfl | rfl
  · exact l4Result_1 d ra rb imm h a b s w
  · exact l4Result_2 d ra rb imm h a b s w
  · exact l4Result_3 d ra rb imm h a b s w ha hb
  · exact l4Result_4 d ra rb imm h a b s w
  · exact l4Result_5 d ra rb imm h a b s w ha hb
  · exact l4Result_6 d ra rb imm h a b s w
  · exact l4Result_7 d ra rb imm h a b s w ha hb
  · exact l4Result_8 d ra rb imm h a b s w ha hb
  · exact l4Result_9 d ra rb imm h a b s w
  · exact l4Result_10 d ra rb imm h a b s w ha i0 i1
  · exact l4Result_11 d ra rb imm h a b s w
  · exact l4Result_12 d ra rb imm h a b s w ha (i2 (by omega)).1 (i2 (by omega)).2
  · exact l4Result_13 d ra rb imm h a b s w ha (i2 (by omega)).1 (i2 (by omega)).2
  · exact l4Result_14 d ra rb imm h a b s w ha hb
  · exact l4Result_15 d ra rb imm h a b s w ha hb
  · exact l4Result_16 d ra rb imm h a b s w
end Go.Proofs.Ytjnooklalbcamaa
/- spec.ValidIns, class by class of its ops. -/
namespace Go.Proofs.Ytjnooklalbcamaa
open Go.RowKit

set_option maxHeartbeats 800000 in
theorem specIns_da (op d a b imm h : Int) (w : World) (h1 : 1 ≤ op) (h2 : op ≤ 34) (hr : inB op 1 34 = true) (kD : hasN (usesS op) 68 = true) (kA : hasN (usesS op) 65 = true) (kB : hasN (usesS op) 66 = false) (kI : hasN (usesS op) 73 = false) (kH : hasN (usesS op) 72 = false)
    (kx : (op == 11) = false) (ky : (op == 12) = false) (kz : (op == 13) = false) (kj : jumpB op = false) (kl : immLo op = (-1000000)) (kh : immHi op = 1000000) :
    Calls Try.prog 73 #[.agg #[.int .i64 op, .int .i64 d, .int .i64 a, .int .i64 b, .int .i64 imm, .int .i64 h]] w fun e w' => e = .returned (.bool (specIns op d a b imm h)) ∧ Below w.heap.size w w' := by
  go_enter Try.func73, Try.ntmps73
  go_wp2_with (first | (go_at_call 76; refine (uses_any _ _).mono ?_; rintro e w' ⟨rfl, rfl⟩) | (go_at_call 77; refine (has_n _ _ _ (uses_le _) (by decide) (by decide)).mono ?_; rintro e w' ⟨rfl, rfl⟩) | (go_at_call 105; refine (jump_any _ _).mono ?_; rintro e w' ⟨rfl, rfl⟩) | (go_at_call 49; refine (in_any _ _ _ _).mono ?_; rintro e w' ⟨rfl, rfl⟩))
  all_goals (go_ret; refine ⟨ret_bool ?_, (Below.refl _ _).alloc (Nat.le_refl _) _⟩; simp_all [specIns])

set_option maxHeartbeats 800000 in
theorem specIns_di (op d a b imm h : Int) (w : World) (h1 : 1 ≤ op) (h2 : op ≤ 34) (hr : inB op 1 34 = true) (kD : hasN (usesS op) 68 = true) (kA : hasN (usesS op) 65 = false) (kB : hasN (usesS op) 66 = false) (kI : hasN (usesS op) 73 = true) (kH : hasN (usesS op) 72 = false)
    (kx : (op == 11) = false) (ky : (op == 12) = false) (kz : (op == 13) = false) (kj : jumpB op = false) (kl : immLo op = (-1000000)) (kh : immHi op = 1000000) :
    Calls Try.prog 73 #[.agg #[.int .i64 op, .int .i64 d, .int .i64 a, .int .i64 b, .int .i64 imm, .int .i64 h]] w fun e w' => e = .returned (.bool (specIns op d a b imm h)) ∧ Below w.heap.size w w' := by
  go_enter Try.func73, Try.ntmps73
  go_wp2_with (first | (go_at_call 76; refine (uses_any _ _).mono ?_; rintro e w' ⟨rfl, rfl⟩) | (go_at_call 77; refine (has_n _ _ _ (uses_le _) (by decide) (by decide)).mono ?_; rintro e w' ⟨rfl, rfl⟩) | (go_at_call 105; refine (jump_any _ _).mono ?_; rintro e w' ⟨rfl, rfl⟩) | (go_at_call 49; refine (in_any _ _ _ _).mono ?_; rintro e w' ⟨rfl, rfl⟩))
  all_goals (go_ret; refine ⟨ret_bool ?_, (Below.refl _ _).alloc (Nat.le_refl _) _⟩; simp_all [specIns])

set_option maxHeartbeats 800000 in
theorem specIns_dai (op d a b imm h : Int) (w : World) (h1 : 1 ≤ op) (h2 : op ≤ 34) (hr : inB op 1 34 = true) (kD : hasN (usesS op) 68 = true) (kA : hasN (usesS op) 65 = true) (kB : hasN (usesS op) 66 = false) (kI : hasN (usesS op) 73 = true) (kH : hasN (usesS op) 72 = false)
    (kx : (op == 11) = false) (ky : (op == 12) = false) (kz : (op == 13) = false) (kj : jumpB op = false) (kl : immLo op = (-1000000)) (kh : immHi op = 1000000) :
    Calls Try.prog 73 #[.agg #[.int .i64 op, .int .i64 d, .int .i64 a, .int .i64 b, .int .i64 imm, .int .i64 h]] w fun e w' => e = .returned (.bool (specIns op d a b imm h)) ∧ Below w.heap.size w w' := by
  go_enter Try.func73, Try.ntmps73
  go_wp2_with (first | (go_at_call 76; refine (uses_any _ _).mono ?_; rintro e w' ⟨rfl, rfl⟩) | (go_at_call 77; refine (has_n _ _ _ (uses_le _) (by decide) (by decide)).mono ?_; rintro e w' ⟨rfl, rfl⟩) | (go_at_call 105; refine (jump_any _ _).mono ?_; rintro e w' ⟨rfl, rfl⟩) | (go_at_call 49; refine (in_any _ _ _ _).mono ?_; rintro e w' ⟨rfl, rfl⟩))
  all_goals (go_ret; refine ⟨ret_bool ?_, (Below.refl _ _).alloc (Nat.le_refl _) _⟩; simp_all [specIns])

set_option maxHeartbeats 800000 in
theorem specIns_dai11 (op d a b imm h : Int) (w : World) (h1 : 1 ≤ op) (h2 : op ≤ 34) (hr : inB op 1 34 = true) (kD : hasN (usesS op) 68 = true) (kA : hasN (usesS op) 65 = true) (kB : hasN (usesS op) 66 = false) (kI : hasN (usesS op) 73 = true) (kH : hasN (usesS op) 72 = false)
    (kx : (op == 11) = true) (ky : (op == 12) = false) (kz : (op == 13) = false) (kj : jumpB op = false) (kl : immLo op = 0) (kh : immHi op = 1000000) :
    Calls Try.prog 73 #[.agg #[.int .i64 op, .int .i64 d, .int .i64 a, .int .i64 b, .int .i64 imm, .int .i64 h]] w fun e w' => e = .returned (.bool (specIns op d a b imm h)) ∧ Below w.heap.size w w' := by
  go_enter Try.func73, Try.ntmps73
  go_wp2_with (first | (go_at_call 76; refine (uses_any _ _).mono ?_; rintro e w' ⟨rfl, rfl⟩) | (go_at_call 77; refine (has_n _ _ _ (uses_le _) (by decide) (by decide)).mono ?_; rintro e w' ⟨rfl, rfl⟩) | (go_at_call 105; refine (jump_any _ _).mono ?_; rintro e w' ⟨rfl, rfl⟩) | (go_at_call 49; refine (in_any _ _ _ _).mono ?_; rintro e w' ⟨rfl, rfl⟩))
  all_goals (go_ret; refine ⟨ret_bool ?_, (Below.refl _ _).alloc (Nat.le_refl _) _⟩; simp_all [specIns])

end Go.Proofs.Ytjnooklalbcamaa
/- spec.ValidIns, class by class of its ops. -/
namespace Go.Proofs.Ytjnooklalbcamaa
open Go.RowKit

set_option maxHeartbeats 800000 in
theorem specIns_dai12 (op d a b imm h : Int) (w : World) (h1 : 1 ≤ op) (h2 : op ≤ 34) (hr : inB op 1 34 = true) (kD : hasN (usesS op) 68 = true) (kA : hasN (usesS op) 65 = true) (kB : hasN (usesS op) 66 = false) (kI : hasN (usesS op) 73 = true) (kH : hasN (usesS op) 72 = false)
    (kx : (op == 11) = false) (ky : (op == 12) = true) (_kz : (op == 13) = false) (kj : jumpB op = false) (kl : immLo op = 0) (kh : immHi op = 63) :
    Calls Try.prog 73 #[.agg #[.int .i64 op, .int .i64 d, .int .i64 a, .int .i64 b, .int .i64 imm, .int .i64 h]] w fun e w' => e = .returned (.bool (specIns op d a b imm h)) ∧ Below w.heap.size w w' := by
  go_enter Try.func73, Try.ntmps73
  go_wp2_with (first | (go_at_call 76; refine (uses_any _ _).mono ?_; rintro e w' ⟨rfl, rfl⟩) | (go_at_call 77; refine (has_n _ _ _ (uses_le _) (by decide) (by decide)).mono ?_; rintro e w' ⟨rfl, rfl⟩) | (go_at_call 105; refine (jump_any _ _).mono ?_; rintro e w' ⟨rfl, rfl⟩) | (go_at_call 49; refine (in_any _ _ _ _).mono ?_; rintro e w' ⟨rfl, rfl⟩))
  all_goals (go_ret; refine ⟨ret_bool ?_, (Below.refl _ _).alloc (Nat.le_refl _) _⟩; simp_all [specIns])

set_option maxHeartbeats 800000 in
theorem specIns_dai13 (op d a b imm h : Int) (w : World) (h1 : 1 ≤ op) (h2 : op ≤ 34) (hr : inB op 1 34 = true) (kD : hasN (usesS op) 68 = true) (kA : hasN (usesS op) 65 = true) (kB : hasN (usesS op) 66 = false) (kI : hasN (usesS op) 73 = true) (kH : hasN (usesS op) 72 = false)
    (kx : (op == 11) = false) (ky : (op == 12) = false) (kz : (op == 13) = true) (kj : jumpB op = false) (kl : immLo op = 0) (kh : immHi op = 63) :
    Calls Try.prog 73 #[.agg #[.int .i64 op, .int .i64 d, .int .i64 a, .int .i64 b, .int .i64 imm, .int .i64 h]] w fun e w' => e = .returned (.bool (specIns op d a b imm h)) ∧ Below w.heap.size w w' := by
  go_enter Try.func73, Try.ntmps73
  go_wp2_with (first | (go_at_call 76; refine (uses_any _ _).mono ?_; rintro e w' ⟨rfl, rfl⟩) | (go_at_call 77; refine (has_n _ _ _ (uses_le _) (by decide) (by decide)).mono ?_; rintro e w' ⟨rfl, rfl⟩) | (go_at_call 105; refine (jump_any _ _).mono ?_; rintro e w' ⟨rfl, rfl⟩) | (go_at_call 49; refine (in_any _ _ _ _).mono ?_; rintro e w' ⟨rfl, rfl⟩))
  all_goals (go_ret; refine ⟨ret_bool ?_, (Below.refl _ _).alloc (Nat.le_refl _) _⟩; simp_all [specIns])

set_option maxHeartbeats 800000 in
theorem specIns_ab (op d a b imm h : Int) (w : World) (h1 : 1 ≤ op) (h2 : op ≤ 34) (hr : inB op 1 34 = true) (kD : hasN (usesS op) 68 = false) (kA : hasN (usesS op) 65 = true) (kB : hasN (usesS op) 66 = true) (kI : hasN (usesS op) 73 = false) (kH : hasN (usesS op) 72 = false)
    (kx : (op == 11) = false) (ky : (op == 12) = false) (kz : (op == 13) = false) (kj : jumpB op = false) (kl : immLo op = (-1000000)) (kh : immHi op = 1000000) :
    Calls Try.prog 73 #[.agg #[.int .i64 op, .int .i64 d, .int .i64 a, .int .i64 b, .int .i64 imm, .int .i64 h]] w fun e w' => e = .returned (.bool (specIns op d a b imm h)) ∧ Below w.heap.size w w' := by
  go_enter Try.func73, Try.ntmps73
  go_wp2_with (first | (go_at_call 76; refine (uses_any _ _).mono ?_; rintro e w' ⟨rfl, rfl⟩) | (go_at_call 77; refine (has_n _ _ _ (uses_le _) (by decide) (by decide)).mono ?_; rintro e w' ⟨rfl, rfl⟩) | (go_at_call 105; refine (jump_any _ _).mono ?_; rintro e w' ⟨rfl, rfl⟩) | (go_at_call 49; refine (in_any _ _ _ _).mono ?_; rintro e w' ⟨rfl, rfl⟩))
  all_goals (go_ret; refine ⟨ret_bool ?_, (Below.refl _ _).alloc (Nat.le_refl _) _⟩; simp_all [specIns])

end Go.Proofs.Ytjnooklalbcamaa
/- spec.ValidIns, class by class of its ops. -/
namespace Go.Proofs.Ytjnooklalbcamaa
open Go.RowKit

set_option maxHeartbeats 800000 in
theorem specIns_ai (op d a b imm h : Int) (w : World) (h1 : 1 ≤ op) (h2 : op ≤ 34) (hr : inB op 1 34 = true) (kD : hasN (usesS op) 68 = false) (kA : hasN (usesS op) 65 = true) (kB : hasN (usesS op) 66 = false) (kI : hasN (usesS op) 73 = true) (kH : hasN (usesS op) 72 = false)
    (kx : (op == 11) = false) (ky : (op == 12) = false) (kz : (op == 13) = false) (kj : jumpB op = false) (kl : immLo op = (-1000000)) (kh : immHi op = 1000000) :
    Calls Try.prog 73 #[.agg #[.int .i64 op, .int .i64 d, .int .i64 a, .int .i64 b, .int .i64 imm, .int .i64 h]] w fun e w' => e = .returned (.bool (specIns op d a b imm h)) ∧ Below w.heap.size w w' := by
  go_enter Try.func73, Try.ntmps73
  go_wp2_with (first | (go_at_call 76; refine (uses_any _ _).mono ?_; rintro e w' ⟨rfl, rfl⟩) | (go_at_call 77; refine (has_n _ _ _ (uses_le _) (by decide) (by decide)).mono ?_; rintro e w' ⟨rfl, rfl⟩) | (go_at_call 105; refine (jump_any _ _).mono ?_; rintro e w' ⟨rfl, rfl⟩) | (go_at_call 49; refine (in_any _ _ _ _).mono ?_; rintro e w' ⟨rfl, rfl⟩))
  all_goals (go_ret; refine ⟨ret_bool ?_, (Below.refl _ _).alloc (Nat.le_refl _) _⟩; simp_all [specIns])

set_option maxHeartbeats 800000 in
theorem specIns_daih (op d a b imm h : Int) (w : World) (h1 : 1 ≤ op) (h2 : op ≤ 34) (hr : inB op 1 34 = true) (kD : hasN (usesS op) 68 = true) (kA : hasN (usesS op) 65 = true) (kB : hasN (usesS op) 66 = false) (kI : hasN (usesS op) 73 = true) (kH : hasN (usesS op) 72 = true)
    (kx : (op == 11) = false) (ky : (op == 12) = false) (kz : (op == 13) = false) (kj : jumpB op = false) (kl : immLo op = (-1000000)) (kh : immHi op = 1000000) :
    Calls Try.prog 73 #[.agg #[.int .i64 op, .int .i64 d, .int .i64 a, .int .i64 b, .int .i64 imm, .int .i64 h]] w fun e w' => e = .returned (.bool (specIns op d a b imm h)) ∧ Below w.heap.size w w' := by
  go_enter Try.func73, Try.ntmps73
  go_wp2_with (first | (go_at_call 76; refine (uses_any _ _).mono ?_; rintro e w' ⟨rfl, rfl⟩) | (go_at_call 77; refine (has_n _ _ _ (uses_le _) (by decide) (by decide)).mono ?_; rintro e w' ⟨rfl, rfl⟩) | (go_at_call 105; refine (jump_any _ _).mono ?_; rintro e w' ⟨rfl, rfl⟩) | (go_at_call 49; refine (in_any _ _ _ _).mono ?_; rintro e w' ⟨rfl, rfl⟩))
  all_goals (go_ret; refine ⟨ret_bool ?_, (Below.refl _ _).alloc (Nat.le_refl _) _⟩; simp_all [specIns])

set_option maxHeartbeats 800000 in
theorem specIns_dabh (op d a b imm h : Int) (w : World) (h1 : 1 ≤ op) (h2 : op ≤ 34) (hr : inB op 1 34 = true) (kD : hasN (usesS op) 68 = true) (kA : hasN (usesS op) 65 = true) (kB : hasN (usesS op) 66 = true) (kI : hasN (usesS op) 73 = false) (kH : hasN (usesS op) 72 = true)
    (kx : (op == 11) = false) (ky : (op == 12) = false) (kz : (op == 13) = false) (kj : jumpB op = false) (kl : immLo op = (-1000000)) (kh : immHi op = 1000000) :
    Calls Try.prog 73 #[.agg #[.int .i64 op, .int .i64 d, .int .i64 a, .int .i64 b, .int .i64 imm, .int .i64 h]] w fun e w' => e = .returned (.bool (specIns op d a b imm h)) ∧ Below w.heap.size w w' := by
  go_enter Try.func73, Try.ntmps73
  go_wp2_with (first | (go_at_call 76; refine (uses_any _ _).mono ?_; rintro e w' ⟨rfl, rfl⟩) | (go_at_call 77; refine (has_n _ _ _ (uses_le _) (by decide) (by decide)).mono ?_; rintro e w' ⟨rfl, rfl⟩) | (go_at_call 105; refine (jump_any _ _).mono ?_; rintro e w' ⟨rfl, rfl⟩) | (go_at_call 49; refine (in_any _ _ _ _).mono ?_; rintro e w' ⟨rfl, rfl⟩))
  all_goals (go_ret; refine ⟨ret_bool ?_, (Below.refl _ _).alloc (Nat.le_refl _) _⟩; simp_all [specIns])

end Go.Proofs.Ytjnooklalbcamaa
/- spec.ValidIns, class by class of its ops. -/
namespace Go.Proofs.Ytjnooklalbcamaa
open Go.RowKit

set_option maxHeartbeats 800000 in
theorem specIns_jump (op d a b imm h : Int) (w : World) (h1 : 1 ≤ op) (h2 : op ≤ 34) (hr : inB op 1 34 = true) (kD : hasN (usesS op) 68 = false) (kA : hasN (usesS op) 65 = false) (kB : hasN (usesS op) 66 = false) (kI : hasN (usesS op) 73 = true) (kH : hasN (usesS op) 72 = false)
    (kx : (op == 11) = false) (ky : (op == 12) = false) (kz : (op == 13) = false) (kj : jumpB op = true) (kl : immLo op = 0) (kh : immHi op = 1999) :
    Calls Try.prog 73 #[.agg #[.int .i64 op, .int .i64 d, .int .i64 a, .int .i64 b, .int .i64 imm, .int .i64 h]] w fun e w' => e = .returned (.bool (specIns op d a b imm h)) ∧ Below w.heap.size w w' := by
  go_enter Try.func73, Try.ntmps73
  go_wp2_with (first | (go_at_call 76; refine (uses_any _ _).mono ?_; rintro e w' ⟨rfl, rfl⟩) | (go_at_call 77; refine (has_n _ _ _ (uses_le _) (by decide) (by decide)).mono ?_; rintro e w' ⟨rfl, rfl⟩) | (go_at_call 105; refine (jump_any _ _).mono ?_; rintro e w' ⟨rfl, rfl⟩) | (go_at_call 49; refine (in_any _ _ _ _).mono ?_; rintro e w' ⟨rfl, rfl⟩))
  all_goals (go_ret; refine ⟨ret_bool ?_, (Below.refl _ _).alloc (Nat.le_refl _) _⟩; simp_all [specIns])

set_option maxHeartbeats 800000 in
theorem specIns_halt (op d a b imm h : Int) (w : World) (h1 : 1 ≤ op) (h2 : op ≤ 34) (hr : inB op 1 34 = true) (kD : hasN (usesS op) 68 = false) (kA : hasN (usesS op) 65 = false) (kB : hasN (usesS op) 66 = false) (kI : hasN (usesS op) 73 = false) (kH : hasN (usesS op) 72 = false)
    (kx : (op == 11) = false) (ky : (op == 12) = false) (kz : (op == 13) = false) (kj : jumpB op = false) (kl : immLo op = (-1000000)) (kh : immHi op = 1000000) :
    Calls Try.prog 73 #[.agg #[.int .i64 op, .int .i64 d, .int .i64 a, .int .i64 b, .int .i64 imm, .int .i64 h]] w fun e w' => e = .returned (.bool (specIns op d a b imm h)) ∧ Below w.heap.size w w' := by
  go_enter Try.func73, Try.ntmps73
  go_wp2_with (first | (go_at_call 76; refine (uses_any _ _).mono ?_; rintro e w' ⟨rfl, rfl⟩) | (go_at_call 77; refine (has_n _ _ _ (uses_le _) (by decide) (by decide)).mono ?_; rintro e w' ⟨rfl, rfl⟩) | (go_at_call 105; refine (jump_any _ _).mono ?_; rintro e w' ⟨rfl, rfl⟩) | (go_at_call 49; refine (in_any _ _ _ _).mono ?_; rintro e w' ⟨rfl, rfl⟩))
  all_goals (go_ret; refine ⟨ret_bool ?_, (Below.refl _ _).alloc (Nat.le_refl _) _⟩; simp_all [specIns])

set_option maxHeartbeats 800000 in
theorem specIns_dab (op d a b imm h : Int) (w : World) (h1 : 1 ≤ op) (h2 : op ≤ 34) (hr : inB op 1 34 = true) (kD : hasN (usesS op) 68 = true) (kA : hasN (usesS op) 65 = true) (kB : hasN (usesS op) 66 = true) (kI : hasN (usesS op) 73 = false) (kH : hasN (usesS op) 72 = false)
    (kx : (op == 11) = false) (ky : (op == 12) = false) (kz : (op == 13) = false) (kj : jumpB op = false) (kl : immLo op = (-1000000)) (kh : immHi op = 1000000) :
    Calls Try.prog 73 #[.agg #[.int .i64 op, .int .i64 d, .int .i64 a, .int .i64 b, .int .i64 imm, .int .i64 h]] w fun e w' => e = .returned (.bool (specIns op d a b imm h)) ∧ Below w.heap.size w w' := by
  go_enter Try.func73, Try.ntmps73
  go_wp2_with (first | (go_at_call 76; refine (uses_any _ _).mono ?_; rintro e w' ⟨rfl, rfl⟩) | (go_at_call 77; refine (has_n _ _ _ (uses_le _) (by decide) (by decide)).mono ?_; rintro e w' ⟨rfl, rfl⟩) | (go_at_call 105; refine (jump_any _ _).mono ?_; rintro e w' ⟨rfl, rfl⟩) | (go_at_call 49; refine (in_any _ _ _ _).mono ?_; rintro e w' ⟨rfl, rfl⟩))
  all_goals (go_ret; refine ⟨ret_bool ?_, (Below.refl _ _).alloc (Nat.le_refl _) _⟩; simp_all [specIns])

end Go.Proofs.Ytjnooklalbcamaa
/- The two ValidIns have one answer (plain mathematics), and spec.ValidIns at every instruction. -/
namespace Go.Proofs.Ytjnooklalbcamaa
open Go.RowKit

theorem uD_eq (op : Int) : hasN (usesS op) 68 = bitB op 1 := by unfold hasN usesS bitB usesL fieldsI; (repeat' split); all_goals first | rfl | (exfalso; omega)
theorem uA_eq (op : Int) : hasN (usesS op) 65 = bitB op 2 := by unfold hasN usesS bitB usesL fieldsI; (repeat' split); all_goals first | rfl | (exfalso; omega)
theorem uB_eq (op : Int) : hasN (usesS op) 66 = bitB op 4 := by unfold hasN usesS bitB usesL fieldsI; (repeat' split); all_goals first | rfl | (exfalso; omega)
theorem uI_eq (op : Int) : hasN (usesS op) 73 = bitB op 8 := by unfold hasN usesS bitB usesL fieldsI; (repeat' split); all_goals first | rfl | (exfalso; omega)
theorem uH_eq (op : Int) : hasN (usesS op) 72 = bitB op 16 := by unfold hasN usesS bitB usesL fieldsI; (repeat' split); all_goals first | rfl | (exfalso; omega)
theorem field_eq (u : Bool) (v lo hi : Int) (h : lo ≤ 0 ∧ 0 ≤ hi) : ((u || v == 0) && inB v lo hi) = fieldB u v lo hi := by
  cases u
  · by_cases g : v = 0
    · subst g; simp [fieldB, inB, h.1, h.2]
    · simp [fieldB, g]
  · simp [fieldB]
theorem imm_ok (op : Int) : immLo op ≤ 0 ∧ 0 ≤ immHi op := by
  unfold immLo immHi; constructor <;> (repeat' split) <;> omega
theorem ins_same (op d a b imm h : Int) : specIns op d a b imm h = implIns op d a b imm h := by
  unfold specIns implIns
  rw [uD_eq, uA_eq, uB_eq, uI_eq, uH_eq, ← field_eq _ d 0 7 (by omega), ← field_eq _ a 0 7 (by omega), ← field_eq _ b 0 7 (by omega), ← field_eq _ h 0 7 (by omega), ← field_eq _ imm _ _ (imm_ok op)]
  ac_rfl

set_option maxHeartbeats 800000 in
theorem specIns_out (op d a b imm h : Int) (w : World) (hr : ¬ (1 ≤ op ∧ op ≤ 34)) :
    Calls Try.prog 73 #[.agg #[.int .i64 op, .int .i64 d, .int .i64 a, .int .i64 b, .int .i64 imm, .int .i64 h]] w fun e w' => e = .returned (.bool (specIns op d a b imm h)) ∧ Below w.heap.size w w' := by
  by_cases h1 : 1 ≤ op
  · have h2 : 34 < op := by omega
    go_enter Try.func73, Try.ntmps73
    go_wp2
    go_ret
    refine ⟨ret_bool ?_, (Below.refl _ _).alloc (Nat.le_refl _) _⟩
    have : inB op 1 34 = false := by simp [inB]; omega
    simp [specIns, this]
  · have h2 : op < 1 := by omega
    go_enter Try.func73, Try.ntmps73
    go_wp2
    go_ret
    refine ⟨ret_bool ?_, (Below.refl _ _).alloc (Nat.le_refl _) _⟩
    have : inB op 1 34 = false := by simp [inB]; omega
    simp [specIns, this]
theorem class_of (op : Int) (h1 : 1 ≤ op) (h2 : op ≤ 34) : op = 1 ∨ op = 2 ∨ op = 10 ∨ op = 11 ∨ op = 12 ∨ op = 13 ∨ op = 17 ∨ op = 18 ∨ (21 ≤ op ∧ op ≤ 24) ∨ (25 ≤ op ∧ op ≤ 28) ∨ (29 ≤ op ∧ op ≤ 33) ∨ op = 34 ∨ ((3 ≤ op ∧ op ≤ 9) ∨ (14 ≤ op ∧ op ≤ 16) ∨ (19 ≤ op ∧ op ≤ 20)) := by omega
theorem specIns_any (op d a b imm h : Int) (w : World) :
    Calls Try.prog 73 #[.agg #[.int .i64 op, .int .i64 d, .int .i64 a, .int .i64 b, .int .i64 imm, .int .i64 h]] w fun e w' => e = .returned (.bool (implIns op d a b imm h)) ∧ Below w.heap.size w w' := by
  rw [← ins_same]
  by_cases hr : 1 ≤ op ∧ op ≤ 34
  · obtain ⟨h1, h2⟩ := hr
    have hi : inB op 1 34 = true := by simp [inB]; omega
    rcases class_of op h1 h2 with e | e | e | e | e | e | e | e | e | e | e | e | e
    · subst e; exact specIns_da _ _ _ _ _ _ _ h1 h2 hi (by rfl) (by rfl) (by rfl) (by rfl) (by rfl) (by rfl) (by rfl) (by rfl) (by rfl) (by rfl) (by rfl)
    · subst e; exact specIns_di _ _ _ _ _ _ _ h1 h2 hi (by rfl) (by rfl) (by rfl) (by rfl) (by rfl) (by rfl) (by rfl) (by rfl) (by rfl) (by rfl) (by rfl)
    · subst e; exact specIns_dai _ _ _ _ _ _ _ h1 h2 hi (by rfl) (by rfl) (by rfl) (by rfl) (by rfl) (by rfl) (by rfl) (by rfl) (by rfl) (by rfl) (by rfl)
    · subst e; exact specIns_dai11 _ _ _ _ _ _ _ h1 h2 hi (by rfl) (by rfl) (by rfl) (by rfl) (by rfl) (by rfl) (by rfl) (by rfl) (by rfl) (by rfl) (by rfl)
    · subst e; exact specIns_dai12 _ _ _ _ _ _ _ h1 h2 hi (by rfl) (by rfl) (by rfl) (by rfl) (by rfl) (by rfl) (by rfl) (by rfl) (by rfl) (by rfl) (by rfl)
    · subst e; exact specIns_dai13 _ _ _ _ _ _ _ h1 h2 hi (by rfl) (by rfl) (by rfl) (by rfl) (by rfl) (by rfl) (by rfl) (by rfl) (by rfl) (by rfl) (by rfl)
    · subst e; exact specIns_ab _ _ _ _ _ _ _ h1 h2 hi (by rfl) (by rfl) (by rfl) (by rfl) (by rfl) (by rfl) (by rfl) (by rfl) (by rfl) (by rfl) (by rfl)
    · subst e; exact specIns_ai _ _ _ _ _ _ _ h1 h2 hi (by rfl) (by rfl) (by rfl) (by rfl) (by rfl) (by rfl) (by rfl) (by rfl) (by rfl) (by rfl) (by rfl)
    · have hu : usesL op = [68, 65, 73, 72] := by unfold usesL; (repeat' split); all_goals first | rfl | (exfalso; omega)
      exact specIns_daih _ _ _ _ _ _ _ h1 h2 hi (by unfold usesS; rw [hu]; rfl) (by unfold usesS; rw [hu]; rfl) (by unfold usesS; rw [hu]; rfl) (by unfold usesS; rw [hu]; rfl) (by unfold usesS; rw [hu]; rfl) (by simp; omega) (by simp; omega) (by simp; omega) (by simp [jumpB]; omega) (by unfold immLo; rw [if_neg (by omega)]) (by unfold immHi; rw [if_neg (by omega), if_neg (by omega)])
    · have hu : usesL op = [68, 65, 66, 72] := by unfold usesL; (repeat' split); all_goals first | rfl | (exfalso; omega)
      exact specIns_dabh _ _ _ _ _ _ _ h1 h2 hi (by unfold usesS; rw [hu]; rfl) (by unfold usesS; rw [hu]; rfl) (by unfold usesS; rw [hu]; rfl) (by unfold usesS; rw [hu]; rfl) (by unfold usesS; rw [hu]; rfl) (by simp; omega) (by simp; omega) (by simp; omega) (by simp [jumpB]; omega) (by unfold immLo; rw [if_neg (by omega)]) (by unfold immHi; rw [if_neg (by omega), if_neg (by omega)])
    · have hu : usesL op = [73] := by unfold usesL; (repeat' split); all_goals first | rfl | (exfalso; omega)
      exact specIns_jump _ _ _ _ _ _ _ h1 h2 hi (by unfold usesS; rw [hu]; rfl) (by unfold usesS; rw [hu]; rfl) (by unfold usesS; rw [hu]; rfl) (by unfold usesS; rw [hu]; rfl) (by unfold usesS; rw [hu]; rfl) (by simp; omega) (by simp; omega) (by simp; omega) (by simp [jumpB]; omega) (by unfold immLo; rw [if_pos (by omega)]) (by unfold immHi; rw [if_neg (by omega), if_pos (by omega)])
    · subst e; exact specIns_halt _ _ _ _ _ _ _ h1 h2 hi (by rfl) (by rfl) (by rfl) (by rfl) (by rfl) (by rfl) (by rfl) (by rfl) (by rfl) (by rfl) (by rfl)
    · have hu : usesL op = [68, 65, 66] := by unfold usesL; (repeat' split); all_goals first | rfl | (exfalso; omega)
      exact specIns_dab _ _ _ _ _ _ _ h1 h2 hi (by unfold usesS; rw [hu]; rfl) (by unfold usesS; rw [hu]; rfl) (by unfold usesS; rw [hu]; rfl) (by unfold usesS; rw [hu]; rfl) (by unfold usesS; rw [hu]; rfl) (by simp; omega) (by simp; omega) (by simp; omega) (by simp [jumpB]; omega) (by unfold immLo; rw [if_neg (by omega)]) (by unfold immHi; rw [if_neg (by omega), if_neg (by omega)])
  · exact specIns_out _ _ _ _ _ _ _ hr
end Go.Proofs.Ytjnooklalbcamaa
