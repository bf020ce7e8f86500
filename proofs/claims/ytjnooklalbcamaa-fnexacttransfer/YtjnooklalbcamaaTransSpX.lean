import Derived.Test.YtjnooklalbcamaaOfTransSp1
import Derived.Test.YtjnooklalbcamaaTransAccF
import Derived.Test.YtjnooklalbcamaaOfTransAccH
/- Transfer, the model's word. -/
namespace Go.Proofs.Ytjnooklalbcamaa
open Go.RowKit

set_option maxRecDepth 20000 in
set_option maxHeartbeats 8000000 in
theorem specTransfer_25 (bH cH nH : Nat) (S : Nat → HS) (bR cR nR : Nat) (V0 : Nat → VV) (bA cA : Nat) (V : Nat → VV) (z c : Int) (di ia ib q : Nat) (hd : di < 8) (ha : ia < 8) (hb : ib < 8) (w : World) (lH : nH ≤ 1048576) (lR : nR ≤ 1048576) (h1 : SigCp w bH nH S bR nR V0) (h2 : Arr w bA (8 * 6) (vF V)) (hok : absOK nH S nR V0 8 V z c = true) (hik : implIns 25 (di : Int) (ia : Int) (ib : Int) 0 (q : Int) = true) (hA : Bd (V ia)) (hB : Bd (V ib)) (hqi : (V ia).k = 1 → (V ia).h = (q : Int) → q < nH) :
    Calls Try.prog 32 #[.agg #[.slice (some ⟨bH, 0, none⟩) nH cH, .slice (some ⟨bR, 0, none⟩) nR cR], .agg #[.slice (some ⟨bA, 0, none⟩) 8 cA, .int .i64 z, .int .i64 c], .agg #[.int .i64 25, .int .i64 (di : Int), .int .i64 (ia : Int), .int .i64 (ib : Int), .int .i64 0, .int .i64 (q : Int)]] w fun e w' => TrAns w w' e (accI 25 0 (q : Int) (V ia) (V ib) (V di) (S q)) (updV V di (numV (S q).s 255)) z c ∧ Below w.heap.size w w' := by
  have H1 : Hid (SigCp w bH nH S bR nR V0) := h1
  have H2 : Hid (Arr w bA (8 * 6) (vF V)) := h2
  have HOK : Hid (absOK nH S nR V0 8 V z c = true) := hok
  have HIK : Hid (implIns 25 (di : Int) (ia : Int) (ib : Int) 0 (q : Int) = true) := hik
  have HBA : Hid (Bd (V ia)) := hA
  have HBB : Hid (Bd (V ib)) := hB
  have HQI : Hid ((V ia).k = 1 → (V ia).h = (q : Int) → q < nH) := hqi
  clear h1 h2 hok hik hA hB hqi
  obtain ⟨err, herr⟩ : ∃ x, (accI 25 0 (q : Int) (V ia) (V ib) (V di) (S q)) = x := ⟨_, rfl⟩
  rw [herr]
  have HERR : Hid ((accI 25 0 (q : Int) (V ia) (V ib) (V di) (S q)) = err) := herr
  clear herr
  obtain ⟨W1, hW1⟩ : ∃ x, (updV V di (numV (S q).s 255)) = x := ⟨_, rfl⟩
  rw [hW1]
  have HW1 : Hid ((updV V di (numV (S q).s 255)) = W1) := hW1
  clear hW1
  go_enter Try.func32, Try.ntmps32
  go_upto_region 1 with fail
  obtain ⟨u, hu, pu⟩ := it_pre w bH nH cH bR nR cR bA 8 cA (z := z) (c := c) (op := 25) (d := (di : Int)) (ra := (ia : Int)) (rb := (ib : Int)) (imm := 0) (h := (q : Int))
  rw [hu]
  have P0 : Hid (ItP w u bH nH cH bR nR cR bA 8 cA z c 25 (di : Int) (ia : Int) (ib : Int) 0 (q : Int)) := pu
  clear hu pu
  obtain ⟨⟨s0, s1⟩, ⟨a0, a1, a2⟩, r0, r1, r2, r3⟩ := it_cells P0.out
  obtain ⟨i0, i1, i2, i3, i4, i5⟩ := ins_cells P0.out.I
  have rl := P0.out.R.1
  have rf := P0.out.RF
  go_wp2_with fail
  refine (specAbs_any bH cH nH S bR cR nR V0 bA cA 8 V z c u lH lR (by omega) (H1.out.below P0.out.bel) (H2.out.below P0.out.bel H2.out.lt)).mono ?_
  rintro e u1 ⟨rfl, hbe⟩
  have P1 : Hid (ItP w u1 bH nH cH bR nR cR bA 8 cA z c 25 (di : Int) (ia : Int) (ib : Int) 0 (q : Int)) := P0.out.below hbe
  clear hbe P0
  clear s0 s1 a0 a1 a2 r0 r1 r2 r3 i0 i1 i2 i3 i4 i5 rl rf
  rw [HOK.out]
  obtain ⟨⟨s0, s1⟩, ⟨a0, a1, a2⟩, r0, r1, r2, r3⟩ := it_cells P1.out
  obtain ⟨i0, i1, i2, i3, i4, i5⟩ := ins_cells P1.out.I
  have rl := P1.out.R.1
  have rf := P1.out.RF
  go_wp2_with fail
  refine (specIns_any 25 (di : Int) (ia : Int) (ib : Int) 0 (q : Int) _).mono ?_
  rintro e u2 ⟨rfl, hbe⟩
  have P2 : Hid (ItP w u2 bH nH cH bR nR cR bA 8 cA z c 25 (di : Int) (ia : Int) (ib : Int) 0 (q : Int)) := P1.out.below hbe
  clear hbe P1
  clear s0 s1 a0 a1 a2 r0 r1 r2 r3 i0 i1 i2 i3 i4 i5 rl rf
  rw [HIK.out]
  obtain ⟨⟨s0, s1⟩, ⟨a0, a1, a2⟩, r0, r1, r2, r3⟩ := it_cells P2.out
  obtain ⟨i0, i1, i2, i3, i4, i5⟩ := ins_cells P2.out.I
  have rl := P2.out.R.1
  have rf := P2.out.RF
  go_wp2_with fail
  refine (l4Abs_any bA cA V z c u2 (H2.out.below P2.out.bel H2.out.lt)).mono ?_
  rintro e u3 ⟨g, cg, hg, rfl, hbe, hG⟩
  have P3 : Hid (ItP w u3 bH nH cH bR nR cR bA 8 cA z c 25 (di : Int) (ia : Int) (ib : Int) 0 (q : Int)) := P2.out.below hbe
  have HG3 : Hid (Arr u3 g (8 * 6) (vF V)) := hG
  have og : w.heap.size + 1 + 1 + 1 < g := Nat.lt_of_lt_of_le P2.out.R.1 hg
  clear hbe hG hg P2
  clear s0 s1 a0 a1 a2 r0 r1 r2 r3 i0 i1 i2 i3 i4 i5 rl rf
  obtain ⟨⟨s0, s1⟩, ⟨a0, a1, a2⟩, r0, r1, r2, r3⟩ := it_cells P3.out
  obtain ⟨i0, i1, i2, i3, i4, i5⟩ := ins_cells P3.out.I
  have rl := P3.out.R.1
  have rf := P3.out.RF
  have lg := HG3.out.lt
  go_upto_region 4 with fail
  clear s0 s1 a0 a1 a2 r0 r1 r2 r3 i0 i1 i2 i3 i4 i5 rl rf
  clear lg
  obtain ⟨u4, hu4, b4, e4⟩ : ∃ v, u3.alloc (.cells #[.slice (some ⟨g, 0, none⟩) 8 cg, .int .i64 z, .int .i64 c] 66) = v ∧ Below u3.heap.size u3 v ∧ Cl v u3.heap.size [.slice (some ⟨g, 0, none⟩) 8 cg, .int .i64 z, .int .i64 c] := ⟨_, rfl, (Below.refl _ _).alloc (Nat.le_refl _) _, Cl.new⟩
  rw [hu4]
  clear hu4
  have P4 : Hid (ItP w u4 bH nH cH bR nR cR bA 8 cA z c 25 (di : Int) (ia : Int) (ib : Int) 0 (q : Int)) := P3.out.below b4
  have HG4 : Hid (Arr u4 g (8 * 6) (vF V)) := HG3.out.below b4 HG3.out.lt
  obtain ⟨q0, q1, q2⟩ := clg e4
  clear b4 e4 P3 HG3
  generalize u3.heap.size = no at *
  obtain ⟨⟨s0, s1⟩, ⟨a0, a1, a2⟩, r0, r1, r2, r3⟩ := it_cells P4.out
  obtain ⟨i0, i1, i2, i3, i4, i5⟩ := ins_cells P4.out.I
  have rl := P4.out.R.1
  have rf := P4.out.RF
  go_wp2_with fail
  refine (l4Access_25 bH nH cH bR nR cR g cg S V z c di ia ib q hd ha hb u4 lH HQI.out (H1.out.h.below P4.out.bel H1.out.h.lt) HG4.out HBA.out HBB.out).mono ?_
  rintro e u5 ⟨hx, hbe⟩
  rw [HERR.out, HW1.out] at hx
  have rl5 : w.heap.size + 1 + 1 + 1 < u5.heap.size := Nat.lt_of_lt_of_le P4.out.R.1 hbe.size
  have bl5 : Below w.heap.size w u5 := P4.out.bel.trans (hbe.mono (by omega))
  have t0 : u5.cell? ⟨w.heap.size + 1 + 1 + 1, 0, none⟩ = some (.int .i64 0) := (hbe.cell (p := ⟨w.heap.size + 1 + 1 + 1, 0, none⟩) (show _ < g by omega)).trans r0
  have t1 : u5.cell? ⟨w.heap.size + 1 + 1 + 1, 1, none⟩ = some (.slice none 0 0) := (hbe.cell (p := ⟨w.heap.size + 1 + 1 + 1, 1, none⟩) (show _ < g by omega)).trans r1
  have t2 : u5.cell? ⟨w.heap.size + 1 + 1 + 1, 2, none⟩ = some (.int .i64 0) := (hbe.cell (p := ⟨w.heap.size + 1 + 1 + 1, 2, none⟩) (show _ < g by omega)).trans r2
  have t3 : u5.cell? ⟨w.heap.size + 1 + 1 + 1, 3, none⟩ = some (.int .i64 0) := (hbe.cell (p := ⟨w.heap.size + 1 + 1 + 1, 3, none⟩) (show _ < g by omega)).trans r3
  have tf : ∀ i, u5.frozen? ⟨w.heap.size + 1 + 1 + 1, i, none⟩ = false := fun i => (hbe.frozen (p := ⟨w.heap.size + 1 + 1 + 1, i, none⟩) (show _ < g by omega)).trans (rf i)
  have HBL : Hid (Below w.heap.size w u5) := bl5
  clear s0 s1 a0 a1 a2 r0 r1 r2 r3 i0 i1 i2 i3 i4 i5 rl rf
  clear q0 q1 q2 bl5 hbe P4 HG4
  rcases hx with ⟨hne, rfl⟩ | ⟨heq, rfl, hAr⟩
  · have HNE : Hid (err ≠ 0) := hne
    clear hne
    go_wp2
    refine bodyPost_ret (v := .agg #[.int .i64 err, .slice none 0 0, .int .i64 0, .int .i64 0]) (by simp [results, Try.results32, go_sem, *]) rfl ⟨Or.inl ⟨HNE.out, rfl⟩, ?_⟩
    (iterate 4 refine Below.setCell ?_ (show w.heap.size ≤ w.heap.size + 1 + 1 + 1 by omega) _)
    exact HBL.out
  · have HEQ : Hid (err = 0) := heq
    have HAR : Hid (Arr u5 g (8 * 6) (vF W1)) := hAr
    clear heq hAr
    go_wp2
    refine bodyPost_ret (v := .agg #[.int .i64 0, .slice (some ⟨g, 0, none⟩) 8 cg, .int .i64 z, .int .i64 c]) (by simp [results, Try.results32, go_sem, *]) rfl ⟨Or.inr ⟨HEQ.out, g, cg, by omega, rfl, ?_⟩, ?_⟩
    · (iterate 4 refine Arr.other ?_ (show w.heap.size + 1 + 1 + 1 ≠ g by omega) _)
      exact HAR.out
    · (iterate 4 refine Below.setCell ?_ (show w.heap.size ≤ w.heap.size + 1 + 1 + 1 by omega) _)
      exact HBL.out

set_option maxRecDepth 20000 in
set_option maxHeartbeats 8000000 in
theorem specTransfer_26 (bH cH nH : Nat) (S : Nat → HS) (bR cR nR : Nat) (V0 : Nat → VV) (bA cA : Nat) (V : Nat → VV) (z c : Int) (di ia ib q : Nat) (hd : di < 8) (ha : ia < 8) (hb : ib < 8) (w : World) (lH : nH ≤ 1048576) (lR : nR ≤ 1048576) (h1 : SigCp w bH nH S bR nR V0) (h2 : Arr w bA (8 * 6) (vF V)) (hok : absOK nH S nR V0 8 V z c = true) (hik : implIns 26 (di : Int) (ia : Int) (ib : Int) 0 (q : Int) = true) (hA : Bd (V ia)) (hB : Bd (V ib)) (hqi : (V ia).k = 1 → (V ia).h = (q : Int) → q < nH) :
    Calls Try.prog 32 #[.agg #[.slice (some ⟨bH, 0, none⟩) nH cH, .slice (some ⟨bR, 0, none⟩) nR cR], .agg #[.slice (some ⟨bA, 0, none⟩) 8 cA, .int .i64 z, .int .i64 c], .agg #[.int .i64 26, .int .i64 (di : Int), .int .i64 (ia : Int), .int .i64 (ib : Int), .int .i64 0, .int .i64 (q : Int)]] w fun e w' => TrAns w w' e (accI 26 0 (q : Int) (V ia) (V ib) (V di) (S q)) (updV V di (numV (S q).s (-1))) z c ∧ Below w.heap.size w w' := by
  have H1 : Hid (SigCp w bH nH S bR nR V0) := h1
  have H2 : Hid (Arr w bA (8 * 6) (vF V)) := h2
  have HOK : Hid (absOK nH S nR V0 8 V z c = true) := hok
  have HIK : Hid (implIns 26 (di : Int) (ia : Int) (ib : Int) 0 (q : Int) = true) := hik
  have HBA : Hid (Bd (V ia)) := hA
  have HBB : Hid (Bd (V ib)) := hB
  have HQI : Hid ((V ia).k = 1 → (V ia).h = (q : Int) → q < nH) := hqi
  clear h1 h2 hok hik hA hB hqi
  obtain ⟨err, herr⟩ : ∃ x, (accI 26 0 (q : Int) (V ia) (V ib) (V di) (S q)) = x := ⟨_, rfl⟩
  rw [herr]
  have HERR : Hid ((accI 26 0 (q : Int) (V ia) (V ib) (V di) (S q)) = err) := herr
  clear herr
  obtain ⟨W1, hW1⟩ : ∃ x, (updV V di (numV (S q).s (-1))) = x := ⟨_, rfl⟩
  rw [hW1]
  have HW1 : Hid ((updV V di (numV (S q).s (-1))) = W1) := hW1
  clear hW1
  go_enter Try.func32, Try.ntmps32
  go_upto_region 1 with fail
  obtain ⟨u, hu, pu⟩ := it_pre w bH nH cH bR nR cR bA 8 cA (z := z) (c := c) (op := 26) (d := (di : Int)) (ra := (ia : Int)) (rb := (ib : Int)) (imm := 0) (h := (q : Int))
  rw [hu]
  have P0 : Hid (ItP w u bH nH cH bR nR cR bA 8 cA z c 26 (di : Int) (ia : Int) (ib : Int) 0 (q : Int)) := pu
  clear hu pu
  obtain ⟨⟨s0, s1⟩, ⟨a0, a1, a2⟩, r0, r1, r2, r3⟩ := it_cells P0.out
  obtain ⟨i0, i1, i2, i3, i4, i5⟩ := ins_cells P0.out.I
  have rl := P0.out.R.1
  have rf := P0.out.RF
  go_wp2_with fail
  refine (specAbs_any bH cH nH S bR cR nR V0 bA cA 8 V z c u lH lR (by omega) (H1.out.below P0.out.bel) (H2.out.below P0.out.bel H2.out.lt)).mono ?_
  rintro e u1 ⟨rfl, hbe⟩
  have P1 : Hid (ItP w u1 bH nH cH bR nR cR bA 8 cA z c 26 (di : Int) (ia : Int) (ib : Int) 0 (q : Int)) := P0.out.below hbe
  clear hbe P0
  clear s0 s1 a0 a1 a2 r0 r1 r2 r3 i0 i1 i2 i3 i4 i5 rl rf
  rw [HOK.out]
  obtain ⟨⟨s0, s1⟩, ⟨a0, a1, a2⟩, r0, r1, r2, r3⟩ := it_cells P1.out
  obtain ⟨i0, i1, i2, i3, i4, i5⟩ := ins_cells P1.out.I
  have rl := P1.out.R.1
  have rf := P1.out.RF
  go_wp2_with fail
  refine (specIns_any 26 (di : Int) (ia : Int) (ib : Int) 0 (q : Int) _).mono ?_
  rintro e u2 ⟨rfl, hbe⟩
  have P2 : Hid (ItP w u2 bH nH cH bR nR cR bA 8 cA z c 26 (di : Int) (ia : Int) (ib : Int) 0 (q : Int)) := P1.out.below hbe
  clear hbe P1
  clear s0 s1 a0 a1 a2 r0 r1 r2 r3 i0 i1 i2 i3 i4 i5 rl rf
  rw [HIK.out]
  obtain ⟨⟨s0, s1⟩, ⟨a0, a1, a2⟩, r0, r1, r2, r3⟩ := it_cells P2.out
  obtain ⟨i0, i1, i2, i3, i4, i5⟩ := ins_cells P2.out.I
  have rl := P2.out.R.1
  have rf := P2.out.RF
  go_wp2_with fail
  refine (l4Abs_any bA cA V z c u2 (H2.out.below P2.out.bel H2.out.lt)).mono ?_
  rintro e u3 ⟨g, cg, hg, rfl, hbe, hG⟩
  have P3 : Hid (ItP w u3 bH nH cH bR nR cR bA 8 cA z c 26 (di : Int) (ia : Int) (ib : Int) 0 (q : Int)) := P2.out.below hbe
  have HG3 : Hid (Arr u3 g (8 * 6) (vF V)) := hG
  have og : w.heap.size + 1 + 1 + 1 < g := Nat.lt_of_lt_of_le P2.out.R.1 hg
  clear hbe hG hg P2
  clear s0 s1 a0 a1 a2 r0 r1 r2 r3 i0 i1 i2 i3 i4 i5 rl rf
  obtain ⟨⟨s0, s1⟩, ⟨a0, a1, a2⟩, r0, r1, r2, r3⟩ := it_cells P3.out
  obtain ⟨i0, i1, i2, i3, i4, i5⟩ := ins_cells P3.out.I
  have rl := P3.out.R.1
  have rf := P3.out.RF
  have lg := HG3.out.lt
  go_upto_region 4 with fail
  clear s0 s1 a0 a1 a2 r0 r1 r2 r3 i0 i1 i2 i3 i4 i5 rl rf
  clear lg
  obtain ⟨u4, hu4, b4, e4⟩ : ∃ v, u3.alloc (.cells #[.slice (some ⟨g, 0, none⟩) 8 cg, .int .i64 z, .int .i64 c] 66) = v ∧ Below u3.heap.size u3 v ∧ Cl v u3.heap.size [.slice (some ⟨g, 0, none⟩) 8 cg, .int .i64 z, .int .i64 c] := ⟨_, rfl, (Below.refl _ _).alloc (Nat.le_refl _) _, Cl.new⟩
  rw [hu4]
  clear hu4
  have P4 : Hid (ItP w u4 bH nH cH bR nR cR bA 8 cA z c 26 (di : Int) (ia : Int) (ib : Int) 0 (q : Int)) := P3.out.below b4
  have HG4 : Hid (Arr u4 g (8 * 6) (vF V)) := HG3.out.below b4 HG3.out.lt
  obtain ⟨q0, q1, q2⟩ := clg e4
  clear b4 e4 P3 HG3
  generalize u3.heap.size = no at *
  obtain ⟨⟨s0, s1⟩, ⟨a0, a1, a2⟩, r0, r1, r2, r3⟩ := it_cells P4.out
  obtain ⟨i0, i1, i2, i3, i4, i5⟩ := ins_cells P4.out.I
  have rl := P4.out.R.1
  have rf := P4.out.RF
  go_wp2_with fail
  refine (l4Access_26 bH nH cH bR nR cR g cg S V z c di ia ib q hd ha hb u4 lH HQI.out (H1.out.h.below P4.out.bel H1.out.h.lt) HG4.out HBA.out HBB.out).mono ?_
  rintro e u5 ⟨hx, hbe⟩
  rw [HERR.out, HW1.out] at hx
  have rl5 : w.heap.size + 1 + 1 + 1 < u5.heap.size := Nat.lt_of_lt_of_le P4.out.R.1 hbe.size
  have bl5 : Below w.heap.size w u5 := P4.out.bel.trans (hbe.mono (by omega))
  have t0 : u5.cell? ⟨w.heap.size + 1 + 1 + 1, 0, none⟩ = some (.int .i64 0) := (hbe.cell (p := ⟨w.heap.size + 1 + 1 + 1, 0, none⟩) (show _ < g by omega)).trans r0
  have t1 : u5.cell? ⟨w.heap.size + 1 + 1 + 1, 1, none⟩ = some (.slice none 0 0) := (hbe.cell (p := ⟨w.heap.size + 1 + 1 + 1, 1, none⟩) (show _ < g by omega)).trans r1
  have t2 : u5.cell? ⟨w.heap.size + 1 + 1 + 1, 2, none⟩ = some (.int .i64 0) := (hbe.cell (p := ⟨w.heap.size + 1 + 1 + 1, 2, none⟩) (show _ < g by omega)).trans r2
  have t3 : u5.cell? ⟨w.heap.size + 1 + 1 + 1, 3, none⟩ = some (.int .i64 0) := (hbe.cell (p := ⟨w.heap.size + 1 + 1 + 1, 3, none⟩) (show _ < g by omega)).trans r3
  have tf : ∀ i, u5.frozen? ⟨w.heap.size + 1 + 1 + 1, i, none⟩ = false := fun i => (hbe.frozen (p := ⟨w.heap.size + 1 + 1 + 1, i, none⟩) (show _ < g by omega)).trans (rf i)
  have HBL : Hid (Below w.heap.size w u5) := bl5
  clear s0 s1 a0 a1 a2 r0 r1 r2 r3 i0 i1 i2 i3 i4 i5 rl rf
  clear q0 q1 q2 bl5 hbe P4 HG4
  rcases hx with ⟨hne, rfl⟩ | ⟨heq, rfl, hAr⟩
  · have HNE : Hid (err ≠ 0) := hne
    clear hne
    go_wp2
    refine bodyPost_ret (v := .agg #[.int .i64 err, .slice none 0 0, .int .i64 0, .int .i64 0]) (by simp [results, Try.results32, go_sem, *]) rfl ⟨Or.inl ⟨HNE.out, rfl⟩, ?_⟩
    (iterate 4 refine Below.setCell ?_ (show w.heap.size ≤ w.heap.size + 1 + 1 + 1 by omega) _)
    exact HBL.out
  · have HEQ : Hid (err = 0) := heq
    have HAR : Hid (Arr u5 g (8 * 6) (vF W1)) := hAr
    clear heq hAr
    go_wp2
    refine bodyPost_ret (v := .agg #[.int .i64 0, .slice (some ⟨g, 0, none⟩) 8 cg, .int .i64 z, .int .i64 c]) (by simp [results, Try.results32, go_sem, *]) rfl ⟨Or.inr ⟨HEQ.out, g, cg, by omega, rfl, ?_⟩, ?_⟩
    · (iterate 4 refine Arr.other ?_ (show w.heap.size + 1 + 1 + 1 ≠ g by omega) _)
      exact HAR.out
    · (iterate 4 refine Below.setCell ?_ (show w.heap.size ≤ w.heap.size + 1 + 1 + 1 by omega) _)
      exact HBL.out

set_option maxRecDepth 20000 in
set_option maxHeartbeats 8000000 in
theorem specTransfer_27 (bH cH nH : Nat) (S : Nat → HS) (bR cR nR : Nat) (V0 : Nat → VV) (bA cA : Nat) (V : Nat → VV) (z c : Int) (di ia ib q : Nat) (hd : di < 8) (ha : ia < 8) (hb : ib < 8) (w : World) (lH : nH ≤ 1048576) (lR : nR ≤ 1048576) (h1 : SigCp w bH nH S bR nR V0) (h2 : Arr w bA (8 * 6) (vF V)) (hok : absOK nH S nR V0 8 V z c = true) (hik : implIns 27 (di : Int) (ia : Int) (ib : Int) 0 (q : Int) = true) (hA : Bd (V ia)) (hB : Bd (V ib)) (hqi : (V ia).k = 1 → (V ia).h = (q : Int) → q < nH) :
    Calls Try.prog 32 #[.agg #[.slice (some ⟨bH, 0, none⟩) nH cH, .slice (some ⟨bR, 0, none⟩) nR cR], .agg #[.slice (some ⟨bA, 0, none⟩) 8 cA, .int .i64 z, .int .i64 c], .agg #[.int .i64 27, .int .i64 (di : Int), .int .i64 (ia : Int), .int .i64 (ib : Int), .int .i64 0, .int .i64 (q : Int)]] w fun e w' => TrAns w w' e (accI 27 0 (q : Int) (V ia) (V ib) (V di) (S q)) V z c ∧ Below w.heap.size w w' := by
  have H1 : Hid (SigCp w bH nH S bR nR V0) := h1
  have H2 : Hid (Arr w bA (8 * 6) (vF V)) := h2
  have HOK : Hid (absOK nH S nR V0 8 V z c = true) := hok
  have HIK : Hid (implIns 27 (di : Int) (ia : Int) (ib : Int) 0 (q : Int) = true) := hik
  have HBA : Hid (Bd (V ia)) := hA
  have HBB : Hid (Bd (V ib)) := hB
  have HQI : Hid ((V ia).k = 1 → (V ia).h = (q : Int) → q < nH) := hqi
  clear h1 h2 hok hik hA hB hqi
  obtain ⟨err, herr⟩ : ∃ x, (accI 27 0 (q : Int) (V ia) (V ib) (V di) (S q)) = x := ⟨_, rfl⟩
  rw [herr]
  have HERR : Hid ((accI 27 0 (q : Int) (V ia) (V ib) (V di) (S q)) = err) := herr
  clear herr
  go_enter Try.func32, Try.ntmps32
  go_upto_region 1 with fail
  obtain ⟨u, hu, pu⟩ := it_pre w bH nH cH bR nR cR bA 8 cA (z := z) (c := c) (op := 27) (d := (di : Int)) (ra := (ia : Int)) (rb := (ib : Int)) (imm := 0) (h := (q : Int))
  rw [hu]
  have P0 : Hid (ItP w u bH nH cH bR nR cR bA 8 cA z c 27 (di : Int) (ia : Int) (ib : Int) 0 (q : Int)) := pu
  clear hu pu
  obtain ⟨⟨s0, s1⟩, ⟨a0, a1, a2⟩, r0, r1, r2, r3⟩ := it_cells P0.out
  obtain ⟨i0, i1, i2, i3, i4, i5⟩ := ins_cells P0.out.I
  have rl := P0.out.R.1
  have rf := P0.out.RF
  go_wp2_with fail
  refine (specAbs_any bH cH nH S bR cR nR V0 bA cA 8 V z c u lH lR (by omega) (H1.out.below P0.out.bel) (H2.out.below P0.out.bel H2.out.lt)).mono ?_
  rintro e u1 ⟨rfl, hbe⟩
  have P1 : Hid (ItP w u1 bH nH cH bR nR cR bA 8 cA z c 27 (di : Int) (ia : Int) (ib : Int) 0 (q : Int)) := P0.out.below hbe
  clear hbe P0
  clear s0 s1 a0 a1 a2 r0 r1 r2 r3 i0 i1 i2 i3 i4 i5 rl rf
  rw [HOK.out]
  obtain ⟨⟨s0, s1⟩, ⟨a0, a1, a2⟩, r0, r1, r2, r3⟩ := it_cells P1.out
  obtain ⟨i0, i1, i2, i3, i4, i5⟩ := ins_cells P1.out.I
  have rl := P1.out.R.1
  have rf := P1.out.RF
  go_wp2_with fail
  refine (specIns_any 27 (di : Int) (ia : Int) (ib : Int) 0 (q : Int) _).mono ?_
  rintro e u2 ⟨rfl, hbe⟩
  have P2 : Hid (ItP w u2 bH nH cH bR nR cR bA 8 cA z c 27 (di : Int) (ia : Int) (ib : Int) 0 (q : Int)) := P1.out.below hbe
  clear hbe P1
  clear s0 s1 a0 a1 a2 r0 r1 r2 r3 i0 i1 i2 i3 i4 i5 rl rf
  rw [HIK.out]
  obtain ⟨⟨s0, s1⟩, ⟨a0, a1, a2⟩, r0, r1, r2, r3⟩ := it_cells P2.out
  obtain ⟨i0, i1, i2, i3, i4, i5⟩ := ins_cells P2.out.I
  have rl := P2.out.R.1
  have rf := P2.out.RF
  go_wp2_with fail
  refine (l4Abs_any bA cA V z c u2 (H2.out.below P2.out.bel H2.out.lt)).mono ?_
  rintro e u3 ⟨g, cg, hg, rfl, hbe, hG⟩
  have P3 : Hid (ItP w u3 bH nH cH bR nR cR bA 8 cA z c 27 (di : Int) (ia : Int) (ib : Int) 0 (q : Int)) := P2.out.below hbe
  have HG3 : Hid (Arr u3 g (8 * 6) (vF V)) := hG
  have og : w.heap.size + 1 + 1 + 1 < g := Nat.lt_of_lt_of_le P2.out.R.1 hg
  clear hbe hG hg P2
  clear s0 s1 a0 a1 a2 r0 r1 r2 r3 i0 i1 i2 i3 i4 i5 rl rf
  obtain ⟨⟨s0, s1⟩, ⟨a0, a1, a2⟩, r0, r1, r2, r3⟩ := it_cells P3.out
  obtain ⟨i0, i1, i2, i3, i4, i5⟩ := ins_cells P3.out.I
  have rl := P3.out.R.1
  have rf := P3.out.RF
  have lg := HG3.out.lt
  go_upto_region 4 with fail
  clear s0 s1 a0 a1 a2 r0 r1 r2 r3 i0 i1 i2 i3 i4 i5 rl rf
  clear lg
  obtain ⟨u4, hu4, b4, e4⟩ : ∃ v, u3.alloc (.cells #[.slice (some ⟨g, 0, none⟩) 8 cg, .int .i64 z, .int .i64 c] 66) = v ∧ Below u3.heap.size u3 v ∧ Cl v u3.heap.size [.slice (some ⟨g, 0, none⟩) 8 cg, .int .i64 z, .int .i64 c] := ⟨_, rfl, (Below.refl _ _).alloc (Nat.le_refl _) _, Cl.new⟩
  rw [hu4]
  clear hu4
  have P4 : Hid (ItP w u4 bH nH cH bR nR cR bA 8 cA z c 27 (di : Int) (ia : Int) (ib : Int) 0 (q : Int)) := P3.out.below b4
  have HG4 : Hid (Arr u4 g (8 * 6) (vF V)) := HG3.out.below b4 HG3.out.lt
  obtain ⟨q0, q1, q2⟩ := clg e4
  clear b4 e4 P3 HG3
  generalize u3.heap.size = no at *
  obtain ⟨⟨s0, s1⟩, ⟨a0, a1, a2⟩, r0, r1, r2, r3⟩ := it_cells P4.out
  obtain ⟨i0, i1, i2, i3, i4, i5⟩ := ins_cells P4.out.I
  have rl := P4.out.R.1
  have rf := P4.out.RF
  go_wp2_with fail
  refine (l4Access_27 bH nH cH bR nR cR g cg S V z c di ia ib q hd ha hb u4 lH HQI.out (H1.out.h.below P4.out.bel H1.out.h.lt) HG4.out HBA.out HBB.out).mono ?_
  rintro e u5 ⟨hx, hbe⟩
  rw [HERR.out] at hx
  have rl5 : w.heap.size + 1 + 1 + 1 < u5.heap.size := Nat.lt_of_lt_of_le P4.out.R.1 hbe.size
  have bl5 : Below w.heap.size w u5 := P4.out.bel.trans (hbe.mono (by omega))
  have t0 : u5.cell? ⟨w.heap.size + 1 + 1 + 1, 0, none⟩ = some (.int .i64 0) := (hbe.cell (p := ⟨w.heap.size + 1 + 1 + 1, 0, none⟩) (show _ < g by omega)).trans r0
  have t1 : u5.cell? ⟨w.heap.size + 1 + 1 + 1, 1, none⟩ = some (.slice none 0 0) := (hbe.cell (p := ⟨w.heap.size + 1 + 1 + 1, 1, none⟩) (show _ < g by omega)).trans r1
  have t2 : u5.cell? ⟨w.heap.size + 1 + 1 + 1, 2, none⟩ = some (.int .i64 0) := (hbe.cell (p := ⟨w.heap.size + 1 + 1 + 1, 2, none⟩) (show _ < g by omega)).trans r2
  have t3 : u5.cell? ⟨w.heap.size + 1 + 1 + 1, 3, none⟩ = some (.int .i64 0) := (hbe.cell (p := ⟨w.heap.size + 1 + 1 + 1, 3, none⟩) (show _ < g by omega)).trans r3
  have tf : ∀ i, u5.frozen? ⟨w.heap.size + 1 + 1 + 1, i, none⟩ = false := fun i => (hbe.frozen (p := ⟨w.heap.size + 1 + 1 + 1, i, none⟩) (show _ < g by omega)).trans (rf i)
  have HBL : Hid (Below w.heap.size w u5) := bl5
  clear s0 s1 a0 a1 a2 r0 r1 r2 r3 i0 i1 i2 i3 i4 i5 rl rf
  clear q0 q1 q2 bl5 hbe P4 HG4
  rcases hx with ⟨hne, rfl⟩ | ⟨heq, rfl, hAr⟩
  · have HNE : Hid (err ≠ 0) := hne
    clear hne
    go_wp2
    refine bodyPost_ret (v := .agg #[.int .i64 err, .slice none 0 0, .int .i64 0, .int .i64 0]) (by simp [results, Try.results32, go_sem, *]) rfl ⟨Or.inl ⟨HNE.out, rfl⟩, ?_⟩
    (iterate 4 refine Below.setCell ?_ (show w.heap.size ≤ w.heap.size + 1 + 1 + 1 by omega) _)
    exact HBL.out
  · have HEQ : Hid (err = 0) := heq
    have HAR : Hid (Arr u5 g (8 * 6) (vF V)) := hAr
    clear heq hAr
    go_wp2
    refine bodyPost_ret (v := .agg #[.int .i64 0, .slice (some ⟨g, 0, none⟩) 8 cg, .int .i64 z, .int .i64 c]) (by simp [results, Try.results32, go_sem, *]) rfl ⟨Or.inr ⟨HEQ.out, g, cg, by omega, rfl, ?_⟩, ?_⟩
    · (iterate 4 refine Arr.other ?_ (show w.heap.size + 1 + 1 + 1 ≠ g by omega) _)
      exact HAR.out
    · (iterate 4 refine Below.setCell ?_ (show w.heap.size ≤ w.heap.size + 1 + 1 + 1 by omega) _)
      exact HBL.out
end Go.Proofs.Ytjnooklalbcamaa
