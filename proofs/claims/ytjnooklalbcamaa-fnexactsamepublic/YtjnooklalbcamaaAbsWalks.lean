/- What is known: measured, copied, compared; ValidAbs, the specification's and the program's. -/
import Derived.Test.YtjnooklalbcamaaOpenSig
import Derived.Test.YtjnooklalbcamaaCl
namespace Go.Proofs.Ytjnooklalbcamaa
open Go.RowKit

set_option maxHeartbeats 400000 in
theorem szAbs_ok (ao : Option Addr) (n cap : Nat) (z c : Int) (left : Int) (w : World) (h0 : 0 ≤ left) (h1 : (n : Int) ≤ left) (h2 : left ≤ 1048576) :
    Calls Try.prog 25 #[.agg #[.slice ao n cap, .int .i64 z, .int .i64 c], .int .i64 left] w fun e w' => e = .returned (.int .i64 (left - n)) ∧ Below w.heap.size w w' := by
  go_enter Try.func25, Try.ntmps25
  go_wp2
  go_ret
  exact ⟨rfl, (Below.refl _ _).alloc (Nat.le_refl _) _⟩
set_option maxHeartbeats 400000 in
theorem szAbs_no (ao : Option Addr) (n cap : Nat) (z c : Int) (left : Int) (w : World) (h0 : 0 ≤ left) (h1 : left < (n : Int)) (h2 : left ≤ 1048576) (m : n ≤ maxLen) :
    Calls Try.prog 25 #[.agg #[.slice ao n cap, .int .i64 z, .int .i64 c], .int .i64 left] w fun e w' => e = .returned (.int .i64 (-1)) ∧ Below w.heap.size w w' := by
  unfold maxLen at m
  go_enter Try.func25, Try.ntmps25
  go_wp2
  go_ret
  exact ⟨rfl, (Below.refl _ _).alloc (Nat.le_refl _) _⟩

set_option maxHeartbeats 1000000 in
theorem toAbs_in (ao : Option Addr) (n cap : Nat) (V : Nat → VV) (z c : Int) (w : World) (ln : n ≤ 1048576) (hin : InRow w ao (n * 6) (vF V)) :
    Calls Try.prog 27 #[.agg #[.slice ao n cap, .int .i64 z, .int .i64 c]] w fun e w' => ∃ b, w.heap.size ≤ b ∧ e = .returned (.agg #[.slice (some ⟨b, 0, none⟩) n n, .int .i64 z, .int .i64 c]) ∧ Below w.heap.size w w' ∧ Arr w' b (n * 6) (vF V) := by
  have HI : Hid (InRow w ao (n * 6) (vF V)) := hin
  clear hin
  go_enter Try.func27, Try.ntmps27
  go_wp2_with fail
  have b0 := (((Below.refl w.heap.size w).alloc (Nat.le_refl _) (.cells #[.slice ao n cap, .int .i64 z, .int .i64 c] 62)).alloc (by simp) (.cells #[.slice none 0 0, .int .i64 0, .int .i64 0] 66)).alloc (by simp; omega) (.cells #[.slice none 0 0, .int .i64 0, .int .i64 0] 66)
  refine (toValS_in _ _ _ V _ ln ?h1).mono ?_
  case h1 => exact HI.out.below b0 (Nat.le_refl _)
  rintro e w1 ⟨rfl, hb1, ha1⟩
  have b1 := b0.trans (hb1.mono (by simp; omega))
  have HB1 : Hid (Below w.heap.size w w1) := b1
  have t1 : Arr w1 (w.heap.size + 1 + 1 + 1) (n * 6) (vF V) := by simp only [World.size_alloc] at ha1; exact ha1
  have HA1 : Hid (Arr w1 (w.heap.size + 1 + 1 + 1) (n * 6) (vF V)) := t1
  clear b0 b1 ha1 t1
  obtain ⟨hc1, hf1⟩ := bcell hb1
  have hz1 : w.heap.size + 2 < w1.heap.size := by have := hb1.size; simp at this; omega
  have hz2 : w.heap.size + 1 < w1.heap.size := by omega
  have hz3 : w.heap.size < w1.heap.size := by omega
  clear hb1
  go_wp2
  refine bodyPost_ret (v := .agg #[.slice (some ⟨w.heap.size + 1 + 1 + 1, 0, none⟩) n n, .int .i64 z, .int .i64 c]) (by simp [results, Try.results27, go_sem, hc1]) rfl ⟨_, ?_, rfl, ?_, ?_⟩
  · omega
  · exact (((((HB1.out.setCell (by simp; omega) _).setCell (by simp; omega) _).setCell (by simp; omega) _).setCell (by simp) _).setCell (by simp) _).setCell (by simp) _
  · exact (((((HA1.out.other (by simp) _).other (by simp) _).other (by simp) _).other (by simp) _).other (by simp) _).other (by simp) _

set_option maxHeartbeats 400000 in
theorem eqAbs_same (b cap n : Nat) (V : Nat → VV) (z c : Int) (b' cap' : Nat) (w : World) (ln : n ≤ 1048576) (h1 : Arr w b (n * 6) (vF V)) (h2 : Arr w b' (n * 6) (vF V)) :
    Calls Try.prog 29 #[.agg #[.slice (some ⟨b, 0, none⟩) n cap, .int .i64 z, .int .i64 c], .agg #[.slice (some ⟨b', 0, none⟩) n cap', .int .i64 z, .int .i64 c]] w fun e w' => e = .returned (.bool true) ∧ Below w.heap.size w w' := by
  have H1 : Hid (Arr w b (n * 6) (vF V)) := h1
  have H2 : Hid (Arr w b' (n * 6) (vF V)) := h2
  clear h1 h2
  go_enter Try.func29, Try.ntmps29
  go_wp2_with fail
  have b0 : Below w.heap.size w ((w.alloc (.cells #[.slice (some ⟨b, 0, none⟩) n cap, .int .i64 z, .int .i64 c] 66)).alloc (.cells #[.slice (some ⟨b', 0, none⟩) n cap', .int .i64 z, .int .i64 c] 66)) := ((Below.refl _ _).alloc (Nat.le_refl _) _).alloc (by simp) _
  refine (eqValS_same _ _ _ _ _ _ _ V _ ln (H1.out.below b0 H1.out.lt).at (H2.out.below b0 H2.out.lt).at).mono ?_
  rintro e w1 ⟨rfl, hb1⟩
  have HB1 : Hid (Below w.heap.size w w1) := b0.trans (hb1.mono b0.size)
  obtain ⟨hc1, _⟩ := bcell hb1
  have hz2 : w.heap.size + 1 < w1.heap.size := by have := hb1.size; simp at this; omega
  have hz3 : w.heap.size < w1.heap.size := by omega
  clear hb1 b0
  go_wp2
  go_ret
  exact ⟨rfl, HB1.out⟩

def flagOK (z : Int) : Bool := decide (0 ≤ z ∧ z ≤ 2)
/-- Valid for the signature. -/
def absOK (nH : Nat) (S : Nat → HS) (nR : Nat) (V : Nat → VV) (nA : Nat) (U : Nat → VV) (z c : Int) : Bool := sigOK nH S nR V && goodAll U nA nH && flagOK z && flagOK c
theorem sig_le8 {nH nR : Nat} {S : Nat → HS} {V : Nat → VV} (h : sigOK nH S nR V = true) : nH ≤ 8 := by
  simp [sigOK] at h; omega

set_option maxHeartbeats 400000 in
theorem validFlag_any (z : Int) (w : World) : Calls Try.prog 72 #[.int .i64 z] w fun e w' => e = .returned (.bool (flagOK z)) ∧ w' = w := by
  go_enter Try.func72, Try.ntmps72
  go_wp2
  all_goals (go_ret; refine ⟨ret_bool ?_, rfl⟩; simp [flagOK] <;> omega)

set_option maxHeartbeats 1000000 in
theorem implAbs_any (bH cH nH : Nat) (S : Nat → HS) (bR cR nR : Nat) (V : Nat → VV) (bA cA nA : Nat) (U : Nat → VV) (z c : Int) (w : World) (lH : nH ≤ 1048576) (lR : nR ≤ 1048576) (lA : nA ≤ 1048576) (h1 : SigCp w bH nH S bR nR V) (h2 : Arr w bA (nA * 6) (vF U)) :
    Calls Try.prog 28 #[.agg #[.slice (some ⟨bH, 0, none⟩) nH cH, .slice (some ⟨bR, 0, none⟩) nR cR], .agg #[.slice (some ⟨bA, 0, none⟩) nA cA, .int .i64 z, .int .i64 c]] w fun e w' => e = .returned (.bool (absOK nH S nR V nA U z c)) ∧ Below w.heap.size w w' := by
  have H1 : Hid (SigCp w bH nH S bR nR V) := h1
  have H2 : Hid (Arr w bA (nA * 6) (vF U)) := h2
  clear h1 h2
  go_enter Try.func28, Try.ntmps28
  go_wp2_with fail
  have b0 : Below w.heap.size w ((w.alloc (.cells #[.slice (some ⟨bH, 0, none⟩) nH cH, .slice (some ⟨bR, 0, none⟩) nR cR] 48)).alloc (.cells #[.slice (some ⟨bA, 0, none⟩) nA cA, .int .i64 z, .int .i64 c] 66)) := ((Below.refl _ _).alloc (Nat.le_refl _) _).alloc (by simp) _
  refine (implSig_any _ _ _ S _ _ _ V _ lH lR (H1.out.below b0)).mono ?_
  rintro e w1 ⟨rfl, hb1⟩
  have HB1 : Hid (Below w.heap.size w w1) := b0.trans (hb1.mono b0.size)
  obtain ⟨hc1, _⟩ := bcell hb1
  have hz2 : w.heap.size + 1 < w1.heap.size := by have := hb1.size; simp at this; omega
  have hz3 : w.heap.size < w1.heap.size := by omega
  clear hb1 b0
  have HU : Hid (absOK nH S nR V nA U z c = (sigOK nH S nR V && goodAll U nA nH && flagOK z && flagOK c)) := rfl
  cases hg : sigOK nH S nR V with
  | false =>
    have HG : Hid (sigOK nH S nR V = false) := hg
    clear hg
    go_wp2
    go_ret
    exact ⟨ret_bool (by rw [HU.out, HG.out]; rfl), HB1.out⟩
  | true =>
    have HG : Hid (sigOK nH S nR V = true) := hg
    have h8 := sig_le8 hg
    clear hg
    go_wp2_with fail
    refine (validVals_at _ _ _ _ U _ _ lA (H2.out.below HB1.out H2.out.lt).at).mono ?_
    rintro e w2 ⟨rfl, hb2⟩
    have HB2 : Hid (Below w.heap.size w w2) := HB1.out.trans (hb2.mono HB1.out.size)
    have d0 : w2.cell? ⟨w.heap.size + 1, 1, none⟩ = some (.int .i64 z) := by rw [hb2.cell hz2]; go_simp
    have d1 : w2.cell? ⟨w.heap.size + 1, 2, none⟩ = some (.int .i64 c) := by rw [hb2.cell hz2]; go_simp
    have hy2 : w.heap.size + 1 < w2.heap.size := Nat.lt_of_lt_of_le hz2 hb2.size
    clear hb2 hc1 hz2 hz3
    cases hk : goodAll U nA nH with
    | false =>
      have HK : Hid (goodAll U nA nH = false) := hk
      clear hk
      go_wp2
      go_ret
      exact ⟨ret_bool (by rw [HU.out, HG.out, HK.out]; rfl), HB2.out⟩
    | true =>
      have HK : Hid (goodAll U nA nH = true) := hk
      clear hk
      go_wp2_with fail
      refine (validFlag_any _ _).mono ?_
      rintro e w3 ⟨rfl, rfl⟩
      cases hz : flagOK z with
      | false =>
        have HZ : Hid (flagOK z = false) := hz
        try rw [show decide (0 ≤ z ∧ z ≤ 2) = false from hz]
        clear hz
        go_wp2
        go_ret
        exact ⟨ret_bool (by rw [HU.out, HG.out, HK.out, HZ.out]; rfl), HB2.out⟩
      | true =>
        have HZ : Hid (flagOK z = true) := hz
        try rw [show decide (0 ≤ z ∧ z ≤ 2) = true from hz]
        clear hz
        go_wp2_with fail
        refine (validFlag_any _ _).mono ?_
        rintro e w4 ⟨rfl, rfl⟩
        cases hz : flagOK c with
        | false =>
          have HC : Hid (flagOK c = false) := hz
          try rw [show decide (0 ≤ c ∧ c ≤ 2) = false from hz]
          clear hz
          go_wp2
          go_ret
          exact ⟨ret_bool (by rw [HU.out, HG.out, HK.out, HZ.out, HC.out]; rfl), HB2.out⟩
        | true =>
          have HC : Hid (flagOK c = true) := hz
          try rw [show decide (0 ≤ c ∧ c ≤ 2) = true from hz]
          clear hz
          go_wp2
          go_ret
          exact ⟨ret_bool (by rw [HU.out, HG.out, HK.out, HZ.out, HC.out]; rfl), HB2.out⟩

set_option maxHeartbeats 1000000 in
theorem specAbs_any (bH cH nH : Nat) (S : Nat → HS) (bR cR nR : Nat) (V : Nat → VV) (bA cA nA : Nat) (U : Nat → VV) (z c : Int) (w : World) (lH : nH ≤ 1048576) (lR : nR ≤ 1048576) (lA : nA ≤ 1048576) (h1 : SigCp w bH nH S bR nR V) (h2 : Arr w bA (nA * 6) (vF U)) :
    Calls Try.prog 26 #[.agg #[.slice (some ⟨bH, 0, none⟩) nH cH, .slice (some ⟨bR, 0, none⟩) nR cR], .agg #[.slice (some ⟨bA, 0, none⟩) nA cA, .int .i64 z, .int .i64 c]] w fun e w' => e = .returned (.bool (absOK nH S nR V nA U z c)) ∧ Below w.heap.size w w' := by
  have H1 : Hid (SigCp w bH nH S bR nR V) := h1
  have H2 : Hid (Arr w bA (nA * 6) (vF U)) := h2
  clear h1 h2
  go_enter Try.func26, Try.ntmps26
  go_wp2_with fail
  have b0 : Below w.heap.size w ((w.alloc (.cells #[.slice (some ⟨bH, 0, none⟩) nH cH, .slice (some ⟨bR, 0, none⟩) nR cR] 48)).alloc (.cells #[.slice (some ⟨bA, 0, none⟩) nA cA, .int .i64 z, .int .i64 c] 66)) := ((Below.refl _ _).alloc (Nat.le_refl _) _).alloc (by simp) _
  refine (specSig_any _ _ _ S _ _ _ V _ lH lR (H1.out.below b0)).mono ?_
  rintro e w1 ⟨rfl, hb1⟩
  have HB1 : Hid (Below w.heap.size w w1) := b0.trans (hb1.mono b0.size)
  obtain ⟨hc1, _⟩ := bcell hb1
  have hz2 : w.heap.size + 1 < w1.heap.size := by have := hb1.size; simp at this; omega
  have hz3 : w.heap.size < w1.heap.size := by omega
  clear hb1 b0
  have HU : Hid (absOK nH S nR V nA U z c = (sigOK nH S nR V && goodAll U nA nH && flagOK z && flagOK c)) := rfl
  cases hg : sigOK nH S nR V with
  | false =>
    have HG : Hid (sigOK nH S nR V = false) := hg
    clear hg
    go_wp2
    go_ret
    exact ⟨ret_bool (by rw [HU.out, HG.out]; rfl), HB1.out⟩
  | true =>
    have HG : Hid (sigOK nH S nR V = true) := hg
    have h8 := sig_le8 hg
    clear hg
    go_wp2_with fail
    refine (l4GoodRegs_at _ _ _ _ U _ _ lA (by omega) (by omega) (H2.out.below HB1.out H2.out.lt).at).mono ?_
    rintro e w2 ⟨rfl, hb2⟩
    have HB2 : Hid (Below w.heap.size w w2) := HB1.out.trans (hb2.mono HB1.out.size)
    have d0 : w2.cell? ⟨w.heap.size + 1, 1, none⟩ = some (.int .i64 z) := by rw [hb2.cell hz2]; go_simp
    have d1 : w2.cell? ⟨w.heap.size + 1, 2, none⟩ = some (.int .i64 c) := by rw [hb2.cell hz2]; go_simp
    have hy2 : w.heap.size + 1 < w2.heap.size := Nat.lt_of_lt_of_le hz2 hb2.size
    clear hb2 hc1 hz2 hz3
    cases hk : goodAll U nA nH with
    | false =>
      have HK : Hid (goodAll U nA nH = false) := hk
      clear hk
      go_wp2
      go_ret
      exact ⟨ret_bool (by rw [HU.out, HG.out, HK.out]; rfl), HB2.out⟩
    | true =>
      have HK : Hid (goodAll U nA nH = true) := hk
      clear hk
      go_wp2_with fail
      refine (v_in_any _ _ _ _).mono ?_
      rintro e w3 ⟨rfl, rfl⟩
      cases hz : flagOK z with
      | false =>
        have HZ : Hid (flagOK z = false) := hz
        try rw [show decide (0 ≤ z ∧ z ≤ 2) = false from hz]
        clear hz
        go_wp2
        go_ret
        exact ⟨ret_bool (by rw [HU.out, HG.out, HK.out, HZ.out]; rfl), HB2.out⟩
      | true =>
        have HZ : Hid (flagOK z = true) := hz
        try rw [show decide (0 ≤ z ∧ z ≤ 2) = true from hz]
        clear hz
        go_wp2_with fail
        refine (v_in_any _ _ _ _).mono ?_
        rintro e w4 ⟨rfl, rfl⟩
        cases hz : flagOK c with
        | false =>
          have HC : Hid (flagOK c = false) := hz
          try rw [show decide (0 ≤ c ∧ c ≤ 2) = false from hz]
          clear hz
          go_wp2
          go_ret
          exact ⟨ret_bool (by rw [HU.out, HG.out, HK.out, HZ.out, HC.out]; rfl), HB2.out⟩
        | true =>
          have HC : Hid (flagOK c = true) := hz
          try rw [show decide (0 ≤ c ∧ c ≤ 2) = true from hz]
          clear hz
          go_wp2
          go_ret
          exact ⟨ret_bool (by rw [HU.out, HG.out, HK.out, HZ.out, HC.out]; rfl), HB2.out⟩
end Go.Proofs.Ytjnooklalbcamaa
