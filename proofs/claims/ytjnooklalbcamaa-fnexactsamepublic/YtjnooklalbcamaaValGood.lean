/- A valid Val: the specification's word and the program's. -/
import Derived.Test.YtjnooklalbcamaaValRows
import Derived.Test.YtjnooklalbcamaaInsMath
namespace Go.Proofs.Ytjnooklalbcamaa
open Go.RowKit

/-- Valid for n heaplets. -/
def goodB (x : VV) (n : Int) : Bool :=
  if x.k = 0 then decide (-1 ≤ x.m ∧ x.m ≤ 1099511627776 ∧ x.h = 0 ∧ x.lo = 0 ∧ x.hi = 0)
  else decide (x.k = 1 ∧ x.s = false ∧ x.m = 0 ∧ 0 ≤ x.h ∧ x.h < n ∧ -1099511627776 ≤ x.lo ∧ x.lo ≤ x.hi ∧ x.hi ≤ 1099511627776)

set_option maxHeartbeats 400000 in
theorem v_in_any (x lo hi : Int) (w : World) :
    Calls Try.prog 49 #[.int .i64 x, .int .i64 lo, .int .i64 hi] w fun e w' => e = .returned (.bool (decide (lo ≤ x ∧ x ≤ hi))) ∧ w' = w := by
  go_enter Try.func49, Try.ntmps49
  go_wp2
  all_goals (go_ret; refine ⟨ret_bool ?_, rfl⟩; simp <;> omega)

set_option maxHeartbeats 4000000 in
theorem validVal_any (k : Int) (s : Bool) (m h lo hi : Int) (n : Int) (w : World) :
    Calls Try.prog 93 #[.agg #[.int .i64 k, .bool s, .int .i64 m, .int .i64 h, .int .i64 lo, .int .i64 hi], .int .i64 n] w fun e w' => e = .returned (.bool (goodB ⟨k, s, m, h, lo, hi⟩ n)) ∧ Below w.heap.size w w' := by
  go_enter Try.func93, Try.ntmps93
  go_wp2
  all_goals (go_ret; refine ⟨ret_bool ?_, (Below.refl _ _).alloc (Nat.le_refl _) _⟩; simp_all [goodB] <;> omega)

set_option maxHeartbeats 4000000 in
theorem l4Good_any (k : Int) (s : Bool) (m h lo hi : Int) (n : Int) (w : World) (hn : 0 ≤ n) (hn' : n ≤ 8) :
    Calls Try.prog 91 #[.agg #[.int .i64 k, .bool s, .int .i64 m, .int .i64 h, .int .i64 lo, .int .i64 hi], .int .i64 n] w fun e w' => e = .returned (.bool (goodB ⟨k, s, m, h, lo, hi⟩ n)) ∧ Below w.heap.size w w' := by
  go_enter Try.func91, Try.ntmps91
  go_wp2_with (go_at_call 49; refine (v_in_any _ _ _ _).mono ?_; rintro e w' ⟨rfl, rfl⟩)
  all_goals (go_ret; refine ⟨ret_bool ?_, (Below.refl _ _).alloc (Nat.le_refl _) _⟩; simp_all [goodB] <;> first | omega | rfl)

/-- Eight, each valid for n heaplets. -/
def goodAll (V : Nat → VV) (len : Nat) (n : Int) : Bool := decide (len = 8) && (List.range len).all fun i => goodB (V i) n
theorem goodAll_stop {V : Nat → VV} {len k : Nat} {n : Int} (hk : k < len) (h : goodB (V k) n = false) : goodAll V len n = false := by
  have : (List.range len).all (fun i => goodB (V i) n) = false := by
    rw [List.all_eq_false]
    exact ⟨k, List.mem_range.2 hk, by simp [h]⟩
  simp [goodAll, this]
theorem goodAll_end {V : Nat → VV} {len : Nat} {n : Int} (h : ∀ i, i < len → goodB (V i) n = true) : goodAll V len n = decide (len = 8) := by
  have : (List.range len).all (fun i => goodB (V i) n) = true := by
    rw [List.all_eq_true]
    exact fun i hi => h i (List.mem_range.1 hi)
  simp only [goodAll, this, Bool.and_true]
theorem good_step {V : Nat → VV} {k : Nat} {n : Int} (h : ∀ i, i < k → goodB (V i) n = true) (g : goodB (V k) n = true) : ∀ i, i < k + 1 → goodB (V i) n = true := by
  intro i hi
  by_cases e : i = k
  · rw [e]; exact g
  · exact h i (by omega)

set_option maxHeartbeats 1000000 in
theorem validVals_at (b off len cap : Nat) (V : Nat → VV) (n : Int) (w : World) (hlen : len ≤ 1048576) (hat : At w b off (len * 6) (vF V)) :
    Calls Try.prog 53 #[.slice (some ⟨b, off, none⟩) len cap, .int .i64 n] w fun e w' => e = .returned (.bool (goodAll V len n)) ∧ Below w.heap.size w w' := by
  have hb := hat.lt
  have HA : Hid (At w b off (len * 6) (vF V)) := hat
  clear hat
  go_enter Try.func53, Try.ntmps53
  go_wp2
  go_loopw [9] (fun i wr => ∃ k : Nat, k ≤ len ∧ i = .int .i64 k ∧ Below w.heap.size w wr ∧ ∀ i, i < k → goodB (V i) n = true) (fun i _ => len - (intOf i).toNat)
  case atStart => exact ⟨0, Nat.zero_le _, rfl, Below.refl _ _, fun i hi => by omega⟩
  case round =>
    obtain ⟨k, hk, rfl, hbr, hall⟩ := hrel
    have HL : Hid (∀ i, i < k → goodB (V i) n = true) := hall
    clear hall
    by_cases hlt : k < len
    · have g0 := (hbr.cell (p := ⟨b, off + k * 6, none⟩) hb).trans (HA.out.cell (i := k * 6 + 0) (by omega) |>.trans (congrArg some (vF_at V k 0 (by omega))))
      have g1 := (hbr.cell (p := ⟨b, off + k * 6 + 1, none⟩) hb).trans (HA.out.cell (i := k * 6 + 1) (by omega) |>.trans (congrArg some (vF_at V k 1 (by omega))))
      have g2 := (hbr.cell (p := ⟨b, off + k * 6 + 2, none⟩) hb).trans (HA.out.cell (i := k * 6 + 2) (by omega) |>.trans (congrArg some (vF_at V k 2 (by omega))))
      have g3 := (hbr.cell (p := ⟨b, off + k * 6 + 3, none⟩) hb).trans (HA.out.cell (i := k * 6 + 3) (by omega) |>.trans (congrArg some (vF_at V k 3 (by omega))))
      have g4 := (hbr.cell (p := ⟨b, off + k * 6 + 4, none⟩) hb).trans (HA.out.cell (i := k * 6 + 4) (by omega) |>.trans (congrArg some (vF_at V k 4 (by omega))))
      have g5 := (hbr.cell (p := ⟨b, off + k * 6 + 5, none⟩) hb).trans (HA.out.cell (i := k * 6 + 5) (by omega) |>.trans (congrArg some (vF_at V k 5 (by omega))))
      simp only [vC] at g0 g1 g2 g3 g4 g5
      go_wp2_with fail
      refine (validVal_any _ _ _ _ _ _ _ _).mono ?_
      rintro e w2 ⟨rfl, hb2⟩
      have hbr2 : Below w.heap.size w w2 := (hbr.alloc hbr.size _).trans (hb2.mono (by have := hbr.size; simp; omega))
      clear g0 g1 g2 g3 g4 g5
      have hv : goodB ⟨(V k).k, (V k).s, (V k).m, (V k).h, (V k).lo, (V k).hi⟩ n = goodB (V k) n := rfl
      rw [hv]
      cases hg : goodB (V k) n with
      | false =>
        have HG : Hid (goodB (V k) n = false) := hg
        clear hg hv
        go_wp2
        go_ret
        exact ⟨ret_bool (goodAll_stop hlt HG.out).symm, hbr2⟩
      | true =>
        have HG : Hid (goodB (V k) n = true) := hg
        clear hg hv
        go_wp2
        go_roundw
        case rel => exact ⟨k + 1, by omega, by go_num, hbr2, good_step HL.out HG.out⟩
        case measure => simp [intOf]; omega
    · obtain rfl : k = len := by omega
      go_wp2
      · go_ret
        refine ⟨ret_bool ?_, hbr⟩
        rw [goodAll_end HL.out, Bool.eq_iff_iff]
        simp <;> omega

set_option maxHeartbeats 1000000 in
theorem l4GoodRegs_at (b off len cap : Nat) (V : Nat → VV) (n : Int) (w : World) (hlen : len ≤ 1048576) (hn : 0 ≤ n) (hn' : n ≤ 8) (hat : At w b off (len * 6) (vF V)) :
    Calls Try.prog 50 #[.slice (some ⟨b, off, none⟩) len cap, .int .i64 n] w fun e w' => e = .returned (.bool (goodAll V len n)) ∧ Below w.heap.size w w' := by
  have hb := hat.lt
  have HA : Hid (At w b off (len * 6) (vF V)) := hat
  clear hat
  by_cases h8 : len = 8
  · subst h8
    go_enter Try.func50, Try.ntmps50
    go_wp2
    go_loopw [5] (fun i wr => ∃ k : Nat, k ≤ 8 ∧ i = .int .i64 k ∧ Below w.heap.size w wr ∧ ∀ i, i < k → goodB (V i) n = true) (fun i _ => 8 - (intOf i).toNat)
    case atStart => exact ⟨0, Nat.zero_le _, rfl, Below.refl _ _, fun i hi => by omega⟩
    case round =>
      obtain ⟨k, hk, rfl, hbr, hall⟩ := hrel
      have HL : Hid (∀ i, i < k → goodB (V i) n = true) := hall
      clear hall
      by_cases hlt : k < 8
      · have g0 := (hbr.cell (p := ⟨b, off + k * 6, none⟩) hb).trans (HA.out.cell (i := k * 6 + 0) (by omega) |>.trans (congrArg some (vF_at V k 0 (by omega))))
        have g1 := (hbr.cell (p := ⟨b, off + k * 6 + 1, none⟩) hb).trans (HA.out.cell (i := k * 6 + 1) (by omega) |>.trans (congrArg some (vF_at V k 1 (by omega))))
        have g2 := (hbr.cell (p := ⟨b, off + k * 6 + 2, none⟩) hb).trans (HA.out.cell (i := k * 6 + 2) (by omega) |>.trans (congrArg some (vF_at V k 2 (by omega))))
        have g3 := (hbr.cell (p := ⟨b, off + k * 6 + 3, none⟩) hb).trans (HA.out.cell (i := k * 6 + 3) (by omega) |>.trans (congrArg some (vF_at V k 3 (by omega))))
        have g4 := (hbr.cell (p := ⟨b, off + k * 6 + 4, none⟩) hb).trans (HA.out.cell (i := k * 6 + 4) (by omega) |>.trans (congrArg some (vF_at V k 4 (by omega))))
        have g5 := (hbr.cell (p := ⟨b, off + k * 6 + 5, none⟩) hb).trans (HA.out.cell (i := k * 6 + 5) (by omega) |>.trans (congrArg some (vF_at V k 5 (by omega))))
        simp only [vC] at g0 g1 g2 g3 g4 g5
        go_wp2_with fail
        refine (l4Good_any _ _ _ _ _ _ _ _ hn hn').mono ?_
        rintro e w2 ⟨rfl, hb2⟩
        have hbr2 : Below w.heap.size w w2 := hbr.trans (hb2.mono hbr.size)
        clear g0 g1 g2 g3 g4 g5
        have hv : goodB ⟨(V k).k, (V k).s, (V k).m, (V k).h, (V k).lo, (V k).hi⟩ n = goodB (V k) n := rfl
        rw [hv]
        cases hg : goodB (V k) n with
        | false =>
          have HG : Hid (goodB (V k) n = false) := hg
          clear hg hv
          go_wp2
          go_ret
          exact ⟨ret_bool (goodAll_stop hlt HG.out).symm, hbr2⟩
        | true =>
          have HG : Hid (goodB (V k) n = true) := hg
          clear hg hv
          go_wp2
          go_roundw
          case rel => exact ⟨k + 1, by omega, by go_num, hbr2, good_step HL.out HG.out⟩
          case measure => simp [intOf]; omega
      · obtain rfl : k = 8 := by omega
        go_wp2
        go_ret
        exact ⟨ret_bool (by rw [goodAll_end HL.out]; rfl), hbr⟩
  · have hf : goodAll V len n = false := by simp [goodAll, h8]
    rw [hf]
    clear hf
    go_enter Try.func50, Try.ntmps50
    go_wp2
    all_goals (go_ret; exact ⟨rfl, Below.refl _ _⟩)
end Go.Proofs.Ytjnooklalbcamaa
