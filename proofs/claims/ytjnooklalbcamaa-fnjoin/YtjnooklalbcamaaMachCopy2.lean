/- A machine: compared, measured. -/
import Derived.Test.YtjnooklalbcamaaMachCopy
namespace Go.Proofs.Ytjnooklalbcamaa
open Go.RowKit

set_option maxHeartbeats 1000000 in
theorem eqMach_same (bR nR : Nat) (R : Nat → Int) (z c hz hc : Bool) (bH nH : Nat) (Hp : Nat → HeapV) (blk : Nat → Nat) (pc st : Int) (bO nO : Nat) (K V : Nat → Int) (bR' bH' : Nat) (blk' : Nat → Nat) (bO' : Nat) (w : World)
    (hs : Small nR nH Hp nO) (h : MachCp w bR nR R bH nH Hp blk bO nO K V) (h' : MachCp w bR' nR R bH' nH Hp blk' bO' nO K V) :
    Calls Try.prog 24 #[.agg #[.slice (some ⟨bR, 0, none⟩) nR nR, .bool z, .bool c, .bool hz, .bool hc, .slice (some ⟨bH, 0, none⟩) nH nH, .int .i64 pc, .int .i64 st, .slice (some ⟨bO, 0, none⟩) nO nO],
      .agg #[.slice (some ⟨bR', 0, none⟩) nR nR, .bool z, .bool c, .bool hz, .bool hc, .slice (some ⟨bH', 0, none⟩) nH nH, .int .i64 pc, .int .i64 st, .slice (some ⟨bO', 0, none⟩) nO nO]] w fun e w' => e = .returned (.bool true) ∧ Below w.heap.size w w' := by
  have HS : Hid (Small nR nH Hp nO) := hs
  have H1 : Hid (MachCp w bR nR R bH nH Hp blk bO nO K V) := h
  have H2 : Hid (MachCp w bR' nR R bH' nH Hp blk' bO' nO K V) := h'
  have e1 : (z != z) = false := by simp
  have e2 : (c != c) = false := by simp
  have e3 : (hz != hz) = false := by simp
  have e4 : (hc != hc) = false := by simp
  clear hs h h'
  go_enter Try.func24, Try.ntmps24
  go_wp2_with fail
  have b0 := ((Below.refl w.heap.size w).alloc (Nat.le_refl _) (.cells #[.slice (some ⟨bR, 0, none⟩) nR nR, .bool z, .bool c, .bool hz, .bool hc, .slice (some ⟨bH, 0, none⟩) nH nH, .int .i64 pc, .int .i64 st, .slice (some ⟨bO, 0, none⟩) nO nO] 35)).alloc (by simp) (.cells #[.slice (some ⟨bR', 0, none⟩) nR nR, .bool z, .bool c, .bool hz, .bool hc, .slice (some ⟨bH', 0, none⟩) nH nH, .int .i64 pc, .int .i64 st, .slice (some ⟨bO', 0, none⟩) nO nO] 35)
  refine (eqUint64S_same _ _ _ _ _ _ _ R _ HS.out.regs ?h1 ?h2).mono ?_
  case h1 => exact (H1.out.below b0 (Nat.le_refl _)).regs.at
  case h2 => exact (H2.out.below b0 (Nat.le_refl _)).regs.at
  rintro e w1 ⟨rfl, hb1⟩
  have b1 := b0.trans (hb1.mono (by simp; omega))
  have HB1 : Hid (Below w.heap.size w w1) := b1
  obtain ⟨hc1, _⟩ := bcell hb1
  have hz2 : w.heap.size + 1 < w1.heap.size := by have := hb1.size; simp at this; omega
  have hz3 : w.heap.size < w1.heap.size := by omega
  clear b0 b1 hb1
  go_wp2_with fail
  refine (eqHeapS_same _ _ _ _ _ Hp blk blk' _ HS.out.heaps HS.out.data ?h3 ?h4).mono ?_
  case h3 => exact (H1.out.below HB1.out (Nat.le_refl _)).heaps
  case h4 => exact (H2.out.below HB1.out (Nat.le_refl _)).heaps
  rintro e w2 ⟨rfl, hb2⟩
  have HB2 : Hid (Below w.heap.size w w2) := HB1.out.trans (hb2.mono HB1.out.size)
  obtain ⟨hc2, _⟩ := bcell hb2
  have hy2 : w.heap.size + 1 < w2.heap.size := Nat.lt_of_lt_of_le hz2 hb2.size
  have hy3 : w.heap.size < w2.heap.size := by omega
  clear hb2
  go_wp2_with fail
  refine (eqObsS_same _ _ _ _ _ _ _ K V _ HS.out.obs ?h5 ?h6).mono ?_
  case h5 => exact (H1.out.below HB2.out (Nat.le_refl _)).obs.at
  case h6 => exact (H2.out.below HB2.out (Nat.le_refl _)).obs.at
  rintro e w3 ⟨rfl, hb3⟩
  go_wp2
  go_ret
  exact ⟨rfl, HB2.out.trans (hb3.mono HB2.out.size)⟩

set_option maxHeartbeats 1000000 in
theorem szMach_any (aoR : Option Addr) (nR capR : Nat) (z c hz hc : Bool) (aoH : Option Addr) (nH capH : Nat) (Hp : Nat → HeapV) (pc st : Int) (aoO : Option Addr) (nO capO : Nat) (left : Int) (w : World) (h0 : 0 ≤ left) (h1 : left ≤ 1048576)
    (mR : nR ≤ 9223372036854775807) (mH : nH ≤ 9223372036854775807) (mD : ∀ i, i < nH → (Hp i).len ≤ 9223372036854775807) (mO : nO ≤ 9223372036854775807) (hh : InRow w aoH (nH * 3) (heapF Hp)) :
    Calls Try.prog 20 #[.agg #[.slice aoR nR capR, .bool z, .bool c, .bool hz, .bool hc, .slice aoH nH capH, .int .i64 pc, .int .i64 st, .slice aoO nO capO], .int .i64 left] w fun e w' =>
      ∃ r, e = .returned (.int .i64 r) ∧ Left r left (Small nR nH Hp nO) ∧ Below w.heap.size w w' := by
  have HI : Hid (InRow w aoH (nH * 3) (heapF Hp)) := hh
  have HD : Hid (∀ i, i < nH → (Hp i).len ≤ 9223372036854775807) := mD
  clear hh mD
  have b0 := (Below.refl w.heap.size w).alloc (Nat.le_refl _) (.cells #[.slice aoR nR capR, .bool z, .bool c, .bool hz, .bool hc, .slice aoH nH capH, .int .i64 pc, .int .i64 st, .slice aoO nO capO] 55)
  have HB0 : Hid (Below w.heap.size w (w.alloc (.cells #[.slice aoR nR capR, .bool z, .bool c, .bool hz, .bool hc, .slice aoH nH capH, .int .i64 pc, .int .i64 st, .slice aoO nO capO] 55))) := b0
  clear b0
  by_cases hr : (nR : Int) ≤ left
  · go_enter Try.func20, Try.ntmps20
    go_wp2_with fail
    refine (szUint64S_ok _ _ _ _ _ hr h1).mono ?_
    rintro e w1 ⟨rfl, rfl⟩
    go_wp2_with fail
    refine (szHeapS_any _ _ _ Hp _ _ (by omega) (by omega) mH (HI.out.below HB0.out (Nat.le_refl _)) HD.out).mono ?_
    rintro e w2 ⟨r, rfl, hl, hb2⟩
    have b2 := HB0.out.trans (hb2.mono (by simp))
    have HB2 : Hid (Below w.heap.size w w2) := b2
    obtain ⟨hc2, _⟩ := bcell hb2
    have hy : w.heap.size < w2.heap.size := by have := hb2.size; simp at this; omega
    clear hb2 b2
    rcases hl with rfl | ⟨hr0, hr1, hn, hd⟩
    · go_wp2
      go_ret
      exact ⟨_, rfl, .inl rfl, HB2.out⟩
    · have HX : Hid (nH ≤ 1048576 ∧ ∀ i, i < nH → (Hp i).len ≤ 1048576) := ⟨hn, hd⟩
      clear hn hd
      by_cases ho : (nO : Int) ≤ r
      · go_wp2_with fail
        refine (szObsS_ok _ _ _ _ _ ho (by omega)).mono ?_
        rintro e w3 ⟨rfl, rfl⟩
        go_wp2
        go_ret
        exact ⟨_, rfl, .inr ⟨by omega, by omega, by omega, HX.out.1, HX.out.2, by omega⟩, HB2.out⟩
      · go_wp2_with fail
        refine (szObsS_no _ _ _ _ _ hr0 (by omega) mO).mono ?_
        rintro e w3 ⟨rfl, rfl⟩
        go_wp2
        go_ret
        exact ⟨_, rfl, .inl rfl, HB2.out⟩
  · go_enter Try.func20, Try.ntmps20
    go_wp2_with fail
    refine (szUint64S_no _ _ _ _ _ h0 (by omega) mR).mono ?_
    rintro e w1 ⟨rfl, rfl⟩
    go_wp2
    go_ret
    exact ⟨_, rfl, .inl rfl, HB0.out⟩
end Go.Proofs.Ytjnooklalbcamaa
