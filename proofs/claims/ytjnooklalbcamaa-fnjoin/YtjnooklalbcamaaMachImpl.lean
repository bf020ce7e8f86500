/- impl.validSeen, impl.ValidMach. -/
import Derived.Test.YtjnooklalbcamaaMachHeaps
namespace Go.Proofs.Ytjnooklalbcamaa
open Go.RowKit

def seenOK (n : Nat) (K : Nat → Int) : Bool := decide (n ≤ 200000) && (List.range n).all fun i => inB (K i) 1 3
def machOK (nR : Nat) (z c hz hc : Bool) (nH : Nat) (Hp : Nat → HeapV) (pc st : Int) (nO : Nat) (K : Nat → Int) : Bool :=
  decide (nR = 8) && (hz || !z) && (hc || !c) && heapsOK nH Hp && inB pc 0 2000 && inB st 0 2 && seenOK nO K

theorem seen_no {n k : Nat} {K : Nat → Int} (hk : k < n) (h : inB (K k) 1 3 = false) : seenOK n K = false := by
  simp [seenOK, all_no (p := fun i => inB (K i) 1 3) hk h]
theorem mach_no {nR : Nat} {z c hz hc : Bool} {nH : Nat} {Hp : Nat → HeapV} {pc st : Int} {nO : Nat} {K : Nat → Int} (h : ¬ (0 ≤ pc ∧ pc ≤ 2000 ∧ 0 ≤ st ∧ st ≤ 2)) : machOK nR z c hz hc nH Hp pc st nO K = false := by
  have : (inB pc 0 2000 && inB st 0 2) = false := by simp [inB]; omega
  simp only [machOK, Bool.and_assoc]
  rw [show (inB pc 0 2000 && (inB st 0 2 && seenOK nO K)) = false by rw [← Bool.and_assoc, this]; rfl]
  simp

set_option maxHeartbeats 400000 in
theorem validHeaps_great (ao : Option Addr) (n cap : Nat) (Hp : Nat → HeapV) (w : World) (hn : 8 < n) (hm : n ≤ 1048576) :
    Calls Try.prog 100 #[.slice ao n cap] w fun e w' => e = .returned (.bool (heapsOK n Hp)) ∧ Below w.heap.size w w' := by
  have h : heapsOK n Hp = false := by simp [heapsOK]; omega
  rw [h]
  go_enter Try.func100, Try.ntmps100
  go_wp2
  go_ret
  exact ⟨rfl, Below.refl _ _⟩
set_option maxHeartbeats 400000 in
theorem validSeen_great (ao : Option Addr) (n cap : Nat) (K : Nat → Int) (w : World) (hn : 200000 < n) (hm : n ≤ 1048576) :
    Calls Try.prog 101 #[.slice ao n cap] w fun e w' => e = .returned (.bool (seenOK n K)) ∧ Below w.heap.size w w' := by
  have h : seenOK n K = false := by simp [seenOK]; omega
  rw [h]
  go_enter Try.func101, Try.ntmps101
  go_wp2
  go_ret
  exact ⟨rfl, Below.refl _ _⟩
set_option maxHeartbeats 1000000 in
theorem validSeen_at (b n cap : Nat) (K V : Nat → Int) (w : World) (hn : n ≤ 200000) (ha : Arr w b (n * 2) (obsF K V)) :
    Calls Try.prog 101 #[.slice (some ⟨b, 0, none⟩) n cap] w fun e w' => e = .returned (.bool (seenOK n K)) ∧ Below w.heap.size w w' := by
  have hb := ha.lt
  have HA : Hid (Arr w b (n * 2) (obsF K V)) := ha
  clear ha
  go_enter Try.func101, Try.ntmps101
  go_wp2
  go_loopw [10] (fun i wr => ∃ k : Nat, k ≤ n ∧ i = .int .i64 k ∧ Below w.heap.size w wr ∧ ∀ i, i < k → inB (K i) 1 3 = true) (fun i _ => n - (intOf i).toNat)
  case atStart => exact ⟨0, Nat.zero_le _, rfl, Below.refl _ _, fun i hi => by omega⟩
  case round =>
    obtain ⟨k, hk, rfl, hbr, hall⟩ := hrel
    have HK : Hid (∀ i, i < k → inB (K i) 1 3 = true) := hall
    clear hall
    by_cases hlt : k < n
    · have g0 := (hbr.cell (p := ⟨b, k * 2, none⟩) hb).trans ((HA.out.cell (i := k * 2 + 0) (by omega)).trans (congrArg some (obsF_0 K V k)))
      have g1 := (hbr.cell (p := ⟨b, k * 2 + 1, none⟩) hb).trans ((HA.out.cell (i := k * 2 + 1) (by omega)).trans (congrArg some (obsF_1 K V k)))
      by_cases hi : 1 ≤ K k ∧ K k ≤ 3
      · obtain ⟨i1, i2⟩ := hi
        go_wp2
        go_roundw
        case rel => exact ⟨k + 1, by omega, by go_num, hbr.alloc hbr.size _, upto_step HK.out (by simp [inB]; omega)⟩
        case measure => simp [intOf]; omega
      · by_cases i1 : 1 ≤ K k
        · have i2 : 3 < K k := by omega
          go_wp2
          go_ret
          exact ⟨ret_bool (seen_no hlt (by simp [inB]; omega)).symm, hbr.alloc hbr.size _⟩
        · have i2 : K k < 1 := by omega
          go_wp2
          go_ret
          exact ⟨ret_bool (seen_no hlt (by simp [inB]; omega)).symm, hbr.alloc hbr.size _⟩
    · go_wp2
      go_ret
      obtain rfl : k = n := by omega
      exact ⟨ret_bool (by simp only [seenOK, all_yes HK.out, hn, decide_true, Bool.and_self]), hbr⟩
theorem validSeen_any (b n cap : Nat) (K V : Nat → Int) (w : World) (hn : n ≤ 1048576) (ha : Arr w b (n * 2) (obsF K V)) :
    Calls Try.prog 101 #[.slice (some ⟨b, 0, none⟩) n cap] w fun e w' => e = .returned (.bool (seenOK n K)) ∧ Below w.heap.size w w' := by
  by_cases h : n ≤ 200000
  · exact validSeen_at b n cap K V w h ha
  · exact validSeen_great _ n cap K w (by omega) hn
theorem validHeaps_all (B n cap : Nat) (Hp : Nat → HeapV) (blk : Nat → Nat) (w : World) (hn : n ≤ 1048576) (hcap : n ≤ cap) (hlen : ∀ i, i < n → (Hp i).len ≤ 1048576) (hbase : ∀ i, i < n → 0 ≤ (Hp i).base) (hcp : Copied w B n Hp blk) :
    Calls Try.prog 100 #[.slice (some ⟨B, 0, none⟩) n cap] w fun e w' => e = .returned (.bool (heapsOK n Hp)) ∧ Below w.heap.size w w' := by
  by_cases h : n ≤ 8
  · exact validHeaps_any B n cap Hp blk w h hcap hlen hbase hcp
  · exact validHeaps_great _ n cap Hp w (by omega) hn

set_option maxHeartbeats 2000000 in
theorem implMach_any (bR nR : Nat) (R : Nat → Int) (z c hz hc : Bool) (bH nH : Nat) (Hp : Nat → HeapV) (blk : Nat → Nat) (pc st : Int) (bO nO : Nat) (K V : Nat → Int) (w : World)
    (hs : Small nR nH Hp nO) (hbase : ∀ i, i < nH → 0 ≤ (Hp i).base) (h : MachCp w bR nR R bH nH Hp blk bO nO K V) :
    Calls Try.prog 65 #[.agg #[.slice (some ⟨bR, 0, none⟩) nR nR, .bool z, .bool c, .bool hz, .bool hc, .slice (some ⟨bH, 0, none⟩) nH nH, .int .i64 pc, .int .i64 st, .slice (some ⟨bO, 0, none⟩) nO nO]] w fun e w' =>
      e = .returned (.bool (machOK nR z c hz hc nH Hp pc st nO K)) ∧ Below w.heap.size w w' := by
  have HS : Hid (Small nR nH Hp nO) := hs
  have HM : Hid (MachCp w bR nR R bH nH Hp blk bO nO K V) := h
  have HZ : Hid (∀ i, i < nH → 0 ≤ (Hp i).base) := hbase
  have hr := hs.regs
  clear hs h hbase
  have b0 := (Below.refl w.heap.size w).alloc (Nat.le_refl _) (.cells #[.slice (some ⟨bR, 0, none⟩) nR nR, .bool z, .bool c, .bool hz, .bool hc, .slice (some ⟨bH, 0, none⟩) nH nH, .int .i64 pc, .int .i64 st, .slice (some ⟨bO, 0, none⟩) nO nO] 35)
  have HB0 : Hid (Below w.heap.size w (w.alloc (.cells #[.slice (some ⟨bR, 0, none⟩) nR nR, .bool z, .bool c, .bool hz, .bool hc, .slice (some ⟨bH, 0, none⟩) nH nH, .int .i64 pc, .int .i64 st, .slice (some ⟨bO, 0, none⟩) nO nO] 35))) := b0
  clear b0
  by_cases h1 : nR = 8
  · subst h1
    cases hzz : (hz || !z) with
    | false =>
      cases hz <;> cases z <;> simp at hzz
      go_enter Try.func65, Try.ntmps65
      go_wp2
      go_ret
      exact ⟨ret_bool (by simp [machOK]), HB0.out⟩
    | true =>
      cases hcc : (hc || !c) with
      | false =>
        cases hc <;> cases c <;> simp at hcc
        cases hz <;> cases z <;> simp at hzz
        all_goals
          go_enter Try.func65, Try.ntmps65
          go_wp2
          go_ret
          exact ⟨ret_bool (by simp [machOK]), HB0.out⟩
      | true =>
        cases hz <;> cases z <;> simp at hzz <;> cases hc <;> cases c <;> simp at hcc
        all_goals
          go_enter Try.func65, Try.ntmps65
          go_wp2_with fail
          refine (validHeaps_all _ _ _ Hp blk _ HS.out.heaps (Nat.le_refl _) HS.out.data HZ.out (HM.out.below HB0.out (Nat.le_refl _)).heaps).mono ?_
          rintro e w1 ⟨rfl, hb1⟩
          have b1 := HB0.out.trans (hb1.mono (by simp))
          have HB1 : Hid (Below w.heap.size w w1) := b1
          obtain ⟨hc1, _⟩ := bcell hb1
          have hy : w.heap.size < w1.heap.size := by have := hb1.size; simp at this; omega
          clear hb1 b1
          cases hH : heapsOK nH Hp with
          | false =>
            go_wp2
            go_ret
            exact ⟨ret_bool (by simp [machOK, hH]), HB1.out⟩
          | true =>
            have HH : Hid (heapsOK nH Hp = true) := hH
            clear hH
            by_cases hq : 0 ≤ pc ∧ pc ≤ 2000 ∧ 0 ≤ st ∧ st ≤ 2
            · obtain ⟨q1, q2, q3, q4⟩ := hq
              go_wp2_with fail
              refine (validSeen_any _ _ _ K V _ HS.out.obs (HM.out.below HB1.out (Nat.le_refl _)).obs).mono ?_
              rintro e w2 ⟨rfl, hb2⟩
              go_wp2
              go_ret
              have i1 : inB pc 0 2000 = true := by simp [inB]; omega
              have i2 : inB st 0 2 = true := by simp [inB]; omega
              exact ⟨ret_bool (by simp [machOK, HH.out, i1, i2]), HB1.out.trans (hb2.mono HB1.out.size)⟩
            · have HQ : Hid (¬ (0 ≤ pc ∧ pc ≤ 2000 ∧ 0 ≤ st ∧ st ≤ 2)) := hq
              go_wp2_with fail
              all_goals (go_ret; exact ⟨ret_bool (mach_no HQ.out).symm, HB1.out⟩)
  · have h1' : ((nR : Int) == 8) = false := by simp; omega
    go_enter Try.func65, Try.ntmps65
    go_wp2
    go_ret
    exact ⟨ret_bool (by simp [machOK, h1]), HB0.out⟩
/-- What is known of numbers that came in. -/
structure InRange (R : Nat → Int) (nH : Nat) (Hp : Nat → HeapV) : Prop where
  reg : ∀ i, i < 8 → 0 ≤ R i ∧ R i ≤ 18446744073709551615
  base : ∀ i, i < nH → 0 ≤ (Hp i).base ∧ (Hp i).base ≤ 18446744073709551615
  dat : ∀ i, i < nH → ∀ j, j < (Hp i).len → 0 ≤ (Hp i).dat j ∧ (Hp i).dat j ≤ 255
theorem mach_facts {nR : Nat} {z c hz hc : Bool} {nH : Nat} {Hp : Nat → HeapV} {pc st : Int} {nO : Nat} {K : Nat → Int} (h : machOK nR z c hz hc nH Hp pc st nO K = true) :
    nR = 8 ∧ nH ≤ 8 ∧ (∀ i, i < nH → 1 ≤ (Hp i).len ∧ (Hp i).len ≤ 4096 ∧ (Hp i).base ≤ 18446744073709551615 - ((Hp i).len : Int)) ∧ 0 ≤ pc ∧ nO ≤ 200000 := by
  unfold machOK heapsOK seenOK inB at h
  simp only [Bool.and_eq_true, decide_eq_true_eq, List.all_eq_true, List.mem_range] at h
  obtain ⟨⟨⟨⟨⟨⟨h1, _⟩, _⟩, h4, h5⟩, h6, _⟩, _⟩, h8, _⟩ := h
  refine ⟨h1, h4, fun i hi => ?_, h6, h8⟩
  have := h5 i hi
  unfold heapAt hOK at this
  simp only [Bool.and_eq_true, decide_eq_true_eq] at this
  omega
end Go.Proofs.Ytjnooklalbcamaa
