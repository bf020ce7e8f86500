/- Heaplets: compared, measured. -/
import Derived.Test.YtjnooklalbcamaaListHeap
namespace Go.Proofs.Ytjnooklalbcamaa
open Go.RowKit

set_option maxHeartbeats 400000 in
theorem eqHeap_same (base : Int) (wr : Bool) (b off len cap b' off' cap' : Nat) (dat : Nat → Int) (w : World) (hlen : len ≤ 1048576) (hat : At w b off len (numF .u8 dat)) (hat' : At w b' off' len (numF .u8 dat)) :
    Calls Try.prog 103 #[.agg #[.int .u64 base, .bool wr, .slice (some ⟨b, off, none⟩) len cap], .agg #[.int .u64 base, .bool wr, .slice (some ⟨b', off', none⟩) len cap']] w fun e w' => e = .returned (.bool true) ∧ Below w.heap.size w w' := by
  have HA : Hid (At w b off len (numF .u8 dat)) := hat
  have HA' : Hid (At w b' off' len (numF .u8 dat)) := hat'
  have hwr : (wr != wr) = false := by simp
  clear hat hat'
  go_enter Try.func103, Try.ntmps103
  go_wp2_with fail
  refine (eqByteS_same _ _ _ _ _ _ _ dat _ hlen ?h1 ?h2).mono ?_
  case h1 => exact HA.out.below (((Below.refl _ _).alloc (Nat.le_refl _) _).alloc (by simp) _) HA.out.lt
  case h2 => exact HA'.out.below (((Below.refl _ _).alloc (Nat.le_refl _) _).alloc (by simp) _) HA'.out.lt
  rintro e w1 ⟨rfl, hb1⟩
  go_wp2
  go_ret
  exact ⟨rfl, (((Below.refl _ _).alloc (Nat.le_refl _) _).alloc (by simp) _).trans (hb1.mono (by simp; omega))⟩

set_option maxHeartbeats 400000 in
theorem eqHeapS_same (n cap B B' cap' : Nat) (Hp : Nat → HeapV) (blk blk' : Nat → Nat) (w : World) (hn : n ≤ 1048576) (hlen : ∀ i, i < n → (Hp i).len ≤ 1048576) (hc : Copied w B n Hp blk) (hc' : Copied w B' n Hp blk') :
    Calls Try.prog 70 #[.slice (some ⟨B, 0, none⟩) n cap, .slice (some ⟨B', 0, none⟩) n cap'] w fun e w' => e = .returned (.bool true) ∧ Below w.heap.size w w' := by
  have hb := hc.1.lt
  have hb' := hc'.1.lt
  have HA : Hid (Copied w B n Hp blk) := hc
  have HA' : Hid (Copied w B' n Hp blk') := hc'
  have HL : Hid (∀ i, i < n → (Hp i).len ≤ 1048576) := hlen
  clear hc hc' hlen
  go_enter Try.func70, Try.ntmps70
  go_wp2
  go_loopw [5] (fun i wr => ∃ k : Nat, k ≤ n ∧ i = .int .i64 k ∧ Below w.heap.size w wr) (fun i _ => n - (intOf i).toNat)
  case atStart => exact ⟨0, Nat.zero_le _, rfl, Below.refl _ _⟩
  case round =>
    obtain ⟨k, hk, rfl, hbr⟩ := hrel
    by_cases hlt : k < n
    · have g0 := (hbr.cell (p := ⟨B, k * 3, none⟩) hb).trans ((HA.out.1.cell (i := k * 3 + 0) (by omega)).trans (congrArg some (heapF_0 _ k)))
      have g1 := (hbr.cell (p := ⟨B, k * 3 + 1, none⟩) hb).trans ((HA.out.1.cell (i := k * 3 + 1) (by omega)).trans (congrArg some (heapF_1 _ k)))
      have g2 := (hbr.cell (p := ⟨B, k * 3 + 2, none⟩) hb).trans ((HA.out.1.cell (i := k * 3 + 2) (by omega)).trans (congrArg some (heapF_2 _ k)))
      have q0 := (hbr.cell (p := ⟨B', k * 3, none⟩) hb').trans ((HA'.out.1.cell (i := k * 3 + 0) (by omega)).trans (congrArg some (heapF_0 _ k)))
      have q1 := (hbr.cell (p := ⟨B', k * 3 + 1, none⟩) hb').trans ((HA'.out.1.cell (i := k * 3 + 1) (by omega)).trans (congrArg some (heapF_1 _ k)))
      have q2 := (hbr.cell (p := ⟨B', k * 3 + 2, none⟩) hb').trans ((HA'.out.1.cell (i := k * 3 + 2) (by omega)).trans (congrArg some (heapF_2 _ k)))
      simp only [HeapV.moved] at g0 g1 g2 q0 q1 q2
      have hlt' : (k : Int) < (n : Int) := by omega
      go_wp2_with fail
      go_region_with (go_at_call 103; refine (eqHeap_same _ _ _ _ _ _ _ _ _ (Hp k).dat _ (HL.out k hlt) ((HA.out.2.1 k hlt).2.at.below hbr.drew (HA.out.2.1 k hlt).2.lt) ((HA'.out.2.1 k hlt).2.at.below hbr.drew (HA'.out.2.1 k hlt).2.lt)).mono ?_; rintro e w' ⟨rfl, hb2⟩)
      all_goals
        clear g0 g1 g2 q0 q1 q2
        go_wp2
        go_roundw
        case rel => exact ⟨k + 1, by omega, by go_num, hbr.drew.trans (hb2.mono hbr.size)⟩
        case measure => simp [intOf]; omega
    · go_wp2
      go_ret
      exact ⟨rfl, hbr⟩

set_option maxHeartbeats 400000 in
theorem szHeap_ok (base : Int) (wr : Bool) (ao : Option Addr) (len cap : Nat) (left : Int) (w : World) (hlo : (len : Int) ≤ left) (hhi : left ≤ 1048576) :
    Calls Try.prog 95 #[.agg #[.int .u64 base, .bool wr, .slice ao len cap], .int .i64 left] w fun e w' => e = .returned (.int .i64 (left - len)) ∧ Below w.heap.size w w' := by
  go_enter Try.func95, Try.ntmps95
  go_wp2_with fail
  refine (szByteS_ok _ _ _ _ _ hlo hhi).mono ?_
  rintro e w1 ⟨rfl, rfl⟩
  go_wp2
  go_ret
  exact ⟨rfl, (Below.refl _ _).alloc (Nat.le_refl _) _⟩
set_option maxHeartbeats 400000 in
theorem szHeap_no (base : Int) (wr : Bool) (ao : Option Addr) (len cap : Nat) (left : Int) (w : World) (h0 : 0 ≤ left) (hlo : left < (len : Int)) (hm : len ≤ 9223372036854775807) :
    Calls Try.prog 95 #[.agg #[.int .u64 base, .bool wr, .slice ao len cap], .int .i64 left] w fun e w' => e = .returned (.int .i64 (-1)) ∧ Below w.heap.size w w' := by
  go_enter Try.func95, Try.ntmps95
  go_wp2_with fail
  refine (szByteS_no _ _ _ _ _ h0 hlo hm).mono ?_
  rintro e w1 ⟨rfl, rfl⟩
  go_wp2
  go_ret
  exact ⟨rfl, (Below.refl _ _).alloc (Nat.le_refl _) _⟩

/-- What a measure answers: -1, or what is left; then all that was measured is small. -/
def Left (r left : Int) (small : Prop) : Prop := r = -1 ∨ (0 ≤ r ∧ r ≤ left ∧ small)

set_option maxHeartbeats 400000 in
theorem szHeapS_at (b off n cap : Nat) (Hp : Nat → HeapV) (left : Int) (w : World) (h0 : (n : Int) ≤ left) (h1 : left ≤ 1048576) (hat : At w b off (n * 3) (heapF Hp)) (hm : ∀ i, i < n → (Hp i).len ≤ 9223372036854775807) :
    Calls Try.prog 57 #[.slice (some ⟨b, off, none⟩) n cap, .int .i64 left] w fun e w' => ∃ r, e = .returned (.int .i64 r) ∧ Left r left (∀ i, i < n → (Hp i).len ≤ 1048576) ∧ Below w.heap.size w w' := by
  have hb := hat.lt
  have HA : Hid (At w b off (n * 3) (heapF Hp)) := hat
  have HM : Hid (∀ i, i < n → (Hp i).len ≤ 9223372036854775807) := hm
  clear hat hm
  go_enter Try.func57, Try.ntmps57
  go_wp2
  go_loopw [1, 5] (fun l i wr => ∃ (k : Nat) (r : Int), k ≤ n ∧ i = .int .i64 k ∧ l = .int .i64 r ∧ 0 ≤ r ∧ r ≤ left ∧ Below w.heap.size w wr ∧ ∀ i, i < k → (Hp i).len ≤ 1048576) (fun _ i _ => n - (intOf i).toNat)
  case atStart => exact ⟨0, _, Nat.zero_le _, rfl, rfl, by omega, by omega, Below.refl _ _, fun i hi => by omega⟩
  case round =>
    obtain ⟨k, r, hk, rfl, rfl, hr0, hr1, hbr, hsm⟩ := hrel
    have HS : Hid (∀ i, i < k → (Hp i).len ≤ 1048576) := hsm
    clear hsm
    by_cases hlt : k < n
    · have g0 := (hbr.cell (p := ⟨b, off + k * 3, none⟩) hb).trans ((HA.out.cell (i := k * 3 + 0) (by omega)).trans (congrArg some (heapF_0 Hp k)))
      have g1 := (hbr.cell (p := ⟨b, off + k * 3 + 1, none⟩) hb).trans ((HA.out.cell (i := k * 3 + 1) (by omega)).trans (congrArg some (heapF_1 Hp k)))
      have g2 := (hbr.cell (p := ⟨b, off + k * 3 + 2, none⟩) hb).trans ((HA.out.cell (i := k * 3 + 2) (by omega)).trans (congrArg some (heapF_2 Hp k)))
      go_wp2_with fail
      by_cases hs : ((Hp k).len : Int) ≤ r
      · refine (szHeap_ok _ _ _ _ _ _ _ hs (by omega)).mono ?_
        rintro e w1 ⟨rfl, hb1⟩
        clear g0 g1 g2
        go_wp2
        go_roundw
        case rel => exact ⟨k + 1, r - (Hp k).len, by omega, by go_num, rfl, by omega, by omega, hbr.trans (hb1.mono hbr.size), fun i hi => by
          by_cases e : i = k
          · subst e; omega
          · exact HS.out i (by omega)⟩
        case measure => simp [intOf]; omega
      · refine (szHeap_no _ _ _ _ _ _ _ hr0 (by omega) (HM.out k hlt)).mono ?_
        rintro e w1 ⟨rfl, hb1⟩
        clear g0 g1 g2
        go_wp2
        go_ret
        exact ⟨_, rfl, .inl rfl, hbr.trans (hb1.mono hbr.size)⟩
    · go_wp2
      go_ret
      obtain rfl : k = n := by omega
      exact ⟨_, rfl, .inr ⟨hr0, hr1, HS.out⟩, hbr⟩
set_option maxHeartbeats 400000 in
theorem szHeapS_no (ao : Option Addr) (n cap : Nat) (left : Int) (w : World) (h0 : 0 ≤ left) (hlo : left < (n : Int)) (hm : n ≤ 9223372036854775807) :
    Calls Try.prog 57 #[.slice ao n cap, .int .i64 left] w fun e w' => e = .returned (.int .i64 (-1)) ∧ Below w.heap.size w w' := by
  go_enter Try.func57, Try.ntmps57
  go_wp2
  go_ret
  exact ⟨rfl, Below.refl _ _⟩
set_option maxHeartbeats 400000 in
theorem szHeapS_nil (ao : Option Addr) (cap : Nat) (left : Int) (w : World) (h0 : 0 ≤ left) (h1 : left ≤ 1048576) :
    Calls Try.prog 57 #[.slice ao 0 cap, .int .i64 left] w fun e w' => e = .returned (.int .i64 left) ∧ Below w.heap.size w w' := by
  go_enter Try.func57, Try.ntmps57
  go_wp2
  refine wp_loop_rounds 1 ?_
  rw [rounds_succ]
  go_wp2
  go_ret
  exact ⟨rfl, Below.refl _ _⟩
theorem szHeapS_any (ao : Option Addr) (n cap : Nat) (Hp : Nat → HeapV) (left : Int) (w : World) (h0 : 0 ≤ left) (h1 : left ≤ 1048576) (hn : n ≤ 9223372036854775807) (h : InRow w ao (n * 3) (heapF Hp)) (hm : ∀ i, i < n → (Hp i).len ≤ 9223372036854775807) :
    Calls Try.prog 57 #[.slice ao n cap, .int .i64 left] w fun e w' => ∃ r, e = .returned (.int .i64 r) ∧ Left r left (n ≤ 1048576 ∧ ∀ i, i < n → (Hp i).len ≤ 1048576) ∧ Below w.heap.size w w' := by
  by_cases hl : (n : Int) ≤ left
  · rcases h with h | ⟨b, off, rfl, h⟩
    · obtain rfl : n = 0 := by omega
      refine (szHeapS_nil ao cap left w h0 h1).mono ?_
      rintro e w1 ⟨rfl, hb⟩
      exact ⟨_, rfl, .inr ⟨h0, Int.le_refl _, by omega, fun i hi => by omega⟩, hb⟩
    · refine (szHeapS_at b off n cap Hp left w hl h1 h hm).mono ?_
      rintro e w1 ⟨r, rfl, hr, hb⟩
      refine ⟨r, rfl, ?_, hb⟩
      rcases hr with hr | ⟨a, b, c⟩
      · exact .inl hr
      · exact .inr ⟨a, b, by omega, c⟩
  · refine (szHeapS_no ao n cap left w h0 (by omega) hn).mono ?_
    rintro e w1 ⟨rfl, hb⟩
    exact ⟨_, rfl, .inl rfl, hb⟩
end Go.Proofs.Ytjnooklalbcamaa
