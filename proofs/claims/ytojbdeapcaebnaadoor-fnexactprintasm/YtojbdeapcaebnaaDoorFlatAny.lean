/- Lists of instructions: the contracts for whatever list came in. -/
import Derived.Test.YtojbdeapcaebnaaDoorFlatValid
import Derived.Test.YtojbdeapcaebnaaDoorFlatEq
namespace Go.Proofs.YtojbdeapcaebnaaDoor
open Go.RowKit

set_option maxHeartbeats 400000 in
theorem toInsS_nil (ao : Option Addr) (cap : Nat) (F : Nat → Nat → Int) (w : World) :
    Calls Tryd.prog 6 #[.slice ao 0 cap] w fun e w' => e = .returned (.slice (some ⟨w.heap.size, 0, none⟩) 0 0) ∧ Below w.heap.size w w' ∧ Arr w' w.heap.size (0 * 6) (insF F) := by
  obtain ⟨i0, hi, hz0, hz1, hz2⟩ := info_parts info_iIns
  go_enter Tryd.func6, Tryd.ntmps6
  go_wp2_with (first | (at_make; refine wpList_make_full _ rfl _ _ 26 rfl w.heap.size 37 i0 _ 6 Tryd.underlying26 hi hz0 hz1 .i64 .i64 _ _ 0 rfl rfl ?c1 ?c2 ?c3 ?c4 ?c5 ?_) | go_in)
  case c1 => rfl
  case c2 => rfl
  case c3 => rw [hz2]; omega
  case c4 => unfold maxLen; omega
  case c5 => exact Nat.le_refl _
  · intro w1 hown hgrow
    have hbel : Below w.heap.size w w1 := (Below.refl _ _).grown hgrow (Nat.le_refl _) (by intro k hk; cases hk)
    have harr : Arr w1 w.heap.size (0 * 6) (insF F) := Arr.made hown fun i hi => by omega
    have HX : Hid (Below w.heap.size w w1 ∧ Arr w1 w.heap.size (0 * 6) (insF F)) := ⟨hbel, harr⟩
    clear hown hgrow hi hz0 hz1 hz2 hbel harr
    go_wp2
    refine wp_loop_rounds 1 ?_
    rw [rounds_succ]
    go_wp2
    go_ret
    exact ⟨rfl, HX.out.1, HX.out.2⟩
theorem toInsS_in (ao : Option Addr) (len cap : Nat) (F : Nat → Nat → Int) (w : World) (hlen : len ≤ 1048576) (h : InRow w ao (len * 6) (insF F)) :
    Calls Tryd.prog 6 #[.slice ao len cap] w fun e w' => e = .returned (.slice (some ⟨w.heap.size, 0, none⟩) len len) ∧ Below w.heap.size w w' ∧ Arr w' w.heap.size (len * 6) (insF F) := by
  rcases h with h | ⟨b, off, rfl, h⟩
  · obtain rfl : len = 0 := by omega
    exact toInsS_nil ao cap F w
  · exact toInsS_any b off len cap F w hlen h
theorem specFlat_any (b off len cap : Nat) (F : Nat → Nat → Int) (w : World) (hm : len ≤ 1048576) (hat : At w b off (len * 6) (insF F)) :
    Calls Tryd.prog 13 #[.slice (some ⟨b, off, none⟩) len cap] w fun e w' => e = .returned (.bool (flatOK len F)) ∧ Below w.heap.size w w' := by
  by_cases h : len < 1 ∨ 2000 < len
  · exact specFlat_bad _ _ _ F w h hm
  · exact specFlat_at b off len cap F w (by omega) (by omega) hat
theorem implFlat_any (b off len cap : Nat) (F : Nat → Nat → Int) (w : World) (hm : len ≤ 1048576) (hat : At w b off (len * 6) (insF F)) :
    Calls Tryd.prog 20 #[.slice (some ⟨b, off, none⟩) len cap] w fun e w' => e = .returned (.bool (flatOK len F)) ∧ Below w.heap.size w w' := by
  by_cases h : len < 1 ∨ 2000 < len
  · exact implFlat_bad _ _ _ F w h hm
  · exact implFlat_at b off len cap F w (by omega) (by omega) hat

set_option maxHeartbeats 400000 in
theorem szInsS_ok (ao : Option Addr) (len cap : Nat) (left : Int) (w : World) (hlo : (len : Int) ≤ left) (hhi : left ≤ 1048576) :
    Calls Tryd.prog 4 #[.slice ao len cap, .int .i64 left] w fun e w' => e = .returned (.int .i64 (left - len)) ∧ w' = w := by
  go_enter Tryd.func4, Tryd.ntmps4
  go_wp2
  go_ret
  exact ⟨rfl, rfl⟩
set_option maxHeartbeats 400000 in
theorem szInsS_no (ao : Option Addr) (len cap : Nat) (left : Int) (w : World) (h0 : 0 ≤ left) (hlo : left < (len : Int)) (hm : len ≤ 9223372036854775807) :
    Calls Tryd.prog 4 #[.slice ao len cap, .int .i64 left] w fun e w' => e = .returned (.int .i64 (-1)) ∧ w' = w := by
  go_enter Tryd.func4, Tryd.ntmps4
  go_wp2
  go_ret
  exact ⟨rfl, rfl⟩

end Go.Proofs.YtojbdeapcaebnaaDoor
