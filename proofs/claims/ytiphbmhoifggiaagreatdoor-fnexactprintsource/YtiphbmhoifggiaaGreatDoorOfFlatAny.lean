import Derived.Test.YtiphbmhoifggiaaGreatDoorFlatWalks
import Derived.Deep.RegionWith
import Derived.BigRegion
/- ValidFlat, the specification's and the program's. -/
namespace Go.Proofs.YtiphbmhoifggiaaGreatDoor
open Go.RowKit

def insOK (F : Nat → Nat → Int) (i : Nat) : Bool := implIns (F i 0) (F i 1) (F i 2) (F i 3) (F i 4) (F i 5)
def flatAt (len : Nat) (F : Nat → Nat → Int) (i : Nat) : Bool := insOK F i && !(jumpB (F i 0) && decide ((len : Int) ≤ F i 4))
def flatOK (len : Nat) (F : Nat → Nat → Int) : Bool := decide (1 ≤ len) && decide (len ≤ 2000) && (List.range len).all (flatAt len F) && (F (len - 1) 0 == 34)
theorem flat_stop {len k : Nat} {F : Nat → Nat → Int} (hk : k < len) (h : flatAt len F k = false) : flatOK len F = false := by
  have : (List.range len).all (flatAt len F) = false := by
    rw [List.all_eq_false]
    exact ⟨k, List.mem_range.2 hk, by simp [h]⟩
  simp [flatOK, this]
theorem flat_end {len : Nat} {F : Nat → Nat → Int} (h1 : 1 ≤ len) (h2 : len ≤ 2000) (h : ∀ i, i < len → flatAt len F i = true) : flatOK len F = (F (len - 1) 0 == 34) := by
  have : (List.range len).all (flatAt len F) = true := by
    rw [List.all_eq_true]
    exact fun i hi => h i (List.mem_range.1 hi)
  simp [flatOK, this, h1, h2]
theorem flat_step {len k : Nat} {F : Nat → Nat → Int} (h : ∀ i, i < k → flatAt len F i = true) (g : flatAt len F k = true) : ∀ i, i < k + 1 → flatAt len F i = true := by
  intro i hi
  by_cases e : i = k
  · rw [e]; exact g
  · exact h i (by omega)
theorem flat_bad {len : Nat} {F : Nat → Nat → Int} (h : len < 1 ∨ 2000 < len) : flatOK len F = false := by
  rcases h with h | h <;> simp [flatOK] <;> intros <;> omega

end Go.Proofs.YtiphbmhoifggiaaGreatDoor
/- Slices of instructions: compared. -/
namespace Go.Proofs.YtiphbmhoifggiaaGreatDoor
open Go.RowKit

set_option maxHeartbeats 400000 in
theorem eqIns_same (op d a b imm h : Int) (w : World) :
    Calls Tryz.prog 117 #[.agg #[.int .i64 op, .int .i64 d, .int .i64 a, .int .i64 b, .int .i64 imm, .int .i64 h], .agg #[.int .i64 op, .int .i64 d, .int .i64 a, .int .i64 b, .int .i64 imm, .int .i64 h]] w fun e w' => e = .returned (.bool true) ∧ Below w.heap.size w w' := by
  go_enter Tryz.func117, Tryz.ntmps117
  go_wp2
  go_ret
  exact ⟨rfl, ((Below.refl _ _).alloc (Nat.le_refl _) _).alloc (by simp) _⟩

end Go.Proofs.YtiphbmhoifggiaaGreatDoor
/- Lists of instructions: the contracts for whatever list came in. -/
namespace Go.Proofs.YtiphbmhoifggiaaGreatDoor
open Go.RowKit

end Go.Proofs.YtiphbmhoifggiaaGreatDoor
