/- Slices copied by an append to nil. -/
import Derived.Test.YtbnaegpjmiiihaaRows
import Derived.Test.YtbnaegpjmiiihaaArr
import Derived.WalkKit
import Derived.WalkSpells
import Derived.WalkLawsBesides
namespace Go.Proofs.Ytbnaegpjmiiihaa
open Go.RowKit

/-- The first m values of f, as a list. -/
def first (m : Nat) (f : Nat → Value) : List Value := (List.range m).map f
theorem first_length (m : Nat) (f : Nat → Value) : (first m f).length = m := by simp [first]
theorem first_get {m : Nat} {f : Nat → Value} {j : Nat} {u : Value} (h : (first m f)[j]? = some u) : j < m ∧ u = f j := by
  unfold first at h
  rw [List.getElem?_map] at h
  by_cases hj : j < m
  · rw [List.getElem?_range hj] at h
    exact ⟨hj, by simpa using h.symm⟩
  · rw [List.getElem?_eq_none (by simpa using Nat.le_of_not_lt hj)] at h
    cases h
theorem first_mem {m : Nat} {f : Nat → Value} {u : Value} (h : u ∈ first m f) : ∃ j, j < m ∧ u = f j := by
  unfold first at h
  simp only [List.mem_map, List.mem_range] at h
  obtain ⟨j, hj, rfl⟩ := h
  exact ⟨j, hj, rfl⟩

theorem info_cB : (Try.prog.info? 5).map (fun i => (i.zero, i.size, i.bytes)) = some (some (.int .u8 0), 1, 1) := by kernel_rfl
end Go.Proofs.Ytbnaegpjmiiihaa
