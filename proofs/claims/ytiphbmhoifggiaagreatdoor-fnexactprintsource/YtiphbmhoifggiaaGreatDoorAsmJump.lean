import Derived.Test.YtiphbmhoifggiaaGreatDoorAsmParts
/- impl.jumpTargets. -/
namespace Go.Proofs.YtiphbmhoifggiaaGreatDoor
open Go.RowKit

theorem Arr.setJ {w : World} {b n : Nat} {f : Nat → Value} (h : Arr w b n f) (o : Nat) (ho : o < n) (v : Value) : Arr (w.setCell ⟨b, o, none⟩ v) b n (fun i => if i = o then v else f i) := by
  have := h.setCells o [v] (by simp; omega)
  refine Arr.congr (f := fun i => if o ≤ i ∧ i < o + [v].length then [v].getD (i - o) undef else f i) this fun i _ => ?_
  by_cases e : i = o
  · subst e; simp
  · rw [if_neg (by simp; omega), if_neg e]
theorem jump_in {len : Nat} {F : Nat → Nat → Int} {k : Nat} (h : flatAt len F k = true) (hj : jumpB (F k 0) = true) : ∃ t : Nat, F k 4 = (t : Int) ∧ t < len := by
  unfold flatAt insOK implIns at h
  rw [hj] at h
  simp only [Bool.and_eq_true, Bool.true_and, Bool.not_eq_true', decide_eq_false_iff_not] at h
  obtain ⟨⟨⟨⟨⟨⟨h0, h1⟩, h2⟩, h3⟩, h4⟩, h5⟩, h6⟩ := h
  have hlo : immLo (F k 0) = 0 := by
    unfold jumpB at hj
    simp only [Bool.and_eq_true, decide_eq_true_eq] at hj
    unfold immLo
    rw [if_pos (by omega)]
  rw [hlo] at h4
  have h7 : 0 ≤ F k 4 := by
    unfold fieldB inB at h4
    split at h4
    · simp only [Bool.and_eq_true, decide_eq_true_eq] at h4; omega
    · rw [beq_iff_eq] at h4; omega
  exact ⟨(F k 4).toNat, by omega, by omega⟩
theorem info_bool : (Tryz.prog.info? 4).map (fun i => (i.zero, i.size, i.bytes)) = some (some (.bool false), 1, 1) := by kernel_rfl
end Go.Proofs.YtiphbmhoifggiaaGreatDoor
