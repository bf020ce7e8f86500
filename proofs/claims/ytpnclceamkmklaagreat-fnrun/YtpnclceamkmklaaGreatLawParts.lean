import Derived.Test.YtpnclceamkmklaaGreatSpecAny
import Derived.Test.YtpnclceamkmklaaGreatSpecCopy
import Derived.Test.YtpnclceamkmklaaGreatMachSpec
/- How great a machine is behind a step. -/
namespace Go.Proofs.YtpnclceamkmklaaGreat
open Go.RowKit
def Sz (M M' : MV) : Prop := M'.nH = M.nH ∧ (∀ i, (M'.Hp i).len = (M.Hp i).len) ∧ M'.nO ≤ M.nO + 1
theorem Sz.refl (M : MV) : Sz M M := ⟨rfl, fun _ => rfl, Nat.le_succ _⟩
theorem sz_same {M M' : MV} (h1 : M'.nH = M.nH) (h2 : M'.Hp = M.Hp) (h3 : M'.nO ≤ M.nO + 1) : Sz M M' := ⟨h1, fun i => by rw [h2], h3⟩
def szO (M : MV) : Outc → Prop
  | .inl (M', _) => Sz M M'
  | .inr M' => Sz M M'
theorem pokeN_nOs (M : MV) (h o : Nat) (v : Int) : ∀ k, (M.pokeN h o v k).nO = M.nO
  | 0 => rfl
  | k + 1 => pokeN_nOs M h o v k
theorem memOp_sz (s : Bool) (wd : Nat) (A : Int) (d h : Nat) (M : MV) (nx : Int) : szO M (memOp s wd A d h M nx) := by
  unfold memOp
  split
  · exact sz_same rfl rfl (Nat.le_refl _)
  · split
    · split
      · have h1 := MV.pokeN_len (M.see 1 A) h (A - (M.Hp h).base).toNat (M.R d) wd
        exact ⟨h1.1, h1.2.1, by rw [pokeN_nOs]; exact Nat.le_refl _⟩
      · exact sz_same rfl rfl (Nat.le_refl _)
    · exact sz_same rfl rfl (Nat.le_refl _)
theorem jumpOp_sz (a b c : Bool) (imm : Int) (M : MV) (nx : Int) : szO M (jumpOp a b c imm M nx) := by
  unfold jumpOp
  split
  · split
    · exact sz_same rfl rfl (Nat.le_refl _)
    · exact sz_same rfl rfl (Nat.le_refl _)
  · exact Sz.refl M
theorem exec_sz (op d a b h : Nat) (imm : Int) (M : MV) (nx : Int) : szO M (exec op d a b h imm M nx) := by
  unfold exec
  split
  all_goals first
    | exact memOp_sz _ _ _ _ _ _ _
    | exact jumpOp_sz _ _ _ _ _ _
    | exact sz_same rfl rfl (Nat.le_succ _)
    | exact sz_same rfl rfl (Nat.le_refl _)
    | (split <;> exact sz_same rfl rfl (Nat.le_succ _))
theorem stepM_sz (len : Nat) (F : Nat → Nat → Int) (M : MV) : Sz M (stepM len F M) := by
  by_cases h : (len : Int) ≤ M.pc
  · unfold stepM; rw [if_pos h]; exact sz_same rfl rfl (Nat.le_succ _)
  · rw [stepM_in len F M h]
    have := exec_sz (F M.pc.toNat 0).toNat (F M.pc.toNat 1).toNat (F M.pc.toNat 2).toNat (F M.pc.toNat 3).toNat (F M.pc.toNat 5).toNat (F M.pc.toNat 4) M (M.pc + 1)
    generalize exec (F M.pc.toNat 0).toNat (F M.pc.toNat 1).toNat (F M.pc.toNat 2).toNat (F M.pc.toNat 3).toNat (F M.pc.toNat 5).toNat (F M.pc.toNat 4) M (M.pc + 1) = o at this ⊢
    cases o with
    | inl q => obtain ⟨M', nx⟩ := q; exact this
    | inr M' => exact this
end Go.Proofs.YtpnclceamkmklaaGreat
