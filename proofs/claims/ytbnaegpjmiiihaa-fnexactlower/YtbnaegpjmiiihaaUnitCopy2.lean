/- Lists of procedures: copied, measured, compared. -/
import Derived.Test.YtbnaegpjmiiihaaUnitCopy
namespace Go.Proofs.Ytbnaegpjmiiihaa
open Go.RowKit
/-- A procedure as it came in. -/
structure PI where
  ao : Option Addr
  len : Nat
  cap : Nat
  L : Nat → SV
def PI.pv (p : PI) : PV := ⟨p.len, p.L⟩
def piF (Q : Nat → PI) (i : Nat) : Value := .slice (Q i).ao (Q i).len (Q i).cap
def pZ (_ : Nat) : Value := .slice none 0 0
theorem zeroProc (i : Nat) : ((Value.agg #[.slice none 0 0]).cells)[i % ((Value.agg #[.slice none 0 0]).cells).size]! = pZ i := by
  show (#[Value.slice none 0 0] : Array Value)[i % 1]! = _
  unfold pZ
  rw [Nat.mod_one]
  rfl

def putBlkU (blk : Nat → Nat) (k C i : Nat) : Nat := if i = k then C else blk i
theorem putBlkU_same (blk : Nat → Nat) (k C : Nat) : putBlkU blk k C k = C := by simp [putBlkU]
theorem putBlkU_other {blk : Nat → Nat} {k C i : Nat} (h : i ≠ k) : putBlkU blk k C i = blk i := by simp [putBlkU, h]
/-- The copies' blocks lie behind B, in order. -/
def Pord (B n : Nat) (blk : Nat → Nat) : Prop := (∀ i, i < n → B < blk i) ∧ ∀ i j, i < j → j < n → blk i < blk j
/-- What holds of the copies when k procedures have been copied. -/
def PTo (w : World) (B n k : Nat) (Q : Nat → PI) (blk : Nat → Nat) : Prop :=
  Arr w B n (upTo (pF (fun i => (Q i).pv) blk) pZ k) ∧ (∀ i, i < k → B < blk i ∧ Arr w (blk i) ((Q i).len * 11) (stF (Q i).L)) ∧ ∀ i j, i < j → j < k → blk i < blk j
theorem pTo_step {w w2 : World} {B n k C : Nat} {Q : Nat → PI} {blk : Nat → Nat} (hk : k < n) (h : PTo w B n k Q blk) (hb : Below w.heap.size w w2) (hC : w.heap.size ≤ C) (ha : Arr w2 C ((Q k).len * 11) (stF (Q k).L)) :
    PTo (w2.setCell ⟨B, k, none⟩ (.slice (some ⟨C, 0, none⟩) (Q k).len (Q k).len)) B n (k + 1) Q (putBlkU blk k C) := by
  obtain ⟨h1, h2, h4⟩ := h
  have hB : B < C := Nat.lt_of_lt_of_le h1.lt hC
  refine ⟨?_, ?_, ?_⟩
  · refine Arr.fill (o := k) (vs := [.slice (some ⟨C, 0, none⟩) (Q k).len (Q k).len]) ((h1.below hb h1.lt).retell fun i hi => ?_) (by simp; omega) fun j hj => ?_
    · unfold pF; rw [putBlkU_other (by omega)]
    · match j, hj with
      | 0, _ => show _ = pF _ _ k; unfold pF; rw [putBlkU_same]; rfl
  · intro i hi
    by_cases e : i = k
    · subst e; rw [putBlkU_same]; exact ⟨hB, ha.other (a := ⟨B, i, none⟩) (by simp; omega) _⟩
    · rw [putBlkU_other e]
      obtain ⟨q1, q2⟩ := h2 i (by omega)
      exact ⟨q1, (q2.below hb q2.lt).other (a := ⟨B, k, none⟩) (by simp; omega) _⟩
  · intro i j hij hj
    by_cases e : j = k
    · subst e
      rw [putBlkU_other (by omega), putBlkU_same]
      exact Nat.lt_of_lt_of_le (h2 i (by omega)).2.lt hC
    · rw [putBlkU_other (by omega), putBlkU_other e]; exact h4 i j hij (by omega)

set_option maxHeartbeats 400000 in
theorem szStmtS_ok (ao : Option Addr) (len cap : Nat) (left : Int) (w : World) (hlo : (len : Int) ≤ left) (hhi : left ≤ 1048576) :
    Calls Try.prog 4 #[.slice ao len cap, .int .i64 left] w fun e w' => e = .returned (.int .i64 (left - len)) ∧ w' = w := by
  go_enter Try.func4, Try.ntmps4
  go_wp2
  go_ret
  exact ⟨rfl, rfl⟩
set_option maxHeartbeats 400000 in
theorem szStmtS_no (ao : Option Addr) (len cap : Nat) (left : Int) (w : World) (h0 : 0 ≤ left) (hlo : left < (len : Int)) (hm : len ≤ 9223372036854775807) :
    Calls Try.prog 4 #[.slice ao len cap, .int .i64 left] w fun e w' => e = .returned (.int .i64 (-1)) ∧ w' = w := by
  go_enter Try.func4, Try.ntmps4
  go_wp2
  go_ret
  exact ⟨rfl, rfl⟩
/-- What a measure answers: -1, or what is left; then all that was measured is small. -/
def LeftU (r left : Int) (small : Prop) : Prop := r = -1 ∨ (0 ≤ r ∧ r ≤ left ∧ small)

end Go.Proofs.Ytbnaegpjmiiihaa
