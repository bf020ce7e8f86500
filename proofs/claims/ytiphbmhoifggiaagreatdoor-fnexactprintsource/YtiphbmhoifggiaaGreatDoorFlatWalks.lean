import Derived.Test.YtiphbmhoifggiaaGreatDoorInsSame
import Derived.Test.YtiphbmhoifggiaaGreatDoorOfRegT
import Derived.Deep.QuietTactic
import Derived.BigQuiet
/- Slices of instructions: copied, compared, measured. -/
namespace Go.Proofs.YtiphbmhoifggiaaGreatDoor
open Go.RowKit

theorem info_iIns : (Tryz.prog.info? 97).map (fun i => (i.zero, i.size, i.bytes)) = some (some (.agg #[.int .i64 0, .int .i64 0, .int .i64 0, .int .i64 0, .int .i64 0, .int .i64 0]), 6, 48) := by kernel_rfl
/-- The cells of a list of instructions: instruction i's field j is F i j. -/
def insF (F : Nat → Nat → Int) (i : Nat) : Value := .int .i64 (F (i / 6) (i % 6))
/-- Of which the first k have been written. -/
def insTo (F : Nat → Nat → Int) (k i : Nat) : Value := .int .i64 (if i < k * 6 then F (i / 6) (i % 6) else 0)
theorem insF_at (F : Nat → Nat → Int) (k j : Nat) (hj : j < 6) : insF F (k * 6 + j) = .int .i64 (F k j) := by
  unfold insF; rw [show (k * 6 + j) / 6 = k by omega, show (k * 6 + j) % 6 = j by omega]
theorem insTo_zero (F : Nat → Nat → Int) (i : Nat) : insTo F 0 i = .int .i64 0 := by simp [insTo]
theorem insTo_step (F : Nat → Nat → Int) (k i : Nat) : (if k * 6 ≤ i ∧ i < k * 6 + [Value.int .i64 (F k 0), Value.int .i64 (F k 1), Value.int .i64 (F k 2), Value.int .i64 (F k 3), Value.int .i64 (F k 4), Value.int .i64 (F k 5)].length then [Value.int .i64 (F k 0), Value.int .i64 (F k 1), Value.int .i64 (F k 2), Value.int .i64 (F k 3), Value.int .i64 (F k 4), Value.int .i64 (F k 5)].getD (i - k * 6) undef else insTo F k i) = insTo F (k + 1) i := by
  by_cases h : k * 6 ≤ i ∧ i < k * 6 + 6
  · obtain ⟨j, rfl⟩ : ∃ j, i = k * 6 + j := ⟨i - k * 6, by omega⟩
    have hj : j < 6 := by omega
    simp only [List.length_cons, List.length_nil, h]
    unfold insTo
    rw [show (k * 6 + j) / 6 = k by omega, show (k * 6 + j) % 6 = j by omega, if_pos (by omega : k * 6 + j < (k + 1) * 6), show k * 6 + j - k * 6 = j by omega]
    match j, hj with
    | 0, _ => simp
    | 1, _ => simp
    | 2, _ => simp
    | 3, _ => simp
    | 4, _ => simp
    | 5, _ => simp
  · simp only [List.length_cons, List.length_nil]
    rw [if_neg (by omega)]
    unfold insTo
    by_cases g : i < k * 6
    · rw [if_pos g, if_pos (by omega)]
    · rw [if_neg g, if_neg (by omega)]
theorem six_stores (w : World) (b k : Nat) (F : Nat → Nat → Int) : (((((w.setCell ⟨b, k * 6, none⟩ (.int .i64 (F k 0))).setCell ⟨b, k * 6 + 1, none⟩ (.int .i64 (F k 1))).setCell ⟨b, k * 6 + 2, none⟩ (.int .i64 (F k 2))).setCell ⟨b, k * 6 + 3, none⟩ (.int .i64 (F k 3))).setCell ⟨b, k * 6 + 4, none⟩ (.int .i64 (F k 4))).setCell ⟨b, k * 6 + 5, none⟩ (.int .i64 (F k 5))
    = w.setCells b (k * 6) [Value.int .i64 (F k 0), Value.int .i64 (F k 1), Value.int .i64 (F k 2), Value.int .i64 (F k 3), Value.int .i64 (F k 4), Value.int .i64 (F k 5)] := rfl
theorem toIns_round {w w2 w3 : World} {k len : Nat} {F : Nat → Nat → Int} (hlt : k < len) (hb : Below w.heap.size w w2) (ha : Arr w2 w.heap.size (len * 6) (insTo F k)) (hb2 : Below w2.heap.size w2 w3) :
    Below w.heap.size w (w3.setCells w.heap.size (k * 6) [Value.int .i64 (F k 0), Value.int .i64 (F k 1), Value.int .i64 (F k 2), Value.int .i64 (F k 3), Value.int .i64 (F k 4), Value.int .i64 (F k 5)]) ∧
    Arr (w3.setCells w.heap.size (k * 6) [Value.int .i64 (F k 0), Value.int .i64 (F k 1), Value.int .i64 (F k 2), Value.int .i64 (F k 3), Value.int .i64 (F k 4), Value.int .i64 (F k 5)]) w.heap.size (len * 6) (insTo F (k + 1)) :=
  ⟨below_setCells (Nat.le_refl _) _ _ (hb.trans (hb2.mono (Nat.le_of_lt ha.lt))), ((ha.below hb2 ha.lt).setCells _ _ (by simp; omega)).congr fun i _ => insTo_step F k i⟩

theorem zero6 (i : Nat) : ((Value.agg #[.int .i64 0, .int .i64 0, .int .i64 0, .int .i64 0, .int .i64 0, .int .i64 0]).cells)[i % ((Value.agg #[.int .i64 0, .int .i64 0, .int .i64 0, .int .i64 0, .int .i64 0, .int .i64 0]).cells).size]! = .int .i64 0 := by
  show (#[Value.int .i64 0, .int .i64 0, .int .i64 0, .int .i64 0, .int .i64 0, .int .i64 0] : Array Value)[i % 6]! = _
  have : i % 6 < 6 := by omega
  match i % 6, this with
  | 0, _ => rfl
  | 1, _ => rfl
  | 2, _ => rfl
  | 3, _ => rfl
  | 4, _ => rfl
  | 5, _ => rfl

end Go.Proofs.YtiphbmhoifggiaaGreatDoor
