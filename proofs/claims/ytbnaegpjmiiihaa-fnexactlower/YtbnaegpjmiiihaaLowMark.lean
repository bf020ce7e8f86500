/- Marks; lists of instructions that may be nil, compared. -/
import Derived.Test.YtbnaegpjmiiihaaLowImpl
import Derived.Test.YtbnaegpjmiiihaaUnitCopy
namespace Go.Proofs.Ytbnaegpjmiiihaa
open Go.RowKit
def markL (k : Int) (p : Nat) : Value := .int .i64 (k + (p : Int))

set_option maxRecDepth 20000 in
set_option maxHeartbeats 16000000 in
theorem markSt_at (b n cap : Nat) (f : Nat → Value) (k : Int) (w : World) (ln : n ≤ 1048576) (k0 : 0 ≤ k) (k1 : k ≤ 1125899906842624) (hA : Arr w b (n * 11) f) :
    Calls Try.prog 10 #[.slice (some ⟨b, 0, none⟩) n cap, .int .i64 k] w fun e w' => e = .returned (.int .i64 (k + 11 * (n : Int))) ∧ Ft b w w' ∧ Arr w' b (n * 11) (markL k) := by
  have HA : Hid (Arr w b (n * 11) f) := hA
  clear hA
  go_enter Try.func10, Try.ntmps10
  go_wp2
  go_loopw [1, 5] (fun kv iv wr => ∃ j : Nat, j ≤ n ∧ kv = .int .i64 (k + 11 * (j : Int)) ∧ iv = .int .i64 (j : Int) ∧ Ft b w wr ∧ Arr wr b (n * 11) (upTo (markL k) f (j * 11))) (fun _ iv _ => n - (intOf iv).toNat)
  case atStart => exact ⟨0, Nat.zero_le _, by simp, rfl, Ft.refl _ _, HA.out.congr fun i _ => by rw [Nat.zero_mul, upTo_zero]⟩
  case round =>
    obtain ⟨j, hj, hkv, hiv, hf, ha⟩ := hrel
    obtain ⟨kj, hkj⟩ : ∃ y : Int, k + 11 * (j : Int) = y := ⟨_, rfl⟩
    rw [hkj] at hkv
    subst hkv hiv
    have HKJ : Hid (k + 11 * (j : Int) = kj) := hkj
    have kb0 : 0 ≤ kj := by omega
    have kb1 : kj ≤ 2251799813685248 := by omega
    have F2 : Hid (Ft b w wr) := hf
    have A2 : Hid (Arr wr b (n * 11) (upTo (markL k) f (j * 11))) := ha
    clear hf ha hkj
    by_cases hlt : j < n
    · have hlt' : (j : Int) < (n : Int) := by omega
      have c0 := A2.out.cell (i := j * 11) (by omega)
      have c1 := A2.out.cell (i := j * 11 + 1) (by omega)
      have c2 := A2.out.cell (i := j * 11 + 2) (by omega)
      have c3 := A2.out.cell (i := j * 11 + 3) (by omega)
      have c4 := A2.out.cell (i := j * 11 + 4) (by omega)
      have c5 := A2.out.cell (i := j * 11 + 5) (by omega)
      have c6 := A2.out.cell (i := j * 11 + 6) (by omega)
      have c7 := A2.out.cell (i := j * 11 + 7) (by omega)
      have c8 := A2.out.cell (i := j * 11 + 8) (by omega)
      have c9 := A2.out.cell (i := j * 11 + 9) (by omega)
      have c10 := A2.out.cell (i := j * 11 + 10) (by omega)
      have cf := A2.out.free
      have cl := A2.out.lt
      have A3 : Hid (Arr (wr.setCells b (j * 11) [.int .i64 kj, .int .i64 (kj + 1), .int .i64 (kj + 1 + 1), .int .i64 (kj + 1 + 1 + 1), .int .i64 (kj + 1 + 1 + 1 + 1), .int .i64 (kj + 1 + 1 + 1 + 1 + 1), .int .i64 (kj + 1 + 1 + 1 + 1 + 1 + 1), .int .i64 (kj + 1 + 1 + 1 + 1 + 1 + 1 + 1), .int .i64 (kj + 1 + 1 + 1 + 1 + 1 + 1 + 1 + 1), .int .i64 (kj + 1 + 1 + 1 + 1 + 1 + 1 + 1 + 1 + 1), .int .i64 (kj + 1 + 1 + 1 + 1 + 1 + 1 + 1 + 1 + 1 + 1)]) b (n * 11) (upTo (markL k) f ((j + 1) * 11))) := (by
        rw [show (j + 1) * 11 = j * 11 + 11 by omega]
        exact A2.out.fill (vs := [.int .i64 kj, .int .i64 (kj + 1), .int .i64 (kj + 1 + 1), .int .i64 (kj + 1 + 1 + 1), .int .i64 (kj + 1 + 1 + 1 + 1), .int .i64 (kj + 1 + 1 + 1 + 1 + 1), .int .i64 (kj + 1 + 1 + 1 + 1 + 1 + 1), .int .i64 (kj + 1 + 1 + 1 + 1 + 1 + 1 + 1), .int .i64 (kj + 1 + 1 + 1 + 1 + 1 + 1 + 1 + 1), .int .i64 (kj + 1 + 1 + 1 + 1 + 1 + 1 + 1 + 1 + 1), .int .i64 (kj + 1 + 1 + 1 + 1 + 1 + 1 + 1 + 1 + 1 + 1)]) (by simp; omega) (fun c hc => by
          have hc' : c < 11 := by simpa using hc
          match c, hc' with
          | 0, _ => exact congrArg (Value.int .i64) (by have := HKJ.out; omega)
          | 1, _ => exact congrArg (Value.int .i64) (by have := HKJ.out; omega)
          | 2, _ => exact congrArg (Value.int .i64) (by have := HKJ.out; omega)
          | 3, _ => exact congrArg (Value.int .i64) (by have := HKJ.out; omega)
          | 4, _ => exact congrArg (Value.int .i64) (by have := HKJ.out; omega)
          | 5, _ => exact congrArg (Value.int .i64) (by have := HKJ.out; omega)
          | 6, _ => exact congrArg (Value.int .i64) (by have := HKJ.out; omega)
          | 7, _ => exact congrArg (Value.int .i64) (by have := HKJ.out; omega)
          | 8, _ => exact congrArg (Value.int .i64) (by have := HKJ.out; omega)
          | 9, _ => exact congrArg (Value.int .i64) (by have := HKJ.out; omega)
          | 10, _ => exact congrArg (Value.int .i64) (by have := HKJ.out; omega)) : Arr (wr.setCells b (j * 11) [.int .i64 kj, .int .i64 (kj + 1), .int .i64 (kj + 1 + 1), .int .i64 (kj + 1 + 1 + 1), .int .i64 (kj + 1 + 1 + 1 + 1), .int .i64 (kj + 1 + 1 + 1 + 1 + 1), .int .i64 (kj + 1 + 1 + 1 + 1 + 1 + 1), .int .i64 (kj + 1 + 1 + 1 + 1 + 1 + 1 + 1), .int .i64 (kj + 1 + 1 + 1 + 1 + 1 + 1 + 1 + 1), .int .i64 (kj + 1 + 1 + 1 + 1 + 1 + 1 + 1 + 1 + 1), .int .i64 (kj + 1 + 1 + 1 + 1 + 1 + 1 + 1 + 1 + 1 + 1)]) b (n * 11) (upTo (markL k) f ((j + 1) * 11)))
      have F3 : Hid (Ft b w (wr.setCells b (j * 11) [.int .i64 kj, .int .i64 (kj + 1), .int .i64 (kj + 1 + 1), .int .i64 (kj + 1 + 1 + 1), .int .i64 (kj + 1 + 1 + 1 + 1), .int .i64 (kj + 1 + 1 + 1 + 1 + 1), .int .i64 (kj + 1 + 1 + 1 + 1 + 1 + 1), .int .i64 (kj + 1 + 1 + 1 + 1 + 1 + 1 + 1), .int .i64 (kj + 1 + 1 + 1 + 1 + 1 + 1 + 1 + 1), .int .i64 (kj + 1 + 1 + 1 + 1 + 1 + 1 + 1 + 1 + 1), .int .i64 (kj + 1 + 1 + 1 + 1 + 1 + 1 + 1 + 1 + 1 + 1)])) := (((((((((((F2.out.set _ _).set _ _).set _ _).set _ _).set _ _).set _ _).set _ _).set _ _).set _ _).set _ _).set _ _)
      go_wp2
      go_roundw
      case rel => exact ⟨j + 1, by omega, congrArg (Value.int .i64) (by have := HKJ.out; omega), by go_num, F3.out, A3.out⟩
      case measure => simp [intOf]; omega
    · obtain rfl : j = n := by omega
      have hlt' : ¬ (j : Int) < (j : Int) := by omega
      go_wp2
      go_ret
      exact ⟨ret_int HKJ.out.symm, F2.out, A2.out.filled⟩
set_option maxHeartbeats 400000 in
theorem markSt_nil (ao : Option Addr) (cap : Nat) (k : Int) (w : World) :
    Calls Try.prog 10 #[.slice ao 0 cap, .int .i64 k] w fun e w' => e = .returned (.int .i64 k) ∧ w' = w := by
  go_enter Try.func10, Try.ntmps10
  go_wp2
  refine wp_loop_rounds 1 ?_
  rw [rounds_succ]
  go_wp2
  go_ret
  exact ⟨rfl, rfl⟩

set_option maxRecDepth 20000 in
set_option maxHeartbeats 16000000 in
theorem markIn_at (b n cap : Nat) (f : Nat → Value) (k : Int) (w : World) (ln : n ≤ 1048576) (k0 : 0 ≤ k) (k1 : k ≤ 1125899906842624) (hA : Arr w b (n * 6) f) :
    Calls Try.prog 11 #[.slice (some ⟨b, 0, none⟩) n cap, .int .i64 k] w fun e w' => e = .returned (.int .i64 (k + 6 * (n : Int))) ∧ Ft b w w' ∧ Arr w' b (n * 6) (markL k) := by
  have HA : Hid (Arr w b (n * 6) f) := hA
  clear hA
  go_enter Try.func11, Try.ntmps11
  go_wp2
  go_loopw [1, 5] (fun kv iv wr => ∃ j : Nat, j ≤ n ∧ kv = .int .i64 (k + 6 * (j : Int)) ∧ iv = .int .i64 (j : Int) ∧ Ft b w wr ∧ Arr wr b (n * 6) (upTo (markL k) f (j * 6))) (fun _ iv _ => n - (intOf iv).toNat)
  case atStart => exact ⟨0, Nat.zero_le _, by simp, rfl, Ft.refl _ _, HA.out.congr fun i _ => by rw [Nat.zero_mul, upTo_zero]⟩
  case round =>
    obtain ⟨j, hj, hkv, hiv, hf, ha⟩ := hrel
    obtain ⟨kj, hkj⟩ : ∃ y : Int, k + 6 * (j : Int) = y := ⟨_, rfl⟩
    rw [hkj] at hkv
    subst hkv hiv
    have HKJ : Hid (k + 6 * (j : Int) = kj) := hkj
    have kb0 : 0 ≤ kj := by omega
    have kb1 : kj ≤ 2251799813685248 := by omega
    have F2 : Hid (Ft b w wr) := hf
    have A2 : Hid (Arr wr b (n * 6) (upTo (markL k) f (j * 6))) := ha
    clear hf ha hkj
    by_cases hlt : j < n
    · have hlt' : (j : Int) < (n : Int) := by omega
      have c0 := A2.out.cell (i := j * 6) (by omega)
      have c1 := A2.out.cell (i := j * 6 + 1) (by omega)
      have c2 := A2.out.cell (i := j * 6 + 2) (by omega)
      have c3 := A2.out.cell (i := j * 6 + 3) (by omega)
      have c4 := A2.out.cell (i := j * 6 + 4) (by omega)
      have c5 := A2.out.cell (i := j * 6 + 5) (by omega)
      have cf := A2.out.free
      have cl := A2.out.lt
      have A3 : Hid (Arr (wr.setCells b (j * 6) [.int .i64 kj, .int .i64 (kj + 1), .int .i64 (kj + 1 + 1), .int .i64 (kj + 1 + 1 + 1), .int .i64 (kj + 1 + 1 + 1 + 1), .int .i64 (kj + 1 + 1 + 1 + 1 + 1)]) b (n * 6) (upTo (markL k) f ((j + 1) * 6))) := (by
        rw [show (j + 1) * 6 = j * 6 + 6 by omega]
        exact A2.out.fill (vs := [.int .i64 kj, .int .i64 (kj + 1), .int .i64 (kj + 1 + 1), .int .i64 (kj + 1 + 1 + 1), .int .i64 (kj + 1 + 1 + 1 + 1), .int .i64 (kj + 1 + 1 + 1 + 1 + 1)]) (by simp; omega) (fun c hc => by
          have hc' : c < 6 := by simpa using hc
          match c, hc' with
          | 0, _ => exact congrArg (Value.int .i64) (by have := HKJ.out; omega)
          | 1, _ => exact congrArg (Value.int .i64) (by have := HKJ.out; omega)
          | 2, _ => exact congrArg (Value.int .i64) (by have := HKJ.out; omega)
          | 3, _ => exact congrArg (Value.int .i64) (by have := HKJ.out; omega)
          | 4, _ => exact congrArg (Value.int .i64) (by have := HKJ.out; omega)
          | 5, _ => exact congrArg (Value.int .i64) (by have := HKJ.out; omega)) : Arr (wr.setCells b (j * 6) [.int .i64 kj, .int .i64 (kj + 1), .int .i64 (kj + 1 + 1), .int .i64 (kj + 1 + 1 + 1), .int .i64 (kj + 1 + 1 + 1 + 1), .int .i64 (kj + 1 + 1 + 1 + 1 + 1)]) b (n * 6) (upTo (markL k) f ((j + 1) * 6)))
      have F3 : Hid (Ft b w (wr.setCells b (j * 6) [.int .i64 kj, .int .i64 (kj + 1), .int .i64 (kj + 1 + 1), .int .i64 (kj + 1 + 1 + 1), .int .i64 (kj + 1 + 1 + 1 + 1), .int .i64 (kj + 1 + 1 + 1 + 1 + 1)])) := ((((((F2.out.set _ _).set _ _).set _ _).set _ _).set _ _).set _ _)
      go_wp2
      go_roundw
      case rel => exact ⟨j + 1, by omega, congrArg (Value.int .i64) (by have := HKJ.out; omega), by go_num, F3.out, A3.out⟩
      case measure => simp [intOf]; omega
    · obtain rfl : j = n := by omega
      have hlt' : ¬ (j : Int) < (j : Int) := by omega
      go_wp2
      go_ret
      exact ⟨ret_int HKJ.out.symm, F2.out, A2.out.filled⟩
set_option maxHeartbeats 400000 in
theorem markIn_nil (ao : Option Addr) (cap : Nat) (k : Int) (w : World) :
    Calls Try.prog 11 #[.slice ao 0 cap, .int .i64 k] w fun e w' => e = .returned (.int .i64 k) ∧ w' = w := by
  go_enter Try.func11, Try.ntmps11
  go_wp2
  refine wp_loop_rounds 1 ?_
  rw [rounds_succ]
  go_wp2
  go_ret
  exact ⟨rfl, rfl⟩

set_option maxRecDepth 20000 in
set_option maxHeartbeats 16000000 in
theorem heldIn_at (b n cap : Nat) (k : Int) (w : World) (ln : n ≤ 1048576) (k0 : 0 ≤ k) (k1 : k ≤ 1125899906842624) (hA : Arr w b (n * 6) (markL k)) :
    Calls Try.prog 12 #[.slice (some ⟨b, 0, none⟩) n cap, .int .i64 k] w fun e w' => e = .returned (.int .i64 (k + 6 * (n : Int))) ∧ w' = w := by
  have HA : Hid (Arr w b (n * 6) (markL k)) := hA
  have lb := hA.lt
  clear hA
  go_enter Try.func12, Try.ntmps12
  go_wp2
  go_loopw [1, 5] (fun kv iv wr => ∃ j : Nat, j ≤ n ∧ kv = .int .i64 (k + 6 * (j : Int)) ∧ iv = .int .i64 (j : Int) ∧ wr = w) (fun _ iv _ => n - (intOf iv).toNat)
  case atStart => exact ⟨0, Nat.zero_le _, by simp, rfl, rfl⟩
  case round =>
    obtain ⟨j, hj, hkv, hiv, hw⟩ := hrel
    obtain ⟨kj, hkj⟩ : ∃ y : Int, k + 6 * (j : Int) = y := ⟨_, rfl⟩
    rw [hkj] at hkv
    subst hkv hiv hw
    have HKJ : Hid (k + 6 * (j : Int) = kj) := hkj
    have kb0 : 0 ≤ kj := by omega
    have kb1 : kj ≤ 2251799813685248 := by omega
    clear hkj
    by_cases hlt : j < n
    · have hlt' : (j : Int) < (n : Int) := by omega
      have c0 : wr.cell? ⟨b, j * 6, none⟩ = some (.int .i64 (kj)) := (HA.out.cell (i := j * 6) (by omega)).trans (congrArg (fun x => some (Value.int .i64 x)) (by have := HKJ.out; omega))
      have c1 : wr.cell? ⟨b, j * 6 + 1, none⟩ = some (.int .i64 (kj + 1)) := (HA.out.cell (i := j * 6 + 1) (by omega)).trans (congrArg (fun x => some (Value.int .i64 x)) (by have := HKJ.out; omega))
      have c2 : wr.cell? ⟨b, j * 6 + 2, none⟩ = some (.int .i64 (kj + 1 + 1)) := (HA.out.cell (i := j * 6 + 2) (by omega)).trans (congrArg (fun x => some (Value.int .i64 x)) (by have := HKJ.out; omega))
      have c3 : wr.cell? ⟨b, j * 6 + 3, none⟩ = some (.int .i64 (kj + 1 + 1 + 1)) := (HA.out.cell (i := j * 6 + 3) (by omega)).trans (congrArg (fun x => some (Value.int .i64 x)) (by have := HKJ.out; omega))
      have c4 : wr.cell? ⟨b, j * 6 + 4, none⟩ = some (.int .i64 (kj + 1 + 1 + 1 + 1)) := (HA.out.cell (i := j * 6 + 4) (by omega)).trans (congrArg (fun x => some (Value.int .i64 x)) (by have := HKJ.out; omega))
      have c5 : wr.cell? ⟨b, j * 6 + 5, none⟩ = some (.int .i64 (kj + 1 + 1 + 1 + 1 + 1)) := (HA.out.cell (i := j * 6 + 5) (by omega)).trans (congrArg (fun x => some (Value.int .i64 x)) (by have := HKJ.out; omega))
      go_wp2
      go_roundw
      case rel => exact ⟨j + 1, by omega, congrArg (Value.int .i64) (by have := HKJ.out; omega), by go_num, by first | rfl | trivial⟩
      case measure => simp [intOf]; omega
    · obtain rfl : j = n := by omega
      have hlt' : ¬ (j : Int) < (j : Int) := by omega
      go_wp2
      go_ret
      exact ⟨ret_int HKJ.out.symm, rfl⟩
set_option maxHeartbeats 400000 in
theorem heldIn_nil (ao : Option Addr) (cap : Nat) (k : Int) (w : World) :
    Calls Try.prog 12 #[.slice ao 0 cap, .int .i64 k] w fun e w' => e = .returned (.int .i64 k) ∧ w' = w := by
  go_enter Try.func12, Try.ntmps12
  go_wp2
  refine wp_loop_rounds 1 ?_
  rw [rounds_succ]
  go_wp2
  go_ret
  exact ⟨rfl, rfl⟩
set_option maxHeartbeats 400000 in
theorem eqInsS_nilL (ao ao' : Option Addr) (cap cap' : Nat) (w : World) :
    Calls Try.prog 8 #[.slice ao 0 cap, .slice ao' 0 cap'] w fun e w' => e = .returned (.bool true) ∧ Below w.heap.size w w' := by
  go_enter Try.func8, Try.ntmps8
  go_wp2
  refine wp_loop_rounds 1 ?_
  rw [rounds_succ]
  go_wp2
  go_ret
  exact ⟨rfl, Below.refl _ _⟩
set_option maxHeartbeats 400000 in
theorem eqStmtS_nilL (ao ao' : Option Addr) (cap cap' : Nat) (w : World) :
    Calls Try.prog 9 #[.slice ao 0 cap, .slice ao' 0 cap'] w fun e w' => e = .returned (.bool true) ∧ Below w.heap.size w w' := by
  go_enter Try.func9, Try.ntmps9
  go_wp2
  refine wp_loop_rounds 1 ?_
  rw [rounds_succ]
  go_wp2
  go_ret
  exact ⟨rfl, Below.refl _ _⟩

def inC (x : NV) : Nat → Value
  | 0 => .int .i64 x.op
  | 1 => .int .i64 x.d
  | 2 => .int .i64 x.a
  | 3 => .int .i64 x.b
  | 4 => .int .i64 x.imm
  | _ => .int .i64 x.h
def inF (L : Nat → NV) (i : Nat) : Value := inC (L (i / 6)) (i % 6)
theorem inF_at (L : Nat → NV) (k j : Nat) (hj : j < 6) : inF L (k * 6 + j) = inC (L k) j := by
  unfold inF; rw [show (k * 6 + j) / 6 = k by omega, show (k * 6 + j) % 6 = j by omega]
theorem ci_get (xs : List NV) (d : NV) : ∀ p, p < xs.length * 6 → (ci xs)[p]? = some (inF (fun i => xs.getD i d) p) := by
  induction xs with
  | nil => intro p h; simp at h
  | cons a l ih =>
    intro p h
    show (inL a ++ ci l)[p]? = _
    by_cases hp : p < 6
    · rw [List.getElem?_append_left (by show p < 6; exact hp)]
      unfold inF
      rw [show p / 6 = 0 by omega, show p % 6 = p by omega]
      match p, hp with
      | 0, _ => rfl
      | 1, _ => rfl
      | 2, _ => rfl
      | 3, _ => rfl
      | 4, _ => rfl
      | 5, _ => rfl
    · rw [List.getElem?_append_right (by show 6 ≤ p; omega)]
      show (ci l)[p - 6]? = _
      rw [ih (p - 6) (by simp at h; omega)]
      unfold inF
      rw [show (p - 6) / 6 = p / 6 - 1 by omega, show (p - 6) % 6 = p % 6 by omega]
      obtain ⟨k, hk⟩ : ∃ k, p / 6 = k + 1 := ⟨p / 6 - 1, by omega⟩
      rw [hk]
      rfl

set_option maxHeartbeats 4000000 in
theorem eqInsS_low (b off len cap b' off' cap' : Nat) (L : Nat → NV) (w : World) (hlen : len ≤ 1048576) (hat : At w b off (len * 6) (inF L)) (hat' : At w b' off' (len * 6) (inF L)) :
    Calls Try.prog 8 #[.slice (some ⟨b, off, none⟩) len cap, .slice (some ⟨b', off', none⟩) len cap'] w fun e w' => e = .returned (.bool true) ∧ Below w.heap.size w w' := by
  have hb := hat.lt
  have hb' := hat'.lt
  have HA : Hid (At w b off (len * 6) (inF L)) := hat
  have HA' : Hid (At w b' off' (len * 6) (inF L)) := hat'
  clear hat hat'
  go_enter Try.func8, Try.ntmps8
  go_wp2
  go_loopw [5] (fun i wr => ∃ k : Nat, k ≤ len ∧ i = .int .i64 k ∧ Below w.heap.size w wr) (fun i _ => len - (intOf i).toNat)
  case atStart => exact ⟨0, Nat.zero_le _, rfl, Below.refl _ _⟩
  case round =>
    obtain ⟨k, hk, rfl, hbr⟩ := hrel
    by_cases hlt : k < len
    · have g0 := (hbr.cell (p := ⟨b, off + k * 6, none⟩) hb).trans ((HA.out.cell (i := k * 6 + 0) (by omega)).trans (congrArg some (inF_at L k 0 (by omega))))
      have g1 := (hbr.cell (p := ⟨b, off + k * 6 + 1, none⟩) hb).trans ((HA.out.cell (i := k * 6 + 1) (by omega)).trans (congrArg some (inF_at L k 1 (by omega))))
      have g2 := (hbr.cell (p := ⟨b, off + k * 6 + 2, none⟩) hb).trans ((HA.out.cell (i := k * 6 + 2) (by omega)).trans (congrArg some (inF_at L k 2 (by omega))))
      have g3 := (hbr.cell (p := ⟨b, off + k * 6 + 3, none⟩) hb).trans ((HA.out.cell (i := k * 6 + 3) (by omega)).trans (congrArg some (inF_at L k 3 (by omega))))
      have g4 := (hbr.cell (p := ⟨b, off + k * 6 + 4, none⟩) hb).trans ((HA.out.cell (i := k * 6 + 4) (by omega)).trans (congrArg some (inF_at L k 4 (by omega))))
      have g5 := (hbr.cell (p := ⟨b, off + k * 6 + 5, none⟩) hb).trans ((HA.out.cell (i := k * 6 + 5) (by omega)).trans (congrArg some (inF_at L k 5 (by omega))))
      have q0 := (hbr.cell (p := ⟨b', off' + k * 6, none⟩) hb').trans ((HA'.out.cell (i := k * 6 + 0) (by omega)).trans (congrArg some (inF_at L k 0 (by omega))))
      have q1 := (hbr.cell (p := ⟨b', off' + k * 6 + 1, none⟩) hb').trans ((HA'.out.cell (i := k * 6 + 1) (by omega)).trans (congrArg some (inF_at L k 1 (by omega))))
      have q2 := (hbr.cell (p := ⟨b', off' + k * 6 + 2, none⟩) hb').trans ((HA'.out.cell (i := k * 6 + 2) (by omega)).trans (congrArg some (inF_at L k 2 (by omega))))
      have q3 := (hbr.cell (p := ⟨b', off' + k * 6 + 3, none⟩) hb').trans ((HA'.out.cell (i := k * 6 + 3) (by omega)).trans (congrArg some (inF_at L k 3 (by omega))))
      have q4 := (hbr.cell (p := ⟨b', off' + k * 6 + 4, none⟩) hb').trans ((HA'.out.cell (i := k * 6 + 4) (by omega)).trans (congrArg some (inF_at L k 4 (by omega))))
      have q5 := (hbr.cell (p := ⟨b', off' + k * 6 + 5, none⟩) hb').trans ((HA'.out.cell (i := k * 6 + 5) (by omega)).trans (congrArg some (inF_at L k 5 (by omega))))
      simp only [inC] at g0 g1 g2 g3 g4 g5 q0 q1 q2 q3 q4 q5
      have hlt' : (k : Int) < (len : Int) := by omega
      go_wp2_with fail
      go_region_with (go_at_call 19; refine (eqIns_sameU _ _ _ _ _ _ _).mono ?_; rintro e w' ⟨rfl, hb2⟩)
      all_goals
        clear g0 g1 g2 g3 g4 g5 q0 q1 q2 q3 q4 q5
        go_wp2
        go_roundw
        case rel => exact ⟨k + 1, by omega, by go_num, hbr.drew.trans (hb2.mono hbr.size)⟩
        case measure => simp [intOf]; omega
    · go_wp2
      go_ret
      exact ⟨rfl, hbr⟩
def nv0 : NV := ⟨0, 0, 0, 0, 0, 0⟩
theorem rowI_arr {w : World} {base e g c : Nat} {xs : List NV} (h : w.ownsRow base e 6 (.slice (some ⟨g, 0, none⟩) xs.length c) xs.length (ci xs)) : Arr w g (xs.length * 6) (inF (fun i => xs.getD i nv0)) :=
  ⟨(h.lt g rfl).2, fun i => h.frozenAt i, fun i hi => by rw [h.cellAt i hi]; exact ci_get xs nv0 i hi⟩
theorem rowI_zero {w : World} {base e size n : Nat} {v : Value} {xs : List Value} (h : w.ownsRow base e size v n xs) (hn : n = 0) : ∃ (ao : Option Addr) (c : Nat), v = .slice ao 0 c := by
  rcases h.2 with ⟨h', _⟩ | ⟨g, cap, cur, h', _⟩
  · exact ⟨_, _, h'⟩
  · rw [hn] at h'; exact ⟨_, _, h'⟩
theorem eqInsS_rows {b1 b2 : Nat} {v v' : Value} (xs : List NV) (w : World) (hlen : xs.length ≤ 1048576) (h : w.ownsRow b1 36 6 v xs.length (ci xs)) (h' : w.ownsRow b2 36 6 v' xs.length (ci xs)) :
    Calls Try.prog 8 #[v, v'] w fun e w' => e = .returned (.bool true) ∧ Below w.heap.size w w' := by
  by_cases h0 : xs.length = 0
  · obtain ⟨ao, c, rfl⟩ := rowI_zero h h0
    obtain ⟨ao', c', rfl⟩ := rowI_zero h' h0
    exact eqInsS_nilL ao ao' c c' w
  · obtain ⟨g, c, rfl⟩ := row_some2 h (by omega)
    obtain ⟨g', c', rfl⟩ := row_some2 h' (by omega)
    exact eqInsS_low g 0 xs.length c g' 0 c' _ w hlen (rowI_arr h).at (rowI_arr h').at
theorem Ft.undr {t B : Nat} {w w' : World} (h : Ft t w w') (hB : B ≤ w.heap.size) (ht : B ≤ t) : Below B w w' := ⟨h.os, h.tape, h.output, h.size, fun k hk => h.block k (by omega) (by omega)⟩
theorem markIn_row {base : Nat} {v : Value} (xs : List NV) (k : Int) (w : World) (hlen : xs.length ≤ 1048576) (k0 : 0 ≤ k) (k1 : k ≤ 1125899906842624) (hb : base ≤ w.heap.size) (h : w.ownsRow base 36 6 v xs.length (ci xs)) :
    Calls Try.prog 11 #[v, .int .i64 k] w fun e w' => e = .returned (.int .i64 (k + 6 * (xs.length : Int))) ∧ Below base w w' ∧ (xs.length = 0 ∨ ∃ g c, v = .slice (some ⟨g, 0, none⟩) xs.length c ∧ Arr w' g (xs.length * 6) (markL k)) := by
  by_cases h0 : xs.length = 0
  · obtain ⟨ao, c, rfl⟩ := rowI_zero h h0
    refine (markIn_nil ao c k w).mono ?_
    rintro e w' ⟨rfl, rfl⟩
    exact ⟨ret_int (by rw [h0]; simp), Below.refl _ _, .inl h0⟩
  · obtain ⟨g, c, rfl⟩ := row_some2 h (by omega)
    refine (markIn_at g xs.length c _ k w hlen k0 k1 (rowI_arr h)).mono ?_
    rintro e w' ⟨rfl, hf, ha⟩
    exact ⟨rfl, hf.undr hb (h.lt g rfl).1, .inr ⟨g, c, rfl, ha⟩⟩
theorem heldIn_row {base : Nat} {v : Value} (xs : List NV) (k : Int) (w w0 : World) (hlen : xs.length ≤ 1048576) (k0 : 0 ≤ k) (k1 : k ≤ 1125899906842624) (h : w0.ownsRow base 36 6 v xs.length (ci xs)) (hm : xs.length = 0 ∨ ∃ g c, v = .slice (some ⟨g, 0, none⟩) xs.length c ∧ Arr w g (xs.length * 6) (markL k)) :
    Calls Try.prog 12 #[v, .int .i64 k] w fun e w' => e = .returned (.int .i64 (k + 6 * (xs.length : Int))) ∧ w' = w := by
  rcases hm with h0 | ⟨g, c, rfl, ha⟩
  · obtain ⟨ao, c, rfl⟩ := rowI_zero h h0
    refine (heldIn_nil ao c k w).mono ?_
    rintro e w' ⟨rfl, rfl⟩
    exact ⟨ret_int (by rw [h0]; simp), rfl⟩
  · exact heldIn_at g xs.length c k w hlen k0 k1 ha
theorem lowR_len (L : Nat → SV) (n : Nat) : (lowR L n).length ≤ 2001 := by
  unfold lowR
  by_cases h : runB L n
  · rw [if_pos h]
    have h1 := lowB_len (L := L) (Z := fun _ => 0) (fun _ => Int.le_refl _) _ 0 0 n (Nat.le_refl _) (Nat.zero_le _)
    rw [show szTo L (fun _ => 0) 0 = 0 from rfl] at h1
    have h2 := h.2.2
    rw [List.length_append]
    show _ + 1 ≤ _
    omega
  · rw [if_neg h]; simp
set_option maxHeartbeats 400000 in
theorem szSt_ok (ao : Option Addr) (len cap : Nat) (left : Int) (w : World) (hlo : (len : Int) ≤ left) (hhi : left ≤ 1048576) :
    Calls Try.prog 4 #[.slice ao len cap, .int .i64 left] w fun e w' => e = .returned (.int .i64 (left - len)) ∧ w' = w := by
  go_enter Try.func4, Try.ntmps4
  go_wp2
  go_ret
  exact ⟨rfl, rfl⟩
set_option maxHeartbeats 400000 in
theorem szSt_no (ao : Option Addr) (len cap : Nat) (left : Int) (w : World) (h0 : 0 ≤ left) (hlo : left < (len : Int)) (hm : len ≤ 9223372036854775807) :
    Calls Try.prog 4 #[.slice ao len cap, .int .i64 left] w fun e w' => e = .returned (.int .i64 (-1)) ∧ w' = w := by
  go_enter Try.func4, Try.ntmps4
  go_wp2
  go_ret
  exact ⟨rfl, rfl⟩
end Go.Proofs.Ytbnaegpjmiiihaa
