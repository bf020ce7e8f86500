import Derived.Test.YtcgcldokompafaaGreatDoorOfEvRun
import Derived.Test.YtcgcldokompafaaGreatDoorOfOpenProc
/- What of Lower's marks Eval wants. -/
namespace Go.Proofs.YtcgcldokompafaaGreatDoor
open Go.RowKit
def markL (k : Int) (p : Nat) : Value := .int .i64 (k + (p : Int))
set_option maxRecDepth 20000 in
set_option maxHeartbeats 16000000 in
theorem markSt_at (b n cap : Nat) (f : Nat -> Value) (k : Int) (w : World) (ln : n <= 1048576) (k0 : 0 <= k) (k1 : k <= 1125899906842624) (hA : Arr w b (n * 11) f) :
  Calls Tryz.prog 14 #[.slice (some ⟨b, 0, none⟩) n cap, .int .i64 k] w fun e w' => e = .returned (.int .i64 (k + 11 * (n : Int))) /\ Ft b w w' /\ Arr w' b (n * 11) (markL k) := by
 have HA : Hid (Arr w b (n * 11) f) := hA
 clear hA
 go_enter Tryz.func14, Tryz.ntmps14
 go_wp2
 go_loopw [1, 5] (fun kv iv wr => ∃ j : Nat, j <= n /\ kv = .int .i64 (k + 11 * (j : Int)) /\ iv = .int .i64 (j : Int) /\ Ft b w wr /\ Arr wr b (n * 11) (upTo (markL k) f (j * 11))) (fun _ iv _ => n - (intOf iv).toNat)
 case atStart => exact ⟨0, Nat.zero_le _, by simp, rfl, Ft.refl _ _, HA.out.congr fun i _ => by rw [Nat.zero_mul, upTo_zero]⟩
 case round =>
  obtain ⟨j, hj, hkv, hiv, hf, ha⟩ := hrel
  obtain ⟨kj, hkj⟩ : ∃ y : Int, k + 11 * (j : Int) = y := ⟨_, rfl⟩
  rw [hkj] at hkv
  subst hkv hiv
  have HKJ : Hid (k + 11 * (j : Int) = kj) := hkj
  have kb0 : 0 <= kj := by omega
  have kb1 : kj <= 2251799813685248 := by omega
  have F2 : Hid (Ft b w wr) := hf
  have A2 : Hid (Arr wr b (n * 11) (upTo (markL k) f (j * 11))) := ha
  clear hf ha hkj
  by_cases hlt : j < n
  ·have hlt' : (j : Int) < (n : Int) := by omega
   have c0 := A2.out.cell (i := j * 11) (by omega)
   have c1 := A2.out.cell (i := j * 11 + 1) (by omega)
   have c2 := A2.out.cell (i := j * 11 + 2) (by omega)
   have c3 := A2.out.cell (i := j * 11 + 3) (by omega)
   have c4 := A2.out.cell (i := j * 11 + 4) (by omega)
   have c5 := A2.out.cell (i := j * 11 + 5) (by omega)
   have c6 := A2.out.cell (i := j * 11 + 6) (by omega)
   have c7 := A2.out.cell (i := j * 11 + 7) (by omega)
   have c8 := A2.out.cell (i := j * 11 + 8) (by omega)
   have c9 := A2.out.cell (i := j * 11 + 9) (by omega)
   have c10 := A2.out.cell (i := j * 11 + 10) (by omega)
   have cf := A2.out.free
   have cl := A2.out.lt
   have A3 : Hid (Arr (wr.setCells b (j * 11) [.int .i64 kj, .int .i64 (kj + 1), .int .i64 (kj + 1 + 1), .int .i64 (kj + 1 + 1 + 1), .int .i64 (kj + 1 + 1 + 1 + 1), .int .i64 (kj + 1 + 1 + 1 + 1 + 1), .int .i64 (kj + 1 + 1 + 1 + 1 + 1 + 1), .int .i64 (kj + 1 + 1 + 1 + 1 + 1 + 1 + 1), .int .i64 (kj + 1 + 1 + 1 + 1 + 1 + 1 + 1 + 1), .int .i64 (kj + 1 + 1 + 1 + 1 + 1 + 1 + 1 + 1 + 1), .int .i64 (kj + 1 + 1 + 1 + 1 + 1 + 1 + 1 + 1 + 1 + 1)]) b (n * 11) (upTo (markL k) f ((j + 1) * 11))) := (by
     rw [show (j + 1) * 11 = j * 11 + 11 by omega]
     exact A2.out.fill (vs := [.int .i64 kj, .int .i64 (kj + 1), .int .i64 (kj + 1 + 1), .int .i64 (kj + 1 + 1 + 1), .int .i64 (kj + 1 + 1 + 1 + 1), .int .i64 (kj + 1 + 1 + 1 + 1 + 1), .int .i64 (kj + 1 + 1 + 1 + 1 + 1 + 1), .int .i64 (kj + 1 + 1 + 1 + 1 + 1 + 1 + 1), .int .i64 (kj + 1 + 1 + 1 + 1 + 1 + 1 + 1 + 1), .int .i64 (kj + 1 + 1 + 1 + 1 + 1 + 1 + 1 + 1 + 1), .int .i64 (kj + 1 + 1 + 1 + 1 + 1 + 1 + 1 + 1 + 1 + 1)]) (by simp; omega) (fun c hc => by
       have hc' : c < 11 := by simpa using hc
       match c, hc' with
       | 0, _ => exact congrArg (Value.int .i64) (by have := HKJ.out; omega)
       | 1, _ => exact congrArg (Value.int .i64) (by have := HKJ.out; omega)
       | 2, _ => exact congrArg (Value.int .i64) (by have := HKJ.out; omega)
       | 3, _ => exact congrArg (Value.int .i64) (by have := HKJ.out; omega)
       | 4, _ => exact congrArg (Value.int .i64) (by have := HKJ.out; omega)
       | 5, _ => exact congrArg (Value.int .i64) (by have := HKJ.out; omega)
       | 6, _ => exact congrArg (Value.int .i64) (by have := HKJ.out; omega)
       | 7, _ => exact congrArg (Value.int .i64) (by have := HKJ.out; omega)
       | 8, _ => exact congrArg (Value.int .i64) (by have := HKJ.out; omega)
       | 9, _ => exact congrArg (Value.int .i64) (by have := HKJ.out; omega)
       | 10, _ => exact congrArg (Value.int .i64) (by have := HKJ.out; omega)) : Arr (wr.setCells b (j * 11) [.int .i64 kj, .int .i64 (kj + 1), .int .i64 (kj + 1 + 1), .int .i64 (kj + 1 + 1 + 1), .int .i64 (kj + 1 + 1 + 1 + 1), .int .i64 (kj + 1 + 1 + 1 + 1 + 1), .int .i64 (kj + 1 + 1 + 1 + 1 + 1 + 1), .int .i64 (kj + 1 + 1 + 1 + 1 + 1 + 1 + 1), .int .i64 (kj + 1 + 1 + 1 + 1 + 1 + 1 + 1 + 1), .int .i64 (kj + 1 + 1 + 1 + 1 + 1 + 1 + 1 + 1 + 1), .int .i64 (kj + 1 + 1 + 1 + 1 + 1 + 1 + 1 + 1 + 1 + 1)]) b (n * 11) (upTo (markL k) f ((j + 1) * 11)))
   have F3 : Hid (Ft b w (wr.setCells b (j * 11) [.int .i64 kj, .int .i64 (kj + 1), .int .i64 (kj + 1 + 1), .int .i64 (kj + 1 + 1 + 1), .int .i64 (kj + 1 + 1 + 1 + 1), .int .i64 (kj + 1 + 1 + 1 + 1 + 1), .int .i64 (kj + 1 + 1 + 1 + 1 + 1 + 1), .int .i64 (kj + 1 + 1 + 1 + 1 + 1 + 1 + 1), .int .i64 (kj + 1 + 1 + 1 + 1 + 1 + 1 + 1 + 1), .int .i64 (kj + 1 + 1 + 1 + 1 + 1 + 1 + 1 + 1 + 1), .int .i64 (kj + 1 + 1 + 1 + 1 + 1 + 1 + 1 + 1 + 1 + 1)])) := (((((((((((F2.out.set _ _).set _ _).set _ _).set _ _).set _ _).set _ _).set _ _).set _ _).set _ _).set _ _).set _ _)
   go_wp2
   go_roundw
   case rel => exact ⟨j + 1, by omega, congrArg (Value.int .i64) (by have := HKJ.out; omega), by go_num, F3.out, A3.out⟩
   case measure => simp [intOf]; omega
  ·obtain rfl : j = n := by omega
   have hlt' : ¬ (j : Int) < (j : Int) := by omega
   go_wp2
   go_ret
   exact ⟨ret_int HKJ.out.symm, F2.out, A2.out.filled⟩
set_option maxHeartbeats 400000 in
theorem szSt_ok (ao : Option Addr) (len cap : Nat) (left : Int) (w : World) (hlo : (len : Int) <= left) (hhi : left <= 1048576) :
  Calls Tryz.prog 5 #[.slice ao len cap, .int .i64 left] w fun e w' => e = .returned (.int .i64 (left - len)) /\ w' = w := by
 go_enter Tryz.func5, Tryz.ntmps5
 go_wp2
 go_ret
 exact ⟨rfl, rfl⟩
set_option maxHeartbeats 400000 in
theorem szSt_no (ao : Option Addr) (len cap : Nat) (left : Int) (w : World) (h0 : 0 <= left) (hlo : left < (len : Int)) (hm : len <= 9223372036854775807) :
  Calls Tryz.prog 5 #[.slice ao len cap, .int .i64 left] w fun e w' => e = .returned (.int .i64 (-1)) /\ w' = w := by
 go_enter Tryz.func5, Tryz.ntmps5
 go_wp2
 go_ret
 exact ⟨rfl, rfl⟩
end Go.Proofs.YtcgcldokompafaaGreatDoor
