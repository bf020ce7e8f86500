import Derived.Test.YtcgcldokompafaaGreatDoorOfAbsWalks
import Derived.Test.YtcgcldokompafaaGreatDoorOfCl
import Derived.Test.YtcgcldokompafaaGreatDoorOfTransAcc
/- Lists of Vals and heaplets' signatures that are written through with numbers, and read back. -/
namespace Go.Proofs.YtcgcldokompafaaGreatDoor
open Go.RowKit
structure Fv (S : Nat -> Prop) (w w' : World) : Prop where
 os : w'.os = w.os
 tape : w'.tape = w.tape
 output : w'.output = w.output
 size : w.heap.size <= w'.heap.size
 block : ∀ k, k < w.heap.size -> ¬ S k -> w'.heap[k]? = w.heap[k]?
theorem Fv.refl (S : Nat -> Prop) (w : World) : Fv S w w := ⟨rfl, rfl, rfl, Nat.le_refl _, fun _ _ _ => rfl⟩
theorem Fv.trans {S : Nat -> Prop} {a b c : World} (h : Fv S a b) (k : Fv S b c) : Fv S a c :=
 ⟨k.os.trans h.os, k.tape.trans h.tape, k.output.trans h.output, Nat.le_trans h.size k.size, fun i hi hn => (k.block i (Nat.lt_of_lt_of_le hi h.size) hn).trans (h.block i hi hn)⟩
theorem Fv.mono {S T : Nat -> Prop} {a b : World} (h : Fv S a b) (hs : ∀ k, S k -> T k) : Fv T a b := ⟨h.os, h.tape, h.output, h.size, fun i hi hn => h.block i hi fun q => hn (hs i q)⟩
theorem Fv.set {S : Nat -> Prop} {a b : World} (h : Fv S a b) {k : Nat} (hk : S k) (o : Nat) (v : Value) : Fv S a (b.setCell ⟨k, o, none⟩ v) :=
 ⟨h.os, h.tape, h.output, by simpa using h.size, fun i hi hn => by
   have hne : i ≠ k := fun q => hn (by rw [q]; exact hk)
   rw [heap_setCell_other _ _ _ _ hne]
   exact h.block i hi hn⟩
theorem Fv.of_below {S : Nat -> Prop} {w w' : World} (h : Below w.heap.size w w') : Fv S w w' := ⟨h.os, h.tape, h.output, h.size, fun k hk _ => h.block k hk⟩
theorem Fv.cell {S : Nat -> Prop} {w w' : World} (h : Fv S w w') {b o : Nat} (hb : b < w.heap.size) (hn : ¬ S b) : w'.cell? ⟨b, o, none⟩ = w.cell? ⟨b, o, none⟩ := World.cell?_of_block (a := ⟨b, o, none⟩) (h.block b hb hn)
theorem Fv.frozen {S : Nat -> Prop} {w w' : World} (h : Fv S w w') {b o : Nat} (hb : b < w.heap.size) (hn : ¬ S b) : w'.frozen? ⟨b, o, none⟩ = w.frozen? ⟨b, o, none⟩ := World.frozen?_of_block (a := ⟨b, o, none⟩) (h.block b hb hn)
theorem Fv.arr {S : Nat -> Prop} {w w' : World} (h : Fv S w w') {b n : Nat} {f : Nat -> Value} (ha : Arr w b n f) (hn : ¬ S b) : Arr w' b n f :=
 ⟨Nat.lt_of_lt_of_le ha.1 h.size, fun i => (h.frozen ha.1 hn).trans (ha.2.1 i), fun i hi => (h.cell ha.1 hn).trans (ha.2.2 i hi)⟩
theorem Fv.cl {S : Nat -> Prop} {w w' : World} (h : Fv S w w') {b : Nat} {vs : List Value} (ha : Cl w b vs) (hn : ¬ S b) : Cl w' b vs :=
 ⟨Nat.lt_of_lt_of_le ha.1 h.size, fun i hi => (h.cell ha.1 hn).trans (ha.2 i hi)⟩
theorem Fv.below {S : Nat -> Prop} {B : Nat} {w0 w w' : World} (h : Fv S w w') (hb : Below B w0 w) (hs : ∀ k, S k -> B <= k) (hB : B <= w.heap.size) : Below B w0 w' :=
 hb.trans ⟨h.os, h.tape, h.output, h.size, fun k hk => h.block k (by omega) (fun q => by have := hs k q; omega)⟩

def mV (k : Int) (e : Nat) : VV := ⟨k + 6 * e, (k + 6 * e + 1) % 3 == 0, k + 6 * e + 1 + 1, k + 6 * e + 1 + 1 + 1, k + 6 * e + 1 + 1 + 1 + 1, k + 6 * e + 1 + 1 + 1 + 1 + 1⟩

set_option maxHeartbeats 800000 in
theorem markVals_at (b n cap : Nat) (f : Nat -> Value) (k : Int) (w : World) (hn : n <= 1048576) (k0 : 0 <= k) (k1 : k <= 1125899906842624) (h : Arr w b (n * 6) f) :
  Calls Tryz.prog 36 #[.slice (some ⟨b, 0, none⟩) n cap, .int .i64 k] w fun e w' => e = .returned (.int .i64 (k + 6 * n)) /\ Fv (fun q => n ≠ 0 /\ q = b) w w' /\ Arr w' b (n * 6) (vF (mV k)) := by
 have HA : Hid (Arr w b (n * 6) f) := h
 clear h
 go_enter Tryz.func36, Tryz.ntmps36
 go_wp2
 go_loopw [1, 5] (fun kv i wr => ∃ q : Nat, q <= n /\ i = .int .i64 q /\ kv = .int .i64 (k + 6 * q) /\ Fv (fun q => n ≠ 0 /\ q = b) w wr /\ Arr wr b (n * 6) (upTo (vF (mV k)) f (q * 6))) (fun _ i _ => n - (intOf i).toNat)
 case atStart => exact ⟨0, Nat.zero_le _, rfl, by simp, Fv.refl _ _, HA.out.congr fun i _ => by rw [Nat.zero_mul]; exact (upTo_zero _ _ _).symm⟩
 case round =>
  obtain ⟨q, hq, rfl, rfl, hf, ha⟩ := hrel
  by_cases hlt : q < n
  ·have hlt' : (q : Int) < n := by omega
   have g0 := ha.cell (i := q * 6) (by omega)
   have g1 := ha.cell (i := q * 6 + 1) (by omega)
   have g2 := ha.cell (i := q * 6 + 2) (by omega)
   have g3 := ha.cell (i := q * 6 + 3) (by omega)
   have g4 := ha.cell (i := q * 6 + 4) (by omega)
   have g5 := ha.cell (i := q * 6 + 5) (by omega)
   have gf := ha.free
   have hb := ha.lt
   have HF : Hid (Fv (fun q => n ≠ 0 /\ q = b) w wr) := hf
   have HR : Hid (Arr wr b (n * 6) (upTo (vF (mV k)) f (q * 6))) := ha
   clear hf ha
   go_wp2
   go_roundw
   case rel =>
    have hs : n ≠ 0 /\ b = b := ⟨by omega, rfl⟩
    refine ⟨q + 1, by omega, by go_num, by simp; omega, (((((HF.out.set hs _ _).set hs _ _).set hs _ _).set hs _ _).set hs _ _).set hs _ _, ?_⟩
    have := HR.out.fill (vs := [.int .i64 (mV k q).k, .bool (mV k q).s, .int .i64 (mV k q).m, .int .i64 (mV k q).h, .int .i64 (mV k q).lo, .int .i64 (mV k q).hi]) (by simp; omega) (fun j hj => by
      have hj2 : j = 0 ∨ j = 1 ∨ j = 2 ∨ j = 3 ∨ j = 4 ∨ j = 5 := by simp at hj; omega
      rcases hj2 with rfl | rfl | rfl | rfl | rfl | rfl <;> rw [vF_at _ _ _ (by omega)] <;> rfl)
    rw [show (q + 1) * 6 = q * 6 + 6 by omega]
    simpa [World.setCells, mV] using this
   case measure => simp [intOf]; omega
  ·obtain rfl : q = n := by omega
   have HF : Hid (Fv (fun x => q ≠ 0 /\ x = b) w wr) := hf
   have HR : Hid (Arr wr b (q * 6) (upTo (vF (mV k)) f (q * 6))) := ha
   clear hf ha
   go_wp2
   go_ret
   exact ⟨rfl, HF.out, HR.out.filled⟩
set_option maxHeartbeats 800000 in
theorem markHS_at (b n cap : Nat) (f : Nat -> Value) (k : Int) (w : World) (hn : n <= 1048576) (k0 : 0 <= k) (k1 : k <= 1125899906842624) (h : Arr w b (n * 3) f) :
  Calls Tryz.prog 35 #[.slice (some ⟨b, 0, none⟩) n cap, .int .i64 k] w fun e w' => e = .returned (.int .i64 (k + 3 * n)) /\ Fv (fun q => n ≠ 0 /\ q = b) w w' := by
 have HA : Hid (Arr w b (n * 3) f) := h
 clear h
 go_enter Tryz.func35, Tryz.ntmps35
 go_wp2
 go_loopw [1, 5] (fun kv i wr => ∃ q : Nat, q <= n /\ i = .int .i64 q /\ kv = .int .i64 (k + 3 * q) /\ Fv (fun q => n ≠ 0 /\ q = b) w wr /\ ∃ g, Arr wr b (n * 3) g) (fun _ i _ => n - (intOf i).toNat)
 case atStart => exact ⟨0, Nat.zero_le _, rfl, by simp, Fv.refl _ _, f, HA.out⟩
 case round =>
  obtain ⟨q, hq, rfl, rfl, hf, g, ha⟩ := hrel
  by_cases hlt : q < n
  ·have hlt' : (q : Int) < n := by omega
   have g0 := ha.cell (i := q * 3) (by omega)
   have g1 := ha.cell (i := q * 3 + 1) (by omega)
   have g2 := ha.cell (i := q * 3 + 2) (by omega)
   have gf := ha.free
   have hb := ha.lt
   have HF : Hid (Fv (fun q => n ≠ 0 /\ q = b) w wr) := hf
   have HR : Hid (Arr wr b (n * 3) g) := ha
   clear hf ha
   go_wp2
   go_roundw
   case rel =>
    have hs : n ≠ 0 /\ b = b := ⟨by omega, rfl⟩
    exact ⟨q + 1, by omega, by go_num, by simp; omega, ((HF.out.set hs _ _).set hs _ _).set hs _ _, _, Arr.set1 (Arr.set1 (Arr.set1 HR.out (q * 3) (by omega) _) (q * 3 + 1) (by omega) _) (q * 3 + 2) (by omega) _⟩
   case measure => simp [intOf]; omega
  ·obtain rfl : q = n := by omega
   have HF : Hid (Fv (fun x => q ≠ 0 /\ x = b) w wr) := hf
   clear hf ha
   go_wp2
   go_ret
   exact ⟨rfl, HF.out⟩
set_option maxHeartbeats 800000 in
theorem heldVals_at (b off n cap : Nat) (k : Int) (w : World) (hn : n <= 1048576) (k0 : 0 <= k) (k1 : k <= 1125899906842624) (h : At w b off (n * 6) (vF (mV k))) :
  Calls Tryz.prog 61 #[.slice (some ⟨b, off, none⟩) n cap, .int .i64 k] w fun e w' => e = .returned (.int .i64 (k + 6 * n)) /\ w' = w := by
 have HA : Hid (At w b off (n * 6) (vF (mV k))) := h
 have hb := h.lt
 clear h
 go_enter Tryz.func61, Tryz.ntmps61
 go_wp2
 go_loopw [1, 5] (fun kv i wr => ∃ q : Nat, q <= n /\ i = .int .i64 q /\ kv = .int .i64 (k + 6 * q) /\ wr = w) (fun _ i _ => n - (intOf i).toNat)
 case atStart => exact ⟨0, Nat.zero_le _, rfl, by simp, rfl⟩
 case round =>
  obtain ⟨q, hq, rfl, rfl, rfl⟩ := hrel
  by_cases hlt : q < n
  ·have hlt' : (q : Int) < n := by omega
   have cl : ∀ j, j < 6 -> wr.cell? ⟨b, off + (q * 6 + j), none⟩ = some (vC (mV k q) j) := fun j hj => by rw [HA.out.cell (i := q * 6 + j) (by omega), vF_at _ _ _ hj]
   have g0 : wr.cell? ⟨b, off + q * 6, none⟩ = some (.int .i64 (k + 6 * q)) := cl 0 (by omega)
   have g1 : wr.cell? ⟨b, off + q * 6 + 1, none⟩ = some (.bool ((k + 6 * q + 1) % 3 == 0)) := cl 1 (by omega)
   have g2 : wr.cell? ⟨b, off + q * 6 + 2, none⟩ = some (.int .i64 (k + 6 * q + 1 + 1)) := cl 2 (by omega)
   have g3 : wr.cell? ⟨b, off + q * 6 + 3, none⟩ = some (.int .i64 (k + 6 * q + 1 + 1 + 1)) := cl 3 (by omega)
   have g4 : wr.cell? ⟨b, off + q * 6 + 4, none⟩ = some (.int .i64 (k + 6 * q + 1 + 1 + 1 + 1)) := cl 4 (by omega)
   have g5 : wr.cell? ⟨b, off + q * 6 + 5, none⟩ = some (.int .i64 (k + 6 * q + 1 + 1 + 1 + 1 + 1)) := cl 5 (by omega)
   clear cl
   go_wp2
   go_roundw
   case rel => exact ⟨q + 1, by omega, by go_num, by simp; omega, by first | rfl | trivial⟩
   case measure => simp [intOf]; omega
  ·obtain rfl : q = n := by omega
   go_wp2
   go_ret
   exact ⟨rfl, rfl⟩
set_option maxHeartbeats 400000 in
theorem markVals_nil (ao : Option Addr) (cap : Nat) (k : Int) (w : World) :
  Calls Tryz.prog 36 #[.slice ao 0 cap, .int .i64 k] w fun e w' => e = .returned (.int .i64 k) /\ w' = w := by
 go_enter Tryz.func36, Tryz.ntmps36
 go_wp2
 go_loopw [1, 5] (fun kv i wr => i = .int .i64 0 /\ kv = .int .i64 k /\ wr = w) (fun _ _ _ => 0)
 case atStart => exact ⟨rfl, rfl, rfl⟩
 case round =>
  obtain ⟨rfl, rfl, rfl⟩ := hrel
  go_wp2
  go_ret
  exact ⟨rfl, rfl⟩
set_option maxHeartbeats 400000 in
theorem heldVals_nil (ao : Option Addr) (cap : Nat) (k : Int) (w : World) :
  Calls Tryz.prog 61 #[.slice ao 0 cap, .int .i64 k] w fun e w' => e = .returned (.int .i64 k) /\ w' = w := by
 go_enter Tryz.func61, Tryz.ntmps61
 go_wp2
 go_loopw [1, 5] (fun kv i wr => i = .int .i64 0 /\ kv = .int .i64 k /\ wr = w) (fun _ _ _ => 0)
 case atStart => exact ⟨rfl, rfl, rfl⟩
 case round =>
  obtain ⟨rfl, rfl, rfl⟩ := hrel
  go_wp2
  go_ret
  exact ⟨rfl, rfl⟩
end Go.Proofs.YtcgcldokompafaaGreatDoor
/- What the law does with Transfer's answer and its arguments: compares, marks, reads back. -/
namespace Go.Proofs.YtcgcldokompafaaGreatDoor
open Go.RowKit
def WV (w : World) (ao : Option Addr) (n : Nat) (V : Nat -> VV) : Prop := n = 0 ∨ ∃ b, ao = some ⟨b, 0, none⟩ /\ Arr w b (n * 6) (vF V)
def Lie (ao : Option Addr) (n lo hi : Nat) : Prop := ∀ b, ao = some ⟨b, 0, none⟩ -> n ≠ 0 -> lo <= b /\ b < hi
theorem WV.below {w w' : World} {ao : Option Addr} {n : Nat} {V : Nat -> VV} (h : WV w ao n V) (hb : Below w.heap.size w w') : WV w' ao n V := by
 rcases h with h | ⟨b, rfl, h⟩
 ·exact .inl h
 ·exact .inr ⟨b, rfl, h.below hb h.lt⟩
theorem WV.fv {S : Nat -> Prop} {w w' : World} {ao : Option Addr} {n lo hi : Nat} {V : Nat -> VV} (h : WV w ao n V) (hl : Lie ao n lo hi) (hf : Fv S w w') (hn : ∀ q, S q -> ¬ (lo <= q /\ q < hi)) : WV w' ao n V := by
 by_cases h0 : n = 0
 ·exact .inl h0
 ·rcases h with h | ⟨b, rfl, h⟩
  ·exact .inl h
  ·exact .inr ⟨b, rfl, hf.arr h (fun q => hn b q (hl b rfl h0))⟩

set_option maxHeartbeats 400000 in
theorem eqValS_nil (ao ao' : Option Addr) (cap cap' : Nat) (w : World) :
  Calls Tryz.prog 33 #[.slice ao 0 cap, .slice ao' 0 cap'] w fun e w' => e = .returned (.bool true) /\ Below w.heap.size w w' := by
 go_enter Tryz.func33, Tryz.ntmps33
 go_wp2
 go_loopw [5] (fun i wr => i = .int .i64 0 /\ Below w.heap.size w wr) (fun _ _ => 0)
 case atStart => exact ⟨rfl, Below.refl _ _⟩
 case round =>
  obtain ⟨rfl, hbr⟩ := hrel
  go_wp2
  go_ret
  exact ⟨rfl, hbr⟩
theorem eqValS_view (ao ao' : Option Addr) (n cap cap' : Nat) (V : Nat -> VV) (w : World) (hn : n <= 1048576) (h1 : WV w ao n V) (h2 : WV w ao' n V) :
  Calls Tryz.prog 33 #[.slice ao n cap, .slice ao' n cap'] w fun e w' => e = .returned (.bool true) /\ Below w.heap.size w w' := by
 by_cases h0 : n = 0
 ·subst h0
  exact eqValS_nil ao ao' cap cap' w
 ·rcases h1 with h1 | ⟨b, rfl, h1⟩
  ·exact absurd h1 h0
  ·rcases h2 with h2 | ⟨b', rfl, h2⟩
   ·exact absurd h2 h0
   ·exact eqValS_same _ _ _ _ _ _ _ V _ hn h1.at h2.at

set_option maxHeartbeats 400000 in
theorem eqAbs_view (ao ao' : Option Addr) (n cap cap' : Nat) (V : Nat -> VV) (z c : Int) (w : World) (ln : n <= 1048576) (h1 : WV w ao n V) (h2 : WV w ao' n V) :
  Calls Tryz.prog 31 #[.agg #[.slice ao n cap, .int .i64 z, .int .i64 c], .agg #[.slice ao' n cap', .int .i64 z, .int .i64 c]] w fun e w' => e = .returned (.bool true) /\ Below w.heap.size w w' := by
 have H1 : Hid (WV w ao n V) := h1
 have H2 : Hid (WV w ao' n V) := h2
 clear h1 h2
 go_enter Tryz.func31, Tryz.ntmps31
 go_wp2_with fail
 have b0 : Below w.heap.size w ((w.alloc (.cells #[.slice ao n cap, .int .i64 z, .int .i64 c] 31)).alloc (.cells #[.slice ao' n cap', .int .i64 z, .int .i64 c] 31)) := ((Below.refl _ _).alloc (Nat.le_refl _) _).alloc (by simp) _
 refine (eqValS_view _ _ _ _ _ V _ ln (H1.out.below b0) (H2.out.below b0)).mono ?_
 rintro e w1 ⟨rfl, hb1⟩
 have HB1 : Hid (Below w.heap.size w w1) := b0.trans (hb1.mono b0.size)
 obtain ⟨hc1, _⟩ := bcell hb1
 have hz2 : w.heap.size + 1 < w1.heap.size := by have := hb1.size; simp at this; omega
 have hz3 : w.heap.size < w1.heap.size := by omega
 clear hb1 b0
 go_wp2
 go_ret
 exact ⟨rfl, HB1.out⟩

set_option maxHeartbeats 400000 in
theorem markAbs_any (ao : Option Addr) (n cap : Nat) (V : Nat -> VV) (z c k : Int) (w : World) (ln : n <= 1048576) (k0 : 0 <= k) (k1 : k <= 1125899906842624) (h : WV w ao n V) :
  Calls Tryz.prog 37 #[.agg #[.slice ao n cap, .int .i64 z, .int .i64 c], .int .i64 k] w fun e w' => e = .returned (.int .i64 (k + 6 * n)) /\ Fv (fun q => n ≠ 0 /\ ao = some ⟨q, 0, none⟩) w w' /\ WV w' ao n (mV k) := by
 have H : Hid (WV w ao n V) := h
 clear h
 go_enter Tryz.func37, Tryz.ntmps37
 go_wp2_with fail
 have b0 : Below w.heap.size w (w.alloc (.cells #[.slice ao n cap, .int .i64 z, .int .i64 c] 31)) := (Below.refl _ _).alloc (Nat.le_refl _) _
 by_cases h0 : n = 0
 ·subst h0
  refine (markVals_nil ao cap k _).mono ?_
  rintro e w1 ⟨rfl, hw⟩
  rw [hw]
  clear hw
  have HB : Hid (Below w.heap.size w (w.alloc (.cells #[.slice ao 0 cap, .int .i64 z, .int .i64 c] 31))) := b0
  clear b0
  go_wp2
  go_ret
  exact ⟨by simp, Fv.of_below HB.out, .inl rfl⟩
 ·rcases H.out with h | ⟨b, rfl, h⟩
  ·exact absurd h h0
  ·refine (markVals_at b n cap _ k _ ln k0 k1 (h.below b0 h.lt)).mono ?_
   rintro e w1 ⟨rfl, hf, hA⟩
   have HF : Hid (Fv (fun q => n ≠ 0 /\ (some ⟨b, 0, none⟩ : Option Addr) = some ⟨q, 0, none⟩) w w1) := (Fv.of_below b0).trans (hf.mono (fun q hq => ⟨hq.1, by rw [hq.2]⟩))
   have HA : Hid (Arr w1 b (n * 6) (vF (mV k))) := hA
   clear hf hA b0 h
   go_wp2
   go_ret
   exact ⟨rfl, HF.out, .inr ⟨b, rfl, HA.out⟩⟩
set_option maxHeartbeats 400000 in
theorem heldAbs_any (ao : Option Addr) (n cap : Nat) (z c k : Int) (w : World) (ln : n <= 1048576) (k0 : 0 <= k) (k1 : k <= 1125899906842624) (h : WV w ao n (mV k)) :
  Calls Tryz.prog 38 #[.agg #[.slice ao n cap, .int .i64 z, .int .i64 c], .int .i64 k] w fun e w' => e = .returned (.int .i64 (k + 6 * n)) /\ Below w.heap.size w w' := by
 have H : Hid (WV w ao n (mV k)) := h
 clear h
 go_enter Tryz.func38, Tryz.ntmps38
 go_wp2_with fail
 have b0 : Below w.heap.size w (w.alloc (.cells #[.slice ao n cap, .int .i64 z, .int .i64 c] 31)) := (Below.refl _ _).alloc (Nat.le_refl _) _
 have HB : Hid (Below w.heap.size w (w.alloc (.cells #[.slice ao n cap, .int .i64 z, .int .i64 c] 31))) := b0
 by_cases h0 : n = 0
 ·subst h0
  refine (heldVals_nil ao cap k _).mono ?_
  rintro e w1 ⟨rfl, hw⟩
  rw [hw]
  clear hw b0
  have hk : decide (k < 0) = false := by simp; omega
  go_wp2
  go_ret
  exact ⟨by simp, HB.out⟩
 ·rcases H.out with h | ⟨b, rfl, h⟩
  ·exact absurd h h0
  ·refine (heldVals_at b 0 n cap k _ ln k0 k1 (h.below b0 h.lt).at).mono ?_
   rintro e w1 ⟨rfl, hw⟩
   rw [hw]
   clear hw b0 h
   have hk : decide (k + 6 * (n : Int) < 0) = false := by simp; omega
   go_wp2
   go_ret
   exact ⟨rfl, HB.out⟩
theorem sig_apart {w : World} {bH nH bR nR : Nat} {S : Nat -> HS} {V : Nat -> VV} (h : SigCp w bH nH S bR nR V) (n1 : nH ≠ 0) (n2 : nR ≠ 0) : bR ≠ bH := by
 intro e
 have e1 := h.h.cell (i := 2) (by omega)
 have e2 := h.r.cell (i := 2) (by omega)
 rw [e, e1] at e2
 simp [hsF, vF, hsC, vC] at e2

set_option maxHeartbeats 400000 in
theorem markSig_any (bH cH nH : Nat) (S : Nat -> HS) (bR cR nR : Nat) (V : Nat -> VV) (k : Int) (w : World) (lH : nH <= 1048576) (lR : nR <= 1048576) (k0 : 0 <= k) (k1 : k <= 1048576) (h : SigCp w bH nH S bR nR V) :
  Calls Tryz.prog 13 #[.agg #[.slice (some ⟨bH, 0, none⟩) nH cH, .slice (some ⟨bR, 0, none⟩) nR cR], .int .i64 k] w fun e w' => e = .returned (.int .i64 (k + 3 * nH + 6 * nR)) /\ Fv (fun q => q = bH ∨ q = bR) w w' := by
 have H : Hid (SigCp w bH nH S bR nR V) := h
 clear h
 go_enter Tryz.func13, Tryz.ntmps13
 go_wp2_with fail
 have b0 : Below w.heap.size w (w.alloc (.cells #[.slice (some ⟨bH, 0, none⟩) nH cH, .slice (some ⟨bR, 0, none⟩) nR cR] 37)) := (Below.refl _ _).alloc (Nat.le_refl _) _
 have e0 := Cl.new (w := w) (vs := #[.slice (some ⟨bH, 0, none⟩) nH cH, .slice (some ⟨bR, 0, none⟩) nR cR]) (t := 37)
 refine (markHS_at bH nH cH _ k _ lH k0 (by omega) (H.out.h.below b0 H.out.h.lt)).mono ?_
 rintro e w1 ⟨rfl, hf⟩
 have hl := H.out.h.lt
 have hl2 := H.out.r.lt
 have c1 := hf.cl e0 (fun q => by have := q.2; omega)
 have HF1 : Hid (Fv (fun q => nH ≠ 0 /\ q = bH) w w1) := (Fv.of_below b0).trans hf
 have a1 := c1.2 0 (by simp)
 have a2 := c1.2 1 (by simp)
 simp only [List.getD_eq_getElem?_getD, List.getElem?_cons_zero, List.getElem?_cons_succ, Option.getD_some] at a1 a2
 have az := c1.1
 clear hf e0 b0 c1
 go_wp2_with fail
 by_cases h0 : nR = 0
 ·subst h0
  refine (markVals_nil _ cR (k + 3 * nH) _).mono ?_
  rintro e w2 ⟨rfl, hw⟩
  rw [hw]
  clear hw
  go_wp2
  go_ret
  exact ⟨by simp, HF1.out.mono (fun q hq => .inl hq.2)⟩
 ·have hA : Arr w1 bR (nR * 6) (vF V) := HF1.out.arr H.out.r (fun q => sig_apart H.out q.1 h0 q.2)
  refine (markVals_at bR nR cR _ (k + 3 * nH) _ lR (by omega) (by omega) hA).mono ?_
  rintro e w2 ⟨rfl, hf2, _⟩
  have HF2 : Hid (Fv (fun q => q = bH ∨ q = bR) w w2) := (HF1.out.mono (fun q hq => .inl hq.2)).trans (hf2.mono (fun q hq => .inr hq.2))
  clear hf2 hA a1 a2 az
  go_wp2
  go_ret
  exact ⟨rfl, HF2.out⟩
end Go.Proofs.YtcgcldokompafaaGreatDoor
