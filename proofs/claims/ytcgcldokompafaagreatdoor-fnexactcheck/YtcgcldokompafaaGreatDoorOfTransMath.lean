import Derived.Test.YtcgcldokompafaaGreatDoorRows
import Derived.WalkKit
import Derived.WalkSpells
import Derived.WalkLawsBesides
import Derived.Deep.Cut
import Derived.Test.YtcgcldokompafaaGreatDoorOfCl
import Derived.Deep.QuietTactic
import Derived.BigQuiet
import Derived.Deep.RegionWith
import Derived.BigRegion
/- Powers and bits: the model's loops, and the library's count of bits. -/
namespace Go.Proofs.YtcgcldokompafaaGreatDoor
open Go.RowKit

def bitsN (x : Nat) : Nat := if x = 0 then 0 else Nat.log2 x + 1
theorem bitsN_half {x : Nat} (h : 0 < x) : bitsN x = bitsN (x / 2) + 1 := by
 unfold bitsN
 rw [if_neg (by omega), Nat.log2_def]
 by_cases h2 : 2 <= x
 ·rw [if_pos h2, if_neg (by omega)]
 ·rw [if_neg h2, if_pos (by omega)]
theorem bitsN_shift (k : Nat) : ∀ x, 2 ^ k <= x -> bitsN x = bitsN (x / 2 ^ k) + k := by
 induction k with
 | zero => intro x _; simp
 | succ k ih =>
  intro x hx
  have h0 : 0 < x := Nat.lt_of_lt_of_le (Nat.two_pow_pos _) hx
  have h1 : 2 ^ k <= x / 2 := by rw [Nat.le_div_iff_mul_le (by decide)]; rw [Nat.pow_succ] at hx; exact hx
  rw [bitsN_half h0, ih _ h1, Nat.div_div_eq_div_mul, Nat.pow_succ, Nat.mul_comm 2 (2 ^ k)]
  omega

set_option maxHeartbeats 400000 in
theorem l1Pow_any (n : Nat) (w : World) (hn : n <= 63) :
  Calls Tryz.prog 94 #[.int .i64 n] w fun e w' => e = .returned (.int .u64 ((2 ^ n : Nat) : Int)) /\ w' = w := by
 go_enter Tryz.func94, Tryz.ntmps94
 go_wp2
 go_loop [3, 4] (fun x i => ∃ k : Nat, k <= n /\ i = .int .i64 k /\ x = .int .u64 ((2 ^ k : Nat) : Int)) (fun _ i => n - (intOf i).toNat)
 case atStart => exact ⟨0, Nat.zero_le _, rfl, rfl⟩
 case round =>
  obtain ⟨k, hk, rfl, rfl⟩ := hrel
  by_cases hlt : k < n
  ·have hp : 2 ^ k <= 2 ^ 62 := Nat.pow_le_pow_right (by decide) (by omega)
   have hs : 2 ^ (k + 1) = 2 * 2 ^ k := by rw [Nat.pow_succ, Nat.mul_comm]
   have HS : Hid (2 ^ (k + 1) = 2 * 2 ^ k) := hs
   clear hs
   generalize 2 ^ k = y at *
   go_wp2
   go_round
   case rel =>
    refine ⟨k + 1, by omega, by go_num, ?_⟩
    rw [HS.out]
    go_num
   case measure => simp [intOf]; omega
  ·go_wp2
   go_ret
   obtain rfl : k = n := by omega
   exact ⟨rfl, rfl⟩

end Go.Proofs.YtcgcldokompafaaGreatDoor
/- The library's count of bits. -/
namespace Go.Proofs.YtcgcldokompafaaGreatDoor
open Go.RowKit
theorem bitsI (k : Nat) (x : Int) (h0 : 0 <= x) (h : 2 ^ k <= x.toNat) : bitsN x.toNat = bitsN (x / ((2 ^ k : Nat) : Int)).toNat + k := by
 rw [bitsN_shift k _ h]
 congr 2
 obtain ⟨n, rfl⟩ := Int.eq_ofNat_of_zero_le h0
 rw [<- Int.natCast_ediv, Int.toNat_natCast, Int.toNat_natCast]
set_option maxRecDepth 20000 in
theorem tab_bits : ∀ j : Nat, (h : j < 256) -> ((⟨#[0, 1, 2, 2, 3, 3, 3, 3, 4, 4, 4, 4, 4, 4, 4, 4, 5, 5, 5, 5, 5, 5, 5, 5, 5, 5, 5, 5, 5, 5, 5, 5, 6, 6, 6, 6, 6, 6, 6, 6, 6, 6, 6, 6, 6, 6, 6, 6, 6, 6, 6, 6, 6, 6, 6, 6, 6, 6, 6, 6, 6, 6, 6, 6, 7, 7, 7, 7, 7, 7, 7, 7, 7, 7, 7, 7, 7, 7, 7, 7, 7, 7, 7, 7, 7, 7, 7, 7, 7, 7, 7, 7, 7, 7, 7, 7, 7, 7, 7, 7, 7, 7, 7, 7, 7, 7, 7, 7, 7, 7, 7, 7, 7, 7, 7, 7, 7, 7, 7, 7, 7, 7, 7, 7, 7, 7, 7, 7, 8, 8, 8, 8, 8, 8, 8, 8, 8, 8, 8, 8, 8, 8, 8, 8, 8, 8, 8, 8, 8, 8, 8, 8, 8, 8, 8, 8, 8, 8, 8, 8, 8, 8, 8, 8, 8, 8, 8, 8, 8, 8, 8, 8, 8, 8, 8, 8, 8, 8, 8, 8, 8, 8, 8, 8, 8, 8, 8, 8, 8, 8, 8, 8, 8, 8, 8, 8, 8, 8, 8, 8, 8, 8, 8, 8, 8, 8, 8, 8, 8, 8, 8, 8, 8, 8, 8, 8, 8, 8, 8, 8, 8, 8, 8, 8, 8, 8, 8, 8, 8, 8, 8, 8, 8, 8, 8, 8, 8, 8, 8, 8, 8, 8, 8, 8, 8, 8, 8, 8, 8, 8, 8, 8, 8, 8, 8, 8]⟩ : ByteArray)[j]'h).toNat = bitsN j := by decide +kernel
theorem bits_byte {j : Nat} (h : j < 256) : bitsN j <= 8 := by
 unfold bitsN
 by_cases h0 : j = 0
 ·simp [h0]
 ·rw [if_neg h0]
  have := (Nat.log2_lt h0 (k := 8)).2 (by simpa using h)
  omega
set_option maxRecDepth 20000 in
set_option maxHeartbeats 1000000 in
theorem len64_any (x : Int) (w : World) (h0 : 0 <= x) (hx : x < 18446744073709551616) :
  Calls Tryz.prog 130 #[.int .u64 x] w fun e w' => e = .returned (.int .i64 (bitsN x.toNat)) /\ w' = w := by
 go_enter Tryz.func130, Tryz.ntmps130
 by_cases h32 : 4294967296 <= x
 ·have e32 := bitsI 32 x (by omega) (by simp; omega)
  have HE32 : Hid (bitsN x.toNat = bitsN (x / (4294967296 : Int)).toNat + 32) := e32
  clear e32
  go_upto_region 4 with fail
  have l32 : 0 <= x / (4294967296 : Int) := by omega
  have m32 : x / (4294967296 : Int) < 4294967296 := by omega
  generalize hy32 : x / (4294967296 : Int) = y32 at *
  clear hy32
  by_cases h16 : 65536 <= y32
  ·have e16 := bitsI 16 y32 (by omega) (by simp; omega)
   have HE16 : Hid (bitsN y32.toNat = bitsN (y32 / (65536 : Int)).toNat + 16) := e16
   clear e16
   go_upto_region 7 with fail
   have l16 : 0 <= y32 / (65536 : Int) := by omega
   have m16 : y32 / (65536 : Int) < 65536 := by omega
   generalize hy16 : y32 / (65536 : Int) = y16 at *
   clear hy16
   by_cases h8 : 256 <= y16
   ·have e8 := bitsI 8 y16 (by omega) (by simp; omega)
    have HE8 : Hid (bitsN y16.toNat = bitsN (y16 / (256 : Int)).toNat + 8) := e8
    clear e8
    go_upto_region 10 with fail
    have l8 : 0 <= y16 / (256 : Int) := by omega
    have m8 : y16 / (256 : Int) < 256 := by omega
    generalize hy8 : y16 / (256 : Int) = y8 at *
    clear hy8
    go_upto_region 10 with fail
    have hk := tab_bits y8.toNat (by omega)
    have hk8 := bits_byte (j := y8.toNat) (by omega)
    go_wp2
    go_ret
    refine ⟨ret_int ?_, rfl⟩
    first | rfl | (have q1 := HE32.out; have q2 := HE16.out; have q3 := HE8.out; omega) | (have q1 := HE32.out; have q2 := HE16.out; omega) | (have q1 := HE32.out; have q3 := HE8.out; omega) | (have q2 := HE16.out; have q3 := HE8.out; omega) | (have q1 := HE32.out; omega) | (have q2 := HE16.out; omega) | (have q3 := HE8.out; omega)
   ·go_upto_region 10 with fail
    have hk := tab_bits y16.toNat (by omega)
    have hk8 := bits_byte (j := y16.toNat) (by omega)
    go_wp2
    go_ret
    refine ⟨ret_int ?_, rfl⟩
    first | rfl | (have q1 := HE32.out; have q2 := HE16.out; have q3 := HE8.out; omega) | (have q1 := HE32.out; have q2 := HE16.out; omega) | (have q1 := HE32.out; have q3 := HE8.out; omega) | (have q2 := HE16.out; have q3 := HE8.out; omega) | (have q1 := HE32.out; omega) | (have q2 := HE16.out; omega) | (have q3 := HE8.out; omega)
  ·by_cases h8 : 256 <= y32
   ·have e8 := bitsI 8 y32 (by omega) (by simp; omega)
    have HE8 : Hid (bitsN y32.toNat = bitsN (y32 / (256 : Int)).toNat + 8) := e8
    clear e8
    go_upto_region 10 with fail
    have l8 : 0 <= y32 / (256 : Int) := by omega
    have m8 : y32 / (256 : Int) < 256 := by omega
    generalize hy8 : y32 / (256 : Int) = y8 at *
    clear hy8
    go_upto_region 10 with fail
    have hk := tab_bits y8.toNat (by omega)
    have hk8 := bits_byte (j := y8.toNat) (by omega)
    go_wp2
    go_ret
    refine ⟨ret_int ?_, rfl⟩
    first | rfl | (have q1 := HE32.out; have q2 := HE16.out; have q3 := HE8.out; omega) | (have q1 := HE32.out; have q2 := HE16.out; omega) | (have q1 := HE32.out; have q3 := HE8.out; omega) | (have q2 := HE16.out; have q3 := HE8.out; omega) | (have q1 := HE32.out; omega) | (have q2 := HE16.out; omega) | (have q3 := HE8.out; omega)
   ·go_upto_region 10 with fail
    have hk := tab_bits y32.toNat (by omega)
    have hk8 := bits_byte (j := y32.toNat) (by omega)
    go_wp2
    go_ret
    refine ⟨ret_int ?_, rfl⟩
    first | rfl | (have q1 := HE32.out; have q2 := HE16.out; have q3 := HE8.out; omega) | (have q1 := HE32.out; have q2 := HE16.out; omega) | (have q1 := HE32.out; have q3 := HE8.out; omega) | (have q2 := HE16.out; have q3 := HE8.out; omega) | (have q1 := HE32.out; omega) | (have q2 := HE16.out; omega) | (have q3 := HE8.out; omega)
 ·by_cases h16 : 65536 <= x
  ·have e16 := bitsI 16 x (by omega) (by simp; omega)
   have HE16 : Hid (bitsN x.toNat = bitsN (x / (65536 : Int)).toNat + 16) := e16
   clear e16
   go_upto_region 7 with fail
   have l16 : 0 <= x / (65536 : Int) := by omega
   have m16 : x / (65536 : Int) < 65536 := by omega
   generalize hy16 : x / (65536 : Int) = y16 at *
   clear hy16
   by_cases h8 : 256 <= y16
   ·have e8 := bitsI 8 y16 (by omega) (by simp; omega)
    have HE8 : Hid (bitsN y16.toNat = bitsN (y16 / (256 : Int)).toNat + 8) := e8
    clear e8
    go_upto_region 10 with fail
    have l8 : 0 <= y16 / (256 : Int) := by omega
    have m8 : y16 / (256 : Int) < 256 := by omega
    generalize hy8 : y16 / (256 : Int) = y8 at *
    clear hy8
    go_upto_region 10 with fail
    have hk := tab_bits y8.toNat (by omega)
    have hk8 := bits_byte (j := y8.toNat) (by omega)
    go_wp2
    go_ret
    refine ⟨ret_int ?_, rfl⟩
    first | rfl | (have q1 := HE32.out; have q2 := HE16.out; have q3 := HE8.out; omega) | (have q1 := HE32.out; have q2 := HE16.out; omega) | (have q1 := HE32.out; have q3 := HE8.out; omega) | (have q2 := HE16.out; have q3 := HE8.out; omega) | (have q1 := HE32.out; omega) | (have q2 := HE16.out; omega) | (have q3 := HE8.out; omega)
   ·go_upto_region 10 with fail
    have hk := tab_bits y16.toNat (by omega)
    have hk8 := bits_byte (j := y16.toNat) (by omega)
    go_wp2
    go_ret
    refine ⟨ret_int ?_, rfl⟩
    first | rfl | (have q1 := HE32.out; have q2 := HE16.out; have q3 := HE8.out; omega) | (have q1 := HE32.out; have q2 := HE16.out; omega) | (have q1 := HE32.out; have q3 := HE8.out; omega) | (have q2 := HE16.out; have q3 := HE8.out; omega) | (have q1 := HE32.out; omega) | (have q2 := HE16.out; omega) | (have q3 := HE8.out; omega)
  ·by_cases h8 : 256 <= x
   ·have e8 := bitsI 8 x (by omega) (by simp; omega)
    have HE8 : Hid (bitsN x.toNat = bitsN (x / (256 : Int)).toNat + 8) := e8
    clear e8
    go_upto_region 10 with fail
    have l8 : 0 <= x / (256 : Int) := by omega
    have m8 : x / (256 : Int) < 256 := by omega
    generalize hy8 : x / (256 : Int) = y8 at *
    clear hy8
    go_upto_region 10 with fail
    have hk := tab_bits y8.toNat (by omega)
    have hk8 := bits_byte (j := y8.toNat) (by omega)
    go_wp2
    go_ret
    refine ⟨ret_int ?_, rfl⟩
    first | rfl | (have q1 := HE32.out; have q2 := HE16.out; have q3 := HE8.out; omega) | (have q1 := HE32.out; have q2 := HE16.out; omega) | (have q1 := HE32.out; have q3 := HE8.out; omega) | (have q2 := HE16.out; have q3 := HE8.out; omega) | (have q1 := HE32.out; omega) | (have q2 := HE16.out; omega) | (have q3 := HE8.out; omega)
   ·go_upto_region 10 with fail
    have hk := tab_bits x.toNat (by omega)
    have hk8 := bits_byte (j := x.toNat) (by omega)
    go_wp2
    go_ret
    refine ⟨ret_int ?_, rfl⟩
    first | rfl | (have q1 := HE32.out; have q2 := HE16.out; have q3 := HE8.out; omega) | (have q1 := HE32.out; have q2 := HE16.out; omega) | (have q1 := HE32.out; have q3 := HE8.out; omega) | (have q2 := HE16.out; have q3 := HE8.out; omega) | (have q1 := HE32.out; omega) | (have q2 := HE16.out; omega) | (have q3 := HE8.out; omega)
end Go.Proofs.YtcgcldokompafaaGreatDoor
/- Vals: carried over, compared, joined. -/
namespace Go.Proofs.YtcgcldokompafaaGreatDoor
open Go.RowKit

structure VV where
 k : Int
 s : Bool
 m : Int
 h : Int
 lo : Int
 hi : Int
def VV.v (x : VV) : Value := .agg #[.int .i64 x.k, .bool x.s, .int .i64 x.m, .int .i64 x.h, .int .i64 x.lo, .int .i64 x.hi]
def joinV (a b : VV) : VV :=
 if a.k = 1 /\ b.k = 1 /\ a.h = b.h then ⟨1, false, 0, a.h, if b.lo < a.lo then b.lo else a.lo, if b.hi > a.hi then b.hi else a.hi⟩
 else if a.k = 0 /\ b.k = 0 /\ a.m ≠ -1 /\ b.m ≠ -1 then ⟨0, a.s || b.s, if b.m > a.m then b.m else a.m, 0, 0, 0⟩
 else ⟨0, a.s || b.s, -1, 0, 0, 0⟩

set_option maxHeartbeats 400000 in
theorem toVal_any (k : Int) (s : Bool) (m h lo hi : Int) (w : World) :
  Calls Tryz.prog 47 #[.agg #[.int .i64 k, .bool s, .int .i64 m, .int .i64 h, .int .i64 lo, .int .i64 hi]] w fun e w' => e = .returned (.agg #[.int .i64 k, .bool s, .int .i64 m, .int .i64 h, .int .i64 lo, .int .i64 hi]) /\ Below w.heap.size w w' := by
 go_enter Tryz.func47, Tryz.ntmps47
 go_wp2
 exact bodyPost_ret (v := .agg #[.int .i64 k, .bool s, .int .i64 m, .int .i64 h, .int .i64 lo, .int .i64 hi]) (by simp [results, Tryz.results47, go_sem]) rfl ⟨rfl, (((Below.refl _ _).alloc (Nat.le_refl _) _).alloc (by simp) _).alloc (by simp; omega) _⟩

set_option maxHeartbeats 400000 in
theorem eqVal_same (k : Int) (s : Bool) (m h lo hi : Int) (w : World) :
  Calls Tryz.prog 59 #[.agg #[.int .i64 k, .bool s, .int .i64 m, .int .i64 h, .int .i64 lo, .int .i64 hi], .agg #[.int .i64 k, .bool s, .int .i64 m, .int .i64 h, .int .i64 lo, .int .i64 hi]] w fun e w' => e = .returned (.bool true) /\ Below w.heap.size w w' := by
 go_enter Tryz.func59, Tryz.ntmps59
 go_wp2
 go_ret
 exact ⟨rfl, ((Below.refl _ _).alloc (Nat.le_refl _) _).alloc (by simp) _⟩

set_option maxHeartbeats 4000000 in
theorem implJoin_any (k : Int) (s : Bool) (m h lo hi : Int) (k' : Int) (s' : Bool) (m' h' lo' hi' : Int) (w : World) :
  Calls Tryz.prog 124 #[.agg #[.int .i64 k, .bool s, .int .i64 m, .int .i64 h, .int .i64 lo, .int .i64 hi], .agg #[.int .i64 k', .bool s', .int .i64 m', .int .i64 h', .int .i64 lo', .int .i64 hi']] w fun e w' => e = .returned (joinV ⟨k, s, m, h, lo, hi⟩ ⟨k', s', m', h', lo', hi'⟩).v /\ Below w.heap.size w w' := by
 go_enter Tryz.func124, Tryz.ntmps124
 go_wp2
 all_goals
  refine' bodyPost_ret (v := _) ?_ rfl ⟨?_, ?_⟩
  rotate_left 1
  ·simp [results, Tryz.results124, go_sem]; rfl
  rotate_left 1
  ·exact (((Below.refl _ _).alloc (Nat.le_refl _) _).alloc (by simp) _).alloc (by simp; omega) _
  ·simp_all [joinV, VV.v] <;> omega

set_option maxHeartbeats 4000000 in
theorem specJoin_any (k : Int) (s : Bool) (m h lo hi : Int) (k' : Int) (s' : Bool) (m' h' lo' hi' : Int) (w : World) :
  Calls Tryz.prog 70 #[.agg #[.int .i64 k, .bool s, .int .i64 m, .int .i64 h, .int .i64 lo, .int .i64 hi], .agg #[.int .i64 k', .bool s', .int .i64 m', .int .i64 h', .int .i64 lo', .int .i64 hi']] w fun e w' => e = .returned (joinV ⟨k, s, m, h, lo, hi⟩ ⟨k', s', m', h', lo', hi'⟩).v /\ Below w.heap.size w w' := by
 go_enter Tryz.func70, Tryz.ntmps70
 go_wp2
 all_goals
  refine' bodyPost_ret (v := _) ?_ rfl ⟨?_, ?_⟩
  rotate_left 1
  ·simp [results, Tryz.results70, go_sem]; rfl
  rotate_left 1
  ·exact ((((Below.refl _ _).alloc (Nat.le_refl _) _).alloc (by simp) _).alloc (by simp; omega) _).alloc (by simp; omega) _
  ·simp_all [joinV, VV.v] <;> omega
end Go.Proofs.YtcgcldokompafaaGreatDoor
/- Vals and heaplets' signatures that read as data. -/
namespace Go.Proofs.YtcgcldokompafaaGreatDoor
open Go.ChangeShapes Go.WideShapes Go.ChangeAt Go.RowKit Go.Deep

theorem cellsLVal : Tryz.prog.cellsOf 111 = 6 := by kernel_rfl
theorem cellsLHS : Tryz.prog.cellsOf 109 = 3 := by kernel_rfl
theorem v_cellsI64 : Tryz.prog.cellsOf 2 = 1 := by kernel_rfl
theorem v_cellsBool : Tryz.prog.cellsOf 4 = 1 := by kernel_rfl

set_option maxRecDepth 100000 in
theorem val_cells {H : Type} {enc : TypeId × Value -> H} {w : World} {base : Nat} {spare : Nat -> Bool} {held : Bool} {fuel : Nat} {cs : List Value} {x : DataW H × List MemPlace}
  (h : DataW.trod enc Tryz.prog w base spare held fuel 111 cs = some x) :
  ∃ v : VV, cs = [.int .i64 v.k, .bool v.s, .int .i64 v.m, .int .i64 v.h, .int .i64 v.lo, .int .i64 v.hi] := by
 obtain ⟨xs, n, _, _, hl, hlen, hf⟩ := DataW.trod_struct Tryz.underlying111 h
 rw [cellsLVal] at hl
 match cs, hl with
 | [c0, c1, c2, c3, c4, c5], _ =>
  match xs, hlen with
  | [y0, y1, y2, y3, y4, y5], _ =>
   have h0 := hf 0 _ rfl
   have h1 := hf 1 _ rfl
   have h2 := hf 2 _ rfl
   have h3 := hf 3 _ rfl
   have h4 := hf 4 _ rfl
   have h5 := hf 5 _ rfl
   simp [v_cellsI64, v_cellsBool] at h0 h1 h2 h3 h4 h5
   obtain ⟨n0, e0, _, _⟩ := DataW.trod_int Tryz.underlying2 h0
   obtain ⟨n1, e1, _⟩ := DataW.trod_bool Tryz.underlying4 h1
   obtain ⟨n2, e2, _, _⟩ := DataW.trod_int Tryz.underlying2 h2
   obtain ⟨n3, e3, _, _⟩ := DataW.trod_int Tryz.underlying2 h3
   obtain ⟨n4, e4, _, _⟩ := DataW.trod_int Tryz.underlying2 h4
   obtain ⟨n5, e5, _, _⟩ := DataW.trod_int Tryz.underlying2 h5
   simp at e0 e1 e2 e3 e4 e5
   subst e0 e1 e2 e3 e4 e5
   exact ⟨⟨n0, n1, n2, n3, n4, n5⟩, rfl⟩

structure HS where
 size : Int
 s : Bool
 w : Bool

set_option maxRecDepth 100000 in
theorem hs_cells {H : Type} {enc : TypeId × Value -> H} {w : World} {base : Nat} {spare : Nat -> Bool} {held : Bool} {fuel : Nat} {cs : List Value} {x : DataW H × List MemPlace}
  (h : DataW.trod enc Tryz.prog w base spare held fuel 109 cs = some x) :
  ∃ v : HS, cs = [.int .i64 v.size, .bool v.s, .bool v.w] := by
 obtain ⟨xs, n, _, _, hl, hlen, hf⟩ := DataW.trod_struct Tryz.underlying109 h
 rw [cellsLHS] at hl
 match cs, hl with
 | [c0, c1, c2], _ =>
  match xs, hlen with
  | [y0, y1, y2], _ =>
   have h0 := hf 0 _ rfl
   have h1 := hf 1 _ rfl
   have h2 := hf 2 _ rfl
   simp [v_cellsI64, v_cellsBool] at h0 h1 h2
   obtain ⟨n0, e0, _, _⟩ := DataW.trod_int Tryz.underlying2 h0
   obtain ⟨n1, e1, _⟩ := DataW.trod_bool Tryz.underlying4 h1
   obtain ⟨n2, e2, _⟩ := DataW.trod_bool Tryz.underlying4 h2
   simp at e0 e1 e2
   subst e0 e1 e2
   exact ⟨⟨n0, n1, n2⟩, rfl⟩
end Go.Proofs.YtcgcldokompafaaGreatDoor
/- Lists of Vals and of heaplets' signatures: copied, compared. (Written by mkvals.py.) -/
namespace Go.Proofs.YtcgcldokompafaaGreatDoor
open Go.RowKit

set_option maxHeartbeats 400000 in
theorem toHeapSig_any (size : Int) (s w' : Bool) (w : World) :
  Calls Tryz.prog 46 #[.agg #[.int .i64 size, .bool s, .bool w']] w fun e wx => e = .returned (.agg #[.int .i64 size, .bool s, .bool w']) /\ Below w.heap.size w wx := by
 go_enter Tryz.func46, Tryz.ntmps46
 go_wp2
 exact bodyPost_ret (v := .agg #[.int .i64 size, .bool s, .bool w']) (by simp [results, Tryz.results46, go_sem]) rfl ⟨rfl, (((Below.refl _ _).alloc (Nat.le_refl _) _).alloc (by simp) _).alloc (by simp; omega) _⟩
set_option maxHeartbeats 400000 in
theorem eqHeapSig_same (size : Int) (s w' : Bool) (w : World) :
  Calls Tryz.prog 58 #[.agg #[.int .i64 size, .bool s, .bool w'], .agg #[.int .i64 size, .bool s, .bool w']] w fun e wx => e = .returned (.bool true) /\ Below w.heap.size w wx := by
 go_enter Tryz.func58, Tryz.ntmps58
 go_wp2
 go_ret
 exact ⟨rfl, ((Below.refl _ _).alloc (Nat.le_refl _) _).alloc (by simp) _⟩

theorem info_iVal : (Tryz.prog.info? 75).map (fun i => (i.zero, i.size, i.bytes)) = some (some (.agg #[.int .i64 0, .bool false, .int .i64 0, .int .i64 0, .int .i64 0, .int .i64 0]), 6, 48) := by kernel_rfl
def vC (x : VV) : Nat -> Value
 | 0 => .int .i64 (x).k
 | 1 => .bool (x).s
 | 2 => .int .i64 (x).m
 | 3 => .int .i64 (x).h
 | 4 => .int .i64 (x).lo
 | _ => .int .i64 (x).hi
def vF (V : Nat -> VV) (i : Nat) : Value := vC (V (i / 6)) (i % 6)
def vZ (i : Nat) : Value := (#[Value.int .i64 0, Value.bool false, Value.int .i64 0, Value.int .i64 0, Value.int .i64 0, Value.int .i64 0] : Array Value)[i % 6]!
def vTo (V : Nat -> VV) (k i : Nat) : Value := if i < k * 6 then vC (V (i / 6)) (i % 6) else vZ i
theorem vF_at (V : Nat -> VV) (k j : Nat) (hj : j < 6) : vF V (k * 6 + j) = vC (V k) j := by
 unfold vF; rw [show (k * 6 + j) / 6 = k by omega, show (k * 6 + j) % 6 = j by omega]
theorem vTo_step (V : Nat -> VV) (k i : Nat) : (if k * 6 <= i /\ i < k * 6 + [Value.int .i64 (V k).k, Value.bool (V k).s, Value.int .i64 (V k).m, Value.int .i64 (V k).h, Value.int .i64 (V k).lo, Value.int .i64 (V k).hi].length then [Value.int .i64 (V k).k, Value.bool (V k).s, Value.int .i64 (V k).m, Value.int .i64 (V k).h, Value.int .i64 (V k).lo, Value.int .i64 (V k).hi].getD (i - k * 6) undef else vTo V k i) = vTo V (k + 1) i := by
 by_cases h : k * 6 <= i /\ i < k * 6 + 6
 ·obtain ⟨j, rfl⟩ : ∃ j, i = k * 6 + j := ⟨i - k * 6, by omega⟩
  have hj : j < 6 := by omega
  simp only [List.length_cons, List.length_nil, h]
  unfold vTo
  rw [show (k * 6 + j) / 6 = k by omega, show (k * 6 + j) % 6 = j by omega, if_pos (by omega : k * 6 + j < (k + 1) * 6), show k * 6 + j - k * 6 = j by omega]
  match j, hj with
  | 0, _ => simp [vC]
  | 1, _ => simp [vC]
  | 2, _ => simp [vC]
  | 3, _ => simp [vC]
  | 4, _ => simp [vC]
  | 5, _ => simp [vC]
 ·simp only [List.length_cons, List.length_nil]
  rw [if_neg (by omega)]
  unfold vTo
  by_cases g : i < k * 6
  ·rw [if_pos g, if_pos (by omega)]
  ·rw [if_neg g, if_neg (by omega)]
theorem v_stores (w : World) (b k : Nat) (V : Nat -> VV) : ((((((w.setCell ⟨b, k * 6, none⟩ (.int .i64 (V k).k)).setCell ⟨b, k * 6 + 1, none⟩ (.bool (V k).s)).setCell ⟨b, k * 6 + 2, none⟩ (.int .i64 (V k).m)).setCell ⟨b, k * 6 + 3, none⟩ (.int .i64 (V k).h)).setCell ⟨b, k * 6 + 4, none⟩ (.int .i64 (V k).lo)).setCell ⟨b, k * 6 + 5, none⟩ (.int .i64 (V k).hi)) = w.setCells b (k * 6) [Value.int .i64 (V k).k, Value.bool (V k).s, Value.int .i64 (V k).m, Value.int .i64 (V k).h, Value.int .i64 (V k).lo, Value.int .i64 (V k).hi] := rfl
theorem toVal_round {w w2 w3 : World} {k len : Nat} {V : Nat -> VV} (hlt : k < len) (hb : Below w.heap.size w w2) (ha : Arr w2 w.heap.size (len * 6) (vTo V k)) (hb2 : Below w2.heap.size w2 w3) :
  Below w.heap.size w (w3.setCells w.heap.size (k * 6) [Value.int .i64 (V k).k, Value.bool (V k).s, Value.int .i64 (V k).m, Value.int .i64 (V k).h, Value.int .i64 (V k).lo, Value.int .i64 (V k).hi]) /\ Arr (w3.setCells w.heap.size (k * 6) [Value.int .i64 (V k).k, Value.bool (V k).s, Value.int .i64 (V k).m, Value.int .i64 (V k).h, Value.int .i64 (V k).lo, Value.int .i64 (V k).hi]) w.heap.size (len * 6) (vTo V (k + 1)) :=
 ⟨below_setCells (Nat.le_refl _) _ _ (hb.trans (hb2.mono (Nat.le_of_lt ha.lt))), ((ha.below hb2 ha.lt).setCells _ _ (by simp; omega)).congr fun i _ => vTo_step V k i⟩
theorem v_zero (V : Nat -> VV) (i : Nat) : ((Value.agg #[.int .i64 0, .bool false, .int .i64 0, .int .i64 0, .int .i64 0, .int .i64 0]).cells)[i % ((Value.agg #[.int .i64 0, .bool false, .int .i64 0, .int .i64 0, .int .i64 0, .int .i64 0]).cells).size]! = vTo V 0 i := by
 unfold vTo; rw [if_neg (by omega)]; rfl

set_option maxHeartbeats 400000 in
theorem toValS_at (b off len cap : Nat) (V : Nat -> VV) (w : World) (hlen : len <= 1048576) (hat : At w b off (len * 6) (vF V)) :
  Calls Tryz.prog 23 #[.slice (some ⟨b, off, none⟩) len cap] w fun e w' => e = .returned (.slice (some ⟨w.heap.size, 0, none⟩) len len) /\ Below w.heap.size w w' /\ Arr w' w.heap.size (len * 6) (vF V) := by
 obtain ⟨i0, hi, hz0, hz1, hz2⟩ := info_parts info_iVal
 have hb := hat.lt
 have HA : Hid (At w b off (len * 6) (vF V)) := hat
 clear hat
 go_enter Tryz.func23, Tryz.ntmps23
 go_wp2_with (first | (at_make; refine wpList_make_full _ rfl _ _ 29 rfl w.heap.size 75 i0 _ 6 Tryz.underlying29 hi hz0 hz1 .i64 .i64 _ _ len rfl rfl ?c1 ?c2 ?c3 ?c4 ?c5 ?_) | go_in)
 case c1 => rfl
 case c2 => rfl
 case c3 => rw [hz2]; omega
 case c4 => unfold maxLen; omega
 case c5 => exact Nat.le_refl _
 ·intro w1 hown hgrow
  have hbel : Below w.heap.size w w1 := (Below.refl _ _).grown hgrow (Nat.le_refl _) (by intro k hk; cases hk)
  have harr : Arr w1 w.heap.size (len * 6) (vTo V 0) := Arr.made hown fun i hi => by
   rw [made_get _ _ _ hi]; exact congrArg some (v_zero V i)
  clear hown hgrow hi hz0 hz1 hz2
  go_wp2
  go_loopw [4] (fun i wr => ∃ k : Nat, k <= len /\ i = .int .i64 k /\ Below w.heap.size w wr /\ Arr wr w.heap.size (len * 6) (vTo V k)) (fun i _ => len - (intOf i).toNat)
  case atStart => exact ⟨0, Nat.zero_le _, rfl, hbel, harr⟩
  case round =>
   clear harr hbel
   obtain ⟨k, hk, rfl, hbr, har⟩ := hrel
   have HAR : Hid (Arr wr w.heap.size (len * 6) (vTo V k)) := har
   have hzr := har.lt
   clear har
   by_cases hlt : k < len
   ·skip
    have g0 := (hbr.cell (p := ⟨b, off + k * 6, none⟩) hb).trans (HA.out.cell (i := k * 6 + 0) (by omega) |>.trans (congrArg some (vF_at V k 0 (by omega))))
    have g1 := (hbr.cell (p := ⟨b, off + k * 6 + 1, none⟩) hb).trans (HA.out.cell (i := k * 6 + 1) (by omega) |>.trans (congrArg some (vF_at V k 1 (by omega))))
    have g2 := (hbr.cell (p := ⟨b, off + k * 6 + 2, none⟩) hb).trans (HA.out.cell (i := k * 6 + 2) (by omega) |>.trans (congrArg some (vF_at V k 2 (by omega))))
    have g3 := (hbr.cell (p := ⟨b, off + k * 6 + 3, none⟩) hb).trans (HA.out.cell (i := k * 6 + 3) (by omega) |>.trans (congrArg some (vF_at V k 3 (by omega))))
    have g4 := (hbr.cell (p := ⟨b, off + k * 6 + 4, none⟩) hb).trans (HA.out.cell (i := k * 6 + 4) (by omega) |>.trans (congrArg some (vF_at V k 4 (by omega))))
    have g5 := (hbr.cell (p := ⟨b, off + k * 6 + 5, none⟩) hb).trans (HA.out.cell (i := k * 6 + 5) (by omega) |>.trans (congrArg some (vF_at V k 5 (by omega))))
    simp only [vC] at g0 g1 g2 g3 g4 g5
    go_wp2_with fail
    refine (toVal_any _ _ _ _ _ _ _).mono ?_
    rintro e w2 ⟨rfl, hb2⟩
    clear g0 g1 g2 g3 g4 g5
    have R := toVal_round hlt hbr HAR.out hb2
    have A2 := HAR.out.below hb2 hzr
    have f2 := A2.free
    have c0 := A2.cell (i := k * 6) (by omega)
    have c1 := A2.cell (i := k * 6 + 1) (by omega)
    have c2 := A2.cell (i := k * 6 + 2) (by omega)
    have c3 := A2.cell (i := k * 6 + 3) (by omega)
    have c4 := A2.cell (i := k * 6 + 4) (by omega)
    have c5 := A2.cell (i := k * 6 + 5) (by omega)
    have HR : Hid _ := R
    clear R A2
    go_wp2
    go_roundw
    case rel => rw [v_stores]; exact ⟨k + 1, by omega, by go_num, HR.out.1, HR.out.2⟩
    case measure => simp [intOf]; omega
   ·go_wp2
    go_ret
    have : k = len := by omega
    subst this
    exact ⟨rfl, hbr, HAR.out.congr fun i hi => by unfold vTo vF; rw [if_pos hi]⟩

set_option maxHeartbeats 400000 in
theorem toValS_nil (ao : Option Addr) (cap : Nat) (V : Nat -> VV) (w : World) :
  Calls Tryz.prog 23 #[.slice ao 0 cap] w fun e w' => e = .returned (.slice (some ⟨w.heap.size, 0, none⟩) 0 0) /\ Below w.heap.size w w' /\ Arr w' w.heap.size (0 * 6) (vF V) := by
 obtain ⟨i0, hi, hz0, hz1, hz2⟩ := info_parts info_iVal
 go_enter Tryz.func23, Tryz.ntmps23
 go_wp2_with (first | (at_make; refine wpList_make_full _ rfl _ _ 29 rfl w.heap.size 75 i0 _ 6 Tryz.underlying29 hi hz0 hz1 .i64 .i64 _ _ 0 rfl rfl ?c1 ?c2 ?c3 ?c4 ?c5 ?_) | go_in)
 case c1 => rfl
 case c2 => rfl
 case c3 => rw [hz2]; omega
 case c4 => unfold maxLen; omega
 case c5 => exact Nat.le_refl _
 ·intro w1 hown hgrow
  have hbel : Below w.heap.size w w1 := (Below.refl _ _).grown hgrow (Nat.le_refl _) (by intro k hk; cases hk)
  have harr : Arr w1 w.heap.size (0 * 6) (vF V) := Arr.made hown fun i hi => by omega
  have HX : Hid (Below w.heap.size w w1 /\ Arr w1 w.heap.size (0 * 6) (vF V)) := ⟨hbel, harr⟩
  clear hown hgrow hi hz0 hz1 hz2 hbel harr
  go_wp2
  refine wp_loop_rounds 1 ?_
  rw [rounds_succ]
  go_wp2
  go_ret
  exact ⟨rfl, HX.out.1, HX.out.2⟩
theorem toValS_in (ao : Option Addr) (len cap : Nat) (V : Nat -> VV) (w : World) (hlen : len <= 1048576) (h : InRow w ao (len * 6) (vF V)) :
  Calls Tryz.prog 23 #[.slice ao len cap] w fun e w' => e = .returned (.slice (some ⟨w.heap.size, 0, none⟩) len len) /\ Below w.heap.size w w' /\ Arr w' w.heap.size (len * 6) (vF V) := by
 rcases h with h | ⟨b, off, rfl, h⟩
 ·obtain rfl : len = 0 := by omega
  exact toValS_nil ao cap V w
 ·exact toValS_at b off len cap V w hlen h

set_option maxHeartbeats 400000 in
theorem eqValS_same (b off len cap b' off' cap' : Nat) (V : Nat -> VV) (w : World) (hlen : len <= 1048576) (hat : At w b off (len * 6) (vF V)) (hat' : At w b' off' (len * 6) (vF V)) :
  Calls Tryz.prog 33 #[.slice (some ⟨b, off, none⟩) len cap, .slice (some ⟨b', off', none⟩) len cap'] w fun e w' => e = .returned (.bool true) /\ Below w.heap.size w w' := by
 have hb := hat.lt
 have hb' := hat'.lt
 have HA : Hid (At w b off (len * 6) (vF V)) := hat
 have HA' : Hid (At w b' off' (len * 6) (vF V)) := hat'
 clear hat hat'
 go_enter Tryz.func33, Tryz.ntmps33
 go_wp2
 go_loopw [5] (fun i wr => ∃ k : Nat, k <= len /\ i = .int .i64 k /\ Below w.heap.size w wr) (fun i _ => len - (intOf i).toNat)
 case atStart => exact ⟨0, Nat.zero_le _, rfl, Below.refl _ _⟩
 case round =>
  obtain ⟨k, hk, rfl, hbr⟩ := hrel
  by_cases hlt : k < len
  ·skip
   have g0 := (hbr.cell (p := ⟨b, off + k * 6, none⟩) hb).trans (HA.out.cell (i := k * 6 + 0) (by omega) |>.trans (congrArg some (vF_at V k 0 (by omega))))
   have g1 := (hbr.cell (p := ⟨b, off + k * 6 + 1, none⟩) hb).trans (HA.out.cell (i := k * 6 + 1) (by omega) |>.trans (congrArg some (vF_at V k 1 (by omega))))
   have g2 := (hbr.cell (p := ⟨b, off + k * 6 + 2, none⟩) hb).trans (HA.out.cell (i := k * 6 + 2) (by omega) |>.trans (congrArg some (vF_at V k 2 (by omega))))
   have g3 := (hbr.cell (p := ⟨b, off + k * 6 + 3, none⟩) hb).trans (HA.out.cell (i := k * 6 + 3) (by omega) |>.trans (congrArg some (vF_at V k 3 (by omega))))
   have g4 := (hbr.cell (p := ⟨b, off + k * 6 + 4, none⟩) hb).trans (HA.out.cell (i := k * 6 + 4) (by omega) |>.trans (congrArg some (vF_at V k 4 (by omega))))
   have g5 := (hbr.cell (p := ⟨b, off + k * 6 + 5, none⟩) hb).trans (HA.out.cell (i := k * 6 + 5) (by omega) |>.trans (congrArg some (vF_at V k 5 (by omega))))
   have q0 := (hbr.cell (p := ⟨b', off' + k * 6, none⟩) hb').trans (HA'.out.cell (i := k * 6 + 0) (by omega) |>.trans (congrArg some (vF_at V k 0 (by omega))))
   have q1 := (hbr.cell (p := ⟨b', off' + k * 6 + 1, none⟩) hb').trans (HA'.out.cell (i := k * 6 + 1) (by omega) |>.trans (congrArg some (vF_at V k 1 (by omega))))
   have q2 := (hbr.cell (p := ⟨b', off' + k * 6 + 2, none⟩) hb').trans (HA'.out.cell (i := k * 6 + 2) (by omega) |>.trans (congrArg some (vF_at V k 2 (by omega))))
   have q3 := (hbr.cell (p := ⟨b', off' + k * 6 + 3, none⟩) hb').trans (HA'.out.cell (i := k * 6 + 3) (by omega) |>.trans (congrArg some (vF_at V k 3 (by omega))))
   have q4 := (hbr.cell (p := ⟨b', off' + k * 6 + 4, none⟩) hb').trans (HA'.out.cell (i := k * 6 + 4) (by omega) |>.trans (congrArg some (vF_at V k 4 (by omega))))
   have q5 := (hbr.cell (p := ⟨b', off' + k * 6 + 5, none⟩) hb').trans (HA'.out.cell (i := k * 6 + 5) (by omega) |>.trans (congrArg some (vF_at V k 5 (by omega))))
   simp only [vC] at g0 g1 g2 g3 g4 g5 q0 q1 q2 q3 q4 q5
   have hlt' : (k : Int) < (len : Int) := by omega
   go_wp2_with fail
   go_region_with (go_at_call 59; refine (eqVal_same _ _ _ _ _ _ _).mono ?_; rintro e w' ⟨rfl, hb2⟩)
   all_goals
    clear g0 g1 g2 g3 g4 g5 q0 q1 q2 q3 q4 q5
    go_wp2
    go_roundw
    case rel => exact ⟨k + 1, by omega, by go_num, hbr.drew.trans (hb2.mono hbr.size)⟩
    case measure => simp [intOf]; omega
  ·go_wp2
   go_ret
   exact ⟨rfl, hbr⟩

theorem info_iHeapSig : (Tryz.prog.info? 98).map (fun i => (i.zero, i.size, i.bytes)) = some (some (.agg #[.int .i64 0, .bool false, .bool false]), 3, 16) := by kernel_rfl
def hsC (x : HS) : Nat -> Value
 | 0 => .int .i64 (x).size
 | 1 => .bool (x).s
 | _ => .bool (x).w
def hsF (V : Nat -> HS) (i : Nat) : Value := hsC (V (i / 3)) (i % 3)
def hsZ (i : Nat) : Value := (#[Value.int .i64 0, Value.bool false, Value.bool false] : Array Value)[i % 3]!
def hsTo (V : Nat -> HS) (k i : Nat) : Value := if i < k * 3 then hsC (V (i / 3)) (i % 3) else hsZ i
theorem hsF_at (V : Nat -> HS) (k j : Nat) (hj : j < 3) : hsF V (k * 3 + j) = hsC (V k) j := by
 unfold hsF; rw [show (k * 3 + j) / 3 = k by omega, show (k * 3 + j) % 3 = j by omega]
theorem hsTo_step (V : Nat -> HS) (k i : Nat) : (if k * 3 <= i /\ i < k * 3 + [Value.int .i64 (V k).size, Value.bool (V k).s, Value.bool (V k).w].length then [Value.int .i64 (V k).size, Value.bool (V k).s, Value.bool (V k).w].getD (i - k * 3) undef else hsTo V k i) = hsTo V (k + 1) i := by
 by_cases h : k * 3 <= i /\ i < k * 3 + 3
 ·obtain ⟨j, rfl⟩ : ∃ j, i = k * 3 + j := ⟨i - k * 3, by omega⟩
  have hj : j < 3 := by omega
  simp only [List.length_cons, List.length_nil, h]
  unfold hsTo
  rw [show (k * 3 + j) / 3 = k by omega, show (k * 3 + j) % 3 = j by omega, if_pos (by omega : k * 3 + j < (k + 1) * 3), show k * 3 + j - k * 3 = j by omega]
  match j, hj with
  | 0, _ => simp [hsC]
  | 1, _ => simp [hsC]
  | 2, _ => simp [hsC]
 ·simp only [List.length_cons, List.length_nil]
  rw [if_neg (by omega)]
  unfold hsTo
  by_cases g : i < k * 3
  ·rw [if_pos g, if_pos (by omega)]
  ·rw [if_neg g, if_neg (by omega)]
theorem hs_stores (w : World) (b k : Nat) (V : Nat -> HS) : (((w.setCell ⟨b, k * 3, none⟩ (.int .i64 (V k).size)).setCell ⟨b, k * 3 + 1, none⟩ (.bool (V k).s)).setCell ⟨b, k * 3 + 2, none⟩ (.bool (V k).w)) = w.setCells b (k * 3) [Value.int .i64 (V k).size, Value.bool (V k).s, Value.bool (V k).w] := rfl
theorem toHeapSig_round {w w2 w3 : World} {k len : Nat} {V : Nat -> HS} (hlt : k < len) (hb : Below w.heap.size w w2) (ha : Arr w2 w.heap.size (len * 3) (hsTo V k)) (hb2 : Below w2.heap.size w2 w3) :
  Below w.heap.size w (w3.setCells w.heap.size (k * 3) [Value.int .i64 (V k).size, Value.bool (V k).s, Value.bool (V k).w]) /\ Arr (w3.setCells w.heap.size (k * 3) [Value.int .i64 (V k).size, Value.bool (V k).s, Value.bool (V k).w]) w.heap.size (len * 3) (hsTo V (k + 1)) :=
 ⟨below_setCells (Nat.le_refl _) _ _ (hb.trans (hb2.mono (Nat.le_of_lt ha.lt))), ((ha.below hb2 ha.lt).setCells _ _ (by simp; omega)).congr fun i _ => hsTo_step V k i⟩
theorem hs_zero (V : Nat -> HS) (i : Nat) : ((Value.agg #[.int .i64 0, .bool false, .bool false]).cells)[i % ((Value.agg #[.int .i64 0, .bool false, .bool false]).cells).size]! = hsTo V 0 i := by
 unfold hsTo; rw [if_neg (by omega)]; rfl

set_option maxHeartbeats 400000 in
theorem toHeapSigS_at (b off len cap : Nat) (V : Nat -> HS) (w : World) (hlen : len <= 1048576) (hat : At w b off (len * 3) (hsF V)) :
  Calls Tryz.prog 22 #[.slice (some ⟨b, off, none⟩) len cap] w fun e w' => e = .returned (.slice (some ⟨w.heap.size, 0, none⟩) len len) /\ Below w.heap.size w w' /\ Arr w' w.heap.size (len * 3) (hsF V) := by
 obtain ⟨i0, hi, hz0, hz1, hz2⟩ := info_parts info_iHeapSig
 have hb := hat.lt
 have HA : Hid (At w b off (len * 3) (hsF V)) := hat
 clear hat
 go_enter Tryz.func22, Tryz.ntmps22
 go_wp2_with (first | (at_make; refine wpList_make_full _ rfl _ _ 35 rfl w.heap.size 98 i0 _ 3 Tryz.underlying35 hi hz0 hz1 .i64 .i64 _ _ len rfl rfl ?c1 ?c2 ?c3 ?c4 ?c5 ?_) | go_in)
 case c1 => rfl
 case c2 => rfl
 case c3 => rw [hz2]; omega
 case c4 => unfold maxLen; omega
 case c5 => exact Nat.le_refl _
 ·intro w1 hown hgrow
  have hbel : Below w.heap.size w w1 := (Below.refl _ _).grown hgrow (Nat.le_refl _) (by intro k hk; cases hk)
  have harr : Arr w1 w.heap.size (len * 3) (hsTo V 0) := Arr.made hown fun i hi => by
   rw [made_get _ _ _ hi]; exact congrArg some (hs_zero V i)
  clear hown hgrow hi hz0 hz1 hz2
  go_wp2
  go_loopw [4] (fun i wr => ∃ k : Nat, k <= len /\ i = .int .i64 k /\ Below w.heap.size w wr /\ Arr wr w.heap.size (len * 3) (hsTo V k)) (fun i _ => len - (intOf i).toNat)
  case atStart => exact ⟨0, Nat.zero_le _, rfl, hbel, harr⟩
  case round =>
   clear harr hbel
   obtain ⟨k, hk, rfl, hbr, har⟩ := hrel
   have HAR : Hid (Arr wr w.heap.size (len * 3) (hsTo V k)) := har
   have hzr := har.lt
   clear har
   by_cases hlt : k < len
   ·skip
    have g0 := (hbr.cell (p := ⟨b, off + k * 3, none⟩) hb).trans (HA.out.cell (i := k * 3 + 0) (by omega) |>.trans (congrArg some (hsF_at V k 0 (by omega))))
    have g1 := (hbr.cell (p := ⟨b, off + k * 3 + 1, none⟩) hb).trans (HA.out.cell (i := k * 3 + 1) (by omega) |>.trans (congrArg some (hsF_at V k 1 (by omega))))
    have g2 := (hbr.cell (p := ⟨b, off + k * 3 + 2, none⟩) hb).trans (HA.out.cell (i := k * 3 + 2) (by omega) |>.trans (congrArg some (hsF_at V k 2 (by omega))))
    simp only [hsC] at g0 g1 g2
    go_wp2_with fail
    refine (toHeapSig_any _ _ _ _).mono ?_
    rintro e w2 ⟨rfl, hb2⟩
    clear g0 g1 g2
    have R := toHeapSig_round hlt hbr HAR.out hb2
    have A2 := HAR.out.below hb2 hzr
    have f2 := A2.free
    have c0 := A2.cell (i := k * 3) (by omega)
    have c1 := A2.cell (i := k * 3 + 1) (by omega)
    have c2 := A2.cell (i := k * 3 + 2) (by omega)
    have HR : Hid _ := R
    clear R A2
    go_wp2
    go_roundw
    case rel => rw [hs_stores]; exact ⟨k + 1, by omega, by go_num, HR.out.1, HR.out.2⟩
    case measure => simp [intOf]; omega
   ·go_wp2
    go_ret
    have : k = len := by omega
    subst this
    exact ⟨rfl, hbr, HAR.out.congr fun i hi => by unfold hsTo hsF; rw [if_pos hi]⟩

set_option maxHeartbeats 400000 in
theorem toHeapSigS_nil (ao : Option Addr) (cap : Nat) (V : Nat -> HS) (w : World) :
  Calls Tryz.prog 22 #[.slice ao 0 cap] w fun e w' => e = .returned (.slice (some ⟨w.heap.size, 0, none⟩) 0 0) /\ Below w.heap.size w w' /\ Arr w' w.heap.size (0 * 3) (hsF V) := by
 obtain ⟨i0, hi, hz0, hz1, hz2⟩ := info_parts info_iHeapSig
 go_enter Tryz.func22, Tryz.ntmps22
 go_wp2_with (first | (at_make; refine wpList_make_full _ rfl _ _ 35 rfl w.heap.size 98 i0 _ 3 Tryz.underlying35 hi hz0 hz1 .i64 .i64 _ _ 0 rfl rfl ?c1 ?c2 ?c3 ?c4 ?c5 ?_) | go_in)
 case c1 => rfl
 case c2 => rfl
 case c3 => rw [hz2]; omega
 case c4 => unfold maxLen; omega
 case c5 => exact Nat.le_refl _
 ·intro w1 hown hgrow
  have hbel : Below w.heap.size w w1 := (Below.refl _ _).grown hgrow (Nat.le_refl _) (by intro k hk; cases hk)
  have harr : Arr w1 w.heap.size (0 * 3) (hsF V) := Arr.made hown fun i hi => by omega
  have HX : Hid (Below w.heap.size w w1 /\ Arr w1 w.heap.size (0 * 3) (hsF V)) := ⟨hbel, harr⟩
  clear hown hgrow hi hz0 hz1 hz2 hbel harr
  go_wp2
  refine wp_loop_rounds 1 ?_
  rw [rounds_succ]
  go_wp2
  go_ret
  exact ⟨rfl, HX.out.1, HX.out.2⟩
theorem toHeapSigS_in (ao : Option Addr) (len cap : Nat) (V : Nat -> HS) (w : World) (hlen : len <= 1048576) (h : InRow w ao (len * 3) (hsF V)) :
  Calls Tryz.prog 22 #[.slice ao len cap] w fun e w' => e = .returned (.slice (some ⟨w.heap.size, 0, none⟩) len len) /\ Below w.heap.size w w' /\ Arr w' w.heap.size (len * 3) (hsF V) := by
 rcases h with h | ⟨b, off, rfl, h⟩
 ·obtain rfl : len = 0 := by omega
  exact toHeapSigS_nil ao cap V w
 ·exact toHeapSigS_at b off len cap V w hlen h

set_option maxHeartbeats 400000 in
theorem eqHeapSigS_same (b off len cap b' off' cap' : Nat) (V : Nat -> HS) (w : World) (hlen : len <= 1048576) (hat : At w b off (len * 3) (hsF V)) (hat' : At w b' off' (len * 3) (hsF V)) :
  Calls Tryz.prog 32 #[.slice (some ⟨b, off, none⟩) len cap, .slice (some ⟨b', off', none⟩) len cap'] w fun e w' => e = .returned (.bool true) /\ Below w.heap.size w w' := by
 have hb := hat.lt
 have hb' := hat'.lt
 have HA : Hid (At w b off (len * 3) (hsF V)) := hat
 have HA' : Hid (At w b' off' (len * 3) (hsF V)) := hat'
 clear hat hat'
 go_enter Tryz.func32, Tryz.ntmps32
 go_wp2
 go_loopw [5] (fun i wr => ∃ k : Nat, k <= len /\ i = .int .i64 k /\ Below w.heap.size w wr) (fun i _ => len - (intOf i).toNat)
 case atStart => exact ⟨0, Nat.zero_le _, rfl, Below.refl _ _⟩
 case round =>
  obtain ⟨k, hk, rfl, hbr⟩ := hrel
  by_cases hlt : k < len
  ·skip
   have g0 := (hbr.cell (p := ⟨b, off + k * 3, none⟩) hb).trans (HA.out.cell (i := k * 3 + 0) (by omega) |>.trans (congrArg some (hsF_at V k 0 (by omega))))
   have g1 := (hbr.cell (p := ⟨b, off + k * 3 + 1, none⟩) hb).trans (HA.out.cell (i := k * 3 + 1) (by omega) |>.trans (congrArg some (hsF_at V k 1 (by omega))))
   have g2 := (hbr.cell (p := ⟨b, off + k * 3 + 2, none⟩) hb).trans (HA.out.cell (i := k * 3 + 2) (by omega) |>.trans (congrArg some (hsF_at V k 2 (by omega))))
   have q0 := (hbr.cell (p := ⟨b', off' + k * 3, none⟩) hb').trans (HA'.out.cell (i := k * 3 + 0) (by omega) |>.trans (congrArg some (hsF_at V k 0 (by omega))))
   have q1 := (hbr.cell (p := ⟨b', off' + k * 3 + 1, none⟩) hb').trans (HA'.out.cell (i := k * 3 + 1) (by omega) |>.trans (congrArg some (hsF_at V k 1 (by omega))))
   have q2 := (hbr.cell (p := ⟨b', off' + k * 3 + 2, none⟩) hb').trans (HA'.out.cell (i := k * 3 + 2) (by omega) |>.trans (congrArg some (hsF_at V k 2 (by omega))))
   simp only [hsC] at g0 g1 g2 q0 q1 q2
   have hlt' : (k : Int) < (len : Int) := by omega
   go_wp2_with fail
   go_region_with (go_at_call 58; refine (eqHeapSig_same _ _ _ _).mono ?_; rintro e w' ⟨rfl, hb2⟩)
   all_goals
    clear g0 g1 g2 q0 q1 q2
    go_wp2
    go_roundw
    case rel => exact ⟨k + 1, by omega, by go_num, hbr.drew.trans (hb2.mono hbr.size)⟩
    case measure => simp [intOf]; omega
  ·go_wp2
   go_ret
   exact ⟨rfl, hbr⟩
end Go.Proofs.YtcgcldokompafaaGreatDoor
/- What is known behind an instruction: the mathematics. -/
namespace Go.Proofs.YtcgcldokompafaaGreatDoor
open Go.RowKit

def numV (s : Bool) (m : Int) : VV := ⟨0, s, if m < 0 ∨ 1099511627776 < m then -1 else m, 0, 0, 0⟩
def maxV (v : VV) : Int := if v.k = 1 then -1 else v.m
def sumP (p q : VV) : VV :=
 if p.k = 1 /\ 0 <= maxV q /\ q.s = false /\ p.hi + q.m <= 1099511627776 then { p with hi := p.hi + q.m }
 else if 0 <= maxV p /\ 0 <= maxV q then numV (p.s || q.s) (p.m + q.m) else numV (p.s || q.s) (-1)
def sumV (a b : VV) : VV := if b.k = 1 then sumP b a else sumP a b
def timesI (a b : Int) : Int := if a = 0 ∨ b = 0 then 0 else if 1099511627776 / a < b then 1099511627777 else a * b
def onesI (x : Int) : Int := ((2 ^ bitsN x.toNat : Nat) : Int) - 1
def leastI (a b : Int) : Int := if a < 0 ∨ (0 <= b /\ b < a) then b else a
def bigI (a b : Int) : Int := if a > b then a else b
structure Bd (v : VV) : Prop where
 m0 : -1 <= v.m
 m1 : v.m <= 1099511627776
 l0 : -1099511627776 <= v.lo
 l1 : v.lo <= 1099511627776
 h0 : -1099511627776 <= v.hi
 h1 : v.hi <= 1099511627776
 k : v.k = 0 ∨ v.k = 1
def resV (op imm : Int) (a b : VV) (s : Bool) : VV :=
 if op = 1 then a
 else if op = 2 then numV false imm
 else if op = 3 ∨ op = 14 then sumV a b
 else if op = 5 then (if 0 <= maxV a /\ 0 <= maxV b then numV s (timesI a.m b.m) else numV s (-1))
 else if op = 6 then numV s (leastI (maxV a) (maxV b))
 else if op = 7 ∨ op = 8 then (if 0 <= maxV a /\ 0 <= maxV b then numV s (onesI (bigI a.m b.m)) else numV s (-1))
 else if op = 9 then numV s (maxV a)
 else if op = 10 then (if a.k = 1 /\ -1099511627776 <= a.lo + imm /\ a.hi + imm <= 1099511627776 then { a with lo := a.lo + imm, hi := a.hi + imm } else if 0 <= maxV a /\ 0 <= imm then numV s (a.m + imm) else numV s (-1))
 else if op = 11 then numV s (leastI imm (maxV a))
 else if op = 12 then (if maxV a = 0 then numV s 0 else if 0 < maxV a /\ imm <= 40 then numV s (timesI a.m ((2 ^ imm.toNat : Nat) : Int)) else numV s (-1))
 else if op = 13 then (if 0 <= maxV a then numV s (a.m / ((2 ^ imm.toNat : Nat) : Int)) else if 24 <= imm then numV s (((2 ^ (64 - imm).toNat : Nat) : Int) - 1) else numV s (-1))
 else if op = 15 then (if 0 <= maxV a /\ 0 <= maxV b then numV s (a.m + b.m + 1) else numV s (-1))
 else numV s (-1)
end Go.Proofs.YtcgcldokompafaaGreatDoor
