import Derived.Test.YtjnooklalbcamaaOfTransMath
import Derived.Test.YtjnooklalbcamaaOfValGood
import Derived.Test.YtjnooklalbcamaaOfFill
import Derived.Deep.Cut
/- The model's small functions under Transfer. -/
namespace Go.Proofs.Ytjnooklalbcamaa
open Go.RowKit

set_option maxHeartbeats 1000000 in
theorem l4Num_ex (s : Bool) (m : Int) (w : World) :
    Calls Try.prog 78 #[.bool s, .int .i64 m] w fun e w' => e = .returned (.agg #[.int .i64 0, .bool s, .int .i64 (numV s m).m, .int .i64 0, .int .i64 0, .int .i64 0]) ∧ w' = w.alloc (.cells #[.int .i64 0, .bool s, .int .i64 (numV s m).m, .int .i64 0, .int .i64 0, .int .i64 0] 24) := by
  by_cases h : m < 0 ∨ 1099511627776 < m
  · have hm : (numV s m).m = -1 := by simp [numV, h]
    rw [hm]
    clear hm
    by_cases h1 : m < 0
    all_goals
      go_enter Try.func78, Try.ntmps78
      go_wp2
      exact bodyPost_ret (v := .agg #[.int .i64 0, .bool s, .int .i64 (-1), .int .i64 0, .int .i64 0, .int .i64 0]) (by simp [results, Try.results78, go_sem]) rfl ⟨rfl, rfl⟩
  · have hm : (numV s m).m = m := by simp [numV, h]
    rw [hm]
    clear hm
    go_enter Try.func78, Try.ntmps78
    go_wp2
    exact bodyPost_ret (v := .agg #[.int .i64 0, .bool s, .int .i64 m, .int .i64 0, .int .i64 0, .int .i64 0]) (by simp [results, Try.results78, go_sem]) rfl ⟨rfl, rfl⟩
theorem l4Num_any (s : Bool) (m : Int) (w : World) :
    Calls Try.prog 78 #[.bool s, .int .i64 m] w fun e w' => e = .returned (numV s m).v ∧ Below w.heap.size w w' :=
  (l4Num_ex s m w).mono fun _ _ ⟨h1, h2⟩ => ⟨h1, by rw [h2]; exact (Below.refl _ _).alloc (Nat.le_refl _) _⟩

set_option maxHeartbeats 1000000 in
theorem l4Max_ex (k : Int) (s : Bool) (m h lo hi : Int) (w : World) :
    Calls Try.prog 106 #[.agg #[.int .i64 k, .bool s, .int .i64 m, .int .i64 h, .int .i64 lo, .int .i64 hi]] w fun e w' => e = .returned (.int .i64 (maxV ⟨k, s, m, h, lo, hi⟩)) ∧ w' = w.alloc (.cells #[.int .i64 k, .bool s, .int .i64 m, .int .i64 h, .int .i64 lo, .int .i64 hi] 24) := by
  go_enter Try.func106, Try.ntmps106
  go_wp2
  all_goals (go_ret; refine ⟨ret_int ?_, rfl⟩; simp_all [maxV])
theorem l4Max_any (k : Int) (s : Bool) (m h lo hi : Int) (w : World) :
    Calls Try.prog 106 #[.agg #[.int .i64 k, .bool s, .int .i64 m, .int .i64 h, .int .i64 lo, .int .i64 hi]] w fun e w' => e = .returned (.int .i64 (maxV ⟨k, s, m, h, lo, hi⟩)) ∧ Below w.heap.size w w' :=
  (l4Max_ex k s m h lo hi w).mono fun _ _ ⟨h1, h2⟩ => ⟨h1, by rw [h2]; exact (Below.refl _ _).alloc (Nat.le_refl _) _⟩

set_option maxHeartbeats 1000000 in
theorem l4Times_any (a b : Int) (w : World) (a0 : 0 ≤ a) (a1 : a ≤ 1099511627776) (b0 : 0 ≤ b) (b1 : b ≤ 1099511627776) :
    Calls Try.prog 109 #[.int .i64 a, .int .i64 b] w fun e w' => e = .returned (.int .i64 (timesI a b)) ∧ w' = w := by
  by_cases ha : a = 0
  · subst ha
    go_enter Try.func109, Try.ntmps109
    go_wp2
    go_ret
    exact ⟨ret_int (by simp [timesI]), rfl⟩
  by_cases hb : b = 0
  · subst hb
    go_enter Try.func109, Try.ntmps109
    go_wp2
    go_ret
    exact ⟨ret_int (by simp [timesI]), rfl⟩
  have a2 : 1 ≤ a := by omega
  have e1 : (a == 0) = false := by simp [ha]
  have e2 : (b == 0) = false := by simp [hb]
  have q0 : 0 ≤ 1099511627776 / a := Int.ediv_nonneg (by omega) a0
  have q1 : 1099511627776 / a ≤ 1099511627776 := Int.ediv_le_self _ (by omega)
  by_cases h : 1099511627776 / a < b
  · go_enter Try.func109, Try.ntmps109
    go_wp2
    go_ret
    exact ⟨ret_int (by simp [timesI, ha, hb, h]), rfl⟩
  · have hm : a * b ≤ 1099511627776 := by
      have h1 : b ≤ 1099511627776 / a := by omega
      have h2 := Int.mul_le_mul_of_nonneg_left h1 a0
      have h3 := Int.mul_ediv_self_le (x := 1099511627776) (k := a) (by omega)
      omega
    have hm0 : 0 ≤ a * b := Int.mul_nonneg a0 b0
    go_enter Try.func109, Try.ntmps109
    go_wp2
    go_ret
    exact ⟨ret_int (by simp [timesI, ha, hb]; omega), rfl⟩

set_option maxHeartbeats 1000000 in
theorem l4Both_any (k : Int) (s : Bool) (m h lo hi : Int) (k' : Int) (s' : Bool) (m' h' lo' hi' : Int) (w : World) :
    Calls Try.prog 108 #[.agg #[.int .i64 k, .bool s, .int .i64 m, .int .i64 h, .int .i64 lo, .int .i64 hi], .agg #[.int .i64 k', .bool s', .int .i64 m', .int .i64 h', .int .i64 lo', .int .i64 hi']] w fun e w' => e = .returned (.bool (decide (0 ≤ maxV ⟨k, s, m, h, lo, hi⟩ ∧ 0 ≤ maxV ⟨k', s', m', h', lo', hi'⟩))) ∧ Below w.heap.size w w' := by
  obtain ⟨x, hx⟩ : ∃ x, maxV ⟨k, s, m, h, lo, hi⟩ = x := ⟨_, rfl⟩
  obtain ⟨y, hy⟩ : ∃ y, maxV ⟨k', s', m', h', lo', hi'⟩ = y := ⟨_, rfl⟩
  have HX : Hid (maxV ⟨k, s, m, h, lo, hi⟩ = x) := hx
  have HY : Hid (maxV ⟨k', s', m', h', lo', hi'⟩ = y) := hy
  rw [hx, hy]
  clear hx hy
  go_enter Try.func108, Try.ntmps108
  go_wp2_with fail
  obtain ⟨u, hu, hbu, cu⟩ : ∃ v, (w.alloc (.cells #[.int .i64 k, .bool s, .int .i64 m, .int .i64 h, .int .i64 lo, .int .i64 hi] 24)).alloc (.cells #[.int .i64 k', .bool s', .int .i64 m', .int .i64 h', .int .i64 lo', .int .i64 hi'] 24) = v ∧ Below w.heap.size w v ∧ Cl v (w.heap.size + 1) [.int .i64 k', .bool s', .int .i64 m', .int .i64 h', .int .i64 lo', .int .i64 hi'] := by
    refine ⟨_, rfl, ((Below.refl _ _).alloc (Nat.le_refl _) _).alloc (by simp) _, ?_⟩
    have h := Cl.new (w := w.alloc (.cells #[.int .i64 k, .bool s, .int .i64 m, .int .i64 h, .int .i64 lo, .int .i64 hi] 24)) (vs := #[.int .i64 k', .bool s', .int .i64 m', .int .i64 h', .int .i64 lo', .int .i64 hi']) (t := 24)
    simp only [World.size_alloc] at h
    exact h
  rw [hu]
  refine (l4Max_any _ _ _ _ _ _ _).mono ?_
  rintro e w1 ⟨rfl, hb1⟩
  have B1 : Hid (Below w.heap.size w w1) := hbu.trans (hb1.mono hbu.size)
  have c1 := cu.below hb1
  have q0 : w1.cell? ⟨w.heap.size + 1, 0, none⟩ = some (.int .i64 k') := c1.2 0 (by simp)
  have q1 : w1.cell? ⟨w.heap.size + 1, 1, none⟩ = some (.bool s') := c1.2 1 (by simp)
  have q2 : w1.cell? ⟨w.heap.size + 1, 2, none⟩ = some (.int .i64 m') := c1.2 2 (by simp)
  have q3 : w1.cell? ⟨w.heap.size + 1, 3, none⟩ = some (.int .i64 h') := c1.2 3 (by simp)
  have q4 : w1.cell? ⟨w.heap.size + 1, 4, none⟩ = some (.int .i64 lo') := c1.2 4 (by simp)
  have q5 : w1.cell? ⟨w.heap.size + 1, 5, none⟩ = some (.int .i64 hi') := c1.2 5 (by simp)
  clear hu hbu cu hb1 c1
  rw [HX.out]
  by_cases h1 : 0 ≤ x
  · go_wp2_with fail
    refine (l4Max_any _ _ _ _ _ _ _).mono ?_
    rintro e w2 ⟨rfl, hb2⟩
    have B2 : Hid (Below w.heap.size w w2) := B1.out.trans (hb2.mono B1.out.size)
    clear hb2
    rw [HY.out]
    go_wp2
    go_ret
    exact ⟨ret_bool (by simp [h1]), B2.out⟩
  · go_wp2
    go_ret
    exact ⟨ret_bool (by simp; omega), B1.out⟩

set_option maxHeartbeats 1000000 in
theorem l4Bigger_any (a b : Int) (w : World) : Calls Try.prog 112 #[.int .i64 a, .int .i64 b] w fun e w' => e = .returned (.int .i64 (bigI a b)) ∧ w' = w := by
  go_enter Try.func112, Try.ntmps112
  go_wp2
  all_goals (go_ret; refine ⟨ret_int ?_, rfl⟩; simp [bigI] <;> omega)

set_option maxHeartbeats 1000000 in
theorem l4Least_any (a b : Int) (w : World) : Calls Try.prog 110 #[.int .i64 a, .int .i64 b] w fun e w' => e = .returned (.int .i64 (leastI a b)) ∧ w' = w := by
  by_cases h1 : a < 0
  · go_enter Try.func110, Try.ntmps110
    go_wp2
    all_goals (go_ret; refine ⟨ret_int ?_, rfl⟩; simp [leastI] <;> omega)
  · by_cases h2 : 0 ≤ b
    · go_enter Try.func110, Try.ntmps110
      go_wp2
      all_goals (go_ret; refine ⟨ret_int ?_, rfl⟩; simp [leastI] <;> omega)
    · go_enter Try.func110, Try.ntmps110
      go_wp2
      all_goals (go_ret; refine ⟨ret_int ?_, rfl⟩; simp [leastI] <;> omega)

theorem ones_step {x : Int} {i : Nat} (h : ((2 ^ i : Nat) : Int) - 1 < x) (hx : x ≤ 1099511627776) : i ≤ 40 := by
  by_cases g : i ≤ 40
  · exact g
  · have : 2 ^ 41 ≤ 2 ^ i := Nat.pow_le_pow_right (by decide) (by omega)
    have : (2 : Nat) ^ 41 = 2199023255552 := by decide
    omega
theorem ones_done {x : Int} {i : Nat} (x0 : 0 ≤ x) (h : x ≤ ((2 ^ i : Nat) : Int) - 1) (hm : i = 0 ∨ ((2 ^ (i - 1) : Nat) : Int) - 1 < x) : onesI x = ((2 ^ i : Nat) : Int) - 1 := by
  obtain ⟨n, rfl⟩ : ∃ n : Nat, x = (n : Int) := ⟨x.toNat, by omega⟩
  have hn : n < 2 ^ i := by omega
  unfold onesI
  rw [Int.toNat_natCast]
  have : bitsN n = i := by
    unfold bitsN
    rcases hm with rfl | hm
    · simp at hn; simp [hn]
    · have hp : 2 ^ (i - 1) ≤ n := by omega
      have h0 : n ≠ 0 := by have := Nat.two_pow_pos (i - 1); omega
      rw [if_neg h0]
      have h1 := (Nat.log2_lt h0 (k := i)).2 hn
      have h2 := (Nat.le_log2 h0 (k := i - 1)).2 hp
      by_cases e : i = 0
      · subst e; simp at hn; omega
      · omega
  rw [this]

set_option maxHeartbeats 1000000 in
theorem l4Ones_any (x : Int) (w : World) (x0 : 0 ≤ x) (x1 : x ≤ 1099511627776) : Calls Try.prog 111 #[.int .i64 x] w fun e w' => e = .returned (.int .i64 (onesI x)) ∧ w' = w := by
  go_enter Try.func111, Try.ntmps111
  go_wp2
  go_loop [3] (fun o => ∃ i : Nat, i ≤ 41 ∧ o = .int .i64 (((2 ^ i : Nat) : Int) - 1) ∧ (i = 0 ∨ ((2 ^ (i - 1) : Nat) : Int) - 1 < x)) (fun o => (2 * x + 2 - intOf o).toNat)
  case atStart => exact ⟨0, by omega, rfl, Or.inl rfl⟩
  case round =>
    obtain ⟨i, hi, rfl, hm⟩ := hrel
    have HM : Hid (i = 0 ∨ ((2 ^ (i - 1) : Nat) : Int) - 1 < x) := hm
    clear hm
    have hp : 1 ≤ 2 ^ i := Nat.two_pow_pos i
    have hp2 : 2 ^ i ≤ 2 ^ 41 := Nat.pow_le_pow_right (by decide) hi
    have e41 : (2 : Nat) ^ 41 = 2199023255552 := by decide
    rw [e41] at hp2
    clear e41
    by_cases hlt : ((2 ^ i : Nat) : Int) - 1 < x
    · have h40 := ones_step hlt x1
      have hs : 2 ^ (i + 1) = 2 * 2 ^ i := by rw [Nat.pow_succ, Nat.mul_comm]
      have HS : Hid (2 ^ (i + 1) = 2 * 2 ^ i) := hs
      have HL : Hid (((2 ^ i : Nat) : Int) - 1 < x) := hlt
      clear hs
      generalize hy : 2 ^ i = y at *
      go_wp2
      go_round
      case rel =>
        refine ⟨i + 1, by omega, ?_, Or.inr ?_⟩
        · rw [HS.out]
          go_num
        · rw [Nat.add_sub_cancel, hy]; exact HL.out
      case measure => simp [intOf]; omega
    · have hd := ones_done x0 (by omega) HM.out
      have HD : Hid (onesI x = ((2 ^ i : Nat) : Int) - 1) := hd
      clear hd
      generalize 2 ^ i = y at *
      go_wp2
      go_ret
      exact ⟨ret_int HD.out.symm, rfl⟩

set_option maxHeartbeats 1000000 in
theorem l4FlagOf_any (s : Bool) (w : World) : Calls Try.prog 80 #[.bool s] w fun e w' => e = .returned (.int .i64 (if s then 2 else 1)) ∧ w' = w := by
  cases s
  all_goals
    go_enter Try.func80, Try.ntmps80
    go_wp2
    go_ret
    exact ⟨rfl, rfl⟩

end Go.Proofs.Ytjnooklalbcamaa
/- The library's count of bits. -/
namespace Go.Proofs.Ytjnooklalbcamaa
open Go.RowKit
theorem bitsI (k : Nat) (x : Int) (h0 : 0 ≤ x) (h : 2 ^ k ≤ x.toNat) : bitsN x.toNat = bitsN (x / ((2 ^ k : Nat) : Int)).toNat + k := by
  rw [bitsN_shift k _ h]
  congr 2
  obtain ⟨n, rfl⟩ := Int.eq_ofNat_of_zero_le h0
  rw [← Int.natCast_ediv, Int.toNat_natCast, Int.toNat_natCast]
set_option maxRecDepth 20000 in
theorem tab_bits : ∀ j : Nat, (h : j < 256) → ((⟨#[0, 1, 2, 2, 3, 3, 3, 3, 4, 4, 4, 4, 4, 4, 4, 4, 5, 5, 5, 5, 5, 5, 5, 5, 5, 5, 5, 5, 5, 5, 5, 5, 6, 6, 6, 6, 6, 6, 6, 6, 6, 6, 6, 6, 6, 6, 6, 6, 6, 6, 6, 6, 6, 6, 6, 6, 6, 6, 6, 6, 6, 6, 6, 6, 7, 7, 7, 7, 7, 7, 7, 7, 7, 7, 7, 7, 7, 7, 7, 7, 7, 7, 7, 7, 7, 7, 7, 7, 7, 7, 7, 7, 7, 7, 7, 7, 7, 7, 7, 7, 7, 7, 7, 7, 7, 7, 7, 7, 7, 7, 7, 7, 7, 7, 7, 7, 7, 7, 7, 7, 7, 7, 7, 7, 7, 7, 7, 7, 8, 8, 8, 8, 8, 8, 8, 8, 8, 8, 8, 8, 8, 8, 8, 8, 8, 8, 8, 8, 8, 8, 8, 8, 8, 8, 8, 8, 8, 8, 8, 8, 8, 8, 8, 8, 8, 8, 8, 8, 8, 8, 8, 8, 8, 8, 8, 8, 8, 8, 8, 8, 8, 8, 8, 8, 8, 8, 8, 8, 8, 8, 8, 8, 8, 8, 8, 8, 8, 8, 8, 8, 8, 8, 8, 8, 8, 8, 8, 8, 8, 8, 8, 8, 8, 8, 8, 8, 8, 8, 8, 8, 8, 8, 8, 8, 8, 8, 8, 8, 8, 8, 8, 8, 8, 8, 8, 8, 8, 8, 8, 8, 8, 8, 8, 8, 8, 8, 8, 8, 8, 8, 8, 8, 8, 8, 8, 8]⟩ : ByteArray)[j]'h).toNat = bitsN j := by decide +kernel
theorem bits_byte {j : Nat} (h : j < 256) : bitsN j ≤ 8 := by
  unfold bitsN
  by_cases h0 : j = 0
  · simp [h0]
  · rw [if_neg h0]
    have := (Nat.log2_lt h0 (k := 8)).2 (by simpa using h)
    omega
set_option maxRecDepth 20000 in
set_option maxHeartbeats 1000000 in
theorem len64_any (x : Int) (w : World) (h0 : 0 ≤ x) (hx : x < 18446744073709551616) :
    Calls Try.prog 146 #[.int .u64 x] w fun e w' => e = .returned (.int .i64 (bitsN x.toNat)) ∧ w' = w := by
  go_enter Try.func146, Try.ntmps146
  by_cases h32 : 4294967296 ≤ x
  · have e32 := bitsI 32 x (by omega) (by simp; omega)
    have HE32 : Hid (bitsN x.toNat = bitsN (x / (4294967296 : Int)).toNat + 32) := e32
    clear e32
    go_upto_region 4 with fail
    have l32 : 0 ≤ x / (4294967296 : Int) := by omega
    have m32 : x / (4294967296 : Int) < 4294967296 := by omega
    generalize hy32 : x / (4294967296 : Int) = y32 at *
    clear hy32
    by_cases h16 : 65536 ≤ y32
    · have e16 := bitsI 16 y32 (by omega) (by simp; omega)
      have HE16 : Hid (bitsN y32.toNat = bitsN (y32 / (65536 : Int)).toNat + 16) := e16
      clear e16
      go_upto_region 7 with fail
      have l16 : 0 ≤ y32 / (65536 : Int) := by omega
      have m16 : y32 / (65536 : Int) < 65536 := by omega
      generalize hy16 : y32 / (65536 : Int) = y16 at *
      clear hy16
      by_cases h8 : 256 ≤ y16
      · have e8 := bitsI 8 y16 (by omega) (by simp; omega)
        have HE8 : Hid (bitsN y16.toNat = bitsN (y16 / (256 : Int)).toNat + 8) := e8
        clear e8
        go_upto_region 10 with fail
        have l8 : 0 ≤ y16 / (256 : Int) := by omega
        have m8 : y16 / (256 : Int) < 256 := by omega
        generalize hy8 : y16 / (256 : Int) = y8 at *
        clear hy8
        go_upto_region 10 with fail
        have hk := tab_bits y8.toNat (by omega)
        have hk8 := bits_byte (j := y8.toNat) (by omega)
        go_wp2
        go_ret
        refine ⟨ret_int ?_, rfl⟩
        first | rfl | (have q1 := HE32.out; have q2 := HE16.out; have q3 := HE8.out; omega) | (have q1 := HE32.out; have q2 := HE16.out; omega) | (have q1 := HE32.out; have q3 := HE8.out; omega) | (have q2 := HE16.out; have q3 := HE8.out; omega) | (have q1 := HE32.out; omega) | (have q2 := HE16.out; omega) | (have q3 := HE8.out; omega)
      · go_upto_region 10 with fail
        have hk := tab_bits y16.toNat (by omega)
        have hk8 := bits_byte (j := y16.toNat) (by omega)
        go_wp2
        go_ret
        refine ⟨ret_int ?_, rfl⟩
        first | rfl | (have q1 := HE32.out; have q2 := HE16.out; have q3 := HE8.out; omega) | (have q1 := HE32.out; have q2 := HE16.out; omega) | (have q1 := HE32.out; have q3 := HE8.out; omega) | (have q2 := HE16.out; have q3 := HE8.out; omega) | (have q1 := HE32.out; omega) | (have q2 := HE16.out; omega) | (have q3 := HE8.out; omega)
    · by_cases h8 : 256 ≤ y32
      · have e8 := bitsI 8 y32 (by omega) (by simp; omega)
        have HE8 : Hid (bitsN y32.toNat = bitsN (y32 / (256 : Int)).toNat + 8) := e8
        clear e8
        go_upto_region 10 with fail
        have l8 : 0 ≤ y32 / (256 : Int) := by omega
        have m8 : y32 / (256 : Int) < 256 := by omega
        generalize hy8 : y32 / (256 : Int) = y8 at *
        clear hy8
        go_upto_region 10 with fail
        have hk := tab_bits y8.toNat (by omega)
        have hk8 := bits_byte (j := y8.toNat) (by omega)
        go_wp2
        go_ret
        refine ⟨ret_int ?_, rfl⟩
        first | rfl | (have q1 := HE32.out; have q2 := HE16.out; have q3 := HE8.out; omega) | (have q1 := HE32.out; have q2 := HE16.out; omega) | (have q1 := HE32.out; have q3 := HE8.out; omega) | (have q2 := HE16.out; have q3 := HE8.out; omega) | (have q1 := HE32.out; omega) | (have q2 := HE16.out; omega) | (have q3 := HE8.out; omega)
      · go_upto_region 10 with fail
        have hk := tab_bits y32.toNat (by omega)
        have hk8 := bits_byte (j := y32.toNat) (by omega)
        go_wp2
        go_ret
        refine ⟨ret_int ?_, rfl⟩
        first | rfl | (have q1 := HE32.out; have q2 := HE16.out; have q3 := HE8.out; omega) | (have q1 := HE32.out; have q2 := HE16.out; omega) | (have q1 := HE32.out; have q3 := HE8.out; omega) | (have q2 := HE16.out; have q3 := HE8.out; omega) | (have q1 := HE32.out; omega) | (have q2 := HE16.out; omega) | (have q3 := HE8.out; omega)
  · by_cases h16 : 65536 ≤ x
    · have e16 := bitsI 16 x (by omega) (by simp; omega)
      have HE16 : Hid (bitsN x.toNat = bitsN (x / (65536 : Int)).toNat + 16) := e16
      clear e16
      go_upto_region 7 with fail
      have l16 : 0 ≤ x / (65536 : Int) := by omega
      have m16 : x / (65536 : Int) < 65536 := by omega
      generalize hy16 : x / (65536 : Int) = y16 at *
      clear hy16
      by_cases h8 : 256 ≤ y16
      · have e8 := bitsI 8 y16 (by omega) (by simp; omega)
        have HE8 : Hid (bitsN y16.toNat = bitsN (y16 / (256 : Int)).toNat + 8) := e8
        clear e8
        go_upto_region 10 with fail
        have l8 : 0 ≤ y16 / (256 : Int) := by omega
        have m8 : y16 / (256 : Int) < 256 := by omega
        generalize hy8 : y16 / (256 : Int) = y8 at *
        clear hy8
        go_upto_region 10 with fail
        have hk := tab_bits y8.toNat (by omega)
        have hk8 := bits_byte (j := y8.toNat) (by omega)
        go_wp2
        go_ret
        refine ⟨ret_int ?_, rfl⟩
        first | rfl | (have q1 := HE32.out; have q2 := HE16.out; have q3 := HE8.out; omega) | (have q1 := HE32.out; have q2 := HE16.out; omega) | (have q1 := HE32.out; have q3 := HE8.out; omega) | (have q2 := HE16.out; have q3 := HE8.out; omega) | (have q1 := HE32.out; omega) | (have q2 := HE16.out; omega) | (have q3 := HE8.out; omega)
      · go_upto_region 10 with fail
        have hk := tab_bits y16.toNat (by omega)
        have hk8 := bits_byte (j := y16.toNat) (by omega)
        go_wp2
        go_ret
        refine ⟨ret_int ?_, rfl⟩
        first | rfl | (have q1 := HE32.out; have q2 := HE16.out; have q3 := HE8.out; omega) | (have q1 := HE32.out; have q2 := HE16.out; omega) | (have q1 := HE32.out; have q3 := HE8.out; omega) | (have q2 := HE16.out; have q3 := HE8.out; omega) | (have q1 := HE32.out; omega) | (have q2 := HE16.out; omega) | (have q3 := HE8.out; omega)
    · by_cases h8 : 256 ≤ x
      · have e8 := bitsI 8 x (by omega) (by simp; omega)
        have HE8 : Hid (bitsN x.toNat = bitsN (x / (256 : Int)).toNat + 8) := e8
        clear e8
        go_upto_region 10 with fail
        have l8 : 0 ≤ x / (256 : Int) := by omega
        have m8 : x / (256 : Int) < 256 := by omega
        generalize hy8 : x / (256 : Int) = y8 at *
        clear hy8
        go_upto_region 10 with fail
        have hk := tab_bits y8.toNat (by omega)
        have hk8 := bits_byte (j := y8.toNat) (by omega)
        go_wp2
        go_ret
        refine ⟨ret_int ?_, rfl⟩
        first | rfl | (have q1 := HE32.out; have q2 := HE16.out; have q3 := HE8.out; omega) | (have q1 := HE32.out; have q2 := HE16.out; omega) | (have q1 := HE32.out; have q3 := HE8.out; omega) | (have q2 := HE16.out; have q3 := HE8.out; omega) | (have q1 := HE32.out; omega) | (have q2 := HE16.out; omega) | (have q3 := HE8.out; omega)
      · go_upto_region 10 with fail
        have hk := tab_bits x.toNat (by omega)
        have hk8 := bits_byte (j := x.toNat) (by omega)
        go_wp2
        go_ret
        refine ⟨ret_int ?_, rfl⟩
        first | rfl | (have q1 := HE32.out; have q2 := HE16.out; have q3 := HE8.out; omega) | (have q1 := HE32.out; have q2 := HE16.out; omega) | (have q1 := HE32.out; have q3 := HE8.out; omega) | (have q2 := HE16.out; have q3 := HE8.out; omega) | (have q1 := HE32.out; omega) | (have q2 := HE16.out; omega) | (have q3 := HE8.out; omega)
end Go.Proofs.Ytjnooklalbcamaa
/- The program's small functions under Transfer. -/
namespace Go.Proofs.Ytjnooklalbcamaa
open Go.RowKit
def sumI (a b : Int) : Int := if a < 0 ∨ b < 0 then -1 else a + b
def prodI (a b : Int) : Int := if a < 0 ∨ b < 0 ∨ (0 < b ∧ 1099511627776 / b < a) then -1 else a * b
def smallI (a b : Int) : Int := if a < 0 then b else if b < 0 then a else if b < a then b else a

set_option maxHeartbeats 1000000 in
theorem maxOf_any (k : Int) (s : Bool) (m h lo hi : Int) (w : World) :
    Calls Try.prog 133 #[.agg #[.int .i64 k, .bool s, .int .i64 m, .int .i64 h, .int .i64 lo, .int .i64 hi]] w fun e w' => e = .returned (.int .i64 (maxV ⟨k, s, m, h, lo, hi⟩)) ∧ Below w.heap.size w w' := by
  go_enter Try.func133, Try.ntmps133
  go_wp2
  all_goals (go_ret; refine ⟨ret_int ?_, (Below.refl _ _).alloc (Nat.le_refl _) _⟩; simp_all [maxV])

set_option maxHeartbeats 1000000 in
theorem number_any (s : Bool) (m : Int) (w : World) :
    Calls Try.prog 134 #[.bool s, .int .i64 m] w fun e w' => e = .returned (numV s m).v ∧ Below w.heap.size w w' := by
  have key : ∀ m', (numV s m).m = m' → (numV s m).v = .agg #[.int .i64 0, .bool s, .int .i64 m', .int .i64 0, .int .i64 0, .int .i64 0] := fun m' q => by subst q; rfl
  by_cases h : m < 0 ∨ 1099511627776 < m
  · rw [key (-1) (by simp [numV, h])]
    clear key
    by_cases h1 : m < 0
    all_goals
      go_enter Try.func134, Try.ntmps134
      go_wp2
      exact bodyPost_ret (v := .agg #[.int .i64 0, .bool s, .int .i64 (-1), .int .i64 0, .int .i64 0, .int .i64 0]) (by simp [results, Try.results134, go_sem]) rfl ⟨rfl, (Below.refl _ _).alloc (Nat.le_refl _) _⟩
  · rw [key m (by simp [numV, h])]
    clear key
    go_enter Try.func134, Try.ntmps134
    go_wp2
    exact bodyPost_ret (v := .agg #[.int .i64 0, .bool s, .int .i64 m, .int .i64 0, .int .i64 0, .int .i64 0]) (by simp [results, Try.results134, go_sem]) rfl ⟨rfl, (Below.refl _ _).alloc (Nat.le_refl _) _⟩

set_option maxHeartbeats 1000000 in
theorem sumMax_any (a b : Int) (w : World) (a0 : -1 ≤ a) (a1 : a ≤ 2199023255552) (b0 : -1000000 ≤ b) (b1 : b ≤ 1099511627776) :
    Calls Try.prog 142 #[.int .i64 a, .int .i64 b] w fun e w' => e = .returned (.int .i64 (sumI a b)) ∧ w' = w := by
  by_cases h1 : a < 0
  · go_enter Try.func142, Try.ntmps142
    go_wp2
    all_goals (go_ret; refine ⟨ret_int ?_, rfl⟩; simp [sumI] <;> omega)
  · by_cases h2 : b < 0
    · go_enter Try.func142, Try.ntmps142
      go_wp2
      all_goals (go_ret; refine ⟨ret_int ?_, rfl⟩; simp [sumI] <;> omega)
    · go_enter Try.func142, Try.ntmps142
      go_wp2
      all_goals (go_ret; refine ⟨ret_int ?_, rfl⟩; simp [sumI] <;> omega)

set_option maxHeartbeats 1000000 in
theorem smallerMax_any (a b : Int) (w : World) : Calls Try.prog 137 #[.int .i64 a, .int .i64 b] w fun e w' => e = .returned (.int .i64 (smallI a b)) ∧ w' = w := by
  by_cases h1 : a < 0
  · go_enter Try.func137, Try.ntmps137
    go_wp2
    all_goals (go_ret; refine ⟨ret_int ?_, rfl⟩; simp [smallI] <;> omega)
  · by_cases h2 : b < 0
    · go_enter Try.func137, Try.ntmps137
      go_wp2
      all_goals (go_ret; refine ⟨ret_int ?_, rfl⟩; simp [smallI] <;> omega)
    · go_enter Try.func137, Try.ntmps137
      go_wp2
      all_goals (go_ret; refine ⟨ret_int ?_, rfl⟩; simp [smallI] <;> omega)

set_option maxHeartbeats 1000000 in
theorem tr_isAccess_any (op : Int) (w : World) : Calls Try.prog 131 #[.int .i64 op] w fun e w' => e = .returned (.bool (decide (21 ≤ op ∧ op ≤ 28))) ∧ w' = w := by
  go_enter Try.func131, Try.ntmps131
  go_wp2
  all_goals (go_ret; refine ⟨ret_bool ?_, rfl⟩; simp <;> omega)

set_option maxHeartbeats 1000000 in
theorem tr_setsFlags_any (op : Int) (w : World) : Calls Try.prog 121 #[.int .i64 op] w fun e w' => e = .returned (.bool (decide (14 ≤ op ∧ op ≤ 18))) ∧ w' = w := by
  go_enter Try.func121, Try.ntmps121
  go_wp2
  all_goals (go_ret; refine ⟨ret_bool ?_, rfl⟩; simp <;> omega)

set_option maxHeartbeats 1000000 in
theorem tr_flagOf_any (s : Bool) (w : World) : Calls Try.prog 122 #[.bool s] w fun e w' => e = .returned (.int .i64 (if s then 2 else 1)) ∧ w' = w := by
  cases s
  all_goals
    go_enter Try.func122, Try.ntmps122
    go_wp2
    go_ret
    exact ⟨rfl, rfl⟩

set_option maxHeartbeats 1000000 in
theorem productMax_any (a b : Int) (w : World) (a0 : -1 ≤ a) (a1 : a ≤ 1099511627776) (b0 : -1 ≤ b) (b1 : b ≤ 1099511627776) :
    Calls Try.prog 136 #[.int .i64 a, .int .i64 b] w fun e w' => e = .returned (.int .i64 (prodI a b)) ∧ w' = w := by
  by_cases h1 : a < 0
  · go_enter Try.func136, Try.ntmps136
    go_wp2
    all_goals (go_ret; refine ⟨ret_int ?_, rfl⟩; simp [prodI, h1])
  by_cases h2 : b < 0
  · go_enter Try.func136, Try.ntmps136
    go_wp2
    all_goals (go_ret; refine ⟨ret_int ?_, rfl⟩; simp [prodI, h2])
  by_cases h3 : b = 0
  · subst h3
    go_enter Try.func136, Try.ntmps136
    go_wp2
    all_goals (go_ret; refine ⟨ret_int ?_, rfl⟩; simp [prodI]; try omega)
  have b2 : 1 ≤ b := by omega
  have q0 : 0 ≤ 1099511627776 / b := Int.ediv_nonneg (by omega) (by omega)
  have q1 : 1099511627776 / b ≤ 1099511627776 := Int.ediv_le_self _ (by omega)
  by_cases h : 1099511627776 / b < a
  · have e1 : decide (1099511627776 / b < a) = true := by simp [h]
    go_enter Try.func136, Try.ntmps136
    go_wp2
    all_goals (go_ret; refine ⟨ret_int ?_, rfl⟩; rw [prodI, if_pos (Or.inr (Or.inr ⟨by omega, h⟩))])
  · have e1 : decide (1099511627776 / b < a) = false := by simp; omega
    have hm : a * b ≤ 1099511627776 := by
      have h1 : a ≤ 1099511627776 / b := by omega
      have h2 := Int.mul_le_mul_of_nonneg_right h1 (show (0 : Int) ≤ b by omega)
      have h3 := Int.ediv_mul_le (1099511627776) (show b ≠ 0 by omega)
      omega
    have hm0 : 0 ≤ a * b := Int.mul_nonneg (by omega) (by omega)
    go_enter Try.func136, Try.ntmps136
    go_wp2
    all_goals (go_ret; refine ⟨ret_int ?_, rfl⟩; rw [prodI, if_neg (by omega)])

set_option maxHeartbeats 1000000 in
theorem tr_isStore_any (op : Int) (w : World) : Calls Try.prog 119 #[.int .i64 op] w fun e w' => e = .returned (.bool (decide (op = 23 ∨ op = 24 ∨ op = 27 ∨ op = 28))) ∧ w' = w := by
  by_cases h23 : op = 23
  · subst h23
    go_enter Try.func119, Try.ntmps119
    go_wp2
    go_ret
    exact ⟨rfl, rfl⟩
  by_cases h24 : op = 24
  · subst h24
    go_enter Try.func119, Try.ntmps119
    go_wp2
    go_ret
    exact ⟨rfl, rfl⟩
  by_cases h27 : op = 27
  · subst h27
    go_enter Try.func119, Try.ntmps119
    go_wp2
    go_ret
    exact ⟨rfl, rfl⟩
  by_cases h28 : op = 28
  · subst h28
    go_enter Try.func119, Try.ntmps119
    go_wp2
    go_ret
    exact ⟨rfl, rfl⟩
  have e23 : (op == 23) = false := by simp [h23]
  have e24 : (op == 24) = false := by simp [h24]
  have e27 : (op == 27) = false := by simp [h27]
  have e28 : (op == 28) = false := by simp [h28]
  go_enter Try.func119, Try.ntmps119
  go_wp2
  all_goals (go_ret; exact ⟨ret_bool (by simp [h23, h24, h27, h28]), rfl⟩)

set_option maxHeartbeats 1000000 in
theorem tr_widthOf_any (op : Int) (w : World) : Calls Try.prog 144 #[.int .i64 op] w fun e w' => e = .returned (.int .i64 (if op = 21 ∨ op = 23 ∨ op = 25 ∨ op = 27 then 1 else 8)) ∧ w' = w := by
  go_enter Try.func144, Try.ntmps144
  go_wp2
  all_goals (go_ret; refine ⟨ret_int ?_, rfl⟩; simp_all)

def leftI (a : Int) (n : Nat) : Int := if a < 0 ∨ 1099511627776 / 2 ^ n < a then -1 else a * 2 ^ n
def rightI (a : Int) (n : Nat) : Int := if 0 ≤ a then a / 2 ^ n else if 24 ≤ n then 2 ^ (64 - n) - 1 else -1
theorem pow_le40 {n : Nat} (h : 24 ≤ n) : 1 ≤ (2 : Int) ^ (64 - n) ∧ (2 : Int) ^ (64 - n) ≤ 1099511627776 := by
  have h1 : (2 : Nat) ^ (64 - n) ≤ 2 ^ 40 := Nat.pow_le_pow_right (by decide) (by omega)
  have h2 : (2 : Nat) ^ 40 = 1099511627776 := by decide
  have h3 := Nat.two_pow_pos (64 - n)
  have c : (((2 : Nat) ^ (64 - n) : Nat) : Int) = (2 : Int) ^ (64 - n) := by simp
  omega
theorem left_le {a : Int} {n : Nat} (h0 : 0 ≤ a) (h : ¬ 1099511627776 / 2 ^ n < a) : 0 ≤ a * 2 ^ n ∧ a * 2 ^ n ≤ 1099511627776 := by
  have hp : (0 : Int) < 2 ^ n := Int.pow_pos (by decide)
  have h1 : a ≤ 1099511627776 / 2 ^ n := by omega
  have h2 := Int.mul_le_mul_of_nonneg_right h1 (Int.le_of_lt hp)
  have h3 := Int.ediv_mul_le (1099511627776) (show (2 : Int) ^ n ≠ 0 by omega)
  exact ⟨Int.mul_nonneg h0 (Int.le_of_lt hp), by omega⟩

set_option maxHeartbeats 1000000 in
theorem leftMax_any (a : Int) (n : Nat) (w : World) (hn : n ≤ 63) :
    Calls Try.prog 140 #[.int .i64 a, .int .i64 n] w fun e w' => e = .returned (.int .i64 (leftI a n)) ∧ w' = w := by
  by_cases h1 : a < 0
  · have e1 : decide (a < 0) = true := by simp [h1]
    go_enter Try.func140, Try.ntmps140
    go_wp2
    all_goals (go_ret; exact ⟨ret_int (by rw [leftI, if_pos (Or.inl h1)]), rfl⟩)
  by_cases h2 : 1099511627776 / 2 ^ n < a
  · have e1 : decide (a < 0) = false := by simp; omega
    have e2 : decide (1099511627776 / 2 ^ n < a) = true := by simp [h2]
    go_enter Try.func140, Try.ntmps140
    go_wp2
    all_goals (go_ret; exact ⟨ret_int (by rw [leftI, if_pos (Or.inr h2)]), rfl⟩)
  · have e1 : decide (a < 0) = false := by simp; omega
    have e2 : decide (1099511627776 / 2 ^ n < a) = false := by simp; omega
    obtain ⟨q0, q1⟩ := left_le (by omega) h2
    have e3 : wrap64 (a * 2 ^ n) = a * 2 ^ n := by unfold wrap64; omega
    go_enter Try.func140, Try.ntmps140
    go_wp2
    all_goals (go_ret; exact ⟨ret_int (by rw [leftI, if_neg (by omega)]; try exact e3), rfl⟩)

set_option maxHeartbeats 1000000 in
theorem rightMax_any (a : Int) (n : Nat) (w : World) (hn : n ≤ 63) :
    Calls Try.prog 141 #[.int .i64 a, .int .i64 n] w fun e w' => e = .returned (.int .i64 (rightI a n)) ∧ w' = w := by
  by_cases h1 : 0 ≤ a
  · go_enter Try.func141, Try.ntmps141
    go_wp2
    all_goals (go_ret; exact ⟨ret_int (by rw [rightI, if_pos h1]), rfl⟩)
  by_cases h2 : 24 ≤ n
  · go_enter Try.func141, Try.ntmps141
    go_wp2
    obtain ⟨q0, q1⟩ := pow_le40 h2
    all_goals (go_ret; exact ⟨ret_int (by rw [rightI, if_neg (by omega), if_pos h2]; unfold wrap64; omega), rfl⟩)
  · go_enter Try.func141, Try.ntmps141
    go_wp2
    all_goals (go_ret; exact ⟨ret_int (by rw [rightI, if_neg (by omega), if_neg h2]), rfl⟩)
end Go.Proofs.Ytjnooklalbcamaa
/- A pointer moved on by a public number: the program's word. -/
namespace Go.Proofs.Ytjnooklalbcamaa
open Go.RowKit
def ppOK (p n : VV) : Prop := p.k = 1 ∧ n.s = false ∧ 0 ≤ maxV n ∧ p.hi + n.m ≤ 1099511627776
def ppB (p n : VV) : Bool := decide (p.k = 1 ∧ n.s = false ∧ 0 ≤ maxV n ∧ p.hi + n.m ≤ 1099511627776)
theorem ppB_yes {p n : VV} (h : ppOK p n) : ppB p n = true := decide_eq_true h
theorem ppB_no {p n : VV} (h : ¬ ppOK p n) : ppB p n = false := decide_eq_false h
theorem ppB_ok {p n : VV} (h : ppB p n = true) : ppOK p n := by unfold ppB at h; rw [decide_eq_true_eq] at h; exact h
def ppV (p n : VV) : VV := if ppB p n then { p with hi := p.hi + n.m } else zV
theorem ppB_nt {p n : VV} (h : ¬ ppOK p n) : ¬ ppB p n = true := fun q => h (ppB_ok q)
theorem notB {b : Bool} (h : b = false) : ¬ b = true := by rw [h]; decide
theorem pp_no {p n : VV} (h : ¬ ppOK p n) : Value.tuple #[zV.v, .bool false] = .tuple #[(ppV p n).v, .bool (ppB p n)] := by
  unfold ppV; rw [ppB_no h]; rfl
theorem pp_yes {p n : VV} (h : ppOK p n) : Value.tuple #[VV.v { p with hi := p.hi + n.m }, .bool true] = .tuple #[(ppV p n).v, .bool (ppB p n)] := by
  unfold ppV; rw [ppB_yes h]; rfl
structure PPP (w u : World) (p n : VV) : Prop where
  bel : Below w.heap.size w u
  A : Vb u w.heap.size p
  B : Vb u (w.heap.size + 1) n
  R : Vb u (w.heap.size + 1 + 1) zV
theorem PPP.below {w u v : World} {p n : VV} (q : PPP w u p n) (hb : Below u.heap.size u v) : PPP w v p n := ⟨q.bel.trans (hb.mono q.bel.size), q.A.below hb q.A.lt, q.B.below hb q.B.lt, q.R.below hb q.R.lt⟩
theorem pp_pre (w : World) (p n : VV) : ∃ u, ((w.alloc (.cells #[.int .i64 p.k, .bool p.s, .int .i64 p.m, .int .i64 p.h, .int .i64 p.lo, .int .i64 p.hi] 24)).alloc (.cells #[.int .i64 n.k, .bool n.s, .int .i64 n.m, .int .i64 n.h, .int .i64 n.lo, .int .i64 n.hi] 24)).alloc (.cells #[.int .i64 0, .bool false, .int .i64 0, .int .i64 0, .int .i64 0, .int .i64 0] 24) = u ∧ PPP w u p n := by
  have e1 := Vb.new w p
  have e2 := Vb.new (w.alloc (.cells #[.int .i64 p.k, .bool p.s, .int .i64 p.m, .int .i64 p.h, .int .i64 p.lo, .int .i64 p.hi] 24)) n
  have e3 := Vb.new ((w.alloc (.cells #[.int .i64 p.k, .bool p.s, .int .i64 p.m, .int .i64 p.h, .int .i64 p.lo, .int .i64 p.hi] 24)).alloc (.cells #[.int .i64 n.k, .bool n.s, .int .i64 n.m, .int .i64 n.h, .int .i64 n.lo, .int .i64 n.hi] 24)) zV
  simp only [World.size_alloc] at e2 e3
  refine ⟨_, rfl, ?_, ?_, ?_, e3⟩
  · exact (((Below.refl _ _).alloc (Nat.le_refl _) _).alloc (by simp) _).alloc (by simp; omega) _
  · exact (e1.below ((Below.refl _ _).alloc (Nat.le_refl _) _) e1.lt).below ((Below.refl _ _).alloc (Nat.le_refl _) _) (by simp; omega)
  · exact e2.below ((Below.refl _ _).alloc (Nat.le_refl _) _) e2.lt

set_option maxRecDepth 20000 in
set_option maxHeartbeats 8000000 in
theorem pointerPlus_any (p n : VV) (w : World) (hp : Bd p) (hn : Bd n) :
    Calls Try.prog 145 #[.agg #[.int .i64 p.k, .bool p.s, .int .i64 p.m, .int .i64 p.h, .int .i64 p.lo, .int .i64 p.hi], .agg #[.int .i64 n.k, .bool n.s, .int .i64 n.m, .int .i64 n.h, .int .i64 n.lo, .int .i64 n.hi]] w fun e w' => e = .returned (.tuple #[(ppV p n).v, .bool (ppB p n)]) ∧ Below w.heap.size w w' := by
  have a0 := hp.h0
  have a1 := hp.h1
  have n0 := hn.m0
  have n1 := hn.m1
  go_enter Try.func145, Try.ntmps145
  go_upto_region 1 with fail
  obtain ⟨u, hu, pu⟩ := pp_pre w p n
  rw [hu]
  have P0 : Hid (PPP w u p n) := pu
  clear hu pu
  obtain ⟨x0, x1, x2, x3, x4, x5⟩ := P0.out.A.cells
  obtain ⟨y0, y1, y2, y3, y4, y5⟩ := P0.out.B.cells
  obtain ⟨r0, r1, r2, r3, r4, r5⟩ := P0.out.R.cells
  have rf := P0.out.R.free
  have rl := P0.out.R.lt
  by_cases c1 : p.k = 1
  · have e1 : (p.k != 1) = false := by simp [c1]
    have C1 : Hid (p.k = 1) := c1
    clear c1
    cases c2 : n.s with
    | true =>
      rw [c2] at y1
      have HN : Hid (¬ ppOK p n) := fun q => by have := q.2.1; rw [c2] at this; cases this
      clear c2
      go_wp2
      all_goals exact bodyPost_ret (v := .tuple #[zV.v, .bool false]) (by simp [results, Try.results145, go_sem, VV.v, zV, *]) rfl ⟨by first | rfl | exact congrArg Ending.returned (pp_no HN.out), below_putV P0.out.bel (by omega) zV⟩
    | false =>
      rw [c2] at y1
      have C2 : Hid (n.s = false) := c2
      go_wp2_with fail
      refine (maxOf_any n.k false n.m n.h n.lo n.hi _).mono ?_
      rintro e v ⟨rfl, hb⟩
      have P1 : Hid (PPP w v p n) := P0.out.below hb
      obtain ⟨mx, hmx⟩ : ∃ mx, maxV n = mx := ⟨_, rfl⟩
      have HX : Hid (maxV n = mx) := hmx
      rw [show maxV ⟨n.k, false, n.m, n.h, n.lo, n.hi⟩ = mx from by rw [← hmx]; rfl]
      clear hb hmx c2 x0 x1 x2 x3 x4 x5 y0 y1 y2 y3 y4 y5 r0 r1 r2 r3 r4 r5 rf rl P0
      obtain ⟨x0, x1, x2, x3, x4, x5⟩ := P1.out.A.cells
      obtain ⟨y0, y1, y2, y3, y4, y5⟩ := P1.out.B.cells
      obtain ⟨r0, r1, r2, r3, r4, r5⟩ := P1.out.R.cells
      have rf := P1.out.R.free
      have rl := P1.out.R.lt
      have af := P1.out.A.free
      by_cases c3 : mx < 0
      · have e3 : decide (mx < 0) = true := by simp [c3]
        have HN : Hid (¬ ppOK p n) := fun q => by have := q.2.2.1; rw [HX.out] at this; omega
        clear c3
        go_wp2
        all_goals exact bodyPost_ret (v := .tuple #[zV.v, .bool false]) (by simp [results, Try.results145, go_sem, VV.v, zV, *]) rfl ⟨by first | rfl | exact congrArg Ending.returned (pp_no HN.out), below_putV P1.out.bel (by omega) zV⟩
      · have e3 : decide (mx < 0) = false := by simp; omega
        by_cases c4 : 1099511627776 < p.hi + n.m
        · have e4 : decide (1099511627776 < p.hi + n.m) = true := by simp [c4]
          have HN : Hid (¬ ppOK p n) := fun q => by have := q.2.2.2; omega
          clear c3 c4
          go_wp2
          all_goals exact bodyPost_ret (v := .tuple #[zV.v, .bool false]) (by simp [results, Try.results145, go_sem, VV.v, zV, *]) rfl ⟨by first | rfl | exact congrArg Ending.returned (pp_no HN.out), below_putV P1.out.bel (by omega) zV⟩
        · have e4 : decide (1099511627776 < p.hi + n.m) = false := by simp; omega
          have HY : Hid (ppOK p n) := ⟨C1.out, C2.out, by rw [HX.out]; omega, by omega⟩
          clear c3 c4
          go_wp2
          all_goals exact bodyPost_ret (v := .tuple #[VV.v { p with hi := p.hi + n.m }, .bool true]) (by simp [results, Try.results145, go_sem, VV.v, *]) rfl ⟨by first | rfl | exact congrArg Ending.returned (pp_yes HY.out), by (iterate 6 refine Below.setCell ?_ (show w.heap.size ≤ w.heap.size + 1 + 1 by omega) _); refine Below.setCell ?_ (show w.heap.size ≤ w.heap.size by omega) _; exact P1.out.bel⟩
  · have e1 : (p.k != 1) = true := by simp [c1]
    have HN : Hid (¬ ppOK p n) := fun q => c1 q.1
    clear c1
    go_wp2
    all_goals exact bodyPost_ret (v := .tuple #[zV.v, .bool false]) (by simp [results, Try.results145, go_sem, VV.v, zV, *]) rfl ⟨by first | rfl | exact congrArg Ending.returned (pp_no HN.out), below_putV P0.out.bel (by omega) zV⟩
end Go.Proofs.Ytjnooklalbcamaa
