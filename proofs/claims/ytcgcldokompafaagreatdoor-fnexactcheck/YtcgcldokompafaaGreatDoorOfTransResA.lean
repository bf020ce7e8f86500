import Derived.Test.YtcgcldokompafaaGreatDoorOfTransMath
import Derived.Test.YtcgcldokompafaaGreatDoorOfAbsWalks
import Derived.Test.YtcgcldokompafaaGreatDoorOfCl
/- The model's small functions under Transfer. -/
namespace Go.Proofs.YtcgcldokompafaaGreatDoor
open Go.RowKit

set_option maxHeartbeats 1000000 in
theorem l4Num_ex (s : Bool) (m : Int) (w : World) :
  Calls Tryz.prog 71 #[.bool s, .int .i64 m] w fun e w' => e = .returned (.agg #[.int .i64 0, .bool s, .int .i64 (numV s m).m, .int .i64 0, .int .i64 0, .int .i64 0]) /\ w' = w.alloc (.cells #[.int .i64 0, .bool s, .int .i64 (numV s m).m, .int .i64 0, .int .i64 0, .int .i64 0] 75) := by
 by_cases h : m < 0 ∨ 1099511627776 < m
 ·have hm : (numV s m).m = -1 := by simp [numV, h]
  rw [hm]
  clear hm
  by_cases h1 : m < 0
  all_goals
   go_enter Tryz.func71, Tryz.ntmps71
   go_wp2
   exact bodyPost_ret (v := .agg #[.int .i64 0, .bool s, .int .i64 (-1), .int .i64 0, .int .i64 0, .int .i64 0]) (by simp [results, Tryz.results71, go_sem]) rfl ⟨rfl, rfl⟩
 ·have hm : (numV s m).m = m := by simp [numV, h]
  rw [hm]
  clear hm
  go_enter Tryz.func71, Tryz.ntmps71
  go_wp2
  exact bodyPost_ret (v := .agg #[.int .i64 0, .bool s, .int .i64 m, .int .i64 0, .int .i64 0, .int .i64 0]) (by simp [results, Tryz.results71, go_sem]) rfl ⟨rfl, rfl⟩
theorem l4Num_any (s : Bool) (m : Int) (w : World) :
  Calls Tryz.prog 71 #[.bool s, .int .i64 m] w fun e w' => e = .returned (numV s m).v /\ Below w.heap.size w w' :=
 (l4Num_ex s m w).mono fun _ _ ⟨h1, h2⟩ => ⟨h1, by rw [h2]; exact (Below.refl _ _).alloc (Nat.le_refl _) _⟩

set_option maxHeartbeats 1000000 in
theorem l4Max_ex (k : Int) (s : Bool) (m h lo hi : Int) (w : World) :
  Calls Tryz.prog 87 #[.agg #[.int .i64 k, .bool s, .int .i64 m, .int .i64 h, .int .i64 lo, .int .i64 hi]] w fun e w' => e = .returned (.int .i64 (maxV ⟨k, s, m, h, lo, hi⟩)) /\ w' = w.alloc (.cells #[.int .i64 k, .bool s, .int .i64 m, .int .i64 h, .int .i64 lo, .int .i64 hi] 75) := by
 go_enter Tryz.func87, Tryz.ntmps87
 go_wp2
 all_goals (go_ret; refine ⟨ret_int ?_, rfl⟩; simp_all [maxV])
theorem l4Max_any (k : Int) (s : Bool) (m h lo hi : Int) (w : World) :
  Calls Tryz.prog 87 #[.agg #[.int .i64 k, .bool s, .int .i64 m, .int .i64 h, .int .i64 lo, .int .i64 hi]] w fun e w' => e = .returned (.int .i64 (maxV ⟨k, s, m, h, lo, hi⟩)) /\ Below w.heap.size w w' :=
 (l4Max_ex k s m h lo hi w).mono fun _ _ ⟨h1, h2⟩ => ⟨h1, by rw [h2]; exact (Below.refl _ _).alloc (Nat.le_refl _) _⟩

set_option maxHeartbeats 1000000 in
theorem l4Times_any (a b : Int) (w : World) (a0 : 0 <= a) (a1 : a <= 1099511627776) (b0 : 0 <= b) (b1 : b <= 1099511627776) :
  Calls Tryz.prog 90 #[.int .i64 a, .int .i64 b] w fun e w' => e = .returned (.int .i64 (timesI a b)) /\ w' = w := by
 by_cases ha : a = 0
 ·subst ha
  go_enter Tryz.func90, Tryz.ntmps90
  go_wp2
  go_ret
  exact ⟨ret_int (by simp [timesI]), rfl⟩
 by_cases hb : b = 0
 ·subst hb
  go_enter Tryz.func90, Tryz.ntmps90
  go_wp2
  go_ret
  exact ⟨ret_int (by simp [timesI]), rfl⟩
 have a2 : 1 <= a := by omega
 have e1 : (a == 0) = false := by simp [ha]
 have e2 : (b == 0) = false := by simp [hb]
 have q0 : 0 <= 1099511627776 / a := Int.ediv_nonneg (by omega) a0
 have q1 : 1099511627776 / a <= 1099511627776 := Int.ediv_le_self _ (by omega)
 by_cases h : 1099511627776 / a < b
 ·go_enter Tryz.func90, Tryz.ntmps90
  go_wp2
  go_ret
  exact ⟨ret_int (by simp [timesI, ha, hb, h]), rfl⟩
 ·have hm : a * b <= 1099511627776 := by
   have h1 : b <= 1099511627776 / a := by omega
   have h2 := Int.mul_le_mul_of_nonneg_left h1 a0
   have h3 := Int.mul_ediv_self_le (x := 1099511627776) (k := a) (by omega)
   omega
  have hm0 : 0 <= a * b := Int.mul_nonneg a0 b0
  go_enter Tryz.func90, Tryz.ntmps90
  go_wp2
  go_ret
  exact ⟨ret_int (by simp [timesI, ha, hb]; omega), rfl⟩

set_option maxHeartbeats 1000000 in
theorem l4Both_any (k : Int) (s : Bool) (m h lo hi : Int) (k' : Int) (s' : Bool) (m' h' lo' hi' : Int) (w : World) :
  Calls Tryz.prog 89 #[.agg #[.int .i64 k, .bool s, .int .i64 m, .int .i64 h, .int .i64 lo, .int .i64 hi], .agg #[.int .i64 k', .bool s', .int .i64 m', .int .i64 h', .int .i64 lo', .int .i64 hi']] w fun e w' => e = .returned (.bool (decide (0 <= maxV ⟨k, s, m, h, lo, hi⟩ /\ 0 <= maxV ⟨k', s', m', h', lo', hi'⟩))) /\ Below w.heap.size w w' := by
 obtain ⟨x, hx⟩ : ∃ x, maxV ⟨k, s, m, h, lo, hi⟩ = x := ⟨_, rfl⟩
 obtain ⟨y, hy⟩ : ∃ y, maxV ⟨k', s', m', h', lo', hi'⟩ = y := ⟨_, rfl⟩
 have HX : Hid (maxV ⟨k, s, m, h, lo, hi⟩ = x) := hx
 have HY : Hid (maxV ⟨k', s', m', h', lo', hi'⟩ = y) := hy
 rw [hx, hy]
 clear hx hy
 go_enter Tryz.func89, Tryz.ntmps89
 go_wp2_with fail
 obtain ⟨u, hu, hbu, cu⟩ : ∃ v, (w.alloc (.cells #[.int .i64 k, .bool s, .int .i64 m, .int .i64 h, .int .i64 lo, .int .i64 hi] 75)).alloc (.cells #[.int .i64 k', .bool s', .int .i64 m', .int .i64 h', .int .i64 lo', .int .i64 hi'] 75) = v /\ Below w.heap.size w v /\ Cl v (w.heap.size + 1) [.int .i64 k', .bool s', .int .i64 m', .int .i64 h', .int .i64 lo', .int .i64 hi'] := by
  refine ⟨_, rfl, ((Below.refl _ _).alloc (Nat.le_refl _) _).alloc (by simp) _, ?_⟩
  have h := Cl.new (w := w.alloc (.cells #[.int .i64 k, .bool s, .int .i64 m, .int .i64 h, .int .i64 lo, .int .i64 hi] 75)) (vs := #[.int .i64 k', .bool s', .int .i64 m', .int .i64 h', .int .i64 lo', .int .i64 hi']) (t := 75)
  simp only [World.size_alloc] at h
  exact h
 rw [hu]
 refine (l4Max_any _ _ _ _ _ _ _).mono ?_
 rintro e w1 ⟨rfl, hb1⟩
 have B1 : Hid (Below w.heap.size w w1) := hbu.trans (hb1.mono hbu.size)
 have c1 := cu.below hb1
 have q0 : w1.cell? ⟨w.heap.size + 1, 0, none⟩ = some (.int .i64 k') := c1.2 0 (by simp)
 have q1 : w1.cell? ⟨w.heap.size + 1, 1, none⟩ = some (.bool s') := c1.2 1 (by simp)
 have q2 : w1.cell? ⟨w.heap.size + 1, 2, none⟩ = some (.int .i64 m') := c1.2 2 (by simp)
 have q3 : w1.cell? ⟨w.heap.size + 1, 3, none⟩ = some (.int .i64 h') := c1.2 3 (by simp)
 have q4 : w1.cell? ⟨w.heap.size + 1, 4, none⟩ = some (.int .i64 lo') := c1.2 4 (by simp)
 have q5 : w1.cell? ⟨w.heap.size + 1, 5, none⟩ = some (.int .i64 hi') := c1.2 5 (by simp)
 clear hu hbu cu hb1 c1
 rw [HX.out]
 by_cases h1 : 0 <= x
 ·go_wp2_with fail
  refine (l4Max_any _ _ _ _ _ _ _).mono ?_
  rintro e w2 ⟨rfl, hb2⟩
  have B2 : Hid (Below w.heap.size w w2) := B1.out.trans (hb2.mono B1.out.size)
  clear hb2
  rw [HY.out]
  go_wp2
  go_ret
  exact ⟨ret_bool (by simp [h1]), B2.out⟩
 ·go_wp2
  go_ret
  exact ⟨ret_bool (by simp; omega), B1.out⟩

set_option maxHeartbeats 1000000 in
theorem l4Bigger_any (a b : Int) (w : World) : Calls Tryz.prog 93 #[.int .i64 a, .int .i64 b] w fun e w' => e = .returned (.int .i64 (bigI a b)) /\ w' = w := by
 go_enter Tryz.func93, Tryz.ntmps93
 go_wp2
 all_goals (go_ret; refine ⟨ret_int ?_, rfl⟩; simp [bigI] <;> omega)

set_option maxHeartbeats 1000000 in
theorem l4Least_any (a b : Int) (w : World) : Calls Tryz.prog 91 #[.int .i64 a, .int .i64 b] w fun e w' => e = .returned (.int .i64 (leastI a b)) /\ w' = w := by
 by_cases h1 : a < 0
 ·go_enter Tryz.func91, Tryz.ntmps91
  go_wp2
  all_goals (go_ret; refine ⟨ret_int ?_, rfl⟩; simp [leastI] <;> omega)
 ·by_cases h2 : 0 <= b
  ·go_enter Tryz.func91, Tryz.ntmps91
   go_wp2
   all_goals (go_ret; refine ⟨ret_int ?_, rfl⟩; simp [leastI] <;> omega)
  ·go_enter Tryz.func91, Tryz.ntmps91
   go_wp2
   all_goals (go_ret; refine ⟨ret_int ?_, rfl⟩; simp [leastI] <;> omega)

theorem ones_step {x : Int} {i : Nat} (h : ((2 ^ i : Nat) : Int) - 1 < x) (hx : x <= 1099511627776) : i <= 40 := by
 by_cases g : i <= 40
 ·exact g
 ·have : 2 ^ 41 <= 2 ^ i := Nat.pow_le_pow_right (by decide) (by omega)
  have : (2 : Nat) ^ 41 = 2199023255552 := by decide
  omega
theorem ones_done {x : Int} {i : Nat} (x0 : 0 <= x) (h : x <= ((2 ^ i : Nat) : Int) - 1) (hm : i = 0 ∨ ((2 ^ (i - 1) : Nat) : Int) - 1 < x) : onesI x = ((2 ^ i : Nat) : Int) - 1 := by
 obtain ⟨n, rfl⟩ : ∃ n : Nat, x = (n : Int) := ⟨x.toNat, by omega⟩
 have hn : n < 2 ^ i := by omega
 unfold onesI
 rw [Int.toNat_natCast]
 have : bitsN n = i := by
  unfold bitsN
  rcases hm with rfl | hm
  ·simp at hn; simp [hn]
  ·have hp : 2 ^ (i - 1) <= n := by omega
   have h0 : n ≠ 0 := by have := Nat.two_pow_pos (i - 1); omega
   rw [if_neg h0]
   have h1 := (Nat.log2_lt h0 (k := i)).2 hn
   have h2 := (Nat.le_log2 h0 (k := i - 1)).2 hp
   by_cases e : i = 0
   ·subst e; simp at hn; omega
   ·omega
 rw [this]

set_option maxHeartbeats 1000000 in
theorem l4Ones_any (x : Int) (w : World) (x0 : 0 <= x) (x1 : x <= 1099511627776) : Calls Tryz.prog 92 #[.int .i64 x] w fun e w' => e = .returned (.int .i64 (onesI x)) /\ w' = w := by
 go_enter Tryz.func92, Tryz.ntmps92
 go_wp2
 go_loop [3] (fun o => ∃ i : Nat, i <= 41 /\ o = .int .i64 (((2 ^ i : Nat) : Int) - 1) /\ (i = 0 ∨ ((2 ^ (i - 1) : Nat) : Int) - 1 < x)) (fun o => (2 * x + 2 - intOf o).toNat)
 case atStart => exact ⟨0, by omega, rfl, Or.inl rfl⟩
 case round =>
  obtain ⟨i, hi, rfl, hm⟩ := hrel
  have HM : Hid (i = 0 ∨ ((2 ^ (i - 1) : Nat) : Int) - 1 < x) := hm
  clear hm
  have hp : 1 <= 2 ^ i := Nat.two_pow_pos i
  have hp2 : 2 ^ i <= 2 ^ 41 := Nat.pow_le_pow_right (by decide) hi
  have e41 : (2 : Nat) ^ 41 = 2199023255552 := by decide
  rw [e41] at hp2
  clear e41
  by_cases hlt : ((2 ^ i : Nat) : Int) - 1 < x
  ·have h40 := ones_step hlt x1
   have hs : 2 ^ (i + 1) = 2 * 2 ^ i := by rw [Nat.pow_succ, Nat.mul_comm]
   have HS : Hid (2 ^ (i + 1) = 2 * 2 ^ i) := hs
   have HL : Hid (((2 ^ i : Nat) : Int) - 1 < x) := hlt
   clear hs
   generalize hy : 2 ^ i = y at *
   go_wp2
   go_round
   case rel =>
    refine ⟨i + 1, by omega, ?_, Or.inr ?_⟩
    ·rw [HS.out]
     go_num
    ·rw [Nat.add_sub_cancel, hy]; exact HL.out
   case measure => simp [intOf]; omega
  ·have hd := ones_done x0 (by omega) HM.out
   have HD : Hid (onesI x = ((2 ^ i : Nat) : Int) - 1) := hd
   clear hd
   generalize 2 ^ i = y at *
   go_wp2
   go_ret
   exact ⟨ret_int HD.out.symm, rfl⟩

set_option maxHeartbeats 1000000 in
theorem l4FlagOf_any (s : Bool) (w : World) : Calls Tryz.prog 73 #[.bool s] w fun e w' => e = .returned (.int .i64 (if s then 2 else 1)) /\ w' = w := by
 cases s
 all_goals
  go_enter Tryz.func73, Tryz.ntmps73
  go_wp2
  go_ret
  exact ⟨rfl, rfl⟩

end Go.Proofs.YtcgcldokompafaaGreatDoor
/- The Val of a sum. -/
namespace Go.Proofs.YtcgcldokompafaaGreatDoor
open Go.RowKit

set_option maxHeartbeats 2000000 in
theorem l4Sum_any (a b : VV) (w : World) (ha : Bd a) (hb : Bd b) :
  Calls Tryz.prog 88 #[.agg #[.int .i64 a.k, .bool a.s, .int .i64 a.m, .int .i64 a.h, .int .i64 a.lo, .int .i64 a.hi], .agg #[.int .i64 b.k, .bool b.s, .int .i64 b.m, .int .i64 b.h, .int .i64 b.lo, .int .i64 b.hi]] w fun e w' => e = .returned (sumV a b).v /\ Below w.heap.size w w' := by
 obtain ⟨am0, am1, al0, al1, ah0, ah1, ak⟩ := ha
 obtain ⟨bm0, bm1, bl0, bl1, bh0, bh1, bk⟩ := hb
 obtain ⟨k, s, m, h, lo, hi⟩ := a
 obtain ⟨k', s', m', h', lo', hi'⟩ := b
 simp only at *
 rcases ak with rfl | rfl <;> rcases bk with rfl | rfl
 all_goals
  go_enter Tryz.func88, Tryz.ntmps88
  go_wp2_with (first | (go_at_call 87; refine (l4Max_ex _ _ _ _ _ _ _).mono ?_; rintro e w' ⟨rfl, rfl⟩; simp only [maxV, if_true, if_neg (show ¬ (0 : Int) = 1 by omega)]) | (go_at_call 71; refine (l4Num_ex _ _ _).mono ?_; rintro e w' ⟨rfl, rfl⟩))
 all_goals
  refine' bodyPost_ret (v := _) ?_ rfl ⟨?_, ?_⟩
  rotate_left 1
  ·simp [results, Tryz.results88, go_sem]; rfl
  rotate_left 1
  ·repeat (first | exact Below.refl _ _ | refine Below.setCell ?_ (by simp) _ | refine Below.alloc ?_ (by simp <;> omega) _)
  ·simp only [sumV, sumP, numV, maxV, VV.v]
   (repeat' split) <;> simp_all <;> omega
end Go.Proofs.YtcgcldokompafaaGreatDoor
/- The Val of the register that an instruction gives. -/
namespace Go.Proofs.YtcgcldokompafaaGreatDoor
open Go.RowKit

structure ResP (w u : World) (op d ra rb imm h : Int) (a b : VV) : Prop where
 bel : Below w.heap.size w u
 I : Cl u w.heap.size [.int .i64 op, .int .i64 d, .int .i64 ra, .int .i64 rb, .int .i64 imm, .int .i64 h]
 A : Vb u (w.heap.size + 1) a
 B : Vb u (w.heap.size + 1 + 1) b
 R : Vb u (w.heap.size + 1 + 1 + 1) zV
 oR : w.heap.size <= w.heap.size + 1 + 1 + 1
theorem ResP.below {w u v : World} {op d ra rb imm h : Int} {a b : VV} (p : ResP w u op d ra rb imm h a b) (hb : Below u.heap.size u v) : ResP w v op d ra rb imm h a b :=
 ⟨p.bel.trans (hb.mono p.bel.size), p.I.below hb, p.A.below hb p.A.lt, p.B.below hb p.B.lt, p.R.below hb p.R.lt, p.oR⟩
theorem ResP.S {w u : World} {op d ra rb imm h : Int} {a b : VV} (p : ResP w u op d ra rb imm h a b) : Vb u (w.heap.size + 1) a /\ Vb u (w.heap.size + 1 + 1) b /\ u.cell? ⟨w.heap.size, 4, none⟩ = some (.int .i64 imm) := ⟨p.A, p.B, p.I.2 4 (by simp)⟩
theorem cell_putV {u : World} {q b o : Nat} {x : VV} (h : b ≠ q) : (putV u q x).cell? ⟨b, o, none⟩ = u.cell? ⟨b, o, none⟩ := by
 have e : ∀ (v : World) (j : Nat) (y : Value), (v.setCell ⟨q, j, none⟩ y).cell? ⟨b, o, none⟩ = v.cell? ⟨b, o, none⟩ := fun v j y => World.cell?_setCell_other _ _ _ _ (fun e => h (congrArg Addr.block e).symm)
 unfold putV
 rw [e, e, e, e, e, e]
theorem ins_cells {u : World} {b : Nat} {op d ra rb imm h : Int} (p : Cl u b [.int .i64 op, .int .i64 d, .int .i64 ra, .int .i64 rb, .int .i64 imm, .int .i64 h]) : u.cell? ⟨b, 0, none⟩ = some (.int .i64 op) /\ u.cell? ⟨b, 1, none⟩ = some (.int .i64 d) /\ u.cell? ⟨b, 2, none⟩ = some (.int .i64 ra) /\ u.cell? ⟨b, 3, none⟩ = some (.int .i64 rb) /\ u.cell? ⟨b, 4, none⟩ = some (.int .i64 imm) /\ u.cell? ⟨b, 5, none⟩ = some (.int .i64 h) :=
 ⟨p.2 0 (by simp), p.2 1 (by simp), p.2 2 (by simp), p.2 3 (by simp), p.2 4 (by simp), p.2 5 (by simp)⟩
theorem max_m {a : VV} (h : 0 <= maxV a) (ha : Bd a) : 0 <= a.m /\ a.m <= 1099511627776 := by
 refine ⟨?_, ha.m1⟩
 unfold maxV at h
 split at h <;> omega
theorem l1Pow_int (i : Int) (w : World) (h0 : 0 <= i) (h1 : i <= 63) : Calls Tryz.prog 94 #[.int .i64 i] w fun e w' => e = .returned (.int .u64 ((2 ^ i.toNat : Nat) : Int)) /\ w' = w := by
 obtain ⟨n, rfl⟩ : ∃ n : Nat, i = n := ⟨i.toNat, by omega⟩
 exact l1Pow_any n w (by omega)
theorem pow40 {i : Int} (h0 : 0 <= i) (h1 : i <= 40) : ∃ pw : Int, ((2 ^ i.toNat : Nat) : Int) = pw /\ 1 <= pw /\ pw <= 1099511627776 := by
 refine ⟨_, rfl, ?_, ?_⟩
 ·have := Nat.two_pow_pos i.toNat; omega
 ·have : 2 ^ i.toNat <= 2 ^ 40 := Nat.pow_le_pow_right (by decide) (by omega)
  have e : (2 : Nat) ^ 40 = 1099511627776 := by decide
  omega
theorem pow63 {i : Int} (h0 : 0 <= i) (h1 : i <= 63) : ∃ pw : Int, ((2 ^ i.toNat : Nat) : Int) = pw /\ 1 <= pw /\ pw <= 9223372036854775808 := by
 refine ⟨_, rfl, ?_, ?_⟩
 ·have := Nat.two_pow_pos i.toNat; omega
 ·have : 2 ^ i.toNat <= 2 ^ 63 := Nat.pow_le_pow_right (by decide) (by omega)
  have e : (2 : Nat) ^ 63 = 9223372036854775808 := by decide
  omega
theorem quo_le {m p : Int} (h0 : 0 <= m) (h1 : m <= 1099511627776) (hp : 1 <= p) : ∃ y : Int, m / p = y /\ 0 <= y /\ y <= 1099511627776 :=
 ⟨_, rfl, Int.ediv_nonneg h0 (by omega), Int.le_trans (Int.ediv_le_self _ h0) h1⟩
theorem res_pre (w : World) {op d ra rb imm h : Int} (a b : VV) : ∃ u, (((w.alloc (.cells #[.int .i64 op, .int .i64 d, .int .i64 ra, .int .i64 rb, .int .i64 imm, .int .i64 h] 58)).alloc (.cells #[.int .i64 a.k, .bool a.s, .int .i64 a.m, .int .i64 a.h, .int .i64 a.lo, .int .i64 a.hi] 75)).alloc (.cells #[.int .i64 b.k, .bool b.s, .int .i64 b.m, .int .i64 b.h, .int .i64 b.lo, .int .i64 b.hi] 75)).alloc (.cells #[.int .i64 0, .bool false, .int .i64 0, .int .i64 0, .int .i64 0, .int .i64 0] 75) = u /\ ResP w u op d ra rb imm h a b := by
 have e1 := Vb.new (w.alloc (.cells #[.int .i64 op, .int .i64 d, .int .i64 ra, .int .i64 rb, .int .i64 imm, .int .i64 h] 58)) a
 have e2 := Vb.new ((w.alloc (.cells #[.int .i64 op, .int .i64 d, .int .i64 ra, .int .i64 rb, .int .i64 imm, .int .i64 h] 58)).alloc (.cells #[.int .i64 a.k, .bool a.s, .int .i64 a.m, .int .i64 a.h, .int .i64 a.lo, .int .i64 a.hi] 75)) b
 have e3 := Vb.new (((w.alloc (.cells #[.int .i64 op, .int .i64 d, .int .i64 ra, .int .i64 rb, .int .i64 imm, .int .i64 h] 58)).alloc (.cells #[.int .i64 a.k, .bool a.s, .int .i64 a.m, .int .i64 a.h, .int .i64 a.lo, .int .i64 a.hi] 75)).alloc (.cells #[.int .i64 b.k, .bool b.s, .int .i64 b.m, .int .i64 b.h, .int .i64 b.lo, .int .i64 b.hi] 75)) zV
 simp only [World.size_alloc] at e1 e2 e3
 refine ⟨_, rfl, ?_, ?_, ?_, ?_, e3, by omega⟩
 ·exact ((((Below.refl _ _).alloc (Nat.le_refl _) _).alloc (by simp) _).alloc (by simp; omega) _).alloc (by simp; omega) _
 ·exact (((Cl.new).below ((Below.refl _ _).alloc (Nat.le_refl _) _)).below ((Below.refl _ _).alloc (Nat.le_refl _) _)).below ((Below.refl _ _).alloc (Nat.le_refl _) _)
 ·exact (e1.below ((Below.refl _ _).alloc (Nat.le_refl _) _) e1.lt).below ((Below.refl _ _).alloc (Nat.le_refl _) _) (by simp)
 ·exact e2.below ((Below.refl _ _).alloc (Nat.le_refl _) _) e2.lt

set_option maxRecDepth 20000 in
set_option maxHeartbeats 4000000 in
theorem l4Result_1 (d ra rb imm h : Int) (a b : VV) (s : Bool) (w : World) :
  Calls Tryz.prog 72 #[.agg #[.int .i64 1, .int .i64 d, .int .i64 ra, .int .i64 rb, .int .i64 imm, .int .i64 h], .agg #[.int .i64 a.k, .bool a.s, .int .i64 a.m, .int .i64 a.h, .int .i64 a.lo, .int .i64 a.hi], .agg #[.int .i64 b.k, .bool b.s, .int .i64 b.m, .int .i64 b.h, .int .i64 b.lo, .int .i64 b.hi], .bool s] w fun e w' => e = .returned (resV 1 imm a b s).v /\ Below w.heap.size w w' := by
 go_enter Tryz.func72, Tryz.ntmps72
 go_upto_region 1 with fail
 obtain ⟨u0, hu, pu⟩ := res_pre w (op := 1) (d := d) (ra := ra) (rb := rb) (imm := imm) (h := h) a b
 rw [hu]
 have P0 : Hid (ResP w u0 1 d ra rb imm h a b) := pu
 clear hu pu
 obtain ⟨i0, i1, i2, i3, i4, i5⟩ := ins_cells P0.out.I
 obtain ⟨a0, a1, a2, a3, a4, a5⟩ := P0.out.A.cells
 obtain ⟨b0, b1, b2, b3, b4, b5⟩ := P0.out.B.cells
 obtain ⟨r0, r1, r2, r3, r4, r5⟩ := P0.out.R.cells
 have rf := P0.out.R.free
 have rl := P0.out.R.lt
 have af := P0.out.A.free
 go_wp2
 exact bodyPost_ret (v := VV.v a) (by simp [results, Tryz.results72, go_sem, VV.v, *]) rfl ⟨congrArg (fun v => Ending.returned (VV.v v)) (by simp [resV]), below_putV P0.out.bel P0.out.oR a⟩

set_option maxRecDepth 20000 in
set_option maxHeartbeats 4000000 in
theorem l4Result_2 (d ra rb imm h : Int) (a b : VV) (s : Bool) (w : World) :
  Calls Tryz.prog 72 #[.agg #[.int .i64 2, .int .i64 d, .int .i64 ra, .int .i64 rb, .int .i64 imm, .int .i64 h], .agg #[.int .i64 a.k, .bool a.s, .int .i64 a.m, .int .i64 a.h, .int .i64 a.lo, .int .i64 a.hi], .agg #[.int .i64 b.k, .bool b.s, .int .i64 b.m, .int .i64 b.h, .int .i64 b.lo, .int .i64 b.hi], .bool s] w fun e w' => e = .returned (resV 2 imm a b s).v /\ Below w.heap.size w w' := by
 go_enter Tryz.func72, Tryz.ntmps72
 go_upto_region 1 with fail
 obtain ⟨u0, hu, pu⟩ := res_pre w (op := 2) (d := d) (ra := ra) (rb := rb) (imm := imm) (h := h) a b
 rw [hu]
 have P0 : Hid (ResP w u0 2 d ra rb imm h a b) := pu
 clear hu pu
 obtain ⟨i0, i1, i2, i3, i4, i5⟩ := ins_cells P0.out.I
 obtain ⟨a0, a1, a2, a3, a4, a5⟩ := P0.out.A.cells
 obtain ⟨b0, b1, b2, b3, b4, b5⟩ := P0.out.B.cells
 obtain ⟨r0, r1, r2, r3, r4, r5⟩ := P0.out.R.cells
 have rf := P0.out.R.free
 have rl := P0.out.R.lt
 have af := P0.out.A.free
 go_wp2_with fail
 refine (l4Num_any false (imm) _).mono ?_
 rintro e u1 ⟨rfl, hb⟩
 have P1 : Hid (ResP w u1 2 d ra rb imm h a b) := P0.out.below hb
 clear hb
 clear i0 i1 i2 i3 i4 i5 a0 a1 a2 a3 a4 a5 b0 b1 b2 b3 b4 b5 r0 r1 r2 r3 r4 r5 rf rl af
 simp only [VV.v]
 obtain ⟨i0, i1, i2, i3, i4, i5⟩ := ins_cells P1.out.I
 obtain ⟨a0, a1, a2, a3, a4, a5⟩ := P1.out.A.cells
 obtain ⟨b0, b1, b2, b3, b4, b5⟩ := P1.out.B.cells
 obtain ⟨r0, r1, r2, r3, r4, r5⟩ := P1.out.R.cells
 have rf := P1.out.R.free
 have rl := P1.out.R.lt
 have af := P1.out.A.free
 go_wp2
 exact bodyPost_ret (v := VV.v (numV false (imm))) (by simp [results, Tryz.results72, go_sem, VV.v, *]) rfl ⟨congrArg (fun v => Ending.returned (VV.v v)) (by simp [resV]), below_putV P1.out.bel P1.out.oR (numV false (imm))⟩
end Go.Proofs.YtcgcldokompafaaGreatDoor
