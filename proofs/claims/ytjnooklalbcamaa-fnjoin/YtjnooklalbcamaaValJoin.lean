/- Vals: carried over, compared, joined. -/
import Derived.Test.YtjnooklalbcamaaRows
import Derived.Test.YtjnooklalbcamaaArr
import Derived.WalkKit
import Derived.WalkSpells
import Derived.WalkLawsBesides
namespace Go.Proofs.Ytjnooklalbcamaa
open Go.RowKit

/-- A Val: its fields. -/
structure VV where
  k : Int
  s : Bool
  m : Int
  h : Int
  lo : Int
  hi : Int
def VV.v (x : VV) : Value := .agg #[.int .i64 x.k, .bool x.s, .int .i64 x.m, .int .i64 x.h, .int .i64 x.lo, .int .i64 x.hi]
/-- What holds of both. -/
def joinV (a b : VV) : VV :=
  if a.k = 1 ∧ b.k = 1 ∧ a.h = b.h then ⟨1, false, 0, a.h, if b.lo < a.lo then b.lo else a.lo, if b.hi > a.hi then b.hi else a.hi⟩
  else if a.k = 0 ∧ b.k = 0 ∧ a.m ≠ -1 ∧ b.m ≠ -1 then ⟨0, a.s || b.s, if b.m > a.m then b.m else a.m, 0, 0, 0⟩
  else ⟨0, a.s || b.s, -1, 0, 0, 0⟩

set_option maxHeartbeats 400000 in
theorem toVal_any (k : Int) (s : Bool) (m h lo hi : Int) (w : World) :
    Calls Try.prog 30 #[.agg #[.int .i64 k, .bool s, .int .i64 m, .int .i64 h, .int .i64 lo, .int .i64 hi]] w fun e w' => e = .returned (.agg #[.int .i64 k, .bool s, .int .i64 m, .int .i64 h, .int .i64 lo, .int .i64 hi]) ∧ Below w.heap.size w w' := by
  go_enter Try.func30, Try.ntmps30
  go_wp2
  exact bodyPost_ret (v := .agg #[.int .i64 k, .bool s, .int .i64 m, .int .i64 h, .int .i64 lo, .int .i64 hi]) (by simp [results, Try.results30, go_sem]) rfl ⟨rfl, (((Below.refl _ _).alloc (Nat.le_refl _) _).alloc (by simp) _).alloc (by simp; omega) _⟩

set_option maxHeartbeats 400000 in
theorem eqVal_same (k : Int) (s : Bool) (m h lo hi : Int) (w : World) :
    Calls Try.prog 31 #[.agg #[.int .i64 k, .bool s, .int .i64 m, .int .i64 h, .int .i64 lo, .int .i64 hi], .agg #[.int .i64 k, .bool s, .int .i64 m, .int .i64 h, .int .i64 lo, .int .i64 hi]] w fun e w' => e = .returned (.bool true) ∧ Below w.heap.size w w' := by
  go_enter Try.func31, Try.ntmps31
  go_wp2
  go_ret
  exact ⟨rfl, ((Below.refl _ _).alloc (Nat.le_refl _) _).alloc (by simp) _⟩

set_option maxHeartbeats 4000000 in
theorem implJoin_any (k : Int) (s : Bool) (m h lo hi : Int) (k' : Int) (s' : Bool) (m' h' lo' hi' : Int) (w : World) :
    Calls Try.prog 11 #[.agg #[.int .i64 k, .bool s, .int .i64 m, .int .i64 h, .int .i64 lo, .int .i64 hi], .agg #[.int .i64 k', .bool s', .int .i64 m', .int .i64 h', .int .i64 lo', .int .i64 hi']] w fun e w' => e = .returned (joinV ⟨k, s, m, h, lo, hi⟩ ⟨k', s', m', h', lo', hi'⟩).v ∧ Below w.heap.size w w' := by
  go_enter Try.func11, Try.ntmps11
  go_wp2
  all_goals
    refine' bodyPost_ret (v := _) ?_ rfl ⟨?_, ?_⟩
    rotate_left 1
    · simp [results, Try.results11, go_sem]; rfl
    rotate_left 1
    · exact (((Below.refl _ _).alloc (Nat.le_refl _) _).alloc (by simp) _).alloc (by simp; omega) _
    · simp_all [joinV, VV.v] <;> omega

set_option maxHeartbeats 4000000 in
theorem specJoin_any (k : Int) (s : Bool) (m h lo hi : Int) (k' : Int) (s' : Bool) (m' h' lo' hi' : Int) (w : World) :
    Calls Try.prog 12 #[.agg #[.int .i64 k, .bool s, .int .i64 m, .int .i64 h, .int .i64 lo, .int .i64 hi], .agg #[.int .i64 k', .bool s', .int .i64 m', .int .i64 h', .int .i64 lo', .int .i64 hi']] w fun e w' => e = .returned (joinV ⟨k, s, m, h, lo, hi⟩ ⟨k', s', m', h', lo', hi'⟩).v ∧ Below w.heap.size w w' := by
  go_enter Try.func12, Try.ntmps12
  go_wp2
  all_goals
    refine' bodyPost_ret (v := _) ?_ rfl ⟨?_, ?_⟩
    rotate_left 1
    · simp [results, Try.results12, go_sem]; rfl
    rotate_left 1
    · exact ((((Below.refl _ _).alloc (Nat.le_refl _) _).alloc (by simp) _).alloc (by simp; omega) _).alloc (by simp; omega) _
    · simp_all [joinV, VV.v] <;> omega
end Go.Proofs.Ytjnooklalbcamaa
