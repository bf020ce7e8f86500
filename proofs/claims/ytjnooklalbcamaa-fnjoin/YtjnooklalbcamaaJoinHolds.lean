/- FnJoin's own small functions: lwAt, lwHolds; the join of two Vals allows what one of them allows. -/
import Derived.Test.YtjnooklalbcamaaJoinDraw2
import Derived.Test.YtjnooklalbcamaaInsMath
namespace Go.Proofs.Ytjnooklalbcamaa
open Go.RowKit

def baseJ (h : Int) : Int := if h = 0 then 1000 else 5000
def holdsJ (v : VV) (x : Int) : Bool :=
  if v.k = 0 then decide (v.m = -1 ∨ x ≤ v.m) else decide (v.lo ≤ wrap64 (IntKind.u64.wrap (x - baseJ v.h)) ∧ wrap64 (IntKind.u64.wrap (x - baseJ v.h)) ≤ v.hi)
theorem gv_join {a b : VV} (ha : GV a) (hb : GV b) : GV (joinV a b) := by
  unfold joinV
  split
  · next h =>
    rcases ha with ⟨h1, _⟩ | ⟨_, _, _, q1, q2, q3, q4, q5⟩
    · omega
    · rcases hb with ⟨h2, _⟩ | ⟨_, _, _, r1, r2, r3, r4, r5⟩
      · omega
      · refine Or.inr ⟨rfl, rfl, rfl, q1, q2, ?_, ?_, ?_⟩ <;> simp <;> (repeat' split) <;> omega
  · split
    · next h =>
      rcases ha with ⟨_, _, _, _, q1, q2⟩ | ⟨h1, _⟩
      · rcases hb with ⟨_, _, _, _, r1, r2⟩ | ⟨h2, _⟩
        · refine Or.inl ⟨rfl, rfl, rfl, rfl, ?_, ?_⟩ <;> simp <;> (repeat' split) <;> omega
        · omega
      · omega
    · exact Or.inl ⟨rfl, rfl, rfl, rfl, by simp, by simp⟩
theorem join_comm (a b : VV) : joinV a b = joinV b a := by
  unfold joinV
  by_cases h : a.k = 1 ∧ b.k = 1 ∧ a.h = b.h
  · have h' : b.k = 1 ∧ a.k = 1 ∧ b.h = a.h := ⟨h.2.1, h.1, h.2.2.symm⟩
    rw [if_pos h, if_pos h', h.2.2]
    congr 1 <;> (repeat' split) <;> omega
  · have h' : ¬ (b.k = 1 ∧ a.k = 1 ∧ b.h = a.h) := fun q => h ⟨q.2.1, q.1, q.2.2.symm⟩
    rw [if_neg h, if_neg h']
    by_cases g : a.k = 0 ∧ b.k = 0 ∧ a.m ≠ -1 ∧ b.m ≠ -1
    · have g' : b.k = 0 ∧ a.k = 0 ∧ b.m ≠ -1 ∧ a.m ≠ -1 := ⟨g.2.1, g.1, g.2.2.2, g.2.2.1⟩
      rw [if_pos g, if_pos g', Bool.or_comm]
      congr 1
      (repeat' split) <;> omega
    · have g' : ¬ (b.k = 0 ∧ a.k = 0 ∧ b.m ≠ -1 ∧ a.m ≠ -1) := fun q => g ⟨q.2.1, q.1, q.2.2.2, q.2.2.1⟩
      rw [if_neg g, if_neg g', Bool.or_comm]
theorem hold_join {a b : VV} {x : Int} (h : holdsJ a x = true ∨ holdsJ b x = true) : holdsJ (joinV a b) x = true := by
  unfold joinV
  split
  · next g =>
    obtain ⟨g1, g2, g3⟩ := g
    unfold holdsJ at h ⊢
    rw [if_neg (by omega), if_neg (by omega), decide_eq_true_eq, decide_eq_true_eq, ← g3] at h
    rw [if_neg (by simp), decide_eq_true_eq]
    show (if b.lo < a.lo then b.lo else a.lo) ≤ wrap64 (IntKind.u64.wrap (x - baseJ a.h)) ∧ wrap64 (IntKind.u64.wrap (x - baseJ a.h)) ≤ (if b.hi > a.hi then b.hi else a.hi)
    generalize wrap64 (IntKind.u64.wrap (x - baseJ a.h)) = o at h ⊢
    (repeat' split) <;> omega
  · split
    · next g =>
      obtain ⟨g1, g2, g3, g4⟩ := g
      unfold holdsJ at h ⊢
      rw [if_pos g1, if_pos g2, decide_eq_true_eq, decide_eq_true_eq] at h
      rw [if_pos rfl, decide_eq_true_eq]
      show (if b.m > a.m then b.m else a.m) = -1 ∨ x ≤ (if b.m > a.m then b.m else a.m)
      (repeat' split) <;> omega
    · simp [holdsJ]
theorem join_secret (a b : VV) : (joinV a b).s = ((a.s || b.s) && decide ((joinV a b).k = 0)) := by
  unfold joinV
  split
  · simp
  · split <;> simp

set_option maxHeartbeats 2000000 in
theorem lwHolds_any (v : VV) (x : Int) (B : Nat) (w : World) (hg : GV v) (hc0 : w.cell? ⟨B, 0, none⟩ = some (.int .u64 1000)) (hc3 : w.cell? ⟨B, 3, none⟩ = some (.int .u64 5000)) (hb : B < w.heap.size) :
    Calls Try.prog 14 #[.agg #[.int .i64 v.k, .bool v.s, .int .i64 v.m, .int .i64 v.h, .int .i64 v.lo, .int .i64 v.hi], .int .u64 x, .agg #[.slice none 0 0, .bool false, .bool false, .bool false, .bool false, .slice (some ⟨B, 0, none⟩) 2 2, .int .i64 0, .int .i64 0, .slice none 0 0]] w fun e w' => e = .returned (.bool (holdsJ v x)) ∧ Below w.heap.size w w' := by
  obtain ⟨k, s, m, h, lo, hi⟩ := v
  rcases hg with ⟨q1, q2, q3, q4, q5, q6⟩ | ⟨q1, q2, q3, q4, q5, q6, q7, q8⟩
  · simp only at q1 q2 q3 q4 q5 q6
    subst q1 q2 q3 q4
    by_cases hm : m = -1
    · subst hm
      go_enter Try.func14, Try.ntmps14
      go_wp2
      go_ret
      exact ⟨ret_bool (by simp [holdsJ]), ((Below.refl _ _).alloc (Nat.le_refl _) _).alloc (by simp) _⟩
    · have hm2 : 0 ≤ m := by omega
      go_enter Try.func14, Try.ntmps14
      go_wp2
      go_ret
      exact ⟨ret_bool (by simp [holdsJ, hm]), ((Below.refl _ _).alloc (Nat.le_refl _) _).alloc (by simp) _⟩
  · simp only at q1 q2 q3 q4 q5 q6 q7 q8
    subst q1 q2 q3
    have hh : h = 0 ∨ h = 1 := by omega
    rcases hh with rfl | rfl
    · go_enter Try.func14, Try.ntmps14
      go_wp2
      all_goals
        go_ret
        refine ⟨ret_bool ?_, ((Below.refl _ _).alloc (Nat.le_refl _) _).alloc (by simp) _⟩
        simp [holdsJ, baseJ, *] <;> omega
    · go_enter Try.func14, Try.ntmps14
      go_wp2
      all_goals
        go_ret
        refine ⟨ret_bool ?_, ((Below.refl _ _).alloc (Nat.le_refl _) _).alloc (by simp) _⟩
        simp [holdsJ, baseJ, *] <;> omega

set_option maxHeartbeats 2000000 in
theorem lwAt_any (ao : Option Addr) (n cap i : Nat) (P : Nat) (w : World) (hi : i < 1000) (hr : Bytes0 w P ao n) :
    Calls Try.prog 13 #[.slice ao n cap, .int .i64 i] w fun e w' => ∃ x : Int, e = .returned (.int .i64 x) ∧ 0 ≤ x ∧ x ≤ 255 ∧ w' = w := by
  by_cases hlt : i < n
  · obtain ⟨b, off, v, rfl, v0, v1, hv⟩ : ∃ b off v, ao = some ⟨b, off, none⟩ ∧ 0 ≤ v ∧ v ≤ 255 ∧ w.cell? ⟨b, off + i, none⟩ = some (.int .u8 v) := by
      rcases hr with h | ⟨b, off, h1, h2, h3⟩
      · omega
      · obtain ⟨v, q1, q2, q3⟩ := h3 i hlt
        exact ⟨b, off, v, h1, q1, q2, q3⟩
    go_enter Try.func13, Try.ntmps13
    go_wp2
    go_ret
    exact ⟨_, rfl, v0, v1, rfl⟩
  · clear hr
    go_enter Try.func13, Try.ntmps13
    go_wp2
    go_ret
    exact ⟨_, rfl, by omega, by omega, rfl⟩
end Go.Proofs.Ytjnooklalbcamaa
