/- Statements: when one is valid. -/
import Derived.Test.YtbnaegpjmiiihaaInsSame
import Derived.Test.YtbnaegpjmiiihaaCl
import Derived.Test.YtbnaegpjmiiihaaRegL
import Derived.Test.YtbnaegpjmiiihaaRows
import Derived.Deep.RegionHeld3
import Derived.Deep.Cut
import Derived.Deep.DeepCutAuto
namespace Go.Proofs.Ytbnaegpjmiiihaa
open Go.RowKit
/-- A statement. -/
structure SV where
  k : Int
  op : Int
  d : Int
  a : Int
  b : Int
  imm : Int
  h : Int
  cond : Int
  thn : Int
  els : Int
  proc : Int
def condB (c : Int) : Bool := decide (1 ≤ c ∧ c ≤ 4)
abbrev noIns (s : SV) : Prop := s.op = 0 ∧ s.d = 0 ∧ s.a = 0 ∧ s.b = 0 ∧ s.imm = 0 ∧ s.h = 0
def stOK (s : SV) (procs : Int) : Bool :=
  if s.k = 1 then implIns s.op s.d s.a s.b s.imm s.h && decide (s.op < 29 ∧ s.cond = 0 ∧ s.thn = 0 ∧ s.els = 0 ∧ s.proc = 0)
  else if s.k = 2 then decide (noIns s ∧ 1 ≤ s.cond ∧ s.cond ≤ 4 ∧ 0 ≤ s.thn ∧ 0 ≤ s.els ∧ s.proc = 0)
  else if s.k = 3 then decide (noIns s ∧ 1 ≤ s.cond ∧ s.cond ≤ 4 ∧ 0 ≤ s.thn ∧ s.els = 0 ∧ s.proc = 0)
  else if s.k = 4 then decide (noIns s ∧ s.cond = 0 ∧ s.thn = 0 ∧ s.els = 0 ∧ 0 ≤ s.proc ∧ s.proc < procs)
  else false

set_option maxHeartbeats 400000 in
theorem validCond_any (c : Int) (w : World) : Calls Try.prog 44 #[.int .i64 c] w fun e w' => e = .returned (.bool (condB c)) ∧ w' = w := by
  go_enter Try.func44, Try.ntmps44
  go_wp2
  all_goals (go_ret; refine ⟨ret_bool ?_, rfl⟩; simp [condB] <;> omega)

theorem noIns_mk (k op d a b imm h cond thn els proc : Int) : noIns ⟨k, op, d, a, b, imm, h, cond, thn, els, proc⟩ ↔ (op = 0 ∧ d = 0 ∧ a = 0 ∧ b = 0 ∧ imm = 0 ∧ h = 0) := Iff.rfl
set_option maxHeartbeats 8000000 in
theorem validStmt_1 (op d a b imm h cond thn els proc procs : Int) (w : World) :
    Calls Try.prog 36 #[.agg #[.int .i64 1, .int .i64 op, .int .i64 d, .int .i64 a, .int .i64 b, .int .i64 imm, .int .i64 h, .int .i64 cond, .int .i64 thn, .int .i64 els, .int .i64 proc], .int .i64 procs] w fun e w' => e = .returned (.bool (stOK ⟨1, op, d, a, b, imm, h, cond, thn, els, proc⟩ procs)) ∧ Below w.heap.size w w' := by
  have h0 : Below w.heap.size w (w.alloc (.cells #[.int .i64 1, .int .i64 op, .int .i64 d, .int .i64 a, .int .i64 b, .int .i64 imm, .int .i64 h, .int .i64 cond, .int .i64 thn, .int .i64 els, .int .i64 proc] 38)) := (Below.refl _ _).alloc (Nat.le_refl _) _
  have H0 : Hid (Below w.heap.size w (w.alloc (.cells #[.int .i64 1, .int .i64 op, .int .i64 d, .int .i64 a, .int .i64 b, .int .i64 imm, .int .i64 h, .int .i64 cond, .int .i64 thn, .int .i64 els, .int .i64 proc] 38))) := h0
  clear h0
  by_cases hz : cond = 0 ∧ thn = 0 ∧ els = 0 ∧ proc = 0
  · obtain ⟨rfl, rfl, rfl, rfl⟩ := hz
    go_enter Try.func36, Try.ntmps36
    go_wp2_with fail
    refine (implIns_any op d a b imm h _).mono ?_
    rintro e w1 ⟨rfl, hb⟩
    obtain ⟨hc, _⟩ := bcell hb
    have hz := hb.size
    have HB : Hid (Below w.heap.size w w1) := H0.out.trans (hb.mono H0.out.size)
    simp only [World.size_alloc] at hz hc
    clear hb
    cases hi : implIns op d a b imm h with
    | false =>
      go_wp2
      go_ret
      exact ⟨ret_bool (by simp [stOK, hi]), HB.out⟩
    | true =>
      have HI : Hid (implIns op d a b imm h = true) := hi
      clear hi
      go_wp2
      go_ret
      exact ⟨ret_bool (by simp [stOK, HI.out]), HB.out⟩
  · have HZ : Hid (stOK ⟨1, op, d, a, b, imm, h, cond, thn, els, proc⟩ procs = false) := (by simp [stOK]; intros; omega : stOK ⟨1, op, d, a, b, imm, h, cond, thn, els, proc⟩ procs = false)
    go_enter Try.func36, Try.ntmps36
    go_wp2_with fail
    all_goals first | (go_ret; exact ⟨ret_bool HZ.out.symm, (Below.refl _ _).alloc (Nat.le_refl _) _⟩) | (exfalso; omega)

set_option maxHeartbeats 8000000 in
theorem validStmt_2 (op d a b imm h cond thn els proc procs : Int) (w : World) :
    Calls Try.prog 36 #[.agg #[.int .i64 2, .int .i64 op, .int .i64 d, .int .i64 a, .int .i64 b, .int .i64 imm, .int .i64 h, .int .i64 cond, .int .i64 thn, .int .i64 els, .int .i64 proc], .int .i64 procs] w fun e w' => e = .returned (.bool (stOK ⟨2, op, d, a, b, imm, h, cond, thn, els, proc⟩ procs)) ∧ Below w.heap.size w w' := by
  by_cases hz : op = 0 ∧ d = 0 ∧ a = 0 ∧ b = 0 ∧ imm = 0 ∧ h = 0 ∧ proc = 0
  · obtain ⟨rfl, rfl, rfl, rfl, rfl, rfl, rfl⟩ := hz
    go_enter Try.func36, Try.ntmps36
    go_wp2_with (go_at_call 44; refine (validCond_any _ _).mono ?_; rintro e w' ⟨rfl, rfl⟩)
    all_goals (go_ret; refine ⟨ret_bool ?_, (Below.refl _ _).alloc (Nat.le_refl _) _⟩; simp_all [stOK, noIns, condB] <;> omega)
  · have HZ : Hid (stOK ⟨2, op, d, a, b, imm, h, cond, thn, els, proc⟩ procs = false) := (by rw [Bool.eq_false_iff]; intro hx; apply hz; simp [stOK] at hx; omega : stOK ⟨2, op, d, a, b, imm, h, cond, thn, els, proc⟩ procs = false)
    go_enter Try.func36, Try.ntmps36
    go_wp2_with fail
    all_goals first | (go_ret; exact ⟨ret_bool HZ.out.symm, (Below.refl _ _).alloc (Nat.le_refl _) _⟩) | (exfalso; omega)

set_option maxHeartbeats 8000000 in
theorem validStmt_3 (op d a b imm h cond thn els proc procs : Int) (w : World) :
    Calls Try.prog 36 #[.agg #[.int .i64 3, .int .i64 op, .int .i64 d, .int .i64 a, .int .i64 b, .int .i64 imm, .int .i64 h, .int .i64 cond, .int .i64 thn, .int .i64 els, .int .i64 proc], .int .i64 procs] w fun e w' => e = .returned (.bool (stOK ⟨3, op, d, a, b, imm, h, cond, thn, els, proc⟩ procs)) ∧ Below w.heap.size w w' := by
  by_cases hz : op = 0 ∧ d = 0 ∧ a = 0 ∧ b = 0 ∧ imm = 0 ∧ h = 0 ∧ els = 0 ∧ proc = 0
  · obtain ⟨rfl, rfl, rfl, rfl, rfl, rfl, rfl, rfl⟩ := hz
    go_enter Try.func36, Try.ntmps36
    go_wp2_with (go_at_call 44; refine (validCond_any _ _).mono ?_; rintro e w' ⟨rfl, rfl⟩)
    all_goals (go_ret; refine ⟨ret_bool ?_, (Below.refl _ _).alloc (Nat.le_refl _) _⟩; simp_all [stOK, noIns, condB] <;> omega)
  · have HZ : Hid (stOK ⟨3, op, d, a, b, imm, h, cond, thn, els, proc⟩ procs = false) := (by rw [Bool.eq_false_iff]; intro hx; apply hz; simp [stOK] at hx; omega : stOK ⟨3, op, d, a, b, imm, h, cond, thn, els, proc⟩ procs = false)
    go_enter Try.func36, Try.ntmps36
    go_wp2_with fail
    all_goals first | (go_ret; exact ⟨ret_bool HZ.out.symm, (Below.refl _ _).alloc (Nat.le_refl _) _⟩) | (exfalso; omega)

set_option maxHeartbeats 8000000 in
theorem validStmt_4 (op d a b imm h cond thn els proc procs : Int) (w : World) :
    Calls Try.prog 36 #[.agg #[.int .i64 4, .int .i64 op, .int .i64 d, .int .i64 a, .int .i64 b, .int .i64 imm, .int .i64 h, .int .i64 cond, .int .i64 thn, .int .i64 els, .int .i64 proc], .int .i64 procs] w fun e w' => e = .returned (.bool (stOK ⟨4, op, d, a, b, imm, h, cond, thn, els, proc⟩ procs)) ∧ Below w.heap.size w w' := by
  by_cases hz : op = 0 ∧ d = 0 ∧ a = 0 ∧ b = 0 ∧ imm = 0 ∧ h = 0 ∧ cond = 0 ∧ thn = 0 ∧ els = 0
  · obtain ⟨rfl, rfl, rfl, rfl, rfl, rfl, rfl, rfl, rfl⟩ := hz
    go_enter Try.func36, Try.ntmps36
    go_wp2
    all_goals (go_ret; refine ⟨ret_bool ?_, (Below.refl _ _).alloc (Nat.le_refl _) _⟩; simp_all [stOK, noIns] <;> omega)
  · have HZ : Hid (stOK ⟨4, op, d, a, b, imm, h, cond, thn, els, proc⟩ procs = false) := (by rw [Bool.eq_false_iff]; intro hx; apply hz; simp [stOK] at hx; omega : stOK ⟨4, op, d, a, b, imm, h, cond, thn, els, proc⟩ procs = false)
    go_enter Try.func36, Try.ntmps36
    go_wp2_with fail
    all_goals first | (go_ret; exact ⟨ret_bool HZ.out.symm, (Below.refl _ _).alloc (Nat.le_refl _) _⟩) | (exfalso; omega)
end Go.Proofs.Ytbnaegpjmiiihaa
