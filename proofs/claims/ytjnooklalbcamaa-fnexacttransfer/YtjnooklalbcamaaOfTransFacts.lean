import Derived.Test.YtjnooklalbcamaaOfTransSum
import Derived.Test.YtjnooklalbcamaaOfTransMath
import Derived.Test.YtjnooklalbcamaaRows
import Derived.Test.YtjnooklalbcamaaOfOpenVals
import Derived.WalkKit
import Derived.WalkSpells
import Derived.WalkLawsBesides
/- The Val of the register that an instruction gives. -/
namespace Go.Proofs.Ytjnooklalbcamaa
open Go.RowKit

/-- Where l4Result stands: its instruction, its two Vals, its answer's block. -/
structure ResP (w u : World) (op d ra rb imm h : Int) (a b : VV) : Prop where
  bel : Below w.heap.size w u
  I : Cl u w.heap.size [.int .i64 op, .int .i64 d, .int .i64 ra, .int .i64 rb, .int .i64 imm, .int .i64 h]
  A : Vb u (w.heap.size + 1) a
  B : Vb u (w.heap.size + 1 + 1) b
  R : Vb u (w.heap.size + 1 + 1 + 1) zV
  oR : w.heap.size ≤ w.heap.size + 1 + 1 + 1
theorem ResP.below {w u v : World} {op d ra rb imm h : Int} {a b : VV} (p : ResP w u op d ra rb imm h a b) (hb : Below u.heap.size u v) : ResP w v op d ra rb imm h a b :=
  ⟨p.bel.trans (hb.mono p.bel.size), p.I.below hb, p.A.below hb p.A.lt, p.B.below hb p.B.lt, p.R.below hb p.R.lt, p.oR⟩
theorem ResP.S {w u : World} {op d ra rb imm h : Int} {a b : VV} (p : ResP w u op d ra rb imm h a b) : Vb u (w.heap.size + 1) a ∧ Vb u (w.heap.size + 1 + 1) b ∧ u.cell? ⟨w.heap.size, 4, none⟩ = some (.int .i64 imm) := ⟨p.A, p.B, p.I.2 4 (by simp)⟩
theorem cell_putV {u : World} {q b o : Nat} {x : VV} (h : b ≠ q) : (putV u q x).cell? ⟨b, o, none⟩ = u.cell? ⟨b, o, none⟩ := by
  have e : ∀ (v : World) (j : Nat) (y : Value), (v.setCell ⟨q, j, none⟩ y).cell? ⟨b, o, none⟩ = v.cell? ⟨b, o, none⟩ := fun v j y => World.cell?_setCell_other _ _ _ _ (fun e => h (congrArg Addr.block e).symm)
  unfold putV
  rw [e, e, e, e, e, e]
theorem ins_cells {u : World} {b : Nat} {op d ra rb imm h : Int} (p : Cl u b [.int .i64 op, .int .i64 d, .int .i64 ra, .int .i64 rb, .int .i64 imm, .int .i64 h]) : u.cell? ⟨b, 0, none⟩ = some (.int .i64 op) ∧ u.cell? ⟨b, 1, none⟩ = some (.int .i64 d) ∧ u.cell? ⟨b, 2, none⟩ = some (.int .i64 ra) ∧ u.cell? ⟨b, 3, none⟩ = some (.int .i64 rb) ∧ u.cell? ⟨b, 4, none⟩ = some (.int .i64 imm) ∧ u.cell? ⟨b, 5, none⟩ = some (.int .i64 h) :=
  ⟨p.2 0 (by simp), p.2 1 (by simp), p.2 2 (by simp), p.2 3 (by simp), p.2 4 (by simp), p.2 5 (by simp)⟩
theorem max_m {a : VV} (h : 0 ≤ maxV a) (ha : Bd a) : 0 ≤ a.m ∧ a.m ≤ 1099511627776 := by
  refine ⟨?_, ha.m1⟩
  unfold maxV at h
  split at h <;> omega
theorem l1Pow_int (i : Int) (w : World) (h0 : 0 ≤ i) (h1 : i ≤ 63) : Calls Try.prog 113 #[.int .i64 i] w fun e w' => e = .returned (.int .u64 ((2 ^ i.toNat : Nat) : Int)) ∧ w' = w := by
  obtain ⟨n, rfl⟩ : ∃ n : Nat, i = n := ⟨i.toNat, by omega⟩
  exact l1Pow_any n w (by omega)
theorem pow40 {i : Int} (h0 : 0 ≤ i) (h1 : i ≤ 40) : ∃ pw : Int, ((2 ^ i.toNat : Nat) : Int) = pw ∧ 1 ≤ pw ∧ pw ≤ 1099511627776 := by
  refine ⟨_, rfl, ?_, ?_⟩
  · have := Nat.two_pow_pos i.toNat; omega
  · have : 2 ^ i.toNat ≤ 2 ^ 40 := Nat.pow_le_pow_right (by decide) (by omega)
    have e : (2 : Nat) ^ 40 = 1099511627776 := by decide
    omega
theorem pow63 {i : Int} (h0 : 0 ≤ i) (h1 : i ≤ 63) : ∃ pw : Int, ((2 ^ i.toNat : Nat) : Int) = pw ∧ 1 ≤ pw ∧ pw ≤ 9223372036854775808 := by
  refine ⟨_, rfl, ?_, ?_⟩
  · have := Nat.two_pow_pos i.toNat; omega
  · have : 2 ^ i.toNat ≤ 2 ^ 63 := Nat.pow_le_pow_right (by decide) (by omega)
    have e : (2 : Nat) ^ 63 = 9223372036854775808 := by decide
    omega
theorem quo_le {m p : Int} (h0 : 0 ≤ m) (h1 : m ≤ 1099511627776) (hp : 1 ≤ p) : ∃ y : Int, m / p = y ∧ 0 ≤ y ∧ y ≤ 1099511627776 :=
  ⟨_, rfl, Int.ediv_nonneg h0 (by omega), Int.le_trans (Int.ediv_le_self _ h0) h1⟩
theorem res_pre (w : World) {op d ra rb imm h : Int} (a b : VV) : ∃ u, (((w.alloc (.cells #[.int .i64 op, .int .i64 d, .int .i64 ra, .int .i64 rb, .int .i64 imm, .int .i64 h] 79)).alloc (.cells #[.int .i64 a.k, .bool a.s, .int .i64 a.m, .int .i64 a.h, .int .i64 a.lo, .int .i64 a.hi] 24)).alloc (.cells #[.int .i64 b.k, .bool b.s, .int .i64 b.m, .int .i64 b.h, .int .i64 b.lo, .int .i64 b.hi] 24)).alloc (.cells #[.int .i64 0, .bool false, .int .i64 0, .int .i64 0, .int .i64 0, .int .i64 0] 24) = u ∧ ResP w u op d ra rb imm h a b := by
  have e1 := Vb.new (w.alloc (.cells #[.int .i64 op, .int .i64 d, .int .i64 ra, .int .i64 rb, .int .i64 imm, .int .i64 h] 79)) a
  have e2 := Vb.new ((w.alloc (.cells #[.int .i64 op, .int .i64 d, .int .i64 ra, .int .i64 rb, .int .i64 imm, .int .i64 h] 79)).alloc (.cells #[.int .i64 a.k, .bool a.s, .int .i64 a.m, .int .i64 a.h, .int .i64 a.lo, .int .i64 a.hi] 24)) b
  have e3 := Vb.new (((w.alloc (.cells #[.int .i64 op, .int .i64 d, .int .i64 ra, .int .i64 rb, .int .i64 imm, .int .i64 h] 79)).alloc (.cells #[.int .i64 a.k, .bool a.s, .int .i64 a.m, .int .i64 a.h, .int .i64 a.lo, .int .i64 a.hi] 24)).alloc (.cells #[.int .i64 b.k, .bool b.s, .int .i64 b.m, .int .i64 b.h, .int .i64 b.lo, .int .i64 b.hi] 24)) zV
  simp only [World.size_alloc] at e1 e2 e3
  refine ⟨_, rfl, ?_, ?_, ?_, ?_, e3, by omega⟩
  · exact ((((Below.refl _ _).alloc (Nat.le_refl _) _).alloc (by simp) _).alloc (by simp; omega) _).alloc (by simp; omega) _
  · exact (((Cl.new).below ((Below.refl _ _).alloc (Nat.le_refl _) _)).below ((Below.refl _ _).alloc (Nat.le_refl _) _)).below ((Below.refl _ _).alloc (Nat.le_refl _) _)
  · exact (e1.below ((Below.refl _ _).alloc (Nat.le_refl _) _) e1.lt).below ((Below.refl _ _).alloc (Nat.le_refl _) _) (by simp)
  · exact e2.below ((Below.refl _ _).alloc (Nat.le_refl _) _) e2.lt

set_option maxRecDepth 20000 in
set_option maxHeartbeats 4000000 in
theorem l4Result_1 (d ra rb imm h : Int) (a b : VV) (s : Bool) (w : World) :
    Calls Try.prog 79 #[.agg #[.int .i64 1, .int .i64 d, .int .i64 ra, .int .i64 rb, .int .i64 imm, .int .i64 h], .agg #[.int .i64 a.k, .bool a.s, .int .i64 a.m, .int .i64 a.h, .int .i64 a.lo, .int .i64 a.hi], .agg #[.int .i64 b.k, .bool b.s, .int .i64 b.m, .int .i64 b.h, .int .i64 b.lo, .int .i64 b.hi], .bool s] w fun e w' => e = .returned (resV 1 imm a b s).v ∧ Below w.heap.size w w' := by
  go_enter Try.func79, Try.ntmps79
  go_upto_region 1 with fail
  obtain ⟨u0, hu, pu⟩ := res_pre w (op := 1) (d := d) (ra := ra) (rb := rb) (imm := imm) (h := h) a b
  rw [hu]
  have P0 : Hid (ResP w u0 1 d ra rb imm h a b) := pu
  clear hu pu
  obtain ⟨i0, i1, i2, i3, i4, i5⟩ := ins_cells P0.out.I
  obtain ⟨a0, a1, a2, a3, a4, a5⟩ := P0.out.A.cells
  obtain ⟨b0, b1, b2, b3, b4, b5⟩ := P0.out.B.cells
  obtain ⟨r0, r1, r2, r3, r4, r5⟩ := P0.out.R.cells
  have rf := P0.out.R.free
  have rl := P0.out.R.lt
  have af := P0.out.A.free
  go_wp2
  exact bodyPost_ret (v := VV.v a) (by simp [results, Try.results79, go_sem, VV.v, *]) rfl ⟨congrArg (fun v => Ending.returned (VV.v v)) (by simp [resV]), below_putV P0.out.bel P0.out.oR a⟩

set_option maxRecDepth 20000 in
set_option maxHeartbeats 4000000 in
theorem l4Result_2 (d ra rb imm h : Int) (a b : VV) (s : Bool) (w : World) :
    Calls Try.prog 79 #[.agg #[.int .i64 2, .int .i64 d, .int .i64 ra, .int .i64 rb, .int .i64 imm, .int .i64 h], .agg #[.int .i64 a.k, .bool a.s, .int .i64 a.m, .int .i64 a.h, .int .i64 a.lo, .int .i64 a.hi], .agg #[.int .i64 b.k, .bool b.s, .int .i64 b.m, .int .i64 b.h, .int .i64 b.lo, .int .i64 b.hi], .bool s] w fun e w' => e = .returned (resV 2 imm a b s).v ∧ Below w.heap.size w w' := by
  go_enter Try.func79, Try.ntmps79
  go_upto_region 1 with fail
  obtain ⟨u0, hu, pu⟩ := res_pre w (op := 2) (d := d) (ra := ra) (rb := rb) (imm := imm) (h := h) a b
  rw [hu]
  have P0 : Hid (ResP w u0 2 d ra rb imm h a b) := pu
  clear hu pu
  obtain ⟨i0, i1, i2, i3, i4, i5⟩ := ins_cells P0.out.I
  obtain ⟨a0, a1, a2, a3, a4, a5⟩ := P0.out.A.cells
  obtain ⟨b0, b1, b2, b3, b4, b5⟩ := P0.out.B.cells
  obtain ⟨r0, r1, r2, r3, r4, r5⟩ := P0.out.R.cells
  have rf := P0.out.R.free
  have rl := P0.out.R.lt
  have af := P0.out.A.free
  go_wp2_with fail
  refine (l4Num_any false (imm) _).mono ?_
  rintro e u1 ⟨rfl, hb⟩
  have P1 : Hid (ResP w u1 2 d ra rb imm h a b) := P0.out.below hb
  clear hb
  clear i0 i1 i2 i3 i4 i5 a0 a1 a2 a3 a4 a5 b0 b1 b2 b3 b4 b5 r0 r1 r2 r3 r4 r5 rf rl af
  simp only [VV.v]
  obtain ⟨i0, i1, i2, i3, i4, i5⟩ := ins_cells P1.out.I
  obtain ⟨a0, a1, a2, a3, a4, a5⟩ := P1.out.A.cells
  obtain ⟨b0, b1, b2, b3, b4, b5⟩ := P1.out.B.cells
  obtain ⟨r0, r1, r2, r3, r4, r5⟩ := P1.out.R.cells
  have rf := P1.out.R.free
  have rl := P1.out.R.lt
  have af := P1.out.A.free
  go_wp2
  exact bodyPost_ret (v := VV.v (numV false (imm))) (by simp [results, Try.results79, go_sem, VV.v, *]) rfl ⟨congrArg (fun v => Ending.returned (VV.v v)) (by simp [resV]), below_putV P1.out.bel P1.out.oR (numV false (imm))⟩
end Go.Proofs.Ytjnooklalbcamaa
/- What an instruction gives: where impl.resultOf stands. -/
namespace Go.Proofs.Ytjnooklalbcamaa
open Go.RowKit
def addV (a b : VV) (sec : Bool) : VV := if ppB a b then { a with hi := a.hi + b.m } else if ppB b a then { b with hi := b.hi + a.m } else numV sec (sumI (maxV a) (maxV b))
def movV (a : VV) (sec : Bool) (n : Int) : VV := if a.k = 1 then (if a.lo + n < -1099511627776 ∨ 1099511627776 < a.hi + n then numV false (-1) else { a with lo := a.lo + n, hi := a.hi + n }) else numV sec (sumI a.m n)
def selV (a b : VV) (sec : Bool) : VV := if (joinV a b).k = 1 ∧ sec = true then numV true (-1) else { joinV a b with s := sec }
def orI (a b : Int) : Int := if a < 0 ∨ b < 0 then -1 else onesI (bigI a b)
structure RoP (w u : World) (op d ra rb imm h : Int) (a b : VV) (fl : Int) (sec : Bool) : Prop where
  bel : Below w.heap.size w u
  I : Cl u w.heap.size [.int .i64 op, .int .i64 d, .int .i64 ra, .int .i64 rb, .int .i64 imm, .int .i64 h]
  O : Cl u (w.heap.size + 1) [.int .i64 a.k, .bool a.s, .int .i64 a.m, .int .i64 a.h, .int .i64 a.lo, .int .i64 a.hi, .int .i64 b.k, .bool b.s, .int .i64 b.m, .int .i64 b.h, .int .i64 b.lo, .int .i64 b.hi, .int .i64 fl, .bool sec]
  R : Vb u (w.heap.size + 1 + 1) zV
  oR : w.heap.size ≤ w.heap.size + 1 + 1
theorem RoP.below {w u v : World} {op d ra rb imm h : Int} {a b : VV} {fl : Int} {sec : Bool} (p : RoP w u op d ra rb imm h a b fl sec) (hb : Below u.heap.size u v) : RoP w v op d ra rb imm h a b fl sec :=
  ⟨p.bel.trans (hb.mono p.bel.size), p.I.below hb, p.O.below hb, p.R.below hb p.R.lt, p.oR⟩
theorem ro_pre (w : World) {op d ra rb imm h : Int} (a b : VV) (fl : Int) (sec : Bool) : ∃ u, ((w.alloc (.cells #[.int .i64 op, .int .i64 d, .int .i64 ra, .int .i64 rb, .int .i64 imm, .int .i64 h] 79)).alloc (.cells #[.int .i64 a.k, .bool a.s, .int .i64 a.m, .int .i64 a.h, .int .i64 a.lo, .int .i64 a.hi, .int .i64 b.k, .bool b.s, .int .i64 b.m, .int .i64 b.h, .int .i64 b.lo, .int .i64 b.hi, .int .i64 fl, .bool sec] 164)).alloc (.cells #[.int .i64 0, .bool false, .int .i64 0, .int .i64 0, .int .i64 0, .int .i64 0] 24) = u ∧ RoP w u op d ra rb imm h a b fl sec := by
  have e1 := Cl.new (w := w.alloc (.cells #[.int .i64 op, .int .i64 d, .int .i64 ra, .int .i64 rb, .int .i64 imm, .int .i64 h] 79)) (vs := #[.int .i64 a.k, .bool a.s, .int .i64 a.m, .int .i64 a.h, .int .i64 a.lo, .int .i64 a.hi, .int .i64 b.k, .bool b.s, .int .i64 b.m, .int .i64 b.h, .int .i64 b.lo, .int .i64 b.hi, .int .i64 fl, .bool sec]) (t := 164)
  have e2 := Vb.new ((w.alloc (.cells #[.int .i64 op, .int .i64 d, .int .i64 ra, .int .i64 rb, .int .i64 imm, .int .i64 h] 79)).alloc (.cells #[.int .i64 a.k, .bool a.s, .int .i64 a.m, .int .i64 a.h, .int .i64 a.lo, .int .i64 a.hi, .int .i64 b.k, .bool b.s, .int .i64 b.m, .int .i64 b.h, .int .i64 b.lo, .int .i64 b.hi, .int .i64 fl, .bool sec] 164)) zV
  simp only [World.size_alloc] at e1 e2
  refine ⟨_, rfl, (((Below.refl _ _).alloc (Nat.le_refl _) _).alloc (by simp) _).alloc (by simp only [World.size_alloc]; omega) _, ((Cl.new).below ((Below.refl _ _).alloc (Nat.le_refl _) _)).below ((Below.refl _ _).alloc (Nat.le_refl _) _), e1.below ((Below.refl _ _).alloc (Nat.le_refl _) _), e2, by omega⟩
theorem ro_ops {u : World} {b' : Nat} {a b : VV} {fl : Int} {sec : Bool} (q : Cl u b' [.int .i64 a.k, .bool a.s, .int .i64 a.m, .int .i64 a.h, .int .i64 a.lo, .int .i64 a.hi, .int .i64 b.k, .bool b.s, .int .i64 b.m, .int .i64 b.h, .int .i64 b.lo, .int .i64 b.hi, .int .i64 fl, .bool sec]) : u.cell? ⟨b', 0, none⟩ = some (.int .i64 a.k) ∧ u.cell? ⟨b', 1, none⟩ = some (.bool a.s) ∧ u.cell? ⟨b', 2, none⟩ = some (.int .i64 a.m) ∧ u.cell? ⟨b', 3, none⟩ = some (.int .i64 a.h) ∧ u.cell? ⟨b', 4, none⟩ = some (.int .i64 a.lo) ∧ u.cell? ⟨b', 5, none⟩ = some (.int .i64 a.hi) ∧ u.cell? ⟨b', 6, none⟩ = some (.int .i64 b.k) ∧ u.cell? ⟨b', 7, none⟩ = some (.bool b.s) ∧ u.cell? ⟨b', 8, none⟩ = some (.int .i64 b.m) ∧ u.cell? ⟨b', 9, none⟩ = some (.int .i64 b.h) ∧ u.cell? ⟨b', 10, none⟩ = some (.int .i64 b.lo) ∧ u.cell? ⟨b', 11, none⟩ = some (.int .i64 b.hi) ∧ u.cell? ⟨b', 12, none⟩ = some (.int .i64 fl) ∧ u.cell? ⟨b', 13, none⟩ = some (.bool sec) :=
  ⟨q.2 0 (by simp), q.2 1 (by simp), q.2 2 (by simp), q.2 3 (by simp), q.2 4 (by simp), q.2 5 (by simp), q.2 6 (by simp), q.2 7 (by simp), q.2 8 (by simp), q.2 9 (by simp), q.2 10 (by simp), q.2 11 (by simp), q.2 12 (by simp), q.2 13 (by simp)⟩
set_option maxRecDepth 20000 in
set_option maxHeartbeats 8000000 in
theorem resultOf_1 (d ra rb imm h : Int) (a b : VV) (fl : Int) (sec : Bool) (hv : Value) (w : World) (ha : Bd a) (hb : Bd b) :
    Calls Try.prog 120 #[.agg #[.int .i64 1, .int .i64 d, .int .i64 ra, .int .i64 rb, .int .i64 imm, .int .i64 h], .agg #[.int .i64 a.k, .bool a.s, .int .i64 a.m, .int .i64 a.h, .int .i64 a.lo, .int .i64 a.hi, .int .i64 b.k, .bool b.s, .int .i64 b.m, .int .i64 b.h, .int .i64 b.lo, .int .i64 b.hi, .int .i64 fl, .bool sec], hv] w fun e w' => e = .returned (a).v ∧ Below w.heap.size w w' := by
  have HA : Hid (Bd a) := ha
  have HB : Hid (Bd b) := hb
  clear ha hb
  go_enter Try.func120, Try.ntmps120
  go_upto_region 1 with fail
  obtain ⟨u, hu, pu⟩ := ro_pre w (op := 1) (d := d) (ra := ra) (rb := rb) (imm := imm) (h := h) a b fl sec
  rw [hu]
  have P0 : Hid (RoP w u 1 d ra rb imm h a b fl sec) := pu
  clear hu pu
  have t0 : ∀ w', Below u.heap.size u w' → w'.cell? ⟨w.heap.size + 1, 0, none⟩ = some (.int .i64 a.k) := fun w' h => (P0.out.O.below h).2 0 (by simp)
  have t1 : ∀ w', Below u.heap.size u w' → w'.cell? ⟨w.heap.size + 1, 1, none⟩ = some (.bool a.s) := fun w' h => (P0.out.O.below h).2 1 (by simp)
  have t2 : ∀ w', Below u.heap.size u w' → w'.cell? ⟨w.heap.size + 1, 2, none⟩ = some (.int .i64 a.m) := fun w' h => (P0.out.O.below h).2 2 (by simp)
  have t3 : ∀ w', Below u.heap.size u w' → w'.cell? ⟨w.heap.size + 1, 3, none⟩ = some (.int .i64 a.h) := fun w' h => (P0.out.O.below h).2 3 (by simp)
  have t4 : ∀ w', Below u.heap.size u w' → w'.cell? ⟨w.heap.size + 1, 4, none⟩ = some (.int .i64 a.lo) := fun w' h => (P0.out.O.below h).2 4 (by simp)
  have t5 : ∀ w', Below u.heap.size u w' → w'.cell? ⟨w.heap.size + 1, 5, none⟩ = some (.int .i64 a.hi) := fun w' h => (P0.out.O.below h).2 5 (by simp)
  have t6 : ∀ w', Below u.heap.size u w' → w'.cell? ⟨w.heap.size + 1, 6, none⟩ = some (.int .i64 b.k) := fun w' h => (P0.out.O.below h).2 6 (by simp)
  have t7 : ∀ w', Below u.heap.size u w' → w'.cell? ⟨w.heap.size + 1, 7, none⟩ = some (.bool b.s) := fun w' h => (P0.out.O.below h).2 7 (by simp)
  have t8 : ∀ w', Below u.heap.size u w' → w'.cell? ⟨w.heap.size + 1, 8, none⟩ = some (.int .i64 b.m) := fun w' h => (P0.out.O.below h).2 8 (by simp)
  have t9 : ∀ w', Below u.heap.size u w' → w'.cell? ⟨w.heap.size + 1, 9, none⟩ = some (.int .i64 b.h) := fun w' h => (P0.out.O.below h).2 9 (by simp)
  have t10 : ∀ w', Below u.heap.size u w' → w'.cell? ⟨w.heap.size + 1, 10, none⟩ = some (.int .i64 b.lo) := fun w' h => (P0.out.O.below h).2 10 (by simp)
  have t11 : ∀ w', Below u.heap.size u w' → w'.cell? ⟨w.heap.size + 1, 11, none⟩ = some (.int .i64 b.hi) := fun w' h => (P0.out.O.below h).2 11 (by simp)
  refine wp_region_held_drew (S := fun w' => Below u.heap.size u w') (by kernel_rfl) (Below.refl _ _).drew (fun hHeld => ?_)
  refine wpAnyH_tk 0 ?k1v rfl ?k1y ?k1r
  case k1y => (intro w hSw; (try dsimp only at hSw); go_simp; try with_reducible rfl)
  try go_frame
  refine wpAnyH_tk 1 ?k2v rfl ?k2y ?k2r
  case k2y => (intro w hSw; (try dsimp only at hSw); go_simp; try with_reducible rfl)
  try go_frame
  refine wpAnyH_tk 3 ?k3v rfl ?k3y ?k3r
  case k3y => (intro w hSw; (try dsimp only at hSw); go_simp; try with_reducible rfl)
  try go_frame
  refine wpAnyH_tk 4 ?k4v rfl ?k4y ?k4r
  case k4y => (intro w hSw; (try dsimp only at hSw); go_simp; try with_reducible rfl)
  try go_frame
  clear t0 t1 t2 t3 t4 t5 t6 t7 t8 t9 t10 t11
  refine wpAnyH_ready (rs := [2]) (by kernel_rfl) (by simp) ?_
  refine AllReadyH.cons rfl (fun KK hK => ?_) AllReadyH.nil
  go_simp
  refine (maxOf_any a.k a.s a.m a.h a.lo a.hi _).mono ?_
  rintro e v1 ⟨rfl, hb⟩
  have hv1 : Below u.heap.size u v1 := (Below.refl _ _).drew.trans hb
  clear hb hHeld
  obtain ⟨ma, hm⟩ : ∃ m, maxV a = m := ⟨_, rfl⟩
  rw [show maxV ⟨a.k, a.s, a.m, a.h, a.lo, a.hi⟩ = ma from hm]
  have HMA : Hid (maxV a = ma) := hm
  clear hm
  go_wp2_with fail
  refine hK.out _ _ hv1 (fun _ => ?_)
  clear hK KK
  try go_frame
  refine wpAnyH_ready (rs := [5]) (by kernel_rfl) (by simp) ?_
  refine AllReadyH.cons rfl (fun KK hK => ?_) AllReadyH.nil
  go_simp
  refine (maxOf_any b.k b.s b.m b.h b.lo b.hi _).mono ?_
  rintro e v2 ⟨rfl, hb⟩
  have hv2 : Below u.heap.size u v2 := hv1.trans (hb.mono hv1.size)
  clear hb
  obtain ⟨mb, hm⟩ : ∃ m, maxV b = m := ⟨_, rfl⟩
  rw [show maxV ⟨b.k, b.s, b.m, b.h, b.lo, b.hi⟩ = mb from hm]
  have HMB : Hid (maxV b = mb) := hm
  clear hm
  go_wp2_with fail
  refine hK.out _ _ hv2 (fun _ => ?_)
  clear hK KK
  try go_frame
  refine wpAnyH_tk 6 ?k5v rfl ?k5y ?k5r
  case k5y => (intro w hSw; (try dsimp only at hSw); go_simp; try with_reducible rfl)
  try go_frame
  refine wpAnyH_tk 7 ?k6v rfl ?k6y ?k6r
  case k6y => (intro w hSw; (try dsimp only at hSw); go_simp; try with_reducible rfl)
  try go_frame
  refine wpAnyH_done (by kernel_rfl) ?_ _
  have P1 : Hid (RoP w v2 1 d ra rb imm h a b fl sec) := P0.out.below hv2
  clear P0 hv1 hv2
  obtain ⟨i0, i1, i2, i3, i4, i5⟩ := ins_cells P1.out.I
  obtain ⟨o0, o1, o2, o3, o4, o5, o6, o7, o8, o9, o10, o11, o12, o13⟩ := ro_ops P1.out.O
  obtain ⟨r0, r1, r2, r3, r4, r5⟩ := P1.out.R.cells
  have rf := P1.out.R.free
  have rl := P1.out.R.lt
  go_wp2
  exact bodyPost_ret (v := VV.v a) (by simp [results, Try.results120, go_sem, VV.v, *]) rfl ⟨congrArg (fun q => Ending.returned (VV.v q)) (rfl), below_putV P1.out.bel P1.out.oR _⟩
set_option maxRecDepth 20000 in
set_option maxHeartbeats 8000000 in
theorem resultOf_2 (d ra rb imm h : Int) (a b : VV) (fl : Int) (sec : Bool) (hv : Value) (w : World) (ha : Bd a) (hb : Bd b) :
    Calls Try.prog 120 #[.agg #[.int .i64 2, .int .i64 d, .int .i64 ra, .int .i64 rb, .int .i64 imm, .int .i64 h], .agg #[.int .i64 a.k, .bool a.s, .int .i64 a.m, .int .i64 a.h, .int .i64 a.lo, .int .i64 a.hi, .int .i64 b.k, .bool b.s, .int .i64 b.m, .int .i64 b.h, .int .i64 b.lo, .int .i64 b.hi, .int .i64 fl, .bool sec], hv] w fun e w' => e = .returned (numV false imm).v ∧ Below w.heap.size w w' := by
  obtain ⟨res, hres⟩ : ∃ r, (numV false imm) = r := ⟨_, rfl⟩
  rw [hres]
  have HR : Hid ((numV false imm) = res) := hres
  have HA : Hid (Bd a) := ha
  have HB : Hid (Bd b) := hb
  clear hres ha hb
  go_enter Try.func120, Try.ntmps120
  go_upto_region 1 with fail
  obtain ⟨u, hu, pu⟩ := ro_pre w (op := 2) (d := d) (ra := ra) (rb := rb) (imm := imm) (h := h) a b fl sec
  rw [hu]
  have P0 : Hid (RoP w u 2 d ra rb imm h a b fl sec) := pu
  clear hu pu
  have t0 : ∀ w', Below u.heap.size u w' → w'.cell? ⟨w.heap.size + 1, 0, none⟩ = some (.int .i64 a.k) := fun w' h => (P0.out.O.below h).2 0 (by simp)
  have t1 : ∀ w', Below u.heap.size u w' → w'.cell? ⟨w.heap.size + 1, 1, none⟩ = some (.bool a.s) := fun w' h => (P0.out.O.below h).2 1 (by simp)
  have t2 : ∀ w', Below u.heap.size u w' → w'.cell? ⟨w.heap.size + 1, 2, none⟩ = some (.int .i64 a.m) := fun w' h => (P0.out.O.below h).2 2 (by simp)
  have t3 : ∀ w', Below u.heap.size u w' → w'.cell? ⟨w.heap.size + 1, 3, none⟩ = some (.int .i64 a.h) := fun w' h => (P0.out.O.below h).2 3 (by simp)
  have t4 : ∀ w', Below u.heap.size u w' → w'.cell? ⟨w.heap.size + 1, 4, none⟩ = some (.int .i64 a.lo) := fun w' h => (P0.out.O.below h).2 4 (by simp)
  have t5 : ∀ w', Below u.heap.size u w' → w'.cell? ⟨w.heap.size + 1, 5, none⟩ = some (.int .i64 a.hi) := fun w' h => (P0.out.O.below h).2 5 (by simp)
  have t6 : ∀ w', Below u.heap.size u w' → w'.cell? ⟨w.heap.size + 1, 6, none⟩ = some (.int .i64 b.k) := fun w' h => (P0.out.O.below h).2 6 (by simp)
  have t7 : ∀ w', Below u.heap.size u w' → w'.cell? ⟨w.heap.size + 1, 7, none⟩ = some (.bool b.s) := fun w' h => (P0.out.O.below h).2 7 (by simp)
  have t8 : ∀ w', Below u.heap.size u w' → w'.cell? ⟨w.heap.size + 1, 8, none⟩ = some (.int .i64 b.m) := fun w' h => (P0.out.O.below h).2 8 (by simp)
  have t9 : ∀ w', Below u.heap.size u w' → w'.cell? ⟨w.heap.size + 1, 9, none⟩ = some (.int .i64 b.h) := fun w' h => (P0.out.O.below h).2 9 (by simp)
  have t10 : ∀ w', Below u.heap.size u w' → w'.cell? ⟨w.heap.size + 1, 10, none⟩ = some (.int .i64 b.lo) := fun w' h => (P0.out.O.below h).2 10 (by simp)
  have t11 : ∀ w', Below u.heap.size u w' → w'.cell? ⟨w.heap.size + 1, 11, none⟩ = some (.int .i64 b.hi) := fun w' h => (P0.out.O.below h).2 11 (by simp)
  refine wp_region_held_drew (S := fun w' => Below u.heap.size u w') (by kernel_rfl) (Below.refl _ _).drew (fun hHeld => ?_)
  refine wpAnyH_tk 0 ?k7v rfl ?k7y ?k7r
  case k7y => (intro w hSw; (try dsimp only at hSw); go_simp; try with_reducible rfl)
  try go_frame
  refine wpAnyH_tk 1 ?k8v rfl ?k8y ?k8r
  case k8y => (intro w hSw; (try dsimp only at hSw); go_simp; try with_reducible rfl)
  try go_frame
  refine wpAnyH_tk 3 ?k9v rfl ?k9y ?k9r
  case k9y => (intro w hSw; (try dsimp only at hSw); go_simp; try with_reducible rfl)
  try go_frame
  refine wpAnyH_tk 4 ?k10v rfl ?k10y ?k10r
  case k10y => (intro w hSw; (try dsimp only at hSw); go_simp; try with_reducible rfl)
  try go_frame
  clear t0 t1 t2 t3 t4 t5 t6 t7 t8 t9 t10 t11
  refine wpAnyH_ready (rs := [2]) (by kernel_rfl) (by simp) ?_
  refine AllReadyH.cons rfl (fun KK hK => ?_) AllReadyH.nil
  go_simp
  refine (maxOf_any a.k a.s a.m a.h a.lo a.hi _).mono ?_
  rintro e v1 ⟨rfl, hb⟩
  have hv1 : Below u.heap.size u v1 := (Below.refl _ _).drew.trans hb
  clear hb hHeld
  obtain ⟨ma, hm⟩ : ∃ m, maxV a = m := ⟨_, rfl⟩
  rw [show maxV ⟨a.k, a.s, a.m, a.h, a.lo, a.hi⟩ = ma from hm]
  have HMA : Hid (maxV a = ma) := hm
  clear hm
  go_wp2_with fail
  refine hK.out _ _ hv1 (fun _ => ?_)
  clear hK KK
  try go_frame
  refine wpAnyH_ready (rs := [5]) (by kernel_rfl) (by simp) ?_
  refine AllReadyH.cons rfl (fun KK hK => ?_) AllReadyH.nil
  go_simp
  refine (maxOf_any b.k b.s b.m b.h b.lo b.hi _).mono ?_
  rintro e v2 ⟨rfl, hb⟩
  have hv2 : Below u.heap.size u v2 := hv1.trans (hb.mono hv1.size)
  clear hb
  obtain ⟨mb, hm⟩ : ∃ m, maxV b = m := ⟨_, rfl⟩
  rw [show maxV ⟨b.k, b.s, b.m, b.h, b.lo, b.hi⟩ = mb from hm]
  have HMB : Hid (maxV b = mb) := hm
  clear hm
  go_wp2_with fail
  refine hK.out _ _ hv2 (fun _ => ?_)
  clear hK KK
  try go_frame
  refine wpAnyH_tk 6 ?k11v rfl ?k11y ?k11r
  case k11y => (intro w hSw; (try dsimp only at hSw); go_simp; try with_reducible rfl)
  try go_frame
  refine wpAnyH_tk 7 ?k12v rfl ?k12y ?k12r
  case k12y => (intro w hSw; (try dsimp only at hSw); go_simp; try with_reducible rfl)
  try go_frame
  refine wpAnyH_done (by kernel_rfl) ?_ _
  have P1 : Hid (RoP w v2 2 d ra rb imm h a b fl sec) := P0.out.below hv2
  clear P0 hv1 hv2
  obtain ⟨i0, i1, i2, i3, i4, i5⟩ := ins_cells P1.out.I
  obtain ⟨o0, o1, o2, o3, o4, o5, o6, o7, o8, o9, o10, o11, o12, o13⟩ := ro_ops P1.out.O
  obtain ⟨r0, r1, r2, r3, r4, r5⟩ := P1.out.R.cells
  have rf := P1.out.R.free
  have rl := P1.out.R.lt
  go_wp2_with fail
  refine (number_any false imm _).mono ?_
  rintro e y1 ⟨rfl, hb⟩
  have P2 : Hid (RoP w y1 2 d ra rb imm h a b fl sec) := P1.out.below hb
  clear hb
  clear i0 i1 i2 i3 i4 i5 o0 o1 o2 o3 o4 o5 o6 o7 o8 o9 o10 o11 o12 o13 r0 r1 r2 r3 r4 r5 rf rl
  obtain ⟨i0, i1, i2, i3, i4, i5⟩ := ins_cells P2.out.I
  obtain ⟨o0, o1, o2, o3, o4, o5, o6, o7, o8, o9, o10, o11, o12, o13⟩ := ro_ops P2.out.O
  obtain ⟨r0, r1, r2, r3, r4, r5⟩ := P2.out.R.cells
  have rf := P2.out.R.free
  have rl := P2.out.R.lt
  simp only [VV.v]
  go_wp2
  exact bodyPost_ret (v := VV.v (numV false imm)) (by simp [results, Try.results120, go_sem, VV.v, *]) rfl ⟨congrArg (fun q => Ending.returned (VV.v q)) (by rw [← HR.out]), below_putV P2.out.bel P2.out.oR _⟩
end Go.Proofs.Ytjnooklalbcamaa
/- Slices copied by an append to nil. -/
namespace Go.Proofs.Ytjnooklalbcamaa
open Go.RowKit

/-- The first m values of f, as a list. -/
def first (m : Nat) (f : Nat → Value) : List Value := (List.range m).map f
theorem first_length (m : Nat) (f : Nat → Value) : (first m f).length = m := by simp [first]
theorem first_get {m : Nat} {f : Nat → Value} {j : Nat} {u : Value} (h : (first m f)[j]? = some u) : j < m ∧ u = f j := by
  unfold first at h
  rw [List.getElem?_map] at h
  by_cases hj : j < m
  · rw [List.getElem?_range hj] at h
    exact ⟨hj, by simpa using h.symm⟩
  · rw [List.getElem?_eq_none (by simpa using Nat.le_of_not_lt hj)] at h
    cases h
theorem first_mem {m : Nat} {f : Nat → Value} {u : Value} (h : u ∈ first m f) : ∃ j, j < m ∧ u = f j := by
  unfold first at h
  simp only [List.mem_map, List.mem_range] at h
  obtain ⟨j, hj, rfl⟩ := h
  exact ⟨j, hj, rfl⟩

theorem info_cU : (Try.prog.info? 28).map (fun i => (i.zero, i.size, i.bytes)) = some (some (.int .u64 0), 1, 8) := by kernel_rfl
theorem info_cB : (Try.prog.info? 5).map (fun i => (i.zero, i.size, i.bytes)) = some (some (.int .u8 0), 1, 1) := by kernel_rfl
theorem info_cO : (Try.prog.info? 147).map (fun i => (i.zero, i.size, i.bytes)) = some (some (.agg #[.int .i64 0, .int .u64 0]), 2, 16) := by kernel_rfl
theorem info_cH : (Try.prog.info? 30).map (fun i => (i.zero, i.size, i.bytes)) = some (some (.agg #[.int .u64 0, .bool false, .slice none 0 0]), 3, 40) := by kernel_rfl
end Go.Proofs.Ytjnooklalbcamaa
/- The facts (eight Vals and two flags) and the operands (two Vals, a flag, a Bool) as blocks. -/
namespace Go.Proofs.Ytjnooklalbcamaa
open Go.RowKit
def fF (V : Nat → VV) (z c : Int) (i : Nat) : Value := if i < 48 then vF V i else if i = 48 then .int .i64 z else .int .i64 c
def facA (V : Nat → VV) (z c : Int) : Array Value := (first 50 (fF V z c)).toArray
theorem Arr.newFirst (w : World) (n : Nat) (f : Nat → Value) (t : TypeId) : Arr (w.alloc (.cells (first n f).toArray t)) w.heap.size n f := by
  refine ⟨by simp, fun i => by simp [go_sem], fun i hi => ?_⟩
  have e : (first n f)[i]? = some (f i) := by simp [first, hi]
  simp [go_sem, e]
theorem fF_val (V : Nat → VV) (z c : Int) (k j : Nat) (hk : k < 8) (hj : j < 6) : fF V z c (k * 6 + j) = vC (V k) j := by
  unfold fF
  rw [if_pos (by omega), vF_at V k j hj]
def oL (a b : VV) (fl : Int) (sec : Bool) : List Value := [.int .i64 a.k, .bool a.s, .int .i64 a.m, .int .i64 a.h, .int .i64 a.lo, .int .i64 a.hi, .int .i64 b.k, .bool b.s, .int .i64 b.m, .int .i64 b.h, .int .i64 b.lo, .int .i64 b.hi, .int .i64 fl, .bool sec]
def oC (a b : VV) (fl : Int) (sec : Bool) (i : Nat) : Value := (oL a b fl sec).getD i undef
def Ob (w : World) (q : Nat) (a b : VV) (fl : Int) (sec : Bool) : Prop := Arr w q 14 (oC a b fl sec)
theorem Ob.new (w : World) (a b : VV) (fl : Int) (sec : Bool) (t : TypeId) : Ob (w.alloc (.cells #[.int .i64 a.k, .bool a.s, .int .i64 a.m, .int .i64 a.h, .int .i64 a.lo, .int .i64 a.hi, .int .i64 b.k, .bool b.s, .int .i64 b.m, .int .i64 b.h, .int .i64 b.lo, .int .i64 b.hi, .int .i64 fl, .bool sec] t)) w.heap.size a b fl sec :=
  ⟨by simp, fun i => by simp [go_sem], fun i hi => (Cl.new (w := w) (vs := #[.int .i64 a.k, .bool a.s, .int .i64 a.m, .int .i64 a.h, .int .i64 a.lo, .int .i64 a.hi, .int .i64 b.k, .bool b.s, .int .i64 b.m, .int .i64 b.h, .int .i64 b.lo, .int .i64 b.hi, .int .i64 fl, .bool sec]) (t := t)).2 i hi⟩
theorem Ob.cells {u : World} {q : Nat} {a b : VV} {fl : Int} {sec : Bool} (h : Ob u q a b fl sec) : u.cell? ⟨q, 0, none⟩ = some (.int .i64 a.k) ∧ u.cell? ⟨q, 1, none⟩ = some (.bool a.s) ∧ u.cell? ⟨q, 2, none⟩ = some (.int .i64 a.m) ∧ u.cell? ⟨q, 3, none⟩ = some (.int .i64 a.h) ∧ u.cell? ⟨q, 4, none⟩ = some (.int .i64 a.lo) ∧ u.cell? ⟨q, 5, none⟩ = some (.int .i64 a.hi) ∧ u.cell? ⟨q, 6, none⟩ = some (.int .i64 b.k) ∧ u.cell? ⟨q, 7, none⟩ = some (.bool b.s) ∧ u.cell? ⟨q, 8, none⟩ = some (.int .i64 b.m) ∧ u.cell? ⟨q, 9, none⟩ = some (.int .i64 b.h) ∧ u.cell? ⟨q, 10, none⟩ = some (.int .i64 b.lo) ∧ u.cell? ⟨q, 11, none⟩ = some (.int .i64 b.hi) ∧ u.cell? ⟨q, 12, none⟩ = some (.int .i64 fl) ∧ u.cell? ⟨q, 13, none⟩ = some (.bool sec) :=
  ⟨h.cell (i := 0) (by omega), h.cell (i := 1) (by omega), h.cell (i := 2) (by omega), h.cell (i := 3) (by omega), h.cell (i := 4) (by omega), h.cell (i := 5) (by omega), h.cell (i := 6) (by omega), h.cell (i := 7) (by omega), h.cell (i := 8) (by omega), h.cell (i := 9) (by omega), h.cell (i := 10) (by omega), h.cell (i := 11) (by omega), h.cell (i := 12) (by omega), h.cell (i := 13) (by omega)⟩
theorem fourteen {p : Nat → Prop} (h0 : p 0) (h1 : p 1) (h2 : p 2) (h3 : p 3) (h4 : p 4) (h5 : p 5) (h6 : p 6) (h7 : p 7) (h8 : p 8) (h9 : p 9) (h10 : p 10) (h11 : p 11) (h12 : p 12) (h13 : p 13) : ∀ i, i < 14 → p i := by
  intro i hi
  match i, hi with
  | 0, _ => exact h0
  | 1, _ => exact h1
  | 2, _ => exact h2
  | 3, _ => exact h3
  | 4, _ => exact h4
  | 5, _ => exact h5
  | 6, _ => exact h6
  | 7, _ => exact h7
  | 8, _ => exact h8
  | 9, _ => exact h9
  | 10, _ => exact h10
  | 11, _ => exact h11
  | 12, _ => exact h12
  | 13, _ => exact h13
def putB (w : World) (b : Nat) (x : VV) : World := (((((w.setCell ⟨b, 6, none⟩ (.int .i64 x.k)).setCell ⟨b, 7, none⟩ (.bool x.s)).setCell ⟨b, 8, none⟩ (.int .i64 x.m)).setCell ⟨b, 9, none⟩ (.int .i64 x.h)).setCell ⟨b, 10, none⟩ (.int .i64 x.lo)).setCell ⟨b, 11, none⟩ (.int .i64 x.hi)
theorem Ob.setA {w : World} {q : Nat} {a b : VV} {fl : Int} {sec : Bool} (h : Ob w q a b fl sec) (x : VV) : Ob (putV w q x) q x b fl sec :=
  (Arr.set1 (Arr.set1 (Arr.set1 (Arr.set1 (Arr.set1 (Arr.set1 h 0 (by omega) _) 1 (by omega) _) 2 (by omega) _) 3 (by omega) _) 4 (by omega) _) 5 (by omega) _).congr (fourteen rfl rfl rfl rfl rfl rfl rfl rfl rfl rfl rfl rfl rfl rfl)
theorem Ob.setB {w : World} {q : Nat} {a b : VV} {fl : Int} {sec : Bool} (h : Ob w q a b fl sec) (x : VV) : Ob (putB w q x) q a x fl sec :=
  (Arr.set1 (Arr.set1 (Arr.set1 (Arr.set1 (Arr.set1 (Arr.set1 h 6 (by omega) _) 7 (by omega) _) 8 (by omega) _) 9 (by omega) _) 10 (by omega) _) 11 (by omega) _).congr (fourteen rfl rfl rfl rfl rfl rfl rfl rfl rfl rfl rfl rfl rfl rfl)
theorem Ob.setF {w : World} {q : Nat} {a b : VV} {fl : Int} {sec : Bool} (h : Ob w q a b fl sec) (x : Int) : Ob (w.setCell ⟨q, 12, none⟩ (.int .i64 x)) q a b x sec :=
  (Arr.set1 h 12 (by omega) _).congr (fourteen rfl rfl rfl rfl rfl rfl rfl rfl rfl rfl rfl rfl rfl rfl)
theorem Ob.setS {w : World} {q : Nat} {a b : VV} {fl : Int} {sec : Bool} (h : Ob w q a b fl sec) (x : Bool) : Ob (w.setCell ⟨q, 13, none⟩ (.bool x)) q a b fl x :=
  (Arr.set1 h 13 (by omega) _).congr (fourteen rfl rfl rfl rfl rfl rfl rfl rfl rfl rfl rfl rfl rfl rfl)
/-- Where operandsOf stands. -/
structure OoP (w u : World) (V : Nat → VV) (z c op d ra rb imm h : Int) (a b : VV) (fl : Int) (sec : Bool) : Prop where
  bel : Below w.heap.size w u
  F : Arr u w.heap.size 50 (fF V z c)
  I : Cl u (w.heap.size + 1) [.int .i64 op, .int .i64 d, .int .i64 ra, .int .i64 rb, .int .i64 imm, .int .i64 h]
  R : Ob u (w.heap.size + 1 + 1) zV zV 0 false
  O : Ob u (w.heap.size + 1 + 1 + 1) a b fl sec
theorem OoP.upd {w u v : World} {V : Nat → VV} {z c op d ra rb imm h : Int} {a b a' b' : VV} {fl fl' : Int} {sec sec' : Bool} (p : OoP w u V z c op d ra rb imm h a b fl sec) (hb : Below (w.heap.size + 1 + 1 + 1) u v) (ho : Ob v (w.heap.size + 1 + 1 + 1) a' b' fl' sec') : OoP w v V z c op d ra rb imm h a' b' fl' sec' :=
  ⟨p.bel.trans (hb.mono (by omega)), p.F.below hb (by omega), ⟨Nat.lt_of_lt_of_le p.I.1 hb.size, fun i hi => (hb.cell (p := ⟨w.heap.size + 1, i, none⟩) (show w.heap.size + 1 < _ by omega)).trans (p.I.2 i hi)⟩, Arr.below p.R hb (by omega), ho⟩
theorem oo_pre (w : World) (V : Nat → VV) (z c : Int) (FA : Array Value) (hF : FA = facA V z c) {op d ra rb imm h : Int} : ∃ u, (((w.alloc (.cells FA 127)).alloc (.cells #[.int .i64 op, .int .i64 d, .int .i64 ra, .int .i64 rb, .int .i64 imm, .int .i64 h] 79)).alloc (.cells #[.int .i64 0, .bool false, .int .i64 0, .int .i64 0, .int .i64 0, .int .i64 0, .int .i64 0, .bool false, .int .i64 0, .int .i64 0, .int .i64 0, .int .i64 0, .int .i64 0, .bool false] 164)).alloc (.cells #[.int .i64 0, .bool false, .int .i64 0, .int .i64 0, .int .i64 0, .int .i64 0, .int .i64 0, .bool false, .int .i64 0, .int .i64 0, .int .i64 0, .int .i64 0, .int .i64 1, .bool false] 164) = u ∧ OoP w u V z c op d ra rb imm h zV zV 1 false := by
  subst hF
  have e0 := Arr.newFirst w 50 (fF V z c) 127
  generalize hx : w.alloc (.cells (facA V z c) 127) = x
  have s0 : x.heap.size = w.heap.size + 1 := by rw [← hx]; simp
  rw [show w.alloc (.cells (first 50 (fF V z c)).toArray 127) = x from hx] at e0
  have b0 : Below w.heap.size w x := by rw [← hx]; exact (Below.refl _ _).alloc (Nat.le_refl _) _
  clear hx
  have e1 := Cl.new (w := x) (vs := #[.int .i64 op, .int .i64 d, .int .i64 ra, .int .i64 rb, .int .i64 imm, .int .i64 h]) (t := 79)
  generalize hy : x.alloc (.cells #[.int .i64 op, .int .i64 d, .int .i64 ra, .int .i64 rb, .int .i64 imm, .int .i64 h] 79) = y at *
  have s1 : y.heap.size = w.heap.size + 1 + 1 := by rw [← hy]; simp [s0]
  have b1 : Below x.heap.size x y := by rw [← hy]; exact (Below.refl _ _).alloc (Nat.le_refl _) _
  clear hy
  have e2 := Ob.new y zV zV 0 false 164
  change ∃ u, (y.alloc (.cells #[.int .i64 zV.k, .bool zV.s, .int .i64 zV.m, .int .i64 zV.h, .int .i64 zV.lo, .int .i64 zV.hi, .int .i64 zV.k, .bool zV.s, .int .i64 zV.m, .int .i64 zV.h, .int .i64 zV.lo, .int .i64 zV.hi, .int .i64 0, .bool false] 164)).alloc _ = u ∧ _
  generalize hz : y.alloc (.cells #[.int .i64 zV.k, .bool zV.s, .int .i64 zV.m, .int .i64 zV.h, .int .i64 zV.lo, .int .i64 zV.hi, .int .i64 zV.k, .bool zV.s, .int .i64 zV.m, .int .i64 zV.h, .int .i64 zV.lo, .int .i64 zV.hi, .int .i64 0, .bool false] 164) = zz at *
  have s2 : zz.heap.size = w.heap.size + 1 + 1 + 1 := by rw [← hz]; simp [s1]
  have b2 : Below y.heap.size y zz := by rw [← hz]; exact (Below.refl _ _).alloc (Nat.le_refl _) _
  clear hz
  have e3 := Ob.new zz zV zV 1 false 164
  have b3 : Below zz.heap.size zz (zz.alloc (.cells #[.int .i64 zV.k, .bool zV.s, .int .i64 zV.m, .int .i64 zV.h, .int .i64 zV.lo, .int .i64 zV.hi, .int .i64 zV.k, .bool zV.s, .int .i64 zV.m, .int .i64 zV.h, .int .i64 zV.lo, .int .i64 zV.hi, .int .i64 1, .bool false] 164)) := (Below.refl _ _).alloc (Nat.le_refl _) _
  rw [s0] at e1 b1
  rw [s1] at e2 b2
  rw [s2] at e3 b3
  refine ⟨_, rfl, ((b0.trans (b1.mono (by omega))).trans (b2.mono (by omega))).trans (b3.mono (by omega)), ((e0.below b1 (by omega)).below b2 (by omega)).below b3 (by omega), (e1.below (by rw [s1]; exact b2)).below (by rw [s2]; exact b3), Arr.below e2 b3 (by omega), e3⟩
end Go.Proofs.Ytjnooklalbcamaa
