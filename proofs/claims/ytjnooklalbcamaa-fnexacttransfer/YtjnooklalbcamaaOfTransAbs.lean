import Derived.Test.YtjnooklalbcamaaRows
import Derived.Test.YtjnooklalbcamaaOfValGood
import Derived.WalkKit
import Derived.WalkSpells
import Derived.WalkLawsBesides
import Derived.Test.YtjnooklalbcamaaOfTransFacts
import Derived.Deep.MidRow
/- The contracts of the small functions under ValidIns. -/
namespace Go.Proofs.Ytjnooklalbcamaa
open Go.RowKit

set_option maxHeartbeats 400000 in
theorem uses_any (op : Int) (w : World) :
    Calls Try.prog 76 #[.int .i64 op] w fun e w' => e = .returned (.string (usesS op)) ∧ w' = w := by
  go_enter Try.func76, Try.ntmps76
  go_wp2
  all_goals (go_ret; refine ⟨ret_str ?_, rfl⟩; simp_all [usesS, usesL])

set_option maxHeartbeats 400000 in
theorem fields_any (op : Int) (w : World) :
    Calls Try.prog 114 #[.int .i64 op] w fun e w' => e = .returned (.int .i64 (fieldsI op)) ∧ w' = w := by
  go_enter Try.func114, Try.ntmps114
  go_wp2
  all_goals (go_ret; refine ⟨ret_int ?_, rfl⟩; simp_all [fieldsI])

set_option maxHeartbeats 400000 in
theorem bounds_any (op : Int) (w : World) :
    Calls Try.prog 115 #[.int .i64 op] w fun e w' => e = .returned (.tuple #[.int .i64 (immLo op), .int .i64 (immHi op)]) ∧ w' = w := by
  go_enter Try.func115, Try.ntmps115
  go_wp2
  all_goals (go_ret2; refine ⟨ret_int2 ?_ ?_, rfl⟩ <;> simp_all [immLo, immHi] <;> omega)

set_option maxHeartbeats 400000 in
theorem jump_any (op : Int) (w : World) :
    Calls Try.prog 105 #[.int .i64 op] w fun e w' => e = .returned (.bool (jumpB op)) ∧ w' = w := by
  go_enter Try.func105, Try.ntmps105
  go_wp2
  all_goals (go_ret; refine ⟨ret_bool ?_, rfl⟩; simp [jumpB] <;> omega)

set_option maxHeartbeats 400000 in
theorem in_any (x lo hi : Int) (w : World) :
    Calls Try.prog 49 #[.int .i64 x, .int .i64 lo, .int .i64 hi] w fun e w' => e = .returned (.bool (inB x lo hi)) ∧ w' = w := by
  go_enter Try.func49, Try.ntmps49
  go_wp2
  all_goals (go_ret; refine ⟨ret_bool ?_, rfl⟩; simp [inB] <;> omega)

set_option maxHeartbeats 400000 in
theorem field_any (u : Bool) (x lo hi : Int) (w : World) :
    Calls Try.prog 116 #[.bool u, .int .i64 x, .int .i64 lo, .int .i64 hi] w fun e w' => e = .returned (.bool (fieldB u x lo hi)) ∧ w' = w := by
  go_enter Try.func116, Try.ntmps116
  go_wp2
  all_goals (go_ret; refine ⟨ret_bool ?_, rfl⟩; cases u <;> simp_all [fieldB, inB] <;> omega)

set_option maxHeartbeats 400000 in
theorem has_any (s : ByteArray) (b : UInt8) (w : World) (hs : s.size ≤ maxLen) :
    Calls Try.prog 77 #[.string s, .int .u8 b.toNat] w fun e w' => e = .returned (.bool (hasB s b)) ∧ w' = w := by
  unfold maxLen at hs
  go_enter Try.func77, Try.ntmps77
  go_wp2
  go_loop [5] (fun i => ∃ k : Nat, k ≤ s.size ∧ i = .int .i64 k ∧ (s.data.toList.take k).contains b = false) (fun i => s.size - (intOf i).toNat)
  case atStart => exact ⟨0, Nat.zero_le _, rfl, rfl⟩
  case round =>
    obtain ⟨k, hk, rfl, hno⟩ := hrel
    have HN : Hid ((s.data.toList.take k).contains b = false) := hno
    clear hno
    by_cases hlt : k < s.size
    · have HT : Hid (s.data.toList.take (k + 1) = s.data.toList.take k ++ [s[k]]) := take_snoc s k hlt
      go_wp2
      · go_ret
        refine ⟨ret_bool ?_, rfl⟩
        have h : ((s[k].toNat : Int) == (b.toNat : Int)) = true := by assumption
        exact (has_yes s b k hlt h).symm
      · go_round
        case rel => exact ⟨k + 1, by omega, by go_num, has_no s b k HN.out HT.out (by assumption)⟩
        case measure => simp [intOf]; omega
    · go_wp2
      go_ret
      exact ⟨ret_bool (has_end s b k hk (by omega) HN.out).symm, rfl⟩
end Go.Proofs.Ytjnooklalbcamaa
/- What is refused: the program's word. -/
namespace Go.Proofs.Ytjnooklalbcamaa
open Go.RowKit
theorem facts_info : (Try.prog.info? 127).map (·.size) = some 50 := by kernel_rfl
theorem facts_load {u : World} {b : Nat} {V : Nat → VV} {z c : Int} (h : Arr u b 50 (fF V z c)) : (Instr.loadAt 127 (.pointer (some ⟨b, 0, none⟩))).run Try.prog u = .ok (.agg (facA V z c)) u :=
  run_loadAt_mid u b 0 _ (first 50 (fF V z c)) _ (fun j v hv => by obtain ⟨hm, rfl⟩ := first_get hv; rw [Nat.zero_add]; exact h.cell hm) Try.underlying127 rfl (by rw [first_length]; exact facts_info)
theorem exec_load {P : Program} {a : Act} {op : Oper} {w : World} (ty : TypeId) (x : Operand) (ho : op.op = .load ty x) (b o : Nat) (hx : a.eval x = .pointer (some ⟨b, o, none⟩)) {v : Value} (hl : (Instr.loadAt ty (.pointer (some ⟨b, o, none⟩))).run P w = .ok v w) : (execOp a.eval op).run P w = .ok (.value v) w := by
  unfold execOp
  simp only [ho, hx, Sem.run_bind, hl, Result.andThen_ok, Sem.run_pure]
theorem wpList_load_facts {ops : Array Oper} {rest : List Oper} {op : Oper} {a : Act} {w : World} {Q : Exit → Act → World → Prop} (hgd : op.guard = none) (x : Operand) (ho : op.op = .load 127 x) (b : Nat) (hx : a.eval x = .pointer (some ⟨b, 0, none⟩)) (V : Nat → VV) (z c : Int) (FA : Array Value) (hF : FA = facA V z c) (hc : Arr w b 50 (fF V z c))
    (h : wpList Try.prog ops Q rest (a.put op.dst (.agg FA)) w) : wpList Try.prog ops Q (op :: rest) a w := by
  subst hF
  exact wpList_load_mid hgd 127 x ho b 0 hx (first 50 (fF V z c)) _ (fun j v hv => by obtain ⟨hm, rfl⟩ := first_get hv; rw [Nat.zero_add]; exact hc.cell hm) Try.underlying127 rfl (by rw [first_length]; exact facts_info) h
def wdI (op : Int) : Int := if op = 21 ∨ op = 23 ∨ op = 25 ∨ op = 27 then 1 else 8
theorem wdI_le (op : Int) : 1 ≤ wdI op ∧ wdI op ≤ 8 := by unfold wdI; split <;> omega
def stB (op : Int) : Bool := decide (op = 23 ∨ op = 24 ∨ op = 27 ∨ op = 28)
/-- Why an access is refused; 0: it is not. -/
def accI (op imm h : Int) (a b x : VV) (g : HS) : Int :=
  if a.k ≠ 1 then 3 else if a.h ≠ h then 4 else if b.s = true ∨ maxV b < 0 then 5
  else if a.lo + imm < 0 ∨ g.size < a.hi + imm + b.m + wdI op then 6
  else if stB op = false then 0 else if g.w = false then 7 else if x.s = true ∧ g.s = false then 8 else 0
/-- Where a refusal stands: the facts, the instruction, the operands. -/
structure RaP (w u : World) (V : Nat → VV) (z c op d ra rb imm h : Int) (a b : VV) (fl : Int) (sec : Bool) : Prop where
  bel : Below w.heap.size w u
  F : Arr u w.heap.size 50 (fF V z c)
  I : Cl u (w.heap.size + 1) [.int .i64 op, .int .i64 d, .int .i64 ra, .int .i64 rb, .int .i64 imm, .int .i64 h]
  O : Cl u (w.heap.size + 1 + 1) [.int .i64 a.k, .bool a.s, .int .i64 a.m, .int .i64 a.h, .int .i64 a.lo, .int .i64 a.hi, .int .i64 b.k, .bool b.s, .int .i64 b.m, .int .i64 b.h, .int .i64 b.lo, .int .i64 b.hi, .int .i64 fl, .bool sec]
theorem RaP.below {w u v : World} {V : Nat → VV} {z c op d ra rb imm h : Int} {a b : VV} {fl : Int} {sec : Bool} (p : RaP w u V z c op d ra rb imm h a b fl sec) (hb : Below u.heap.size u v) : RaP w v V z c op d ra rb imm h a b fl sec :=
  ⟨p.bel.trans (hb.mono p.bel.size), p.F.below hb p.F.lt, p.I.below hb, p.O.below hb⟩
theorem ra_pre (w : World) (V : Nat → VV) (z c : Int) (FA : Array Value) (hF : FA = facA V z c) {op d ra rb imm h : Int} (a b : VV) (fl : Int) (sec : Bool) : ∃ u, ((w.alloc (.cells FA 127)).alloc (.cells #[.int .i64 op, .int .i64 d, .int .i64 ra, .int .i64 rb, .int .i64 imm, .int .i64 h] 79)).alloc (.cells #[.int .i64 a.k, .bool a.s, .int .i64 a.m, .int .i64 a.h, .int .i64 a.lo, .int .i64 a.hi, .int .i64 b.k, .bool b.s, .int .i64 b.m, .int .i64 b.h, .int .i64 b.lo, .int .i64 b.hi, .int .i64 fl, .bool sec] 164) = u ∧ RaP w u V z c op d ra rb imm h a b fl sec := by
  subst hF
  have e0 := Arr.newFirst w 50 (fF V z c) 127
  generalize hx : w.alloc (.cells (facA V z c) 127) = x
  have s0 : x.heap.size = w.heap.size + 1 := by rw [← hx]; simp
  rw [show w.alloc (.cells (first 50 (fF V z c)).toArray 127) = x from hx] at e0
  have b0 : Below w.heap.size w x := by rw [← hx]; exact (Below.refl _ _).alloc (Nat.le_refl _) _
  clear hx
  have e1 := Cl.new (w := x) (vs := #[.int .i64 op, .int .i64 d, .int .i64 ra, .int .i64 rb, .int .i64 imm, .int .i64 h]) (t := 79)
  generalize hy : x.alloc (.cells #[.int .i64 op, .int .i64 d, .int .i64 ra, .int .i64 rb, .int .i64 imm, .int .i64 h] 79) = y at *
  have s1 : y.heap.size = w.heap.size + 1 + 1 := by rw [← hy]; simp [s0]
  have b1 : Below x.heap.size x y := by rw [← hy]; exact (Below.refl _ _).alloc (Nat.le_refl _) _
  clear hy
  have e2 := Cl.new (w := y) (vs := #[.int .i64 a.k, .bool a.s, .int .i64 a.m, .int .i64 a.h, .int .i64 a.lo, .int .i64 a.hi, .int .i64 b.k, .bool b.s, .int .i64 b.m, .int .i64 b.h, .int .i64 b.lo, .int .i64 b.hi, .int .i64 fl, .bool sec]) (t := 164)
  have b2 : Below y.heap.size y (y.alloc (.cells #[.int .i64 a.k, .bool a.s, .int .i64 a.m, .int .i64 a.h, .int .i64 a.lo, .int .i64 a.hi, .int .i64 b.k, .bool b.s, .int .i64 b.m, .int .i64 b.h, .int .i64 b.lo, .int .i64 b.hi, .int .i64 fl, .bool sec] 164)) := (Below.refl _ _).alloc (Nat.le_refl _) _
  rw [s0] at e1 b1
  rw [s1] at e2 b2
  exact ⟨_, rfl, (b0.trans (b1.mono (by omega))).trans (b2.mono (by omega)), (e0.below b1 (by omega)).below b2 (by omega), e1.below (by rw [s1]; exact b2), e2⟩

set_option maxRecDepth 20000 in
set_option maxHeartbeats 8000000 in
theorem refAcc_any (V : Nat → VV) (z c : Int) (FA : Array Value) (hF : FA = facA V z c) (op ra rb imm : Int) (di q : Nat) (hd : di < 8) (a b : VV) (fl : Int) (sec : Bool) (bH cH nH : Nat) (S : Nat → HS) (w : World) (_lH : nH ≤ 1048576) (hqi : a.k = 1 → a.h = (q : Int) → q < nH) (hh : Arr w bH (nH * 3) (hsF S)) (ha : Bd a) (hb : Bd b) (n0 : -1000000 ≤ imm) (n1 : imm ≤ 1000000) :
    Calls Try.prog 132 #[.agg FA, .agg #[.int .i64 op, .int .i64 (di : Int), .int .i64 ra, .int .i64 rb, .int .i64 imm, .int .i64 (q : Int)], .agg #[.int .i64 a.k, .bool a.s, .int .i64 a.m, .int .i64 a.h, .int .i64 a.lo, .int .i64 a.hi, .int .i64 b.k, .bool b.s, .int .i64 b.m, .int .i64 b.h, .int .i64 b.lo, .int .i64 b.hi, .int .i64 fl, .bool sec], .slice (some ⟨bH, 0, none⟩) nH cH] w fun e w' => e = .returned (.int .i64 (accI op imm (q : Int) a b (V di) (S q))) ∧ Below w.heap.size w w' := by
  obtain ⟨res, hres⟩ : ∃ r, accI op imm (q : Int) a b (V di) (S q) = r := ⟨_, rfl⟩
  rw [hres]
  have HR : Hid (accI op imm (q : Int) a b (V di) (S q) = res) := hres
  have HH : Hid (Arr w bH (nH * 3) (hsF S)) := hh
  have lo0 := ha.l0
  have lo1 := ha.l1
  have hi0 := ha.h0
  have hi1 := ha.h1
  have bm0 := hb.m0
  have bm1 := hb.m1
  have HF : Hid (FA = facA V z c) := hF
  have HQI : Hid (a.k = 1 → a.h = (q : Int) → q < nH) := hqi
  clear hres hh ha hb hF hqi
  go_enter Try.func132, Try.ntmps132
  go_upto_region 1 with fail
  obtain ⟨u, hu, pu⟩ := ra_pre w V z c FA HF.out (op := op) (d := (di : Int)) (ra := ra) (rb := rb) (imm := imm) (h := (q : Int)) a b fl sec
  rw [hu]
  have P0 : Hid (RaP w u V z c op (di : Int) ra rb imm (q : Int) a b fl sec) := pu
  clear hu pu
  obtain ⟨i0, i1, i2, i3, i4, i5⟩ := ins_cells P0.out.I
  obtain ⟨o0, o1, o2, o3, o4, o5, o6, o7, o8, o9, o10, o11, o12, o13⟩ := ro_ops P0.out.O
  by_cases c1 : a.k = 1
  rotate_left
  · have e1 : (a.k != 1) = true := by simp [c1]
    go_wp2
    go_ret
    exact ⟨ret_int (by rw [← HR.out, accI, if_pos c1]), P0.out.bel⟩
  have e1 : (a.k != 1) = false := by simp [c1]
  have C1 : Hid (a.k = 1) := c1
  clear c1
  by_cases c2 : a.h = (q : Int)
  rotate_left
  · have e2 : (a.h != (q : Int)) = true := by simp [c2]
    go_wp2
    go_ret
    exact ⟨ret_int (by rw [← HR.out, accI, if_neg (by simp [C1.out]), if_pos c2]), P0.out.bel⟩
  have e2 : (a.h != (q : Int)) = false := by simp [c2]
  have C2 : Hid (a.h = (q : Int)) := c2
  have hq : q < nH := HQI.out C1.out c2
  clear c2 HQI
  cases hs : b.s with
  | true =>
    rw [hs] at o7
    go_wp2
    go_ret
    exact ⟨ret_int (by rw [← HR.out, accI, if_neg (by simp [C1.out]), if_neg (by simp [C2.out]), if_pos (Or.inl hs)]), P0.out.bel⟩
  | false =>
  have C3 : Hid (b.s = false) := hs
  rw [hs] at o7
  clear hs
  go_wp2_with fail
  refine (maxOf_any b.k false b.m b.h b.lo b.hi _).mono ?_
  rintro e u1 ⟨rfl, hbe⟩
  obtain ⟨mb, hm⟩ : ∃ m, maxV b = m := ⟨_, rfl⟩
  rw [show maxV ⟨b.k, false, b.m, b.h, b.lo, b.hi⟩ = mb from hm]
  have HM : Hid (maxV b = mb) := hm
  have P1 : Hid (RaP w u1 V z c op (di : Int) ra rb imm (q : Int) a b fl sec) := P0.out.below hbe
  clear hm hbe P0 i0 i1 i2 i3 i4 i5 o0 o1 o2 o3 o4 o5 o6 o7 o8 o9 o10 o11 o12 o13
  by_cases c4 : mb < 0
  · have e4 : decide (mb < 0) = true := by simp [c4]
    go_wp2
    go_ret
    exact ⟨ret_int (by rw [← HR.out, accI, if_neg (by simp [C1.out]), if_neg (by simp [C2.out]), if_pos (Or.inr (by rw [HM.out]; exact c4))]), P1.out.bel⟩
  have e4 : decide (mb < 0) = false := by simp; omega
  have C4 : Hid (¬ maxV b < 0) := by rw [HM.out]; exact c4
  clear c4
  go_upto_region 7 with fail
  clear e4 HM
  have t0 : ∀ w', Below u1.heap.size u1 w' → w'.cell? ⟨w.heap.size + 1 + 1, 4, none⟩ = some (.int .i64 a.lo) := fun w' h => (P1.out.O.below h).2 4 (by simp)
  have t1 : ∀ w', Below u1.heap.size u1 w' → w'.cell? ⟨w.heap.size + 1 + 1, 5, none⟩ = some (.int .i64 a.hi) := fun w' h => (P1.out.O.below h).2 5 (by simp)
  have t2 : ∀ w', Below u1.heap.size u1 w' → w'.cell? ⟨w.heap.size + 1 + 1, 8, none⟩ = some (.int .i64 b.m) := fun w' h => (P1.out.O.below h).2 8 (by simp)
  have t3 : ∀ w', Below u1.heap.size u1 w' → w'.cell? ⟨w.heap.size + 1, 4, none⟩ = some (.int .i64 imm) := fun w' h => (P1.out.I.below h).2 4 (by simp)
  obtain ⟨i0, i1, i2, i3, i4, i5⟩ := ins_cells P1.out.I
  obtain ⟨o0, o1, o2, o3, o4, o5, o6, o7, o8, o9, o10, o11, o12, o13⟩ := ro_ops P1.out.O
  go_quiet (fail)
  clear t0 t1 t2 t3 i0 i1 i2 i3 i4 i5 o0 o1 o2 o3 o4 o5 o6 o7 o8 o9 o10 o11 o12 o13
  obtain ⟨u2, hd2, hb2⟩ : ∃ v, u1.drewN nq = v ∧ Below u1.heap.size u1 v := ⟨_, rfl, below_drewN (Below.refl _ _) _⟩
  rw [hd2]
  have P2 : Hid (RaP w u2 V z c op (di : Int) ra rb imm (q : Int) a b fl sec) := P1.out.below hb2
  clear hd2 hb2 P1
  obtain ⟨i0, i1, i2, i3, i4, i5⟩ := ins_cells P2.out.I
  have h0 : u2.cell? ⟨bH, q * 3, none⟩ = some (.int .i64 (S q).size) := ((HH.out.below P2.out.bel HH.out.lt).cell (i := q * 3 + 0) (by omega)).trans (congrArg some (hsF_at S q 0 (by omega)))
  have h1 : u2.cell? ⟨bH, q * 3 + 1, none⟩ = some (.bool (S q).s) := ((HH.out.below P2.out.bel HH.out.lt).cell (i := q * 3 + 1) (by omega)).trans (congrArg some (hsF_at S q 1 (by omega)))
  have h2 : u2.cell? ⟨bH, q * 3 + 2, none⟩ = some (.bool (S q).w) := ((HH.out.below P2.out.bel HH.out.lt).cell (i := q * 3 + 2) (by omega)).trans (congrArg some (hsF_at S q 2 (by omega)))
  go_upto_region 9 with fail
  obtain ⟨u3, hu3, hb3, g3⟩ : ∃ v, u2.alloc (.cells #[.int .i64 (S q).size, .bool (S q).s, .bool (S q).w] 98) = v ∧ Below u2.heap.size u2 v ∧ Cl v u2.heap.size [.int .i64 (S q).size, .bool (S q).s, .bool (S q).w] := ⟨_, rfl, (Below.refl _ _).alloc (Nat.le_refl _) _, Cl.new⟩
  rw [hu3]
  have P3 : Hid (RaP w u3 V z c op (di : Int) ra rb imm (q : Int) a b fl sec) := P2.out.below hb3
  have G3 : Hid (Cl u3 u2.heap.size [.int .i64 (S q).size, .bool (S q).s, .bool (S q).w]) := g3
  clear hu3 hb3 g3 P2 i0 i1 i2 i3 i4 i5 h0 h1 h2 HH
  generalize u2.heap.size = gb at *
  obtain ⟨lo, hlo⟩ : ∃ x, a.lo + imm = x := ⟨_, rfl⟩
  obtain ⟨hi, hhi⟩ : ∃ x, a.hi + imm + b.m = x := ⟨_, rfl⟩
  have hi2 : -3000000000000 ≤ hi ∧ hi ≤ 3000000000000 := by omega
  have HLO : Hid (a.lo + imm = lo) := hlo
  have HHI : Hid (a.hi + imm + b.m = hi) := hhi
  rw [hlo, hhi]
  clear hlo hhi
  have t0 : ∀ w', Below u3.heap.size u3 w' → w'.cell? ⟨w.heap.size + 1, 0, none⟩ = some (.int .i64 op) := fun w' h => (P3.out.I.below h).2 0 (by simp)
  have t1 : ∀ w', Below u3.heap.size u3 w' → w'.cell? ⟨gb, 0, none⟩ = some (.int .i64 (S q).size) := fun w' h => (G3.out.below h).2 0 (by simp)
  obtain ⟨wd, hwd⟩ : ∃ x, wdI op = x := ⟨_, rfl⟩
  have wd1 : 1 ≤ wd ∧ wd ≤ 8 := by rw [← hwd]; exact wdI_le op
  have HWD : Hid (wdI op = wd) := hwd
  clear hwd
  refine wp_region_held_drew (S := fun w' => Below u3.heap.size u3 w') (by kernel_rfl) (Below.refl _ _).drew (fun hHeld => ?_)
  obtain ⟨u4, hd4, hb4⟩ : ∃ v, u3.drew = v ∧ Below u3.heap.size u3 v := ⟨_, rfl, (Below.refl _ _).drew⟩
  rw [hd4] at hHeld ⊢
  have P4 : Hid (RaP w u4 V z c op (di : Int) ra rb imm (q : Int) a b fl sec) := P3.out.below hb4
  have G4 : Hid (Cl u4 gb [.int .i64 (S q).size, .bool (S q).s, .bool (S q).w]) := G3.out.below hb4
  clear hd4 hb4 P3 G3
  by_cases c5 : lo < 0
  · have e5 : decide (lo < 0) = true := by simp [c5]
    refine wpAnyH_tk 0 ?k1v rfl ?k1y ?k1r
    case k1y => (intro w hSw; (try dsimp only at hSw); go_simp; try with_reducible rfl)
    try go_frame
    refine wpAnyH_tk 1 ?k2v rfl ?k2y ?k2r
    case k2y => (intro w hSw; (try dsimp only at hSw); go_simp; try with_reducible rfl)
    try go_frame
    refine wpAnyH_tk 2 ?k3v rfl ?k3y ?k3r
    case k3y => (intro w hSw; (try dsimp only at hSw); go_simp; try with_reducible rfl)
    try go_frame
    refine wpAnyH_sk 3 rfl ?_
    try simp only [Act.put, List.getElem_toArray, List.getElem_cons_zero, List.getElem_cons_succ, List.setIfInBounds_toArray, List.set_cons_zero, List.set_cons_succ]
    refine wpAnyH_sk 4 rfl ?_
    try simp only [Act.put, List.getElem_toArray, List.getElem_cons_zero, List.getElem_cons_succ, List.setIfInBounds_toArray, List.set_cons_zero, List.set_cons_succ]
    refine wpAnyH_sk 5 rfl ?_
    try simp only [Act.put, List.getElem_toArray, List.getElem_cons_zero, List.getElem_cons_succ, List.setIfInBounds_toArray, List.set_cons_zero, List.set_cons_succ]
    refine wpAnyH_sk 6 rfl ?_
    try simp only [Act.put, List.getElem_toArray, List.getElem_cons_zero, List.getElem_cons_succ, List.setIfInBounds_toArray, List.set_cons_zero, List.set_cons_succ]
    refine wpAnyH_sk 7 rfl ?_
    try simp only [Act.put, List.getElem_toArray, List.getElem_cons_zero, List.getElem_cons_succ, List.setIfInBounds_toArray, List.set_cons_zero, List.set_cons_succ]
    refine wpAnyH_sk 8 rfl ?_
    try simp only [Act.put, List.getElem_toArray, List.getElem_cons_zero, List.getElem_cons_succ, List.setIfInBounds_toArray, List.set_cons_zero, List.set_cons_succ]
    refine wpAnyH_sk 9 rfl ?_
    try simp only [Act.put, List.getElem_toArray, List.getElem_cons_zero, List.getElem_cons_succ, List.setIfInBounds_toArray, List.set_cons_zero, List.set_cons_succ]
    refine wpAnyH_sk 10 rfl ?_
    try simp only [Act.put, List.getElem_toArray, List.getElem_cons_zero, List.getElem_cons_succ, List.setIfInBounds_toArray, List.set_cons_zero, List.set_cons_succ]
    refine wpAnyH_tk 11 ?k4v rfl ?k4y ?k4r
    case k4y => (intro w hSw; (try dsimp only at hSw); go_simp; try with_reducible rfl)
    try simp only [Act.put, List.getElem_toArray, List.getElem_cons_zero, List.getElem_cons_succ, List.setIfInBounds_toArray, List.set_cons_zero, List.set_cons_succ]
    refine wpAnyH_done (by kernel_rfl) ?_ _
    clear t0 t1 hHeld
    go_wp2
    go_ret
    exact ⟨ret_int (by rw [← HR.out, accI, if_neg (by simp [C1.out]), if_neg (by simp [C2.out]), if_neg (fun x => x.elim (by simp [C3.out]) (fun y => absurd y (by have := C4.out; omega))), if_pos (Or.inl (by rw [HLO.out]; exact c5))]), P4.out.bel⟩
  have e5 : decide (lo < 0) = false := by simp; omega
  refine wpAnyH_tk 0 ?k5v rfl ?k5y ?k5r
  case k5y => (intro w hSw; (try dsimp only at hSw); go_simp; try with_reducible rfl)
  try go_frame
  refine wpAnyH_tk 1 ?k6v rfl ?k6y ?k6r
  case k6y => (intro w hSw; (try dsimp only at hSw); go_simp; try with_reducible rfl)
  try go_frame
  refine wpAnyH_tk 2 ?k7v rfl ?k7y ?k7r
  case k7y => (intro w hSw; (try dsimp only at hSw); go_simp; try with_reducible rfl)
  try go_frame
  refine wpAnyH_tk 3 ?k8v rfl ?k8y ?k8r
  case k8y => (intro w hSw; (try dsimp only at hSw); go_simp; try with_reducible rfl)
  try go_frame
  refine wpAnyH_tk 4 ?k9v rfl ?k9y ?k9r
  case k9y => (intro w hSw; (try dsimp only at hSw); go_simp; try with_reducible rfl)
  try go_frame
  refine wpAnyH_tk 5 ?k10v rfl ?k10y ?k10r
  case k10y => (intro w hSw; (try dsimp only at hSw); go_simp; try with_reducible rfl)
  try go_frame
  refine wpAnyH_tk 8 ?k11v rfl ?k11y ?k11r
  case k11y => (intro w hSw; (try dsimp only at hSw); go_simp; try with_reducible rfl)
  try simp only [Act.put, List.getElem_toArray, List.getElem_cons_zero, List.getElem_cons_succ, List.setIfInBounds_toArray, List.set_cons_zero, List.set_cons_succ]
  refine wpAnyH_tk 9 ?k12v rfl ?k12y ?k12r
  case k12y => (intro w hSw; (try dsimp only at hSw); go_simp; try with_reducible rfl)
  try simp only [Act.put, List.getElem_toArray, List.getElem_cons_zero, List.getElem_cons_succ, List.setIfInBounds_toArray, List.set_cons_zero, List.set_cons_succ]
  refine wpAnyH_ready (rs := [6]) (by kernel_rfl) (by simp) ?_
  refine AllReadyH.cons rfl (fun KK hK => ?_) AllReadyH.nil
  go_simp
  refine (tr_widthOf_any op _).mono ?_
  rintro e w' ⟨rfl, hw⟩
  rw [hw]
  clear hw
  rw [show (if op = 21 ∨ op = 23 ∨ op = 25 ∨ op = 27 then (1 : Int) else 8) = wd from HWD.out]
  go_wp2_with fail
  refine hK.out _ _ hHeld (fun _ => ?_)
  clear hK KK
  try go_frame
  have f1 : IntKind.i64.wrap (hi + wd) = hi + wd := by rw [IntKind.wrap_i64]; omega
  by_cases c6 : (S q).size < hi + wd
  · have e7 : decide ((S q).size < hi + wd) = true := by simp [c6]
    refine wpAnyH_tk 7 ?k13v rfl ?k13y ?k13r
    case k13y => (intro w hSw; (try dsimp only at hSw); go_simp; try with_reducible rfl)
    try simp only [Act.put, List.getElem_toArray, List.getElem_cons_zero, List.getElem_cons_succ, List.setIfInBounds_toArray, List.set_cons_zero, List.set_cons_succ]
    refine wpAnyH_tk 10 ?k14v rfl ?k14y ?k14r
    case k14y => (intro w hSw; (try dsimp only at hSw); go_simp; try with_reducible rfl)
    try simp only [Act.put, List.getElem_toArray, List.getElem_cons_zero, List.getElem_cons_succ, List.setIfInBounds_toArray, List.set_cons_zero, List.set_cons_succ]
    refine wpAnyH_tk 11 ?k15v rfl ?k15y ?k15r
    case k15y => (intro w hSw; (try dsimp only at hSw); go_simp; try with_reducible rfl)
    try simp only [Act.put, List.getElem_toArray, List.getElem_cons_zero, List.getElem_cons_succ, List.setIfInBounds_toArray, List.set_cons_zero, List.set_cons_succ]
    refine wpAnyH_done (by kernel_rfl) ?_ _
    clear t0 t1 hHeld
    go_wp2
    go_ret
    exact ⟨ret_int (by rw [← HR.out, accI, if_neg (by simp [C1.out]), if_neg (by simp [C2.out]), if_neg (fun x => x.elim (by simp [C3.out]) (fun y => absurd y (by have := C4.out; omega))), if_pos (Or.inr (by rw [HHI.out, HWD.out]; exact c6))]), P4.out.bel⟩
  have e7 : decide ((S q).size < hi + wd) = false := by simp; omega
  have c6' : ¬ (a.lo + imm < 0 ∨ (S q).size < a.hi + imm + b.m + wdI op) := by rw [HLO.out, HHI.out, HWD.out]; omega
  have C6 : Hid (¬ (a.lo + imm < 0 ∨ (S q).size < a.hi + imm + b.m + wdI op)) := c6'
  clear c6'
  refine wpAnyH_tk 7 ?k16v rfl ?k16y ?k16r
  case k16y => (intro w hSw; (try dsimp only at hSw); go_simp; try with_reducible rfl)
  try simp only [Act.put, List.getElem_toArray, List.getElem_cons_zero, List.getElem_cons_succ, List.setIfInBounds_toArray, List.set_cons_zero, List.set_cons_succ]
  refine wpAnyH_tk 10 ?k17v rfl ?k17y ?k17r
  case k17y => (intro w hSw; (try dsimp only at hSw); go_simp; try with_reducible rfl)
  try simp only [Act.put, List.getElem_toArray, List.getElem_cons_zero, List.getElem_cons_succ, List.setIfInBounds_toArray, List.set_cons_zero, List.set_cons_succ]
  refine wpAnyH_tk 11 ?k18v rfl ?k18y ?k18r
  case k18y => (intro w hSw; (try dsimp only at hSw); go_simp; try with_reducible rfl)
  try simp only [Act.put, List.getElem_toArray, List.getElem_cons_zero, List.getElem_cons_succ, List.setIfInBounds_toArray, List.set_cons_zero, List.set_cons_succ]
  refine wpAnyH_done (by kernel_rfl) ?_ _
  clear t0 t1 hHeld e5 e7 c5 c6 f1
  obtain ⟨i0, i1, i2, i3, i4, i5⟩ := ins_cells P4.out.I
  have g1 : u4.cell? ⟨gb, 1, none⟩ = some (.bool (S q).s) := G4.out.2 1 (by simp)
  have g2 : u4.cell? ⟨gb, 2, none⟩ = some (.bool (S q).w) := G4.out.2 2 (by simp)
  have f1 : u4.cell? ⟨w.heap.size, di * 6 + 1, none⟩ = some (.bool (V di).s) := (P4.out.F.cell (i := di * 6 + 1) (by omega)).trans (congrArg some (fF_val V z c di 1 (by omega) (by omega)))
  go_wp2_with fail
  refine (tr_isStore_any op _).mono ?_
  rintro e w' ⟨rfl, hw⟩
  rw [hw]
  clear hw
  cases hst : stB op with
  | false =>
    rw [show decide (op = 23 ∨ op = 24 ∨ op = 27 ∨ op = 28) = false from hst]
    go_wp2
    go_ret
    exact ⟨ret_int (by rw [← HR.out, accI, if_neg (by simp [C1.out]), if_neg (by simp [C2.out]), if_neg (fun x => x.elim (by simp [C3.out]) (fun y => absurd y (by have := C4.out; omega))), if_neg C6.out, if_pos hst]), P4.out.bel⟩
  | true =>
  rw [show decide (op = 23 ∨ op = 24 ∨ op = 27 ∨ op = 28) = true from hst]
  have C7 : Hid (¬ stB op = false) := (by simp [hst] : ¬ stB op = false)
  clear hst
  cases hgw : (S q).w with
  | false =>
    rw [hgw] at g2
    go_wp2
    go_ret
    exact ⟨ret_int (by rw [← HR.out, accI, if_neg (by simp [C1.out]), if_neg (by simp [C2.out]), if_neg (fun x => x.elim (by simp [C3.out]) (fun y => absurd y (by have := C4.out; omega))), if_neg C6.out, if_neg C7.out, if_pos hgw]), P4.out.bel⟩
  | true =>
  rw [hgw] at g2
  have C8 : Hid (¬ (S q).w = false) := (by simp [hgw] : ¬ (S q).w = false)
  clear hgw
  cases hxs : (V di).s with
  | false =>
    rw [hxs] at f1
    go_wp2
    go_ret
    exact ⟨ret_int (by rw [← HR.out, accI, if_neg (by simp [C1.out]), if_neg (by simp [C2.out]), if_neg (fun x => x.elim (by simp [C3.out]) (fun y => absurd y (by have := C4.out; omega))), if_neg C6.out, if_neg C7.out, if_neg C8.out, if_neg (by simp [hxs])]), P4.out.bel⟩
  | true =>
  rw [hxs] at f1
  cases hgs : (S q).s with
  | false =>
    rw [hgs] at g1
    go_wp2
    go_ret
    exact ⟨ret_int (by rw [← HR.out, accI, if_neg (by simp [C1.out]), if_neg (by simp [C2.out]), if_neg (fun x => x.elim (by simp [C3.out]) (fun y => absurd y (by have := C4.out; omega))), if_neg C6.out, if_neg C7.out, if_neg C8.out, if_pos ⟨hxs, hgs⟩]), P4.out.bel⟩
  | true =>
    rw [hgs] at g1
    go_wp2
    go_ret
    exact ⟨ret_int (by rw [← HR.out, accI, if_neg (by simp [C1.out]), if_neg (by simp [C2.out]), if_neg (fun x => x.elim (by simp [C3.out]) (fun y => absurd y (by have := C4.out; omega))), if_neg C6.out, if_neg C7.out, if_neg C8.out, if_neg (by simp [hgs])]), P4.out.bel⟩
end Go.Proofs.Ytjnooklalbcamaa
/- An append as one step of a region that draws its order. -/
namespace Go.Proofs.Ytjnooklalbcamaa
open Go.RowKit
/-- 'append' to a row of the call's own, as one step of a region that draws its order. -/
theorem step_append_own {P : Program} {ops : Array Oper} {o : Oper} {a : Act} {w : World} {K : Act → World → Prop} {Q : Exit → Act → World → Prop} {E : Prop}
    (hg : o.guard = none) (s x : Operand) (t : TypeId) (hop : o.op = Op.call { callee := Callee.builtin Builtin.append, args := #[s, x], argTypes := #[t, t] }) (base : Nat)
    (e : TypeId) (i : TypeInfo) (z : Value) (size bytes : Nat) (h1 : P.underlying t = some (.slice e)) (h2 : P.info? e = some i) (h3 : i.zero = some z) (h4 : i.size = size) (h5 : i.bytes = bytes) (h6 : z.cells.size = size) (h7 : 0 < size)
    (v : Value) (n : Nat) (olds : List Value) (hs : a.eval s = v) (hown : w.ownsRow base e size v n olds)
    (ad : Addr) (m c : Nat) (news : List Value) (hx : a.eval x = .slice (some ad) m c) (hn : news.length = m * size) (hc : ∀ j u, news[j]? = some u → w.cell? (ad.add j) = some u) (h1c : ∀ u ∈ news, u.oneCell' = true)
    (b1 : n + m ≤ maxLen) (b2 : (n + m) * bytes ≤ 140737488355328) (hb : base ≤ w.heap.size)
    (hK : ∀ v' w', w'.ownsRow base e size v' (n + m) (olds ++ news) → w.grownBy w' v.ownBlock → K (a.put o.dst v') w') :
    if Region.wanted o (yielded ops a.tmps) = true then Oper.wp P o a w K Q else E := by
  have hw : Region.wanted o (yielded ops a.tmps) = true := by simp [Region.wanted, hg]
  rw [if_pos hw]
  obtain ⟨v', w', hrun, r1, r2, _⟩ := run_append_own (P := P) w base t o.type e i z size bytes h1 h2 h3 h4 h5 h6 h7 v n olds hown ad m c news hn hc h1c b1 b2 hb
  unfold Oper.wp
  simp [execOp, hop, resolve, invoke, builtin, hs, hx, hrun, Result.andThen]
  exact hK v' w' r1 r2
end Go.Proofs.Ytjnooklalbcamaa
/- What is known, copied by the model. -/
namespace Go.Proofs.Ytjnooklalbcamaa
open Go.RowKit
theorem info_cV : (Try.prog.info? 24).map (fun i => (i.zero, i.size, i.bytes)) = some (some (.agg #[.int .i64 0, .bool false, .int .i64 0, .int .i64 0, .int .i64 0, .int .i64 0]), 6, 48) := by kernel_rfl
theorem row_some' {w : World} {base e size n : Nat} {v : Value} {xs : List Value} (h : w.ownsRow base e size v n xs) (hn : 0 < n) : ∃ g c, v = .slice (some ⟨g, 0, none⟩) n c := by
  rcases h.2 with ⟨_, rfl⟩ | ⟨g, cap, cur, rfl, _⟩
  · omega
  · exact ⟨_, _, rfl⟩
theorem row_arr {w : World} {base e g n cap : Nat} {f : Nat → Value} (h : w.ownsRow base e 6 (.slice (some ⟨g, 0, none⟩) n cap) n (first (n * 6) f)) : Arr w g (n * 6) f :=
  ⟨(h.lt _ rfl).2, fun i => h.frozenAt i, fun i hi => by rw [h.cellAt i hi]; simp [first, hi]⟩

set_option maxRecDepth 20000 in
set_option maxHeartbeats 8000000 in
theorem l4Abs_any (b cap : Nat) (V : Nat → VV) (z c : Int) (w : World) (h : Arr w b (8 * 6) (vF V)) :
    Calls Try.prog 74 #[.agg #[.slice (some ⟨b, 0, none⟩) 8 cap, .int .i64 z, .int .i64 c]] w fun e w' => ∃ g cg, w.heap.size ≤ g ∧ e = .returned (.agg #[.slice (some ⟨g, 0, none⟩) 8 cg, .int .i64 z, .int .i64 c]) ∧ Below w.heap.size w w' ∧ Arr w' g (8 * 6) (vF V) := by
  have HA : Hid (Arr w b (8 * 6) (vF V)) := h
  clear h
  go_enter Try.func74, Try.ntmps74
  go_upto_region 1 with fail
  obtain ⟨u, hu, hbu, cu, ru, rf⟩ : ∃ v, (w.alloc (.cells #[.slice (some ⟨b, 0, none⟩) 8 cap, .int .i64 z, .int .i64 c] 66)).alloc (.cells #[.slice none 0 0, .int .i64 0, .int .i64 0] 66) = v ∧ Below w.heap.size w v ∧ Cl v w.heap.size [.slice (some ⟨b, 0, none⟩) 8 cap, .int .i64 z, .int .i64 c] ∧ Cl v (w.heap.size + 1) [.slice none 0 0, .int .i64 0, .int .i64 0] ∧ (∀ i, v.frozen? ⟨w.heap.size + 1, i, none⟩ = false) := by
    refine ⟨_, rfl, ((Below.refl _ _).alloc (Nat.le_refl _) _).alloc (by simp) _, (Cl.new).below ((Below.refl _ _).alloc (Nat.le_refl _) _), ?_, fun i => by simp [go_sem]⟩
    have h := Cl.new (w := w.alloc (.cells #[.slice (some ⟨b, 0, none⟩) 8 cap, .int .i64 z, .int .i64 c] 66)) (vs := #[.slice none 0 0, .int .i64 0, .int .i64 0]) (t := 66)
    simp only [World.size_alloc] at h
    exact h
  rw [hu]
  clear hu
  obtain ⟨iV, gV, gV0, gV1, gV2⟩ := info_parts info_cV
  have HIV : Hid (_ ∧ _ ∧ _ ∧ _) := ⟨gV, gV0, gV1, gV2⟩
  clear gV gV0 gV1 gV2
  have s0 : ∀ w', Below u.heap.size u w' → w'.cell? ⟨w.heap.size, 0, none⟩ = some (.slice (some ⟨b, 0, none⟩) 8 cap) := fun w' h => (cu.below h).2 0 (by simp)
  have s1 : ∀ w', Below u.heap.size u w' → w'.cell? ⟨w.heap.size, 1, none⟩ = some (.int .i64 z) := fun w' h => (cu.below h).2 1 (by simp)
  have s2 : ∀ w', Below u.heap.size u w' → w'.cell? ⟨w.heap.size, 2, none⟩ = some (.int .i64 c) := fun w' h => (cu.below h).2 2 (by simp)
  have HBU : Hid (Below w.heap.size w u) := hbu
  have HRU : Hid (Cl u (w.heap.size + 1) [.slice none 0 0, .int .i64 0, .int .i64 0]) := ru
  have HRF : Hid (∀ i, u.frozen? ⟨w.heap.size + 1, i, none⟩ = false) := rf
  have hzu : w.heap.size + 1 < u.heap.size := ru.1
  clear hbu cu ru rf
  refine wp_region_L (T := fun w' => Below u.heap.size u w') (s := 9) (by kernel_rfl) (Below.refl _ _).drew (fun hHeld => ?_)
  refine wpAnyL_tk 1 ?k1v rfl ?k1y ?k1r
  case k1y => (intro w hSw; (try dsimp only at hSw); go_simp; try with_reducible rfl)
  try go_frame
  refine wpAnyL_tk 2 ?k2v rfl ?k2y ?k2r
  case k2y => (intro w hSw; (try dsimp only at hSw); go_simp; try with_reducible rfl)
  try go_frame
  refine wpAnyL_tk 4 ?k3v rfl ?k3y ?k3r
  case k3y => (intro w hSw; (try dsimp only at hSw); go_simp; try with_reducible rfl)
  try go_frame
  refine wpAnyL_tk 5 ?k4v rfl ?k4y ?k4r
  case k4y => (intro w hSw; (try dsimp only at hSw); go_simp; try with_reducible rfl)
  try go_frame
  refine wpAnyL_tk 6 ?k5v rfl ?k5y ?k5r
  case k5y => (intro w hSw; (try dsimp only at hSw); go_simp; try with_reducible rfl)
  try go_frame
  refine wpAnyL_tk 7 ?k6v rfl ?k6y ?k6r
  case k6y => (intro w hSw; (try dsimp only at hSw); go_simp; try with_reducible rfl)
  try go_frame
  refine wpAnyL_call (i := 0) rfl (by kernel_rfl) (fun KK hK => ?_)
  go_simp
  generalize hw6 : (u.alloc (.cells #[] 24)).drew = w6
  have b6 : Below u.heap.size u w6 := by rw [← hw6]; exact ((Below.refl _ _).alloc (Nat.le_refl _) _).drew
  have E6 : w6.ownsRow u.heap.size 24 6 (.slice (some ⟨u.heap.size, 0, none⟩) 0 0) 0 [] := by rw [← hw6]; exact (World.ownsRow_lit u #[] 0 (Nat.le_refl _) (by unfold maxLen; omega) rfl).drew
  have HE6 : Hid (w6.ownsRow u.heap.size 24 6 (.slice (some ⟨u.heap.size, 0, none⟩) 0 0) 0 []) := E6
  have HB6 : Hid (Below u.heap.size u w6) := b6
  clear hw6 E6
  refine hK.out _ _ b6 (fun hHeld6 => ?_)
  clear hK KK b6
  try go_frame
  refine wpAnyL_call (i := 3) rfl (by kernel_rfl) (fun KK hK => ?_)
  refine step_append_own rfl (.tmp 3) (.tmp 5) 46 rfl u.heap.size 24 iV (.agg #[.int .i64 0, .bool false, .int .i64 0, .int .i64 0, .int .i64 0, .int .i64 0]) 6 48 Try.underlying46 HIV.out.1 HIV.out.2.1 HIV.out.2.2.1 HIV.out.2.2.2 rfl (by decide) (.slice (some ⟨u.heap.size, 0, none⟩) 0 0) 0 [] rfl HE6.out ⟨b, 0, none⟩ 8 cap (first (8 * 6) (vF V)) rfl (first_length _ _) ?d1 ?d2 (by unfold maxLen; omega) (by omega) HB6.out.size ?_
  case d1 =>
    intro j x hj
    obtain ⟨hm, rfl⟩ := first_get hj
    rw [Addr.add_lit, Nat.zero_add]
    exact (HB6.out.cell (p := ⟨b, j, none⟩) (Nat.lt_of_lt_of_le HA.out.lt HBU.out.size)).trans ((HBU.out.cell (p := ⟨b, j, none⟩) HA.out.lt).trans (HA.out.cell hm))
  case d2 =>
    intro x hx
    obtain ⟨j, hj, rfl⟩ := first_mem hx
    unfold vF
    have : j % 6 < 6 := Nat.mod_lt _ (by decide)
    generalize j % 6 = q at this ⊢
    match q, this with
    | 0, _ => rfl
    | 1, _ => rfl
    | 2, _ => rfl
    | 3, _ => rfl
    | 4, _ => rfl
    | 5, _ => rfl
  intro vD w9 hownD hgrowD
  have hD : w9.ownsRow u.heap.size 24 6 vD 8 (first (8 * 6) (vF V)) := by simpa using hownD
  obtain ⟨gD, cD, hvD⟩ := row_some' hD (by omega)
  subst hvD
  have b9 : Below u.heap.size u w9 := HB6.out.trans ((Below.refl _ _).grown hgrowD HB6.out.size (by intro k hk; simp [Value.ownBlock] at hk; omega))
  have hg9 : u.heap.size ≤ gD := (hD.lt _ rfl).1
  have HD9 : Hid (Arr w9 gD (8 * 6) (vF V)) := row_arr hD
  have HB9 : Hid (Below u.heap.size u w9) := b9
  clear hownD hgrowD hD HE6 HB6
  refine hK.out _ _ b9 (fun hHeld9 => ?_)
  clear hK KK
  try go_frame
  refine wpAnyL_tk 8 ?k7v rfl ?k7y ?k7r
  case k7y => (intro w hSw; (try dsimp only at hSw); go_simp; try with_reducible rfl)
  try go_frame
  have r0 : w9.cell? ⟨w.heap.size + 1, 0, none⟩ = some (.slice none 0 0) := (HRU.out.below b9).2 0 (by simp)
  have r1 : w9.cell? ⟨w.heap.size + 1, 1, none⟩ = some (.int .i64 0) := (HRU.out.below b9).2 1 (by simp)
  have r2 : w9.cell? ⟨w.heap.size + 1, 2, none⟩ = some (.int .i64 0) := (HRU.out.below b9).2 2 (by simp)
  have rf : ∀ i, w9.frozen? ⟨w.heap.size + 1, i, none⟩ = false := fun i => (b9.frozen (p := ⟨w.heap.size + 1, i, none⟩) hzu).trans (HRF.out i)
  have hz9 : w.heap.size + 1 < w9.heap.size := Nat.lt_of_lt_of_le hzu b9.size
  clear s0 s1 s2 b9
  refine wpAnyL_store rfl (by kernel_rfl) (by kernel_rfl) (fun KK hK => ?_)
  go_simp
  refine hK.out _ _ ?_
  clear hK KK
  have hne : gD ≠ w.heap.size + 1 := by omega
  go_wp2
  refine bodyPost_ret (v := .agg #[.slice (some ⟨gD, 0, none⟩) 8 cD, .int .i64 z, .int .i64 c]) (by simp [results, Try.results74, go_sem, *]) rfl ⟨gD, cD, ?_, rfl, ?_, ?_⟩
  · have := HBU.out.size; omega
  · (iterate 3 refine Below.setCell ?_ (show w.heap.size ≤ w.heap.size + 1 by omega) _)
    exact HBU.out.trans (HB9.out.mono HBU.out.size)
  · exact ((HD9.out.other (fun e => hne e.symm) _).other (fun e => hne e.symm) _).other (fun e => hne e.symm) _
end Go.Proofs.Ytjnooklalbcamaa
