import Derived.Test.YtjnooklalbcamaaOfTransAll2
import Derived.Test.YtjnooklalbcamaaOfFill
import Derived.Deep.Cut
import Derived.Deep.DeepCutAuto
/- Transfer, the program's word. -/
namespace Go.Proofs.Ytjnooklalbcamaa
open Go.RowKit Go.Deep
/-- What Transfer answers: why it refuses, or what is known. -/
def TrAns (w w' : World) (e : Ending) (err : Int) (V : Nat → VV) (z c : Int) : Prop :=
  (err ≠ 0 ∧ e = .returned (.agg #[.int .i64 err, .slice none 0 0, .int .i64 0, .int .i64 0])) ∨ (err = 0 ∧ ∃ g cg, w.heap.size ≤ g ∧ e = .returned (.agg #[.int .i64 0, .slice (some ⟨g, 0, none⟩) 8 cg, .int .i64 z, .int .i64 c]) ∧ Arr w' g (8 * 6) (vF V))
def trE (nH : Nat) (S : Nat → HS) (nR : Nat) (V0 : Nat → VV) (nA : Nat) (V : Nat → VV) (z c op d ra rb imm h : Int) : Int :=
  if absOK nH S nR V0 nA V z c = true ∧ implIns op d ra rb imm h = true ∧ op ≤ 28 then refI op (opF op z c) (secB V op z c ra.toNat rb.toNat) (accI op imm h (opA V op ra.toNat) (opB V op rb.toNat) (V d.toNat) (S h.toNat)) else 11
def trW (S : Nat → HS) (V : Nat → VV) (z c op d ra rb imm h : Int) : Nat → VV :=
  if wrB op then updV V d.toNat (trR op imm (opA V op ra.toNat) (opB V op rb.toNat) (secB V op z c ra.toNat rb.toNat) (opF op z c) (S h.toNat)) else V
def trZ (V : Nat → VV) (z c op ra rb x : Int) : Int := if fgB op then (if secB V op z c ra.toNat rb.toNat then 2 else 1) else x
/-- Where impl.Transfer stands. -/
structure ItP (w u : World) (bH nH cH bR nR cR bA nA cA : Nat) (z c op d ra rb imm h : Int) : Prop where
  bel : Below w.heap.size w u
  S : Cl u w.heap.size [.slice (some ⟨bH, 0, none⟩) nH cH, .slice (some ⟨bR, 0, none⟩) nR cR]
  A : Cl u (w.heap.size + 1) [.slice (some ⟨bA, 0, none⟩) nA cA, .int .i64 z, .int .i64 c]
  I : Cl u (w.heap.size + 1 + 1) [.int .i64 op, .int .i64 d, .int .i64 ra, .int .i64 rb, .int .i64 imm, .int .i64 h]
  R : Cl u (w.heap.size + 1 + 1 + 1) [.int .i64 0, .slice none 0 0, .int .i64 0, .int .i64 0]
  RF : ∀ i, u.frozen? ⟨w.heap.size + 1 + 1 + 1, i, none⟩ = false
theorem ItP.below {w u v : World} {bH nH cH bR nR cR bA nA cA : Nat} {z c op d ra rb imm h : Int} (p : ItP w u bH nH cH bR nR cR bA nA cA z c op d ra rb imm h) (hb : Below u.heap.size u v) : ItP w v bH nH cH bR nR cR bA nA cA z c op d ra rb imm h :=
  ⟨p.bel.trans (hb.mono p.bel.size), p.S.below hb, p.A.below hb, p.I.below hb, p.R.below hb, fun i => (hb.frozen (p := ⟨w.heap.size + 1 + 1 + 1, i, none⟩) p.R.1).trans (p.RF i)⟩
theorem it_pre (w : World) (bH nH cH bR nR cR bA nA cA : Nat) {z c op d ra rb imm h : Int} : ∃ u, (((w.alloc (.cells #[.slice (some ⟨bH, 0, none⟩) nH cH, .slice (some ⟨bR, 0, none⟩) nR cR] 48)).alloc (.cells #[.slice (some ⟨bA, 0, none⟩) nA cA, .int .i64 z, .int .i64 c] 66)).alloc (.cells #[.int .i64 op, .int .i64 d, .int .i64 ra, .int .i64 rb, .int .i64 imm, .int .i64 h] 79)).alloc (.cells #[.int .i64 0, .slice none 0 0, .int .i64 0, .int .i64 0] 77) = u ∧ ItP w u bH nH cH bR nR cR bA nA cA z c op d ra rb imm h := by
  have e0 := Cl.new (w := w) (vs := #[.slice (some ⟨bH, 0, none⟩) nH cH, .slice (some ⟨bR, 0, none⟩) nR cR]) (t := 48)
  generalize hx : w.alloc (.cells #[.slice (some ⟨bH, 0, none⟩) nH cH, .slice (some ⟨bR, 0, none⟩) nR cR] 48) = x at *
  have s0 : x.heap.size = w.heap.size + 1 := by rw [← hx]; simp
  have b0 : Below w.heap.size w x := by rw [← hx]; exact (Below.refl _ _).alloc (Nat.le_refl _) _
  clear hx
  have e1 := Cl.new (w := x) (vs := #[.slice (some ⟨bA, 0, none⟩) nA cA, .int .i64 z, .int .i64 c]) (t := 66)
  generalize hy : x.alloc (.cells #[.slice (some ⟨bA, 0, none⟩) nA cA, .int .i64 z, .int .i64 c] 66) = y at *
  have s1 : y.heap.size = w.heap.size + 1 + 1 := by rw [← hy]; simp [s0]
  have b1 : Below x.heap.size x y := by rw [← hy]; exact (Below.refl _ _).alloc (Nat.le_refl _) _
  clear hy
  have e2 := Cl.new (w := y) (vs := #[.int .i64 op, .int .i64 d, .int .i64 ra, .int .i64 rb, .int .i64 imm, .int .i64 h]) (t := 79)
  generalize hz : y.alloc (.cells #[.int .i64 op, .int .i64 d, .int .i64 ra, .int .i64 rb, .int .i64 imm, .int .i64 h] 79) = v at *
  have s2 : v.heap.size = w.heap.size + 1 + 1 + 1 := by rw [← hz]; simp [s1]
  have b2 : Below y.heap.size y v := by rw [← hz]; exact (Below.refl _ _).alloc (Nat.le_refl _) _
  clear hz
  have e3 := Cl.new (w := v) (vs := #[.int .i64 0, .slice none 0 0, .int .i64 0, .int .i64 0]) (t := 77)
  have f3 : ∀ i, (v.alloc (.cells #[.int .i64 0, .slice none 0 0, .int .i64 0, .int .i64 0] 77)).frozen? ⟨v.heap.size, i, none⟩ = false := fun i => by simp [go_sem]
  have b3 : Below v.heap.size v (v.alloc (.cells #[.int .i64 0, .slice none 0 0, .int .i64 0, .int .i64 0] 77)) := (Below.refl _ _).alloc (Nat.le_refl _) _
  have c0 := (e0.below b1).below b2
  have c1 := e1.below b2
  rw [s0] at c1
  rw [s1] at e2
  rw [s2] at e3 f3
  exact ⟨_, rfl, ((b0.trans (b1.mono (by omega))).trans (b2.mono (by omega))).trans (b3.mono (by omega)), c0.below b3, c1.below b3, e2.below b3, e3, f3⟩
theorem it_cells {w u : World} {bH nH cH bR nR cR bA nA cA : Nat} {z c op d ra rb imm h : Int} (p : ItP w u bH nH cH bR nR cR bA nA cA z c op d ra rb imm h) : (u.cell? ⟨w.heap.size, 0, none⟩ = some (.slice (some ⟨bH, 0, none⟩) nH cH) ∧ u.cell? ⟨w.heap.size, 1, none⟩ = some (.slice (some ⟨bR, 0, none⟩) nR cR)) ∧ (u.cell? ⟨w.heap.size + 1, 0, none⟩ = some (.slice (some ⟨bA, 0, none⟩) nA cA) ∧ u.cell? ⟨w.heap.size + 1, 1, none⟩ = some (.int .i64 z) ∧ u.cell? ⟨w.heap.size + 1, 2, none⟩ = some (.int .i64 c)) ∧ (u.cell? ⟨w.heap.size + 1 + 1 + 1, 0, none⟩ = some (.int .i64 0) ∧ u.cell? ⟨w.heap.size + 1 + 1 + 1, 1, none⟩ = some (.slice none 0 0) ∧ u.cell? ⟨w.heap.size + 1 + 1 + 1, 2, none⟩ = some (.int .i64 0) ∧ u.cell? ⟨w.heap.size + 1 + 1 + 1, 3, none⟩ = some (.int .i64 0)) :=
  ⟨⟨p.S.2 0 (by simp), p.S.2 1 (by simp)⟩, ⟨p.A.2 0 (by simp), p.A.2 1 (by simp), p.A.2 2 (by simp)⟩, p.R.2 0 (by simp), p.R.2 1 (by simp), p.R.2 2 (by simp), p.R.2 3 (by simp)⟩
theorem aft_parts (V : Nat → VV) (z c : Int) (di : Nat) (R : VV) (r : Int) (wr fg sec : Bool) : ∃ W zz cc, aftT V z c di R r wr fg sec = .tuple #[.agg (facA W zz cc), .int .i64 r] ∧ (r = 0 → W = (if wr then updV V di R else V) ∧ zz = (if fg then (if sec then 2 else 1) else z) ∧ cc = (if fg then (if sec then 2 else 1) else c)) := by
  unfold aftT
  by_cases h : r = 0
  · rw [if_neg (by simp [h]), h]
    exact ⟨_, _, _, rfl, fun _ => ⟨rfl, rfl, rfl⟩⟩
  · rw [if_pos h]
    exact ⟨_, _, _, rfl, fun e => absurd e h⟩
theorem ins_nats {op d ra rb imm h : Int} (e : implIns op d ra rb imm h = true) (o : op ≤ 28) : 1 ≤ op ∧ 0 ≤ d ∧ d ≤ 7 ∧ 0 ≤ ra ∧ ra ≤ 7 ∧ 0 ≤ rb ∧ rb ≤ 7 ∧ 0 ≤ h ∧ h ≤ 7 ∧ -1000000 ≤ imm ∧ imm ≤ 1000000 ∧ (op = 12 ∨ op = 13 → 0 ≤ imm ∧ imm ≤ 63) := by
  unfold implIns at e
  have f : ∀ (u : Bool) (v lo hi : Int), fieldB u v lo hi = true → (lo ≤ v ∧ v ≤ hi) ∨ v = 0 := fun u v lo hi h => by
    unfold fieldB inB at h
    cases u <;> simp at h <;> omega
  simp only [Bool.and_eq_true] at e
  obtain ⟨⟨⟨⟨⟨e1, e2⟩, e3⟩, e4⟩, e5⟩, e6⟩ := e
  have g1 : 1 ≤ op := by unfold inB at e1; simp at e1; omega
  have i1 : -1000000 ≤ immLo op ∧ immHi op ≤ 1000000 := by unfold immLo immHi; (repeat' split) <;> omega
  have i2 : op = 12 ∨ op = 13 → immLo op = 0 ∧ immHi op = 63 := fun h => by unfold immLo immHi; rw [if_pos (by omega), if_pos h]; exact ⟨rfl, rfl⟩
  have := f _ _ _ _ e2
  have := f _ _ _ _ e3
  have := f _ _ _ _ e4
  have := f _ _ _ _ e5
  have := f _ _ _ _ e6
  refine ⟨g1, by omega, by omega, by omega, by omega, by omega, by omega, by omega, by omega, by omega, by omega, fun h => ?_⟩
  have := i2 h
  omega
theorem good_regs {nH nR nA : Nat} {S : Nat → HS} {V0 V : Nat → VV} {z c : Int} (h : absOK nH S nR V0 nA V z c = true) : nA = 8 ∧ nH ≤ 8 ∧ ∀ i, i < 8 → goodB (V i) nH = true := by
  unfold absOK at h
  simp only [Bool.and_eq_true] at h
  obtain ⟨⟨⟨hs, hg⟩, _⟩, _⟩ := h
  have h8 := sig_le8 hs
  unfold goodAll at hg
  rw [Bool.and_eq_true] at hg
  have hn := of_decide_eq_true hg.1
  refine ⟨hn, h8, fun i hi => ?_⟩
  have := List.all_eq_true.1 hg.2 i (List.mem_range.2 (by omega))
  exact this

set_option maxRecDepth 20000 in
set_option maxHeartbeats 8000000 in
theorem implTransfer_any (bH cH nH : Nat) (S : Nat → HS) (bR cR nR : Nat) (V0 : Nat → VV) (bA cA nA : Nat) (V : Nat → VV) (z c op d ra rb imm h : Int) (w : World) (lH : nH ≤ 1048576) (lR : nR ≤ 1048576) (lA : nA ≤ 1048576) (h1 : SigCp w bH nH S bR nR V0) (h2 : Arr w bA (nA * 6) (vF V)) :
    Calls Try.prog 34 #[.agg #[.slice (some ⟨bH, 0, none⟩) nH cH, .slice (some ⟨bR, 0, none⟩) nR cR], .agg #[.slice (some ⟨bA, 0, none⟩) nA cA, .int .i64 z, .int .i64 c], .agg #[.int .i64 op, .int .i64 d, .int .i64 ra, .int .i64 rb, .int .i64 imm, .int .i64 h]] w fun e w' => TrAns w w' e (trE nH S nR V0 nA V z c op d ra rb imm h) (trW S V z c op d ra rb imm h) (trZ V z c op ra rb z) (trZ V z c op ra rb c) ∧ Below w.heap.size w w' := by
  have H1 : Hid (SigCp w bH nH S bR nR V0) := h1
  have H2 : Hid (Arr w bA (nA * 6) (vF V)) := h2
  clear h1 h2
  obtain ⟨err, herr⟩ : ∃ x, trE nH S nR V0 nA V z c op d ra rb imm h = x := ⟨_, rfl⟩
  obtain ⟨W1, hW1⟩ : ∃ x, trW S V z c op d ra rb imm h = x := ⟨_, rfl⟩
  obtain ⟨z1, hz1⟩ : ∃ x, trZ V z c op ra rb z = x := ⟨_, rfl⟩
  obtain ⟨c1, hc1⟩ : ∃ x, trZ V z c op ra rb c = x := ⟨_, rfl⟩
  rw [herr, hW1, hz1, hc1]
  have HE : Hid (trE nH S nR V0 nA V z c op d ra rb imm h = err) := herr
  have HW1 : Hid (trW S V z c op d ra rb imm h = W1) := hW1
  have HZ1 : Hid (trZ V z c op ra rb z = z1) := hz1
  have HC1 : Hid (trZ V z c op ra rb c = c1) := hc1
  clear herr hW1 hz1 hc1
  go_enter Try.func34, Try.ntmps34
  go_upto_region 1 with fail
  obtain ⟨u, hu, pu⟩ := it_pre w bH nH cH bR nR cR bA nA cA (z := z) (c := c) (op := op) (d := d) (ra := ra) (rb := rb) (imm := imm) (h := h)
  rw [hu]
  have P0 : Hid (ItP w u bH nH cH bR nR cR bA nA cA z c op d ra rb imm h) := pu
  clear hu pu
  obtain ⟨⟨s0, s1⟩, ⟨a0, a1, a2⟩, r0, r1, r2, r3⟩ := it_cells P0.out
  obtain ⟨i0, i1, i2, i3, i4, i5⟩ := ins_cells P0.out.I
  have rf := P0.out.RF
  have rl := P0.out.R.1
  go_wp2_with fail
  refine (implAbs_any bH cH nH S bR cR nR V0 bA cA nA V z c u lH lR lA (H1.out.below P0.out.bel) (H2.out.below P0.out.bel H2.out.lt)).mono ?_
  rintro e u1 ⟨rfl, hb⟩
  have P1 : Hid (ItP w u1 bH nH cH bR nR cR bA nA cA z c op d ra rb imm h) := P0.out.below hb
  clear hb P0
  clear s0 s1 a0 a1 a2 r0 r1 r2 r3 i0 i1 i2 i3 i4 i5 rf rl
  cases hok : absOK nH S nR V0 nA V z c with
  | false =>
    obtain ⟨⟨s0, s1⟩, ⟨a0, a1, a2⟩, r0, r1, r2, r3⟩ := it_cells P1.out
    obtain ⟨i0, i1, i2, i3, i4, i5⟩ := ins_cells P1.out.I
    have rf := P1.out.RF
    have rl := P1.out.R.1
    go_wp2
    refine bodyPost_ret (v := .agg #[.int .i64 11, .slice none 0 0, .int .i64 0, .int .i64 0]) (by simp [results, Try.results34, go_sem, *]) rfl ⟨Or.inl ⟨?_, ?_⟩, ?_⟩
    · rw [← HE.out, trE, if_neg (fun x => by rw [hok] at x; exact absurd x.1 (by decide))]; decide
    · rw [← HE.out, trE, if_neg (fun x => by rw [hok] at x; exact absurd x.1 (by decide))]
    · (iterate 4 refine Below.setCell ?_ (show w.heap.size ≤ w.heap.size + 1 + 1 + 1 by omega) _)
      exact P1.out.bel
  | true =>
  have HOK : Hid (absOK nH S nR V0 nA V z c = true) := hok
  clear hok
  obtain ⟨⟨s0, s1⟩, ⟨a0, a1, a2⟩, r0, r1, r2, r3⟩ := it_cells P1.out
  obtain ⟨i0, i1, i2, i3, i4, i5⟩ := ins_cells P1.out.I
  have rf := P1.out.RF
  have rl := P1.out.R.1
  go_wp2_with fail
  refine (implIns_any op d ra rb imm h _).mono ?_
  rintro e u2 ⟨rfl, hb⟩
  have P2 : Hid (ItP w u2 bH nH cH bR nR cR bA nA cA z c op d ra rb imm h) := P1.out.below hb
  clear hb P1
  clear s0 s1 a0 a1 a2 r0 r1 r2 r3 i0 i1 i2 i3 i4 i5 rf rl
  cases hik : implIns op d ra rb imm h with
  | false =>
    obtain ⟨⟨s0, s1⟩, ⟨a0, a1, a2⟩, r0, r1, r2, r3⟩ := it_cells P2.out
    obtain ⟨i0, i1, i2, i3, i4, i5⟩ := ins_cells P2.out.I
    have rf := P2.out.RF
    have rl := P2.out.R.1
    go_wp2
    refine bodyPost_ret (v := .agg #[.int .i64 11, .slice none 0 0, .int .i64 0, .int .i64 0]) (by simp [results, Try.results34, go_sem, *]) rfl ⟨Or.inl ⟨?_, ?_⟩, ?_⟩
    · rw [← HE.out, trE, if_neg (fun x => by rw [hik] at x; exact absurd x.2.1 (by decide))]; decide
    · rw [← HE.out, trE, if_neg (fun x => by rw [hik] at x; exact absurd x.2.1 (by decide))]
    · (iterate 4 refine Below.setCell ?_ (show w.heap.size ≤ w.heap.size + 1 + 1 + 1 by omega) _)
      exact P2.out.bel
  | true =>
  have HIK : Hid (implIns op d ra rb imm h = true) := hik
  clear hik
  by_cases c28 : op ≤ 28
  rotate_left
  · have e28 : decide (op > 28) = true := by simp; omega
    have e28' : decide (28 < op) = true := by simp; omega
    obtain ⟨⟨s0, s1⟩, ⟨a0, a1, a2⟩, r0, r1, r2, r3⟩ := it_cells P2.out
    obtain ⟨i0, i1, i2, i3, i4, i5⟩ := ins_cells P2.out.I
    have rf := P2.out.RF
    have rl := P2.out.R.1
    go_wp2
    refine bodyPost_ret (v := .agg #[.int .i64 11, .slice none 0 0, .int .i64 0, .int .i64 0]) (by simp [results, Try.results34, go_sem, *]) rfl ⟨Or.inl ⟨?_, ?_⟩, ?_⟩
    · rw [← HE.out, trE, if_neg (fun x => by have := x.2.2; omega)]; decide
    · rw [← HE.out, trE, if_neg (fun x => by have := x.2.2; omega)]
    · (iterate 4 refine Below.setCell ?_ (show w.heap.size ≤ w.heap.size + 1 + 1 + 1 by omega) _)
      exact P2.out.bel
  have e28 : decide (28 < op) = false := by simp; omega
  obtain ⟨rfl, h8, G⟩ := good_regs HOK.out
  obtain ⟨o1, d0, d7, ra0, ra7, rb0, rb7, h0, h7, n0, n1, n2⟩ := ins_nats HIK.out c28
  obtain ⟨di, rfl⟩ : ∃ k : Nat, d = (k : Int) := ⟨d.toNat, by omega⟩
  obtain ⟨ia, rfl⟩ : ∃ k : Nat, ra = (k : Int) := ⟨ra.toNat, by omega⟩
  obtain ⟨ib, rfl⟩ : ∃ k : Nat, rb = (k : Int) := ⟨rb.toNat, by omega⟩
  obtain ⟨q, rfl⟩ : ∃ k : Nat, h = (k : Int) := ⟨h.toNat, by omega⟩
  have HG : Hid (∀ i, i < 8 → goodB (V i) nH = true) := G
  have HN2 : Hid (op = 12 ∨ op = 13 → 0 ≤ imm ∧ imm ≤ 63) := n2
  clear G n2
  obtain ⟨FA, hFA⟩ : ∃ x, facA V z c = x := ⟨_, rfl⟩
  have HF : Hid (facA V z c = FA) := hFA
  clear hFA
  obtain ⟨Z0, hZ0⟩ : ∃ x, facA (fun _ => zV) 0 0 = x := ⟨_, rfl⟩
  have HZ : Hid (facA (fun _ => zV) 0 0 = Z0) := hZ0
  clear hZ0
  have hrr : trE nH S nR V0 8 V z c op (di : Int) (ia : Int) (ib : Int) imm (q : Int) = refI op (opF op z c) (secB V op z c ia ib) (accI op imm (q : Int) (opA V op ia) (opB V op ib) (V di) (S q)) := by rw [trE, if_pos ⟨HOK.out, HIK.out, c28⟩]; rfl
  obtain ⟨W, zz, cc, hT, hW⟩ := aft_parts V z c di (trR op imm (opA V op ia) (opB V op ib) (secB V op z c ia ib) (opF op z c) (S q)) (refI op (opF op z c) (secB V op z c ia ib) (accI op imm (q : Int) (opA V op ia) (opB V op ib) (V di) (S q))) (wrB op) (fgB op) (secB V op z c ia ib)
  rw [← hrr, HE.out] at hT hW
  have HRR : Hid (_ = err) := hrr.symm.trans HE.out
  clear hrr
  have HT : Hid _ := hT
  have HWW : Hid (err = 0 → W = trW S V z c op (di : Int) (ia : Int) (ib : Int) imm (q : Int) ∧ zz = trZ V z c op (ia : Int) (ib : Int) z ∧ cc = trZ V z c op (ia : Int) (ib : Int) c) := hW
  clear hT hW
  obtain ⟨FB, hFB⟩ : ∃ x, facA W zz cc = x := ⟨_, rfl⟩
  have HFB : Hid (facA W zz cc = FB) := hFB
  clear hFB
  obtain ⟨⟨s0, s1⟩, ⟨a0, a1, a2⟩, r0, r1, r2, r3⟩ := it_cells P2.out
  obtain ⟨i0, i1, i2, i3, i4, i5⟩ := ins_cells P2.out.I
  have rf := P2.out.RF
  have rl := P2.out.R.1
  go_upto_region 3 with fail
  clear s0 s1 a0 a1 a2 r0 r1 r2 r3 i0 i1 i2 i3 i4 i5 rf rl
  have s0 : ∀ w', Below u2.heap.size u2 w' → w'.cell? ⟨w.heap.size, 0, none⟩ = some (.slice (some ⟨bH, 0, none⟩) nH cH) := fun w' h => (P2.out.S.below h).2 0 (by simp)
  have a0 : ∀ w', Below u2.heap.size u2 w' → w'.cell? ⟨w.heap.size + 1, 0, none⟩ = some (.slice (some ⟨bA, 0, none⟩) 8 cA) := fun w' h => (P2.out.A.below h).2 0 (by simp)
  have a1 : ∀ w', Below u2.heap.size u2 w' → w'.cell? ⟨w.heap.size + 1, 1, none⟩ = some (.int .i64 z) := fun w' h => (P2.out.A.below h).2 1 (by simp)
  have a2 : ∀ w', Below u2.heap.size u2 w' → w'.cell? ⟨w.heap.size + 1, 2, none⟩ = some (.int .i64 c) := fun w' h => (P2.out.A.below h).2 2 (by simp)
  have i0 : ∀ w', Below u2.heap.size u2 w' → w'.cell? ⟨w.heap.size + 1 + 1, 0, none⟩ = some (.int .i64 op) := fun w' h => (P2.out.I.below h).2 0 (by simp)
  have i1 : ∀ w', Below u2.heap.size u2 w' → w'.cell? ⟨w.heap.size + 1 + 1, 1, none⟩ = some (.int .i64 (di : Int)) := fun w' h => (P2.out.I.below h).2 1 (by simp)
  have i2 : ∀ w', Below u2.heap.size u2 w' → w'.cell? ⟨w.heap.size + 1 + 1, 2, none⟩ = some (.int .i64 (ia : Int)) := fun w' h => (P2.out.I.below h).2 2 (by simp)
  have i3 : ∀ w', Below u2.heap.size u2 w' → w'.cell? ⟨w.heap.size + 1 + 1, 3, none⟩ = some (.int .i64 (ib : Int)) := fun w' h => (P2.out.I.below h).2 3 (by simp)
  have i4 : ∀ w', Below u2.heap.size u2 w' → w'.cell? ⟨w.heap.size + 1 + 1, 4, none⟩ = some (.int .i64 imm) := fun w' h => (P2.out.I.below h).2 4 (by simp)
  have i5 : ∀ w', Below u2.heap.size u2 w' → w'.cell? ⟨w.heap.size + 1 + 1, 5, none⟩ = some (.int .i64 (q : Int)) := fun w' h => (P2.out.I.below h).2 5 (by simp)
  go_cut [7, 8] (fun s7 s8 wx => ∃ nb : Nat, s7 = .pointer (some ⟨nb, 0, none⟩) ∧ s8 = .int .i64 err ∧ Below u2.heap.size u2 wx ∧ u2.heap.size ≤ nb ∧ Arr wx nb 50 (fF W zz cc))
  case first =>
    refine wp_region_held_drew (S := fun w' => Below u2.heap.size u2 w') (by kernel_rfl) (Below.refl _ _).drew (fun hd0 => ?_)
    generalize u2.drew = v0 at hd0 ⊢
    refine wpAnyH_tk 0 ?k1v rfl ?k1y ?k1r
    case k1y => (intro w hSw; (try dsimp only at hSw); go_simp; try with_reducible rfl)
    try simp only [Act.put, List.getElem_toArray, List.getElem_cons_zero, List.setIfInBounds_toArray, List.set_cons_zero, List.set_cons_succ]
    refine wpAnyH_tk 2 ?k2v rfl ?k2y ?k2r
    case k2y => (intro w hSw; (try dsimp only at hSw); go_simp; try with_reducible rfl)
    try simp only [Act.put, List.getElem_toArray, List.getElem_cons_zero, List.getElem_cons_succ, List.setIfInBounds_toArray, List.set_cons_zero, List.set_cons_succ]
    refine wpAnyH_tk 3 ?k3v rfl ?k3y ?k3r
    case k3y => (intro w hSw; (try dsimp only at hSw); go_simp; try with_reducible rfl)
    try simp only [Act.put, List.getElem_toArray, List.getElem_cons_zero, List.getElem_cons_succ, List.setIfInBounds_toArray, List.set_cons_zero, List.set_cons_succ]
    refine wpAnyH_tk 4 ?k4v rfl ?k4y ?k4r
    case k4y => (intro w hSw; (try dsimp only at hSw); go_simp; try with_reducible rfl)
    try simp only [Act.put, List.getElem_toArray, List.getElem_cons_zero, List.getElem_cons_succ, List.setIfInBounds_toArray, List.set_cons_zero, List.set_cons_succ]
    refine wpAnyH_ready (rs := [1, 9]) (by kernel_rfl) (by simp) ?_
    refine AllReadyH.cons rfl (fun KK hK => ?_) (AllReadyH.cons rfl (fun KK hK => ?_) AllReadyH.nil)
    · go_simp
      refine (factsOf_any bA cA V z c _ ((H2.out.below P2.out.bel H2.out.lt).below hd0 (Nat.lt_of_lt_of_le H2.out.lt P2.out.bel.size))).mono ?_
      rintro e v1 ⟨rfl, hb⟩
      have Bv1 : Below u2.heap.size u2 v1 := hd0.trans (hb.mono hd0.size)
      rw [HF.out]
      go_wp2_with fail
      refine hK.out _ _ Bv1 (fun hHeld => ?_)
      clear hK KK
      try simp only [Act.put, List.getElem_toArray, List.getElem_cons_zero, List.getElem_cons_succ, List.setIfInBounds_toArray, List.set_cons_zero, List.set_cons_succ]
      refine wpAnyH_ready (rs := [5, 9]) (by kernel_rfl) (by simp) ?_
      refine AllReadyH.cons rfl (fun KK hK => ?_) (AllReadyH.cons rfl (fun KK hK => ?_) AllReadyH.nil)
      · go_simp
        refine (after_all V z c FA HF.out.symm op imm di ia ib q (by omega) (by omega) (by omega) o1 c28 n0 n1 HN2.out bH cH nH S lH HG.out _ ((H1.out.h.below P2.out.bel H1.out.h.lt).below Bv1 (Nat.lt_of_lt_of_le H1.out.h.lt P2.out.bel.size))).mono ?_
        rintro e v2 ⟨rfl, hb⟩
        have Bv2 : Below u2.heap.size u2 v2 := Bv1.trans (hb.mono Bv1.size)
        rw [HRR.out, HT.out, HFB.out]
        go_wp2_with fail
        refine hK.out _ _ Bv2 (fun hHeld => ?_)
        clear hK KK
        try simp only [Act.put, List.getElem_toArray, List.getElem_cons_zero, List.getElem_cons_succ, List.setIfInBounds_toArray, List.set_cons_zero, List.set_cons_succ]
        refine wpAnyH_tk 6 ?k5v rfl ?k5y ?k5r
        case k5y => (intro w hSw; (try dsimp only at hSw); go_simp; try with_reducible rfl)
        try simp only [Act.put, List.getElem_toArray, List.getElem_cons_zero, List.getElem_cons_succ, List.setIfInBounds_toArray, List.set_cons_zero, List.set_cons_succ]
        refine wpAnyH_tk 7 ?k6v rfl ?k6y ?k6r
        case k6y => (intro w hSw; (try dsimp only at hSw); go_simp; try with_reducible rfl)
        try simp only [Act.put, List.getElem_toArray, List.getElem_cons_zero, List.getElem_cons_succ, List.setIfInBounds_toArray, List.set_cons_zero, List.set_cons_succ]
        refine wpAnyH_tk 8 ?k7v rfl ?k7y ?k7r
        case k7y => (intro w hSw; (try dsimp only at hSw); go_simp; try with_reducible rfl)
        try simp only [Act.put, List.getElem_toArray, List.getElem_cons_zero, List.getElem_cons_succ, List.setIfInBounds_toArray, List.set_cons_zero, List.set_cons_succ]
        refine wpAnyH_ready (rs := [9]) (by kernel_rfl) (by simp) ?_
        refine AllReadyH.cons rfl (fun KK hK => ?_) AllReadyH.nil
        go_simp
        rw [zero_fac, HZ.out]
        obtain ⟨v3, hx, Bv3, Av3⟩ : ∃ x, v2.alloc (.cells Z0 127) = x ∧ Below u2.heap.size u2 x ∧ Arr x v2.heap.size 50 (fF (fun _ => zV) 0 0) := ⟨_, rfl, Bv2.alloc Bv2.size _, by rw [← HZ.out]; exact Arr.newFirst v2 50 _ _⟩
        rw [hx]
        clear hx
        have Nv3 : u2.heap.size ≤ v2.heap.size := Bv2.size
        generalize v2.heap.size = nb at *
        have lv3 := Av3.lt
        refine hK.out _ _ Bv3 (fun hHeld => ?_)
        clear hK KK
        try simp only [Act.put, List.getElem_toArray, List.getElem_cons_zero, List.getElem_cons_succ, List.setIfInBounds_toArray, List.set_cons_zero, List.set_cons_succ]
        refine wpAnyH_ready (rs := [10]) (by kernel_rfl) (by simp) ?_
        refine AllReadyH.cons rfl (fun KK hK => ?_) AllReadyH.nil
        refine if_in (by kernel_rfl) ?_
        refine wpL_store_facts (.tmp 7) (.tmp 31) rfl nb W (fun _ => zV) zz cc 0 0 rfl FB HFB.out.symm rfl Av3 ?_
        intro w' hA hb _
        have B9 : Below u2.heap.size u2 w' := Bv3.trans (hb.mono Nv3)
        refine hK.out _ _ B9 (fun hHeld => ?_)
        clear hK KK
        simp only [Act.put, List.getElem_toArray, List.getElem_cons_zero, List.getElem_cons_succ]
        refine wpAnyH_tk 11 ?k8v rfl ?k8y ?k8r
        case k8y => (intro w hSw; (try dsimp only at hSw); go_simp; try with_reducible rfl)
        try simp only [Act.put, List.getElem_toArray, List.getElem_cons_zero, List.getElem_cons_succ, List.setIfInBounds_toArray, List.set_cons_zero, List.set_cons_succ]
        refine wpAnyH_done (by kernel_rfl) ?_ _
        clear s0 a0 a1 a2 i0 i1 i2 i3 i4 i5
        go_wp2_with fail
        go_meet
        exact ⟨nb, rfl, rfl, B9, Nv3, hA⟩
      · go_simp
        rw [zero_fac, HZ.out]
        obtain ⟨v4, hx, Bv4, Av4⟩ : ∃ x, v1.alloc (.cells Z0 127) = x ∧ Below u2.heap.size u2 x ∧ Arr x v1.heap.size 50 (fF (fun _ => zV) 0 0) := ⟨_, rfl, Bv1.alloc Bv1.size _, by rw [← HZ.out]; exact Arr.newFirst v1 50 _ _⟩
        rw [hx]
        clear hx
        have Nv4 : u2.heap.size ≤ v1.heap.size := Bv1.size
        generalize v1.heap.size = nb at *
        have lv4 := Av4.lt
        refine hK.out _ _ Bv4 (fun hHeld => ?_)
        clear hK KK
        try simp only [Act.put, List.getElem_toArray, List.getElem_cons_zero, List.getElem_cons_succ, List.setIfInBounds_toArray, List.set_cons_zero, List.set_cons_succ]
        refine wpAnyH_ready (rs := [5]) (by kernel_rfl) (by simp) ?_
        refine AllReadyH.cons rfl (fun KK hK => ?_) AllReadyH.nil
        go_simp
        refine (after_all V z c FA HF.out.symm op imm di ia ib q (by omega) (by omega) (by omega) o1 c28 n0 n1 HN2.out bH cH nH S lH HG.out _ ((H1.out.h.below P2.out.bel H1.out.h.lt).below Bv4 (Nat.lt_of_lt_of_le H1.out.h.lt P2.out.bel.size))).mono ?_
        rintro e v5 ⟨rfl, hb⟩
        have Bv5 : Below u2.heap.size u2 v5 := Bv4.trans (hb.mono Bv4.size)
        rw [HRR.out, HT.out, HFB.out]
        go_wp2_with fail
        refine hK.out _ _ Bv5 (fun hHeld => ?_)
        clear hK KK
        try simp only [Act.put, List.getElem_toArray, List.getElem_cons_zero, List.getElem_cons_succ, List.setIfInBounds_toArray, List.set_cons_zero, List.set_cons_succ]
        have AA := Av4.below hb Av4.lt
        refine wpAnyH_tk 6 ?k9v rfl ?k9y ?k9r
        case k9y => (intro w hSw; (try dsimp only at hSw); go_simp; try with_reducible rfl)
        try simp only [Act.put, List.getElem_toArray, List.getElem_cons_zero, List.getElem_cons_succ, List.setIfInBounds_toArray, List.set_cons_zero, List.set_cons_succ]
        refine wpAnyH_tk 7 ?k10v rfl ?k10y ?k10r
        case k10y => (intro w hSw; (try dsimp only at hSw); go_simp; try with_reducible rfl)
        try simp only [Act.put, List.getElem_toArray, List.getElem_cons_zero, List.getElem_cons_succ, List.setIfInBounds_toArray, List.set_cons_zero, List.set_cons_succ]
        refine wpAnyH_tk 8 ?k11v rfl ?k11y ?k11r
        case k11y => (intro w hSw; (try dsimp only at hSw); go_simp; try with_reducible rfl)
        try simp only [Act.put, List.getElem_toArray, List.getElem_cons_zero, List.getElem_cons_succ, List.setIfInBounds_toArray, List.set_cons_zero, List.set_cons_succ]
        refine wpAnyH_ready (rs := [10]) (by kernel_rfl) (by simp) ?_
        refine AllReadyH.cons rfl (fun KK hK => ?_) AllReadyH.nil
        refine if_in (by kernel_rfl) ?_
        refine wpL_store_facts (.tmp 7) (.tmp 31) rfl nb W (fun _ => zV) zz cc 0 0 rfl FB HFB.out.symm rfl AA ?_
        intro w' hA hb _
        have B9 : Below u2.heap.size u2 w' := Bv5.trans (hb.mono Nv4)
        refine hK.out _ _ B9 (fun hHeld => ?_)
        clear hK KK
        simp only [Act.put, List.getElem_toArray, List.getElem_cons_zero, List.getElem_cons_succ]
        refine wpAnyH_tk 11 ?k12v rfl ?k12y ?k12r
        case k12y => (intro w hSw; (try dsimp only at hSw); go_simp; try with_reducible rfl)
        try simp only [Act.put, List.getElem_toArray, List.getElem_cons_zero, List.getElem_cons_succ, List.setIfInBounds_toArray, List.set_cons_zero, List.set_cons_succ]
        refine wpAnyH_done (by kernel_rfl) ?_ _
        clear s0 a0 a1 a2 i0 i1 i2 i3 i4 i5
        go_wp2_with fail
        go_meet
        exact ⟨nb, rfl, rfl, B9, Nv4, hA⟩
    · go_simp
      rw [zero_fac, HZ.out]
      obtain ⟨v6, hx, Bv6, Av6⟩ : ∃ x, v0.alloc (.cells Z0 127) = x ∧ Below u2.heap.size u2 x ∧ Arr x v0.heap.size 50 (fF (fun _ => zV) 0 0) := ⟨_, rfl, hd0.alloc hd0.size _, by rw [← HZ.out]; exact Arr.newFirst v0 50 _ _⟩
      rw [hx]
      clear hx
      have Nv6 : u2.heap.size ≤ v0.heap.size := hd0.size
      generalize v0.heap.size = nb at *
      have lv6 := Av6.lt
      refine hK.out _ _ Bv6 (fun hHeld => ?_)
      clear hK KK
      try simp only [Act.put, List.getElem_toArray, List.getElem_cons_zero, List.getElem_cons_succ, List.setIfInBounds_toArray, List.set_cons_zero, List.set_cons_succ]
      refine wpAnyH_ready (rs := [1]) (by kernel_rfl) (by simp) ?_
      refine AllReadyH.cons rfl (fun KK hK => ?_) AllReadyH.nil
      go_simp
      refine (factsOf_any bA cA V z c _ ((H2.out.below P2.out.bel H2.out.lt).below Bv6 (Nat.lt_of_lt_of_le H2.out.lt P2.out.bel.size))).mono ?_
      rintro e v7 ⟨rfl, hb⟩
      have Bv7 : Below u2.heap.size u2 v7 := Bv6.trans (hb.mono Bv6.size)
      rw [HF.out]
      go_wp2_with fail
      refine hK.out _ _ Bv7 (fun hHeld => ?_)
      clear hK KK
      try simp only [Act.put, List.getElem_toArray, List.getElem_cons_zero, List.getElem_cons_succ, List.setIfInBounds_toArray, List.set_cons_zero, List.set_cons_succ]
      have AA := Av6.below hb Av6.lt
      clear hb
      refine wpAnyH_ready (rs := [5]) (by kernel_rfl) (by simp) ?_
      refine AllReadyH.cons rfl (fun KK hK => ?_) AllReadyH.nil
      go_simp
      refine (after_all V z c FA HF.out.symm op imm di ia ib q (by omega) (by omega) (by omega) o1 c28 n0 n1 HN2.out bH cH nH S lH HG.out _ ((H1.out.h.below P2.out.bel H1.out.h.lt).below Bv7 (Nat.lt_of_lt_of_le H1.out.h.lt P2.out.bel.size))).mono ?_
      rintro e v8 ⟨rfl, hb⟩
      have Bv8 : Below u2.heap.size u2 v8 := Bv7.trans (hb.mono Bv7.size)
      rw [HRR.out, HT.out, HFB.out]
      go_wp2_with fail
      refine hK.out _ _ Bv8 (fun hHeld => ?_)
      clear hK KK
      try simp only [Act.put, List.getElem_toArray, List.getElem_cons_zero, List.getElem_cons_succ, List.setIfInBounds_toArray, List.set_cons_zero, List.set_cons_succ]
      have AB := AA.below hb AA.lt
      refine wpAnyH_tk 6 ?k13v rfl ?k13y ?k13r
      case k13y => (intro w hSw; (try dsimp only at hSw); go_simp; try with_reducible rfl)
      try simp only [Act.put, List.getElem_toArray, List.getElem_cons_zero, List.getElem_cons_succ, List.setIfInBounds_toArray, List.set_cons_zero, List.set_cons_succ]
      refine wpAnyH_tk 7 ?k14v rfl ?k14y ?k14r
      case k14y => (intro w hSw; (try dsimp only at hSw); go_simp; try with_reducible rfl)
      try simp only [Act.put, List.getElem_toArray, List.getElem_cons_zero, List.getElem_cons_succ, List.setIfInBounds_toArray, List.set_cons_zero, List.set_cons_succ]
      refine wpAnyH_tk 8 ?k15v rfl ?k15y ?k15r
      case k15y => (intro w hSw; (try dsimp only at hSw); go_simp; try with_reducible rfl)
      try simp only [Act.put, List.getElem_toArray, List.getElem_cons_zero, List.getElem_cons_succ, List.setIfInBounds_toArray, List.set_cons_zero, List.set_cons_succ]
      refine wpAnyH_ready (rs := [10]) (by kernel_rfl) (by simp) ?_
      refine AllReadyH.cons rfl (fun KK hK => ?_) AllReadyH.nil
      refine if_in (by kernel_rfl) ?_
      refine wpL_store_facts (.tmp 7) (.tmp 31) rfl nb W (fun _ => zV) zz cc 0 0 rfl FB HFB.out.symm rfl AB ?_
      intro w' hA hb _
      have B9 : Below u2.heap.size u2 w' := Bv8.trans (hb.mono Nv6)
      refine hK.out _ _ B9 (fun hHeld => ?_)
      clear hK KK
      simp only [Act.put, List.getElem_toArray, List.getElem_cons_zero, List.getElem_cons_succ]
      refine wpAnyH_tk 11 ?k16v rfl ?k16y ?k16r
      case k16y => (intro w hSw; (try dsimp only at hSw); go_simp; try with_reducible rfl)
      try simp only [Act.put, List.getElem_toArray, List.getElem_cons_zero, List.getElem_cons_succ, List.setIfInBounds_toArray, List.set_cons_zero, List.set_cons_succ]
      refine wpAnyH_done (by kernel_rfl) ?_ _
      clear s0 a0 a1 a2 i0 i1 i2 i3 i4 i5
      go_wp2_with fail
      go_meet
      exact ⟨nb, rfl, rfl, B9, Nv6, hA⟩
  clear s0 a0 a1 a2 i0 i1 i2 i3 i4 i5
  case rest =>
    obtain ⟨nb, rfl, rfl, hb, hnb, hA⟩ := hcut
    have P3 : Hid (ItP w wc bH nH cH bR nR cR bA 8 cA z c op (di : Int) (ia : Int) (ib : Int) imm (q : Int)) := P2.out.below hb
    have HA3 : Hid (Arr wc nb 50 (fF W zz cc)) := hA
    clear hb hA P2 hnb
    obtain ⟨⟨s0, s1⟩, ⟨a0, a1, a2⟩, r0, r1, r2, r3⟩ := it_cells P3.out
    obtain ⟨i0, i1, i2, i3, i4, i5⟩ := ins_cells P3.out.I
    have rf := P3.out.RF
    have rl := P3.out.R.1
    by_cases he : err = 0
    rotate_left
    · have ee : (err != 0) = true := by simp [he]
      have HNE : Hid (err ≠ 0) := he
      clear he
      go_wp2
      refine bodyPost_ret (v := .agg #[.int .i64 err, .slice none 0 0, .int .i64 0, .int .i64 0]) (by simp [results, Try.results34, go_sem, *]) rfl ⟨Or.inl ⟨HNE.out, rfl⟩, ?_⟩
      (iterate 4 refine Below.setCell ?_ (show w.heap.size ≤ w.heap.size + 1 + 1 + 1 by omega) _)
      exact P3.out.bel
    have ee : (err != 0) = false := by simp [he]
    have HEQ : Hid (err = 0) := he
    clear he
    go_wp2_with (refine wpList_load_facts rfl (.tmp 7) rfl nb rfl W zz cc FB HFB.out.symm HA3.out ?_)
    refine (absOf_any W zz cc FB HFB.out.symm wc).mono ?_
    rintro e u4 ⟨g, cg, hg, rfl, hb, hA⟩
    have P4 : Hid (ItP w u4 bH nH cH bR nR cR bA 8 cA z c op (di : Int) (ia : Int) (ib : Int) imm (q : Int)) := P3.out.below hb
    have HA4 : Hid (Arr u4 g (8 * 6) (vF W)) := hA
    have hg4 : w.heap.size + 1 + 1 + 1 < g := Nat.lt_of_lt_of_le P3.out.R.1 hg
    clear hb hA hg P3 HA3
    clear s0 s1 a0 a1 a2 r0 r1 r2 r3 i0 i1 i2 i3 i4 i5 rf rl
    obtain ⟨⟨s0, s1⟩, ⟨a0, a1, a2⟩, r0, r1, r2, r3⟩ := it_cells P4.out
    obtain ⟨i0, i1, i2, i3, i4, i5⟩ := ins_cells P4.out.I
    have rf := P4.out.RF
    have rl := P4.out.R.1
    go_wp2
    refine bodyPost_ret (v := .agg #[.int .i64 0, .slice (some ⟨g, 0, none⟩) 8 cg, .int .i64 zz, .int .i64 cc]) (by simp [results, Try.results34, go_sem, *]) rfl ⟨Or.inr ⟨HEQ.out, g, cg, by omega, ?_, ?_⟩, ?_⟩
    · rw [(HWW.out HEQ.out).2.1, (HWW.out HEQ.out).2.2, HZ1.out, HC1.out]
    · rw [← HW1.out, ← (HWW.out HEQ.out).1]
      iterate 4 refine Arr.other ?_ (by simp; omega) _
      exact HA4.out
    · (iterate 4 refine Below.setCell ?_ (show w.heap.size ≤ w.heap.size + 1 + 1 + 1 by omega) _)
      exact P4.out.bel
end Go.Proofs.Ytjnooklalbcamaa
