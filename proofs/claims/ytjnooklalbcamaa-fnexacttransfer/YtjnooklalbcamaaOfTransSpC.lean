import Derived.Test.YtjnooklalbcamaaOfTransSp1
/- Transfer, the model's word. -/
namespace Go.Proofs.Ytjnooklalbcamaa
open Go.RowKit Go.Deep

set_option maxRecDepth 20000 in
set_option maxHeartbeats 8000000 in
theorem specTransfer_17 (bH cH nH : Nat) (S : Nat → HS) (bR cR nR : Nat) (V0 : Nat → VV) (bA cA : Nat) (V : Nat → VV) (z c imm : Int) (di ia ib q : Nat) (hd : di < 8) (ha : ia < 8) (hb : ib < 8) (w : World) (lH : nH ≤ 1048576) (lR : nR ≤ 1048576) (h1 : SigCp w bH nH S bR nR V0) (h2 : Arr w bA (8 * 6) (vF V)) (hok : absOK nH S nR V0 8 V z c = true) (hik : implIns 17 (di : Int) (ia : Int) (ib : Int) imm (q : Int) = true) (hA : Bd (V ia)) (hB : Bd (V ib)) (_n0 : -1000000 ≤ imm) (_n1 : imm ≤ 1000000) :
    Calls Try.prog 32 #[.agg #[.slice (some ⟨bH, 0, none⟩) nH cH, .slice (some ⟨bR, 0, none⟩) nR cR], .agg #[.slice (some ⟨bA, 0, none⟩) 8 cA, .int .i64 z, .int .i64 c], .agg #[.int .i64 17, .int .i64 (di : Int), .int .i64 (ia : Int), .int .i64 (ib : Int), .int .i64 imm, .int .i64 (q : Int)]] w fun e w' => TrAns w w' e 0 V (if ((V ia).s || (V ib).s) then 2 else 1) (if ((V ia).s || (V ib).s) then 2 else 1) ∧ Below w.heap.size w w' := by
  have H1 : Hid (SigCp w bH nH S bR nR V0) := h1
  have H2 : Hid (Arr w bA (8 * 6) (vF V)) := h2
  have HOK : Hid (absOK nH S nR V0 8 V z c = true) := hok
  have HIK : Hid (implIns 17 (di : Int) (ia : Int) (ib : Int) imm (q : Int) = true) := hik
  have HBA : Hid (Bd (V ia)) := hA
  have HBB : Hid (Bd (V ib)) := hB
  clear h1 h2 hok hik hA hB
  obtain ⟨err, herr⟩ : ∃ x : Int, 0 = x := ⟨_, rfl⟩
  have HERR : Hid (0 = err) := herr
  obtain ⟨W1, hW1⟩ : ∃ x, V = x := ⟨_, rfl⟩
  have HW1 : Hid (V = W1) := hW1
  obtain ⟨z1, hz1⟩ : ∃ x : Int, (if ((V ia).s || (V ib).s) then 2 else 1) = x := ⟨_, rfl⟩
  have HZ1 : Hid ((if ((V ia).s || (V ib).s) then 2 else 1) = z1) := hz1
  obtain ⟨c1, hc1⟩ : ∃ x : Int, (if ((V ia).s || (V ib).s) then 2 else 1) = x := ⟨_, rfl⟩
  have HC1 : Hid ((if ((V ia).s || (V ib).s) then 2 else 1) = c1) := hc1
  suffices hx : Calls Try.prog 32 #[.agg #[.slice (some ⟨bH, 0, none⟩) nH cH, .slice (some ⟨bR, 0, none⟩) nR cR], .agg #[.slice (some ⟨bA, 0, none⟩) 8 cA, .int .i64 z, .int .i64 c], .agg #[.int .i64 17, .int .i64 (di : Int), .int .i64 (ia : Int), .int .i64 (ib : Int), .int .i64 imm, .int .i64 (q : Int)]] w fun e w' => TrAns w w' e err W1 z1 c1 ∧ Below w.heap.size w w' by
    subst herr hW1 hz1 hc1
    exact hx
  clear herr hW1 hz1 hc1
  have ha8 : (ia : Int) < 8 := by omega
  have hb8 : (ib : Int) < 8 := by omega
  have hd8 : (di : Int) < 8 := by omega
  go_enter Try.func32, Try.ntmps32
  go_upto_region 1 with fail
  obtain ⟨u, hu, pu⟩ := it_pre w bH nH cH bR nR cR bA 8 cA (z := z) (c := c) (op := 17) (d := (di : Int)) (ra := (ia : Int)) (rb := (ib : Int)) (imm := imm) (h := (q : Int))
  rw [hu]
  have P0 : Hid (ItP w u bH nH cH bR nR cR bA 8 cA z c 17 (di : Int) (ia : Int) (ib : Int) imm (q : Int)) := pu
  clear hu pu
  obtain ⟨⟨s0, s1⟩, ⟨a0, a1, a2⟩, r0, r1, r2, r3⟩ := it_cells P0.out
  obtain ⟨i0, i1, i2, i3, i4, i5⟩ := ins_cells P0.out.I
  have rl := P0.out.R.1
  go_wp2_with fail
  refine (specAbs_any bH cH nH S bR cR nR V0 bA cA 8 V z c u lH lR (by omega) (H1.out.below P0.out.bel) (H2.out.below P0.out.bel H2.out.lt)).mono ?_
  rintro e u1 ⟨rfl, hbe⟩
  have P1 : Hid (ItP w u1 bH nH cH bR nR cR bA 8 cA z c 17 (di : Int) (ia : Int) (ib : Int) imm (q : Int)) := P0.out.below hbe
  clear hbe P0
  clear s0 s1 a0 a1 a2 r0 r1 r2 r3 i0 i1 i2 i3 i4 i5 rl
  rw [HOK.out]
  obtain ⟨⟨s0, s1⟩, ⟨a0, a1, a2⟩, r0, r1, r2, r3⟩ := it_cells P1.out
  obtain ⟨i0, i1, i2, i3, i4, i5⟩ := ins_cells P1.out.I
  have rl := P1.out.R.1
  go_wp2_with fail
  refine (specIns_any 17 (di : Int) (ia : Int) (ib : Int) imm (q : Int) _).mono ?_
  rintro e u2 ⟨rfl, hbe⟩
  have P2 : Hid (ItP w u2 bH nH cH bR nR cR bA 8 cA z c 17 (di : Int) (ia : Int) (ib : Int) imm (q : Int)) := P1.out.below hbe
  clear hbe P1
  clear s0 s1 a0 a1 a2 r0 r1 r2 r3 i0 i1 i2 i3 i4 i5 rl
  rw [HIK.out]
  obtain ⟨⟨s0, s1⟩, ⟨a0, a1, a2⟩, r0, r1, r2, r3⟩ := it_cells P2.out
  obtain ⟨i0, i1, i2, i3, i4, i5⟩ := ins_cells P2.out.I
  have rl := P2.out.R.1
  go_wp2_with fail
  refine (l4Abs_any bA cA V z c u2 (H2.out.below P2.out.bel H2.out.lt)).mono ?_
  rintro e u3 ⟨g, cg, hg, rfl, hbe, hG⟩
  have P3 : Hid (ItP w u3 bH nH cH bR nR cR bA 8 cA z c 17 (di : Int) (ia : Int) (ib : Int) imm (q : Int)) := P2.out.below hbe
  have HG3 : Hid (Arr u3 g (8 * 6) (vF V)) := hG
  have og : w.heap.size + 1 + 1 + 1 < g := Nat.lt_of_lt_of_le P2.out.R.1 hg
  clear hbe hG hg P2
  clear s0 s1 a0 a1 a2 r0 r1 r2 r3 i0 i1 i2 i3 i4 i5 rl
  obtain ⟨⟨s0, s1⟩, ⟨a0, a1, a2⟩, r0, r1, r2, r3⟩ := it_cells P3.out
  obtain ⟨i0, i1, i2, i3, i4, i5⟩ := ins_cells P3.out.I
  have rl := P3.out.R.1
  have lg := HG3.out.lt
  have ul2 := P3.out.I.1
  go_wp2_with fail
  refine (uses_any 17 _).mono ?_
  rintro e w' ⟨rfl, hw⟩
  rw [hw]
  clear hw
  clear s0 s1 a0 a1 a2 r0 r1 r2 r3 i0 i1 i2 i3 i4 i5 rl
  clear lg ul2
  obtain ⟨u4, hu4, b4, e4, f4⟩ : ∃ v, u3.alloc (.cells #[.slice (some ⟨g, 0, none⟩) 8 cg, .int .i64 z, .int .i64 c] 66) = v ∧ Below u3.heap.size u3 v ∧ Cl v u3.heap.size [.slice (some ⟨g, 0, none⟩) 8 cg, .int .i64 z, .int .i64 c] ∧ (∀ i, v.frozen? ⟨u3.heap.size, i, none⟩ = false) := ⟨_, rfl, (Below.refl _ _).alloc (Nat.le_refl _) _, Cl.new, fun i => by simp [go_sem]⟩
  rw [hu4]
  clear hu4
  have P4 : Hid (ItP w u4 bH nH cH bR nR cR bA 8 cA z c 17 (di : Int) (ia : Int) (ib : Int) imm (q : Int)) := P3.out.below b4
  have HG4 : Hid (Arr u4 g (8 * 6) (vF V)) := HG3.out.below b4 HG3.out.lt
  have on : g < u3.heap.size := HG3.out.lt
  have HO4 : Hid (Cl u4 u3.heap.size [.slice (some ⟨g, 0, none⟩) 8 cg, .int .i64 z, .int .i64 c]) := e4
  have HF4 : Hid (∀ i, u4.frozen? ⟨u3.heap.size, i, none⟩ = false) := f4
  clear b4 e4 f4 P3 HG3
  generalize u3.heap.size = no at *
  obtain ⟨⟨s0, s1⟩, ⟨a0, a1, a2⟩, r0, r1, r2, r3⟩ := it_cells P4.out
  obtain ⟨i0, i1, i2, i3, i4, i5⟩ := ins_cells P4.out.I
  have rl := P4.out.R.1
  have HX : Hid (Arr u4 bA (8 * 6) (vF V)) := H2.out.below P4.out.bel H2.out.lt
  obtain ⟨x0, x1, x2, x3, x4, x5⟩ := reg_cells HX.out ia ha
  obtain ⟨y0, y1, y2, y3, y4, y5⟩ := reg_cells HX.out ib hb
  have ul1 := P4.out.A.1
  have ul2 := P4.out.I.1
  have ul3 := HX.out.lt
  go_upto_region 9 with fail
  clear s0 s1 a0 a1 a2 r0 r1 r2 r3 i0 i1 i2 i3 i4 i5 rl
  clear ul1 ul2 ul3 x0 x1 x2 x3 x4 x5 y0 y1 y2 y3 y4 y5 HX
  obtain ⟨u5, hu5, p5⟩ : ∃ v, (u4.alloc (.cells #[.int .i64 (V ia).k, .bool (V ia).s, .int .i64 (V ia).m, .int .i64 (V ia).h, .int .i64 (V ia).lo, .int .i64 (V ia).hi] 24)).alloc (.cells #[.int .i64 (V ib).k, .bool (V ib).s, .int .i64 (V ib).m, .int .i64 (V ib).h, .int .i64 (V ib).lo, .int .i64 (V ib).hi] 24) = v ∧ StP w v bA cA g cg z c 17 (di : Int) (ia : Int) (ib : Int) imm (q : Int) no z c u4.heap.size (u4.heap.size + 1) (V ia) (V ib) V := by
    have b1 := (Below.refl u4.heap.size u4).alloc (Nat.le_refl _) (.cells #[.int .i64 (V ia).k, .bool (V ia).s, .int .i64 (V ia).m, .int .i64 (V ia).h, .int .i64 (V ia).lo, .int .i64 (V ia).hi] 24)
    have e1 := Cl.new (w := u4) (vs := #[.int .i64 (V ia).k, .bool (V ia).s, .int .i64 (V ia).m, .int .i64 (V ia).h, .int .i64 (V ia).lo, .int .i64 (V ia).hi]) (t := 24)
    generalize hy : u4.alloc (.cells #[.int .i64 (V ia).k, .bool (V ia).s, .int .i64 (V ia).m, .int .i64 (V ia).h, .int .i64 (V ia).lo, .int .i64 (V ia).hi] 24) = y at *
    have s1 : y.heap.size = u4.heap.size + 1 := by rw [← hy]; simp
    clear hy
    have b2 := (Below.refl y.heap.size y).alloc (Nat.le_refl _) (.cells #[.int .i64 (V ib).k, .bool (V ib).s, .int .i64 (V ib).m, .int .i64 (V ib).h, .int .i64 (V ib).lo, .int .i64 (V ib).hi] 24)
    have e2 := Cl.new (w := y) (vs := #[.int .i64 (V ib).k, .bool (V ib).s, .int .i64 (V ib).m, .int .i64 (V ib).h, .int .i64 (V ib).lo, .int .i64 (V ib).hi]) (t := 24)
    rw [s1] at e2
    have bb := b1.trans (b2.mono b1.size)
    have p := P4.out.below bb
    have on2 := HO4.out.1
    exact ⟨_, rfl, p.bel, p.A, p.I, p.R, p.RF, HO4.out.below bb, fun i => (bb.frozen (p := ⟨no, i, none⟩) on2).trans (HF4.out i), e1.below b2, e2, HG4.out.below bb HG4.out.lt, og, on, on2, by omega⟩
  rw [hu5]
  clear hu5 P4 HG4 HO4 HF4
  obtain ⟨na, hna⟩ : ∃ x, u4.heap.size = x := ⟨_, rfl⟩
  obtain ⟨nb, hnb⟩ : ∃ x, u4.heap.size + 1 = x := ⟨_, rfl⟩
  rw [hnb] at p5 ⊢
  rw [hna] at p5 ⊢
  clear hna hnb
  have P5 : Hid (StP w u5 bA cA g cg z c 17 (di : Int) (ia : Int) (ib : Int) imm (q : Int) no z c na nb (V ia) (V ib) V) := p5
  clear p5
  obtain ⟨a0, a1, a2⟩ := clg P5.out.A
  obtain ⟨i0, i1, i2, i3, i4, i5⟩ := ins_cells P5.out.I
  obtain ⟨x0, x1, x2, x3, x4, x5⟩ := cl6 P5.out.a
  obtain ⟨y0, y1, y2, y3, y4, y5⟩ := cl6 P5.out.b
  obtain ⟨q0, q1, q2⟩ := clg P5.out.O
  obtain ⟨r0, r1, r2, r3⟩ := clg4 P5.out.R
  have rf := P5.out.RF
  have rl := P5.out.R.1
  have of := P5.out.OF
  have ol := P5.out.O.1
  go_wp2_with fail
  refine (has_n (usesS 17) 65 _ (uses_le 17) (by decide) (by decide)).mono ?_
  rintro e w' ⟨rfl, hw⟩
  rw [hw, show hasN (usesS 17) 65 = true from by kernel_rfl]
  clear hw
  cases has_ : (V ia).s with
  | true =>
    have HAS : Hid ((V ia).s = true) := has_
    rw [has_] at x1
    clear has_
    have HSC : Hid (((V ia).s || (V ib).s) = true) := (by simp [HAS.out] : ((V ia).s || (V ib).s) = true)
    go_wp2_with fail
    refine (has_n (usesS 17) 68 _ (uses_le 17) (by decide) (by decide)).mono ?_
    rintro e w' ⟨rfl, hw⟩
    rw [hw, show hasN (usesS 17) 68 = false from by kernel_rfl]
    clear hw
    go_wp2_with fail
    refine (l4FlagOf_any true _).mono ?_
    rintro e w' ⟨rfl, hw⟩
    rw [hw]
    clear hw
    obtain ⟨f, hf⟩ : ∃ x : Int, flI true = x := ⟨_, rfl⟩
    have HFL : Hid (flI true = f) := hf
    clear hf
    rw [show (if true = true then (2 : Int) else 1) = f from HFL.out]
    go_wp2_with fail
    refine (l4FlagOf_any true _).mono ?_
    rintro e w' ⟨rfl, hw⟩
    rw [hw]
    clear hw
    rw [show (if true = true then (2 : Int) else 1) = f from HFL.out]
    go_upto_region 33 with fail
    clear a0 a1 a2 i0 i1 i2 i3 i4 i5 x0 x1 x2 x3 x4 x5 y0 y1 y2 y3 y4 y5 q0 q1 q2 r0 r1 r2 r3 rf rl of ol
    obtain ⟨u9, hu9⟩ : ∃ v, v = (u5.setCell ⟨no, 1, none⟩ (.int .i64 f)).setCell ⟨no, 2, none⟩ (.int .i64 f) := ⟨_, rfl⟩
    rw [← hu9]
    have P9 : Hid (StP w u9 bA cA g cg z c 17 (di : Int) (ia : Int) (ib : Int) imm (q : Int) no f f na nb (V ia) (V ib) V) := P5.out.flags hu9
    clear hu9 P5
    obtain ⟨a0, a1, a2⟩ := clg P9.out.A
    obtain ⟨i0, i1, i2, i3, i4, i5⟩ := ins_cells P9.out.I
    obtain ⟨x0, x1, x2, x3, x4, x5⟩ := cl6 P9.out.a
    obtain ⟨y0, y1, y2, y3, y4, y5⟩ := cl6 P9.out.b
    obtain ⟨q0, q1, q2⟩ := clg P9.out.O
    obtain ⟨r0, r1, r2, r3⟩ := clg4 P9.out.R
    have rf := P9.out.RF
    have rl := P9.out.R.1
    have of := P9.out.OF
    have ol := P9.out.O.1
    have og := P9.out.o1
    go_wp2
    refine bodyPost_ret (v := .agg #[.int .i64 0, .slice (some ⟨g, 0, none⟩) 8 cg, .int .i64 f, .int .i64 f]) (by simp [results, Try.results32, go_sem, *]) rfl ⟨Or.inr ⟨?_, g, cg, by omega, ?_, ?_⟩, ?_⟩
    · rw [← HERR.out]
    · rw [← HZ1.out, ← HC1.out, HSC.out, show (if true = true then (2 : Int) else 1) = f from HFL.out]
    · (iterate 4 refine Arr.other ?_ (show w.heap.size + 1 + 1 + 1 ≠ g by omega) _)
      rw [← HW1.out]
      exact P9.out.G
    · (iterate 4 refine Below.setCell ?_ (show w.heap.size ≤ w.heap.size + 1 + 1 + 1 by omega) _)
      exact P9.out.bel
  | false =>
    have HAS : Hid ((V ia).s = false) := has_
    rw [has_] at x1
    clear has_
    go_wp2_with fail
    refine (has_n (usesS 17) 66 _ (uses_le 17) (by decide) (by decide)).mono ?_
    rintro e w' ⟨rfl, hw⟩
    rw [hw, show hasN (usesS 17) 66 = true from by kernel_rfl]
    clear hw
    have HSC : Hid (((V ia).s || (V ib).s) = (V ib).s) := (by simp [HAS.out] : ((V ia).s || (V ib).s) = (V ib).s)
    go_wp2_with fail
    refine (has_n (usesS 17) 68 _ (uses_le 17) (by decide) (by decide)).mono ?_
    rintro e w' ⟨rfl, hw⟩
    rw [hw, show hasN (usesS 17) 68 = false from by kernel_rfl]
    clear hw
    go_wp2_with fail
    refine (l4FlagOf_any (V ib).s _).mono ?_
    rintro e w' ⟨rfl, hw⟩
    rw [hw]
    clear hw
    obtain ⟨f, hf⟩ : ∃ x : Int, flI (V ib).s = x := ⟨_, rfl⟩
    have HFL : Hid (flI (V ib).s = f) := hf
    clear hf
    rw [show (if (V ib).s = true then (2 : Int) else 1) = f from HFL.out]
    go_wp2_with fail
    refine (l4FlagOf_any (V ib).s _).mono ?_
    rintro e w' ⟨rfl, hw⟩
    rw [hw]
    clear hw
    rw [show (if (V ib).s = true then (2 : Int) else 1) = f from HFL.out]
    go_upto_region 33 with fail
    clear a0 a1 a2 i0 i1 i2 i3 i4 i5 x0 x1 x2 x3 x4 x5 y0 y1 y2 y3 y4 y5 q0 q1 q2 r0 r1 r2 r3 rf rl of ol
    obtain ⟨u9, hu9⟩ : ∃ v, v = (u5.setCell ⟨no, 1, none⟩ (.int .i64 f)).setCell ⟨no, 2, none⟩ (.int .i64 f) := ⟨_, rfl⟩
    rw [← hu9]
    have P9 : Hid (StP w u9 bA cA g cg z c 17 (di : Int) (ia : Int) (ib : Int) imm (q : Int) no f f na nb (V ia) (V ib) V) := P5.out.flags hu9
    clear hu9 P5
    obtain ⟨a0, a1, a2⟩ := clg P9.out.A
    obtain ⟨i0, i1, i2, i3, i4, i5⟩ := ins_cells P9.out.I
    obtain ⟨x0, x1, x2, x3, x4, x5⟩ := cl6 P9.out.a
    obtain ⟨y0, y1, y2, y3, y4, y5⟩ := cl6 P9.out.b
    obtain ⟨q0, q1, q2⟩ := clg P9.out.O
    obtain ⟨r0, r1, r2, r3⟩ := clg4 P9.out.R
    have rf := P9.out.RF
    have rl := P9.out.R.1
    have of := P9.out.OF
    have ol := P9.out.O.1
    have og := P9.out.o1
    go_wp2
    refine bodyPost_ret (v := .agg #[.int .i64 0, .slice (some ⟨g, 0, none⟩) 8 cg, .int .i64 f, .int .i64 f]) (by simp [results, Try.results32, go_sem, *]) rfl ⟨Or.inr ⟨?_, g, cg, by omega, ?_, ?_⟩, ?_⟩
    · rw [← HERR.out]
    · rw [← HZ1.out, ← HC1.out, HSC.out, show (if (V ib).s = true then (2 : Int) else 1) = f from HFL.out]
    · (iterate 4 refine Arr.other ?_ (show w.heap.size + 1 + 1 + 1 ≠ g by omega) _)
      rw [← HW1.out]
      exact P9.out.G
    · (iterate 4 refine Below.setCell ?_ (show w.heap.size ≤ w.heap.size + 1 + 1 + 1 by omega) _)
      exact P9.out.bel
end Go.Proofs.Ytjnooklalbcamaa
/- Transfer, the model's word. -/
namespace Go.Proofs.Ytjnooklalbcamaa
open Go.RowKit

set_option maxRecDepth 20000 in
set_option maxHeartbeats 8000000 in
theorem specTransfer_2 (bH cH nH : Nat) (S : Nat → HS) (bR cR nR : Nat) (V0 : Nat → VV) (bA cA : Nat) (V : Nat → VV) (z c imm : Int) (di ia ib q : Nat) (hd : di < 8) (ha : ia < 8) (hb : ib < 8) (w : World) (lH : nH ≤ 1048576) (lR : nR ≤ 1048576) (h1 : SigCp w bH nH S bR nR V0) (h2 : Arr w bA (8 * 6) (vF V)) (hok : absOK nH S nR V0 8 V z c = true) (hik : implIns 2 (di : Int) (ia : Int) (ib : Int) imm (q : Int) = true) (hA : Bd (V ia)) (hB : Bd (V ib)) (n0 : -1000000 ≤ imm) (n1 : imm ≤ 1000000) :
    Calls Try.prog 32 #[.agg #[.slice (some ⟨bH, 0, none⟩) nH cH, .slice (some ⟨bR, 0, none⟩) nR cR], .agg #[.slice (some ⟨bA, 0, none⟩) 8 cA, .int .i64 z, .int .i64 c], .agg #[.int .i64 2, .int .i64 (di : Int), .int .i64 (ia : Int), .int .i64 (ib : Int), .int .i64 imm, .int .i64 (q : Int)]] w fun e w' => TrAns w w' e 0 (updV V di (resV 2 imm (V ia) (V ib) false)) z c ∧ Below w.heap.size w w' := by
  have H1 : Hid (SigCp w bH nH S bR nR V0) := h1
  have H2 : Hid (Arr w bA (8 * 6) (vF V)) := h2
  have HOK : Hid (absOK nH S nR V0 8 V z c = true) := hok
  have HIK : Hid (implIns 2 (di : Int) (ia : Int) (ib : Int) imm (q : Int) = true) := hik
  have HBA : Hid (Bd (V ia)) := hA
  have HBB : Hid (Bd (V ib)) := hB
  clear h1 h2 hok hik hA hB
  obtain ⟨err, herr⟩ : ∃ x : Int, 0 = x := ⟨_, rfl⟩
  have HERR : Hid (0 = err) := herr
  obtain ⟨W1, hW1⟩ : ∃ x, (updV V di (resV 2 imm (V ia) (V ib) false)) = x := ⟨_, rfl⟩
  have HW1 : Hid ((updV V di (resV 2 imm (V ia) (V ib) false)) = W1) := hW1
  obtain ⟨z1, hz1⟩ : ∃ x : Int, z = x := ⟨_, rfl⟩
  have HZ1 : Hid (z = z1) := hz1
  obtain ⟨c1, hc1⟩ : ∃ x : Int, c = x := ⟨_, rfl⟩
  have HC1 : Hid (c = c1) := hc1
  suffices hx : Calls Try.prog 32 #[.agg #[.slice (some ⟨bH, 0, none⟩) nH cH, .slice (some ⟨bR, 0, none⟩) nR cR], .agg #[.slice (some ⟨bA, 0, none⟩) 8 cA, .int .i64 z, .int .i64 c], .agg #[.int .i64 2, .int .i64 (di : Int), .int .i64 (ia : Int), .int .i64 (ib : Int), .int .i64 imm, .int .i64 (q : Int)]] w fun e w' => TrAns w w' e err W1 z1 c1 ∧ Below w.heap.size w w' by
    subst herr hW1 hz1 hc1
    exact hx
  clear herr hW1 hz1 hc1
  have ha8 : (ia : Int) < 8 := by omega
  have hb8 : (ib : Int) < 8 := by omega
  have hd8 : (di : Int) < 8 := by omega
  go_enter Try.func32, Try.ntmps32
  go_upto_region 1 with fail
  obtain ⟨u, hu, pu⟩ := it_pre w bH nH cH bR nR cR bA 8 cA (z := z) (c := c) (op := 2) (d := (di : Int)) (ra := (ia : Int)) (rb := (ib : Int)) (imm := imm) (h := (q : Int))
  rw [hu]
  have P0 : Hid (ItP w u bH nH cH bR nR cR bA 8 cA z c 2 (di : Int) (ia : Int) (ib : Int) imm (q : Int)) := pu
  clear hu pu
  obtain ⟨⟨s0, s1⟩, ⟨a0, a1, a2⟩, r0, r1, r2, r3⟩ := it_cells P0.out
  obtain ⟨i0, i1, i2, i3, i4, i5⟩ := ins_cells P0.out.I
  have rl := P0.out.R.1
  go_wp2_with fail
  refine (specAbs_any bH cH nH S bR cR nR V0 bA cA 8 V z c u lH lR (by omega) (H1.out.below P0.out.bel) (H2.out.below P0.out.bel H2.out.lt)).mono ?_
  rintro e u1 ⟨rfl, hbe⟩
  have P1 : Hid (ItP w u1 bH nH cH bR nR cR bA 8 cA z c 2 (di : Int) (ia : Int) (ib : Int) imm (q : Int)) := P0.out.below hbe
  clear hbe P0
  clear s0 s1 a0 a1 a2 r0 r1 r2 r3 i0 i1 i2 i3 i4 i5 rl
  rw [HOK.out]
  obtain ⟨⟨s0, s1⟩, ⟨a0, a1, a2⟩, r0, r1, r2, r3⟩ := it_cells P1.out
  obtain ⟨i0, i1, i2, i3, i4, i5⟩ := ins_cells P1.out.I
  have rl := P1.out.R.1
  go_wp2_with fail
  refine (specIns_any 2 (di : Int) (ia : Int) (ib : Int) imm (q : Int) _).mono ?_
  rintro e u2 ⟨rfl, hbe⟩
  have P2 : Hid (ItP w u2 bH nH cH bR nR cR bA 8 cA z c 2 (di : Int) (ia : Int) (ib : Int) imm (q : Int)) := P1.out.below hbe
  clear hbe P1
  clear s0 s1 a0 a1 a2 r0 r1 r2 r3 i0 i1 i2 i3 i4 i5 rl
  rw [HIK.out]
  obtain ⟨⟨s0, s1⟩, ⟨a0, a1, a2⟩, r0, r1, r2, r3⟩ := it_cells P2.out
  obtain ⟨i0, i1, i2, i3, i4, i5⟩ := ins_cells P2.out.I
  have rl := P2.out.R.1
  go_wp2_with fail
  refine (l4Abs_any bA cA V z c u2 (H2.out.below P2.out.bel H2.out.lt)).mono ?_
  rintro e u3 ⟨g, cg, hg, rfl, hbe, hG⟩
  have P3 : Hid (ItP w u3 bH nH cH bR nR cR bA 8 cA z c 2 (di : Int) (ia : Int) (ib : Int) imm (q : Int)) := P2.out.below hbe
  have HG3 : Hid (Arr u3 g (8 * 6) (vF V)) := hG
  have og : w.heap.size + 1 + 1 + 1 < g := Nat.lt_of_lt_of_le P2.out.R.1 hg
  clear hbe hG hg P2
  clear s0 s1 a0 a1 a2 r0 r1 r2 r3 i0 i1 i2 i3 i4 i5 rl
  obtain ⟨⟨s0, s1⟩, ⟨a0, a1, a2⟩, r0, r1, r2, r3⟩ := it_cells P3.out
  obtain ⟨i0, i1, i2, i3, i4, i5⟩ := ins_cells P3.out.I
  have rl := P3.out.R.1
  have lg := HG3.out.lt
  have ul2 := P3.out.I.1
  go_wp2_with fail
  refine (uses_any 2 _).mono ?_
  rintro e w' ⟨rfl, hw⟩
  rw [hw]
  clear hw
  clear s0 s1 a0 a1 a2 r0 r1 r2 r3 i0 i1 i2 i3 i4 i5 rl
  clear lg ul2
  obtain ⟨u4, hu4, b4, e4, f4⟩ : ∃ v, u3.alloc (.cells #[.slice (some ⟨g, 0, none⟩) 8 cg, .int .i64 z, .int .i64 c] 66) = v ∧ Below u3.heap.size u3 v ∧ Cl v u3.heap.size [.slice (some ⟨g, 0, none⟩) 8 cg, .int .i64 z, .int .i64 c] ∧ (∀ i, v.frozen? ⟨u3.heap.size, i, none⟩ = false) := ⟨_, rfl, (Below.refl _ _).alloc (Nat.le_refl _) _, Cl.new, fun i => by simp [go_sem]⟩
  rw [hu4]
  clear hu4
  have P4 : Hid (ItP w u4 bH nH cH bR nR cR bA 8 cA z c 2 (di : Int) (ia : Int) (ib : Int) imm (q : Int)) := P3.out.below b4
  have HG4 : Hid (Arr u4 g (8 * 6) (vF V)) := HG3.out.below b4 HG3.out.lt
  have on : g < u3.heap.size := HG3.out.lt
  have HO4 : Hid (Cl u4 u3.heap.size [.slice (some ⟨g, 0, none⟩) 8 cg, .int .i64 z, .int .i64 c]) := e4
  have HF4 : Hid (∀ i, u4.frozen? ⟨u3.heap.size, i, none⟩ = false) := f4
  clear b4 e4 f4 P3 HG3
  generalize u3.heap.size = no at *
  obtain ⟨⟨s0, s1⟩, ⟨a0, a1, a2⟩, r0, r1, r2, r3⟩ := it_cells P4.out
  obtain ⟨i0, i1, i2, i3, i4, i5⟩ := ins_cells P4.out.I
  have rl := P4.out.R.1
  have HX : Hid (Arr u4 bA (8 * 6) (vF V)) := H2.out.below P4.out.bel H2.out.lt
  obtain ⟨x0, x1, x2, x3, x4, x5⟩ := reg_cells HX.out ia ha
  obtain ⟨y0, y1, y2, y3, y4, y5⟩ := reg_cells HX.out ib hb
  have ul1 := P4.out.A.1
  have ul2 := P4.out.I.1
  have ul3 := HX.out.lt
  go_upto_region 9 with fail
  clear s0 s1 a0 a1 a2 r0 r1 r2 r3 i0 i1 i2 i3 i4 i5 rl
  clear ul1 ul2 ul3 x0 x1 x2 x3 x4 x5 y0 y1 y2 y3 y4 y5 HX
  obtain ⟨u5, hu5, p5⟩ : ∃ v, (u4.alloc (.cells #[.int .i64 (V ia).k, .bool (V ia).s, .int .i64 (V ia).m, .int .i64 (V ia).h, .int .i64 (V ia).lo, .int .i64 (V ia).hi] 24)).alloc (.cells #[.int .i64 (V ib).k, .bool (V ib).s, .int .i64 (V ib).m, .int .i64 (V ib).h, .int .i64 (V ib).lo, .int .i64 (V ib).hi] 24) = v ∧ StP w v bA cA g cg z c 2 (di : Int) (ia : Int) (ib : Int) imm (q : Int) no z c u4.heap.size (u4.heap.size + 1) (V ia) (V ib) V := by
    have b1 := (Below.refl u4.heap.size u4).alloc (Nat.le_refl _) (.cells #[.int .i64 (V ia).k, .bool (V ia).s, .int .i64 (V ia).m, .int .i64 (V ia).h, .int .i64 (V ia).lo, .int .i64 (V ia).hi] 24)
    have e1 := Cl.new (w := u4) (vs := #[.int .i64 (V ia).k, .bool (V ia).s, .int .i64 (V ia).m, .int .i64 (V ia).h, .int .i64 (V ia).lo, .int .i64 (V ia).hi]) (t := 24)
    generalize hy : u4.alloc (.cells #[.int .i64 (V ia).k, .bool (V ia).s, .int .i64 (V ia).m, .int .i64 (V ia).h, .int .i64 (V ia).lo, .int .i64 (V ia).hi] 24) = y at *
    have s1 : y.heap.size = u4.heap.size + 1 := by rw [← hy]; simp
    clear hy
    have b2 := (Below.refl y.heap.size y).alloc (Nat.le_refl _) (.cells #[.int .i64 (V ib).k, .bool (V ib).s, .int .i64 (V ib).m, .int .i64 (V ib).h, .int .i64 (V ib).lo, .int .i64 (V ib).hi] 24)
    have e2 := Cl.new (w := y) (vs := #[.int .i64 (V ib).k, .bool (V ib).s, .int .i64 (V ib).m, .int .i64 (V ib).h, .int .i64 (V ib).lo, .int .i64 (V ib).hi]) (t := 24)
    rw [s1] at e2
    have bb := b1.trans (b2.mono b1.size)
    have p := P4.out.below bb
    have on2 := HO4.out.1
    exact ⟨_, rfl, p.bel, p.A, p.I, p.R, p.RF, HO4.out.below bb, fun i => (bb.frozen (p := ⟨no, i, none⟩) on2).trans (HF4.out i), e1.below b2, e2, HG4.out.below bb HG4.out.lt, og, on, on2, by omega⟩
  rw [hu5]
  clear hu5 P4 HG4 HO4 HF4
  obtain ⟨na, hna⟩ : ∃ x, u4.heap.size = x := ⟨_, rfl⟩
  obtain ⟨nb, hnb⟩ : ∃ x, u4.heap.size + 1 = x := ⟨_, rfl⟩
  rw [hnb] at p5 ⊢
  rw [hna] at p5 ⊢
  clear hna hnb
  have P5 : Hid (StP w u5 bA cA g cg z c 2 (di : Int) (ia : Int) (ib : Int) imm (q : Int) no z c na nb (V ia) (V ib) V) := p5
  clear p5
  obtain ⟨a0, a1, a2⟩ := clg P5.out.A
  obtain ⟨i0, i1, i2, i3, i4, i5⟩ := ins_cells P5.out.I
  obtain ⟨x0, x1, x2, x3, x4, x5⟩ := cl6 P5.out.a
  obtain ⟨y0, y1, y2, y3, y4, y5⟩ := cl6 P5.out.b
  obtain ⟨q0, q1, q2⟩ := clg P5.out.O
  obtain ⟨r0, r1, r2, r3⟩ := clg4 P5.out.R
  have rf := P5.out.RF
  have rl := P5.out.R.1
  have of := P5.out.OF
  have ol := P5.out.O.1
  go_wp2_with fail
  refine (has_n (usesS 2) 65 _ (uses_le 2) (by decide) (by decide)).mono ?_
  rintro e w' ⟨rfl, hw⟩
  rw [hw, show hasN (usesS 2) 65 = false from by kernel_rfl]
  clear hw
  go_wp2_with fail
  refine (has_n (usesS 2) 66 _ (uses_le 2) (by decide) (by decide)).mono ?_
  rintro e w' ⟨rfl, hw⟩
  rw [hw, show hasN (usesS 2) 66 = false from by kernel_rfl]
  clear hw
  go_wp2_with fail
  refine (has_n (usesS 2) 68 _ (uses_le 2) (by decide) (by decide)).mono ?_
  rintro e w' ⟨rfl, hw⟩
  rw [hw, show hasN (usesS 2) 68 = true from by kernel_rfl]
  clear hw
  go_upto_region 29 with fail
  clear a0 a1 a2 i0 i1 i2 i3 i4 i5 x0 x1 x2 x3 x4 x5 y0 y1 y2 y3 y4 y5 q0 q1 q2 r0 r1 r2 r3 rf rl of ol
  have q0 : ∀ w', Below u5.heap.size u5 w' → w'.cell? ⟨no, 0, none⟩ = some (.slice (some ⟨g, 0, none⟩) 8 cg) := fun w' h => (P5.out.O.below h).2 0 (by simp)
  have i0 : ∀ w', Below u5.heap.size u5 w' → w'.cell? ⟨w.heap.size + 1 + 1, 0, none⟩ = some (.int .i64 2) := fun w' h => (P5.out.I.below h).2 0 (by simp)
  have i1 : ∀ w', Below u5.heap.size u5 w' → w'.cell? ⟨w.heap.size + 1 + 1, 1, none⟩ = some (.int .i64 (di : Int)) := fun w' h => (P5.out.I.below h).2 1 (by simp)
  have i2 : ∀ w', Below u5.heap.size u5 w' → w'.cell? ⟨w.heap.size + 1 + 1, 2, none⟩ = some (.int .i64 (ia : Int)) := fun w' h => (P5.out.I.below h).2 2 (by simp)
  have i3 : ∀ w', Below u5.heap.size u5 w' → w'.cell? ⟨w.heap.size + 1 + 1, 3, none⟩ = some (.int .i64 (ib : Int)) := fun w' h => (P5.out.I.below h).2 3 (by simp)
  have i4 : ∀ w', Below u5.heap.size u5 w' → w'.cell? ⟨w.heap.size + 1 + 1, 4, none⟩ = some (.int .i64 imm) := fun w' h => (P5.out.I.below h).2 4 (by simp)
  have i5 : ∀ w', Below u5.heap.size u5 w' → w'.cell? ⟨w.heap.size + 1 + 1, 5, none⟩ = some (.int .i64 (q : Int)) := fun w' h => (P5.out.I.below h).2 5 (by simp)
  have x0 : ∀ w', Below u5.heap.size u5 w' → w'.cell? ⟨na, 0, none⟩ = some (.int .i64 (V ia).k) := fun w' h => (P5.out.a.below h).2 0 (by simp)
  have x1 : ∀ w', Below u5.heap.size u5 w' → w'.cell? ⟨na, 1, none⟩ = some (.bool (V ia).s) := fun w' h => (P5.out.a.below h).2 1 (by simp)
  have x2 : ∀ w', Below u5.heap.size u5 w' → w'.cell? ⟨na, 2, none⟩ = some (.int .i64 (V ia).m) := fun w' h => (P5.out.a.below h).2 2 (by simp)
  have x3 : ∀ w', Below u5.heap.size u5 w' → w'.cell? ⟨na, 3, none⟩ = some (.int .i64 (V ia).h) := fun w' h => (P5.out.a.below h).2 3 (by simp)
  have x4 : ∀ w', Below u5.heap.size u5 w' → w'.cell? ⟨na, 4, none⟩ = some (.int .i64 (V ia).lo) := fun w' h => (P5.out.a.below h).2 4 (by simp)
  have x5 : ∀ w', Below u5.heap.size u5 w' → w'.cell? ⟨na, 5, none⟩ = some (.int .i64 (V ia).hi) := fun w' h => (P5.out.a.below h).2 5 (by simp)
  have y0 : ∀ w', Below u5.heap.size u5 w' → w'.cell? ⟨nb, 0, none⟩ = some (.int .i64 (V ib).k) := fun w' h => (P5.out.b.below h).2 0 (by simp)
  have y1 : ∀ w', Below u5.heap.size u5 w' → w'.cell? ⟨nb, 1, none⟩ = some (.bool (V ib).s) := fun w' h => (P5.out.b.below h).2 1 (by simp)
  have y2 : ∀ w', Below u5.heap.size u5 w' → w'.cell? ⟨nb, 2, none⟩ = some (.int .i64 (V ib).m) := fun w' h => (P5.out.b.below h).2 2 (by simp)
  have y3 : ∀ w', Below u5.heap.size u5 w' → w'.cell? ⟨nb, 3, none⟩ = some (.int .i64 (V ib).h) := fun w' h => (P5.out.b.below h).2 3 (by simp)
  have y4 : ∀ w', Below u5.heap.size u5 w' → w'.cell? ⟨nb, 4, none⟩ = some (.int .i64 (V ib).lo) := fun w' h => (P5.out.b.below h).2 4 (by simp)
  have y5 : ∀ w', Below u5.heap.size u5 w' → w'.cell? ⟨nb, 5, none⟩ = some (.int .i64 (V ib).hi) := fun w' h => (P5.out.b.below h).2 5 (by simp)
  refine wp_region_L (T := fun w' => Below u5.heap.size u5 w') (s := 10) (by kernel_rfl) (Below.refl _ _).drew (fun hHeld => ?_)
  refine wpAnyL_tk 0 ?k1v rfl ?k1y ?k1r
  case k1y => (intro w hSw; (try dsimp only at hSw); go_simp; try with_reducible rfl)
  try simp only [Act.put, List.getElem_toArray, List.getElem_cons_zero, List.setIfInBounds_toArray, List.set_cons_zero, List.set_cons_succ]
  refine wpAnyL_tk 1 ?k2v rfl ?k2y ?k2r
  case k2y => (intro w hSw; (try dsimp only at hSw); go_simp; try with_reducible rfl)
  try simp only [Act.put, List.getElem_toArray, List.getElem_cons_zero, List.getElem_cons_succ, List.setIfInBounds_toArray, List.set_cons_zero, List.set_cons_succ]
  refine wpAnyL_tk 2 ?k3v rfl ?k3y ?k3r
  case k3y => (intro w hSw; (try dsimp only at hSw); go_simp; try with_reducible rfl)
  try simp only [Act.put, List.getElem_toArray, List.getElem_cons_zero, List.getElem_cons_succ, List.setIfInBounds_toArray, List.set_cons_zero, List.set_cons_succ]
  refine wpAnyL_tk 3 ?k4v rfl ?k4y ?k4r
  case k4y => (intro w hSw; (try dsimp only at hSw); go_simp; try with_reducible rfl)
  try simp only [Act.put, List.getElem_toArray, List.getElem_cons_zero, List.getElem_cons_succ, List.setIfInBounds_toArray, List.set_cons_zero, List.set_cons_succ]
  refine wpAnyL_tk 4 ?k5v rfl ?k5y ?k5r
  case k5y => (intro w hSw; (try dsimp only at hSw); go_simp; try with_reducible rfl)
  try simp only [Act.put, List.getElem_toArray, List.getElem_cons_zero, List.getElem_cons_succ, List.setIfInBounds_toArray, List.set_cons_zero, List.set_cons_succ]
  refine wpAnyL_tk 5 ?k6v rfl ?k6y ?k6r
  case k6y => (intro w hSw; (try dsimp only at hSw); go_simp; try with_reducible rfl)
  try simp only [Act.put, List.getElem_toArray, List.getElem_cons_zero, List.getElem_cons_succ, List.setIfInBounds_toArray, List.set_cons_zero, List.set_cons_succ]
  refine wpAnyL_tk 6 ?k7v rfl ?k7y ?k7r
  case k7y => (intro w hSw; (try dsimp only at hSw); go_simp; try with_reducible rfl)
  try simp only [Act.put, List.getElem_toArray, List.getElem_cons_zero, List.getElem_cons_succ, List.setIfInBounds_toArray, List.set_cons_zero, List.set_cons_succ]
  refine wpAnyL_tk 7 ?k8v rfl ?k8y ?k8r
  case k8y => (intro w hSw; (try dsimp only at hSw); go_simp; try with_reducible rfl)
  try simp only [Act.put, List.getElem_toArray, List.getElem_cons_zero, List.getElem_cons_succ, List.setIfInBounds_toArray, List.set_cons_zero, List.set_cons_succ]
  refine wpAnyL_call (i := 8) rfl (by kernel_rfl) (fun KK hK => ?_)
  go_simp
  refine (l4Result_any 2 (di : Int) (ia : Int) (ib : Int) imm (q : Int) (V ia) (V ib) false _ (by decide) (by decide) HBA.out HBB.out n0 n1 (fun h => absurd h (by decide))).mono ?_
  rintro e x6 ⟨rfl, hbe⟩
  have bx : Below u5.heap.size u5 x6 := (Below.refl u5.heap.size u5).drew.trans hbe
  clear hbe
  obtain ⟨nv, hnv⟩ : ∃ x, resV 2 imm (V ia) (V ib) false = x := ⟨_, rfl⟩
  rw [hnv]
  have HNV : Hid (resV 2 imm (V ia) (V ib) false = nv) := hnv
  clear hnv
  simp only [VV.v]
  go_wp2_with fail
  refine hK.out _ _ bx (fun hHeld2 => ?_)
  clear hK KK
  try simp only [Act.put, List.getElem_toArray, List.getElem_cons_zero, List.getElem_cons_succ, List.setIfInBounds_toArray, List.set_cons_zero, List.set_cons_succ]
  refine wpAnyL_tk 9 ?k9v rfl ?k9y ?k9r
  case k9y => (intro w hSw; (try dsimp only at hSw); go_simp; try with_reducible rfl)
  try simp only [Act.put, List.getElem_toArray, List.getElem_cons_zero, List.getElem_cons_succ, List.setIfInBounds_toArray, List.set_cons_zero, List.set_cons_succ]
  have P6 : Hid (StP w x6 bA cA g cg z c 2 (di : Int) (ia : Int) (ib : Int) imm (q : Int) no z c na nb (V ia) (V ib) V) := P5.out.below bx
  clear q0 i0 i1 i2 i3 i4 i5 x0 x1 x2 x3 x4 x5 y0 y1 y2 y3 y4 y5 hHeld hHeld2 bx P5
  obtain ⟨d0, d1, d2, d3, d4, d5⟩ := reg_cells P6.out.G di hd
  have gf := P6.out.G.free
  have gl := P6.out.G.lt
  refine wpAnyL_store rfl (by kernel_rfl) (by kernel_rfl) (fun KK hK => ?_)
  go_simp
  refine hK.out _ _ ?_
  clear hK KK d0 d1 d2 d3 d4 d5 gf gl
  obtain ⟨u7, huu7⟩ : ∃ v, put6 x6 g (di * 6) nv = v := ⟨_, rfl⟩
  rw [show (((((x6.setCell ⟨g, di * 6, none⟩ (.int .i64 nv.k)).setCell ⟨g, di * 6 + 1, none⟩ (.bool nv.s)).setCell ⟨g, di * 6 + 2, none⟩ (.int .i64 nv.m)).setCell ⟨g, di * 6 + 3, none⟩ (.int .i64 nv.h)).setCell ⟨g, di * 6 + 4, none⟩ (.int .i64 nv.lo)).setCell ⟨g, di * 6 + 5, none⟩ (.int .i64 nv.hi) = u7 from huu7]
  have P7 : Hid (StP w u7 bA cA g cg z c 2 (di : Int) (ia : Int) (ib : Int) imm (q : Int) no z c na nb (V ia) (V ib) (updV V di nv)) := by rw [← huu7]; exact P6.out.put hd nv
  clear huu7
  clear P6
  obtain ⟨a0, a1, a2⟩ := clg P7.out.A
  obtain ⟨i0, i1, i2, i3, i4, i5⟩ := ins_cells P7.out.I
  obtain ⟨x0, x1, x2, x3, x4, x5⟩ := cl6 P7.out.a
  obtain ⟨y0, y1, y2, y3, y4, y5⟩ := cl6 P7.out.b
  obtain ⟨q0, q1, q2⟩ := clg P7.out.O
  obtain ⟨r0, r1, r2, r3⟩ := clg4 P7.out.R
  have rf := P7.out.RF
  have rl := P7.out.R.1
  have of := P7.out.OF
  have ol := P7.out.O.1
  have og := P7.out.o1
  go_wp2
  refine bodyPost_ret (v := .agg #[.int .i64 0, .slice (some ⟨g, 0, none⟩) 8 cg, .int .i64 z, .int .i64 c]) (by simp [results, Try.results32, go_sem, *]) rfl ⟨Or.inr ⟨?_, g, cg, by omega, ?_, ?_⟩, ?_⟩
  · rw [← HERR.out]
  · rw [← HZ1.out, ← HC1.out]
  · (iterate 4 refine Arr.other ?_ (show w.heap.size + 1 + 1 + 1 ≠ g by omega) _)
    rw [← HW1.out, HNV.out]
    exact P7.out.G
  · (iterate 4 refine Below.setCell ?_ (show w.heap.size ≤ w.heap.size + 1 + 1 + 1 by omega) _)
    exact P7.out.bel
end Go.Proofs.Ytjnooklalbcamaa
