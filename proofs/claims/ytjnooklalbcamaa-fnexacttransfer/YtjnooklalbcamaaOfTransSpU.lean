import Derived.Test.YtjnooklalbcamaaOfTransResB
import Derived.Test.YtjnooklalbcamaaOfTransSp1
/- A load or store, the model's word. -/
namespace Go.Proofs.Ytjnooklalbcamaa
open Go.RowKit

set_option maxRecDepth 20000 in
set_option maxHeartbeats 8000000 in
theorem l4Access_28 (bH nH cH bR nR cR g cg : Nat) (S : Nat → HS) (V : Nat → VV) (z c : Int) (di ia ib q : Nat) (hd : di < 8) (ha : ia < 8) (hb : ib < 8) (w : World) (_lH : nH ≤ 1048576) (hqi : (V ia).k = 1 → (V ia).h = (q : Int) → q < nH) (hh : Arr w bH (nH * 3) (hsF S)) (hg : Arr w g (8 * 6) (vF V)) (hA : Bd (V ia)) (hB : Bd (V ib)) :
    Calls Try.prog 75 #[.agg #[.slice (some ⟨bH, 0, none⟩) nH cH, .slice (some ⟨bR, 0, none⟩) nR cR], .agg #[.slice (some ⟨g, 0, none⟩) 8 cg, .int .i64 z, .int .i64 c], .agg #[.int .i64 28, .int .i64 (di : Int), .int .i64 (ia : Int), .int .i64 (ib : Int), .int .i64 0, .int .i64 (q : Int)]] w fun e w' => AccAns w' g cg e (accI 28 0 (q : Int) (V ia) (V ib) (V di) (S q)) V z c ∧ Below g w w' := by
  obtain ⟨err, herr⟩ : ∃ x, accI 28 0 (q : Int) (V ia) (V ib) (V di) (S q) = x := ⟨_, rfl⟩
  rw [herr]
  have HE : Hid (accI 28 0 (q : Int) (V ia) (V ib) (V di) (S q) = err) := herr
  have HH : Hid (Arr w bH (nH * 3) (hsF S)) := hh
  have HQI : Hid ((V ia).k = 1 → (V ia).h = (q : Int) → q < nH) := hqi
  have HG : Hid (Arr w g (8 * 6) (vF V)) := hg
  have lg := hg.lt
  have lo0 := hA.l0
  have lo1 := hA.l1
  have hi0 := hA.h0
  have hi1 := hA.h1
  have bm0 := hB.m0
  have bm1 := hB.m1
  clear herr hh hqi hg hA hB
  have ha8 : (ia : Int) < 8 := by omega
  have hb8 : (ib : Int) < 8 := by omega
  have hd8 : (di : Int) < 8 := by omega
  go_enter Try.func75, Try.ntmps75
  go_upto_region 1 with fail
  obtain ⟨u, hu, pu⟩ := it_pre w bH nH cH bR nR cR g 8 cg (z := z) (c := c) (op := 28) (d := (di : Int)) (ra := (ia : Int)) (rb := (ib : Int)) (imm := 0) (h := (q : Int))
  rw [hu]
  have P0 : Hid (ItP w u bH nH cH bR nR cR g 8 cg z c 28 (di : Int) (ia : Int) (ib : Int) 0 (q : Int)) := pu
  clear hu pu
  have HGU : Hid (Arr u g (8 * 6) (vF V)) := HG.out.below P0.out.bel lg
  obtain ⟨_, ⟨a0, _, _⟩, _⟩ := it_cells P0.out
  obtain ⟨i0, i1, i2, i3, i4, i5⟩ := ins_cells P0.out.I
  obtain ⟨x0, x1, x2, x3, x4, x5⟩ := reg_cells HGU.out ia ha
  obtain ⟨y0, y1, y2, y3, y4, y5⟩ := reg_cells HGU.out ib hb
  have ul1 := P0.out.A.1
  have ul2 := P0.out.I.1
  have ul3 := HGU.out.lt
  go_upto_region 3 with fail
  clear ul1 ul2 ul3 a0 i0 i1 i2 i3 i4 i5 x0 x1 x2 x3 x4 x5 y0 y1 y2 y3 y4 y5
  obtain ⟨u1, hu1, p1⟩ : ∃ v, (u.alloc (.cells #[.int .i64 (V ia).k, .bool (V ia).s, .int .i64 (V ia).m, .int .i64 (V ia).h, .int .i64 (V ia).lo, .int .i64 (V ia).hi] 24)).alloc (.cells #[.int .i64 (V ib).k, .bool (V ib).s, .int .i64 (V ib).m, .int .i64 (V ib).h, .int .i64 (V ib).lo, .int .i64 (V ib).hi] 24) = v ∧ AcP w v bH nH cH bR nR cR g cg z c 28 (di : Int) (ia : Int) (ib : Int) 0 (q : Int) u.heap.size (u.heap.size + 1) (V ia) (V ib) V := by
    have b1 := (Below.refl u.heap.size u).alloc (Nat.le_refl _) (.cells #[.int .i64 (V ia).k, .bool (V ia).s, .int .i64 (V ia).m, .int .i64 (V ia).h, .int .i64 (V ia).lo, .int .i64 (V ia).hi] 24)
    have e1 := Cl.new (w := u) (vs := #[.int .i64 (V ia).k, .bool (V ia).s, .int .i64 (V ia).m, .int .i64 (V ia).h, .int .i64 (V ia).lo, .int .i64 (V ia).hi]) (t := 24)
    generalize hy : u.alloc (.cells #[.int .i64 (V ia).k, .bool (V ia).s, .int .i64 (V ia).m, .int .i64 (V ia).h, .int .i64 (V ia).lo, .int .i64 (V ia).hi] 24) = y at *
    have s1 : y.heap.size = u.heap.size + 1 := by rw [← hy]; simp
    clear hy
    have b2 := (Below.refl y.heap.size y).alloc (Nat.le_refl _) (.cells #[.int .i64 (V ib).k, .bool (V ib).s, .int .i64 (V ib).m, .int .i64 (V ib).h, .int .i64 (V ib).lo, .int .i64 (V ib).hi] 24)
    have e2 := Cl.new (w := y) (vs := #[.int .i64 (V ib).k, .bool (V ib).s, .int .i64 (V ib).m, .int .i64 (V ib).h, .int .i64 (V ib).lo, .int .i64 (V ib).hi]) (t := 24)
    rw [s1] at e2
    have p := P0.out.below (b1.trans (b2.mono b1.size))
    exact ⟨_, rfl, p.bel.mono (Nat.le_of_lt lg), p.S, p.A, p.I, p.R, p.RF, e1.below b2, e2, HG.out.below p.bel lg⟩
  rw [hu1]
  have ga : w.heap.size ≤ u.heap.size := P0.out.bel.size
  have gb : w.heap.size ≤ u.heap.size + 1 := by omega
  have hbH : bH < w.heap.size := HH.out.lt
  have HHU : Hid (Arr u1 bH (nH * 3) (hsF S)) := HH.out.below (by rw [← hu1]; exact (P0.out.bel.alloc (by have := P0.out.bel.size; omega) _).alloc (by simp; have := P0.out.bel.size; omega) _) hbH
  clear hu1
  obtain ⟨na, hna⟩ : ∃ x, u.heap.size = x := ⟨_, rfl⟩
  obtain ⟨nb, hnb⟩ : ∃ x, u.heap.size + 1 = x := ⟨_, rfl⟩
  rw [hnb] at p1 gb ⊢
  rw [hna] at p1 ga ⊢
  clear hna hnb P0 HGU HG HH
  have P1 : Hid (AcP w u1 bH nH cH bR nR cR g cg z c 28 (di : Int) (ia : Int) (ib : Int) 0 (q : Int) na nb (V ia) (V ib) V) := p1
  clear p1
  have s0 := P1.out.S.2 0 (by simp)
  have a0 := P1.out.A.2 0 (by simp)
  have a1 := P1.out.A.2 1 (by simp)
  have a2 := P1.out.A.2 2 (by simp)
  simp only [List.getD_eq_getElem?_getD, List.getElem?_cons_zero, List.getElem?_cons_succ, Option.getD_some] at s0 a0 a1 a2
  obtain ⟨i0, i1, i2, i3, i4, i5⟩ := ins_cells P1.out.I
  obtain ⟨x0, x1, x2, x3, x4, x5⟩ := cl6 P1.out.a
  obtain ⟨y0, y1, y2, y3, y4, y5⟩ := cl6 P1.out.b
  have r0 := P1.out.R.2 0 (by simp)
  have r1 := P1.out.R.2 1 (by simp)
  have r2 := P1.out.R.2 2 (by simp)
  have r3 := P1.out.R.2 3 (by simp)
  simp only [List.getD_eq_getElem?_getD, List.getElem?_cons_zero, List.getElem?_cons_succ, Option.getD_some] at r0 r1 r2 r3
  have rf := P1.out.RF
  have rl := P1.out.R.1
  by_cases c1 : (V ia).k = 1
  rotate_left
  · have e1 : ((V ia).k != 1) = true := by simp [c1]
    go_wp2
    obtain rfl : err = 3 := by rw [← HE.out, accI, if_pos c1]
    refine bodyPost_ret (v := .agg #[.int .i64 3, .slice none 0 0, .int .i64 0, .int .i64 0]) (by simp [results, Try.results75, go_sem, *]) rfl ⟨Or.inl ⟨by decide, rfl⟩, ?_⟩
    (iterate 4 refine Below.setCell ?_ (show g ≤ w.heap.size + 1 + 1 + 1 by omega) _)
    exact P1.out.bel
  have e1 : ((V ia).k != 1) = false := by simp [c1]
  have C1 : Hid ((V ia).k = 1) := c1
  clear c1
  by_cases c2 : (V ia).h = (q : Int)
  rotate_left
  · have e2 : ((V ia).h != (q : Int)) = true := by simp [c2]
    go_wp2
    obtain rfl : err = 4 := by rw [← HE.out, accI, if_neg (by simp [C1.out]), if_pos c2]
    refine bodyPost_ret (v := .agg #[.int .i64 4, .slice none 0 0, .int .i64 0, .int .i64 0]) (by simp [results, Try.results75, go_sem, *]) rfl ⟨Or.inl ⟨by decide, rfl⟩, ?_⟩
    (iterate 4 refine Below.setCell ?_ (show g ≤ w.heap.size + 1 + 1 + 1 by omega) _)
    exact P1.out.bel
  have hq : q < nH := HQI.out C1.out c2
  have hqn : (q : Int) < nH := by omega
  have C2 : Hid ((V ia).h = (q : Int)) := c2
  rw [c2] at x3
  have e2 : ((q : Int) != (q : Int)) = false := by simp
  clear c2 HQI
  obtain ⟨h0, h1, h2⟩ := hs_at HHU.out hq
  go_upto_region 14 with fail
  clear s0 a0 a1 a2 i0 i1 i2 i3 i4 i5 x0 x1 x2 x3 x4 x5 y0 y1 y2 y3 y4 y5 r0 r1 r2 r3 rf rl
  clear h0 h1 h2 e1 e2
  obtain ⟨u2, hu2, b2, g2⟩ : ∃ v, u1.alloc (.cells #[.int .i64 (S q).size, .bool (S q).s, .bool (S q).w] 98) = v ∧ Below u1.heap.size u1 v ∧ Cl v u1.heap.size [.int .i64 (S q).size, .bool (S q).s, .bool (S q).w] := ⟨_, rfl, (Below.refl _ _).alloc (Nat.le_refl _) _, Cl.new⟩
  rw [hu2]
  have P2 : Hid (AcP w u2 bH nH cH bR nR cR g cg z c 28 (di : Int) (ia : Int) (ib : Int) 0 (q : Int) na nb (V ia) (V ib) V) := P1.out.below b2
  have G2 : Hid (Cl u2 u1.heap.size [.int .i64 (S q).size, .bool (S q).s, .bool (S q).w]) := g2
  have hnh : w.heap.size ≤ u1.heap.size := by have := P1.out.R.1; omega
  clear hu2 b2 g2 P1 HHU
  generalize u1.heap.size = nh at *
  have s0 := P2.out.S.2 0 (by simp)
  have a0 := P2.out.A.2 0 (by simp)
  have a1 := P2.out.A.2 1 (by simp)
  have a2 := P2.out.A.2 2 (by simp)
  simp only [List.getD_eq_getElem?_getD, List.getElem?_cons_zero, List.getElem?_cons_succ, Option.getD_some] at s0 a0 a1 a2
  obtain ⟨i0, i1, i2, i3, i4, i5⟩ := ins_cells P2.out.I
  obtain ⟨x0, x1, x2, x3, x4, x5⟩ := cl6 P2.out.a
  obtain ⟨y0, y1, y2, y3, y4, y5⟩ := cl6 P2.out.b
  have r0 := P2.out.R.2 0 (by simp)
  have r1 := P2.out.R.2 1 (by simp)
  have r2 := P2.out.R.2 2 (by simp)
  have r3 := P2.out.R.2 3 (by simp)
  simp only [List.getD_eq_getElem?_getD, List.getElem?_cons_zero, List.getElem?_cons_succ, Option.getD_some] at r0 r1 r2 r3
  have rf := P2.out.RF
  have rl := P2.out.R.1
  have h0 := G2.out.2 0 (by simp)
  have h1 := G2.out.2 1 (by simp)
  have h2 := G2.out.2 2 (by simp)
  simp only [List.getD_eq_getElem?_getD, List.getElem?_cons_zero, List.getElem?_cons_succ, Option.getD_some] at h0 h1 h2
  go_wp2_with fail
  refine (l4Max_any (V ib).k (V ib).s (V ib).m (V ib).h (V ib).lo (V ib).hi _).mono ?_
  rintro e u3 ⟨rfl, hbe⟩
  obtain ⟨mb, hm⟩ : ∃ m, maxV (V ib) = m := ⟨_, rfl⟩
  rw [show maxV ⟨(V ib).k, (V ib).s, (V ib).m, (V ib).h, (V ib).lo, (V ib).hi⟩ = mb from hm]
  have HM : Hid (maxV (V ib) = mb) := hm
  have P3 : Hid (AcP w u3 bH nH cH bR nR cR g cg z c 28 (di : Int) (ia : Int) (ib : Int) 0 (q : Int) na nb (V ia) (V ib) V) := P2.out.below hbe
  have G3 : Hid (Cl u3 nh [.int .i64 (S q).size, .bool (S q).s, .bool (S q).w]) := G2.out.below hbe
  clear s0 a0 a1 a2 i0 i1 i2 i3 i4 i5 x0 x1 x2 x3 x4 x5 y0 y1 y2 y3 y4 y5 r0 r1 r2 r3 rf rl
  clear h0 h1 h2 hm hbe P2 G2
  have s0 := P3.out.S.2 0 (by simp)
  have a0 := P3.out.A.2 0 (by simp)
  have a1 := P3.out.A.2 1 (by simp)
  have a2 := P3.out.A.2 2 (by simp)
  simp only [List.getD_eq_getElem?_getD, List.getElem?_cons_zero, List.getElem?_cons_succ, Option.getD_some] at s0 a0 a1 a2
  obtain ⟨i0, i1, i2, i3, i4, i5⟩ := ins_cells P3.out.I
  obtain ⟨x0, x1, x2, x3, x4, x5⟩ := cl6 P3.out.a
  obtain ⟨y0, y1, y2, y3, y4, y5⟩ := cl6 P3.out.b
  have r0 := P3.out.R.2 0 (by simp)
  have r1 := P3.out.R.2 1 (by simp)
  have r2 := P3.out.R.2 2 (by simp)
  have r3 := P3.out.R.2 3 (by simp)
  simp only [List.getD_eq_getElem?_getD, List.getElem?_cons_zero, List.getElem?_cons_succ, Option.getD_some] at r0 r1 r2 r3
  have rf := P3.out.RF
  have rl := P3.out.R.1
  have h0 := G3.out.2 0 (by simp)
  have h1 := G3.out.2 1 (by simp)
  have h2 := G3.out.2 2 (by simp)
  simp only [List.getD_eq_getElem?_getD, List.getElem?_cons_zero, List.getElem?_cons_succ, Option.getD_some] at h0 h1 h2
  by_cases c3 : mb < 0
  · have e3 : decide (mb < 0) = true := by simp [c3]
    go_wp2
    obtain rfl : err = 5 := by rw [← HE.out, accI, if_neg (by simp [C1.out]), if_neg (by simp [C2.out]), if_pos (Or.inr (by rw [HM.out]; exact c3))]
    refine bodyPost_ret (v := .agg #[.int .i64 5, .slice none 0 0, .int .i64 0, .int .i64 0]) (by simp [results, Try.results75, go_sem, *]) rfl ⟨Or.inl ⟨by decide, rfl⟩, ?_⟩
    (iterate 4 refine Below.setCell ?_ (show g ≤ w.heap.size + 1 + 1 + 1 by omega) _)
    exact P3.out.bel
  have e3 : decide (mb < 0) = false := by simp; omega
  have c3' : ¬ maxV (V ib) < 0 := by rw [HM.out]; exact c3
  have C3 : Hid (¬ maxV (V ib) < 0) := c3'
  clear c3 c3'
  cases c4 : (V ib).s with
  | true =>
    rw [c4] at y1
    go_wp2
    obtain rfl : err = 5 := by rw [← HE.out, accI, if_neg (by simp [C1.out]), if_neg (by simp [C2.out]), if_pos (Or.inl c4)]
    refine bodyPost_ret (v := .agg #[.int .i64 5, .slice none 0 0, .int .i64 0, .int .i64 0]) (by simp [results, Try.results75, go_sem, *]) rfl ⟨Or.inl ⟨by decide, rfl⟩, ?_⟩
    (iterate 4 refine Below.setCell ?_ (show g ≤ w.heap.size + 1 + 1 + 1 by omega) _)
    exact P3.out.bel
  | false =>
  rw [c4] at y1
  have C4 : Hid (¬ ((V ib).s = true ∨ maxV (V ib) < 0)) := fun x => x.elim (by simp [c4]) C3.out
  clear c4
  have C5 : Hid ((V ia).hi + 0 + (V ib).m + wdI 28 = (V ia).hi + (V ib).m + 8) := (by rw [show wdI 28 = 8 from rfl]; omega : (V ia).hi + 0 + (V ib).m + wdI 28 = (V ia).hi + (V ib).m + 8)
  by_cases c5 : (V ia).lo + 0 < 0
  · have e5 : decide ((V ia).lo + 0 < 0) = true := by simp; omega
    have e5' : decide ((V ia).lo < 0) = true := by simp; omega
    go_wp2
    obtain rfl : err = 6 := by rw [← HE.out, accI, if_neg (by simp [C1.out]), if_neg (by simp [C2.out]), if_neg C4.out, if_pos (Or.inl c5)]
    refine bodyPost_ret (v := .agg #[.int .i64 6, .slice none 0 0, .int .i64 0, .int .i64 0]) (by simp [results, Try.results75, go_sem, *]) rfl ⟨Or.inl ⟨by decide, rfl⟩, ?_⟩
    (iterate 4 refine Below.setCell ?_ (show g ≤ w.heap.size + 1 + 1 + 1 by omega) _)
    exact P3.out.bel
  have e5 : decide ((V ia).lo + 0 < 0) = false := by simp; omega
  have e5' : decide ((V ia).lo < 0) = false := by simp; omega
  by_cases c6 : (S q).size < (V ia).hi + (V ib).m + 8
  · have e6 : decide ((S q).size < (V ia).hi + (V ib).m + 8) = true := by simp; omega
    go_wp2
    obtain rfl : err = 6 := by rw [← HE.out, accI, if_neg (by simp [C1.out]), if_neg (by simp [C2.out]), if_neg C4.out, if_pos (Or.inr (by rw [C5.out]; exact c6))]
    refine bodyPost_ret (v := .agg #[.int .i64 6, .slice none 0 0, .int .i64 0, .int .i64 0]) (by simp [results, Try.results75, go_sem, *]) rfl ⟨Or.inl ⟨by decide, rfl⟩, ?_⟩
    (iterate 4 refine Below.setCell ?_ (show g ≤ w.heap.size + 1 + 1 + 1 by omega) _)
    exact P3.out.bel
  have e6 : decide ((S q).size < (V ia).hi + (V ib).m + 8) = false := by simp; omega
  have c6' : ¬ ((V ia).lo + 0 < 0 ∨ (S q).size < (V ia).hi + 0 + (V ib).m + wdI 28) := by rw [C5.out]; omega
  have C6 : Hid (¬ ((V ia).lo + 0 < 0 ∨ (S q).size < (V ia).hi + 0 + (V ib).m + wdI 28)) := c6'
  clear c5 c6 c6'
  obtain ⟨_, d1, _⟩ := reg_cells P3.out.G di hd
  cases c7 : (S q).w with
  | false =>
    rw [c7] at h2
    go_wp2
    obtain rfl : err = 7 := by rw [← HE.out, accI, if_neg (by simp [C1.out]), if_neg (by simp [C2.out]), if_neg C4.out, if_neg C6.out, if_neg (show ¬ stB 28 = false by decide), if_pos c7]
    refine bodyPost_ret (v := .agg #[.int .i64 7, .slice none 0 0, .int .i64 0, .int .i64 0]) (by simp [results, Try.results75, go_sem, *]) rfl ⟨Or.inl ⟨by decide, rfl⟩, ?_⟩
    (iterate 4 refine Below.setCell ?_ (show g ≤ w.heap.size + 1 + 1 + 1 by omega) _)
    exact P3.out.bel
  | true =>
  rw [c7] at h2
  have C7 : Hid (¬ (S q).w = false) := (by simp [c7] : ¬ (S q).w = false)
  clear c7
  cases c8 : (V di).s with
  | false =>
    rw [c8] at d1
    go_wp2
    obtain rfl : err = 0 := by rw [← HE.out, accI, if_neg (by simp [C1.out]), if_neg (by simp [C2.out]), if_neg C4.out, if_neg C6.out, if_neg (show ¬ stB 28 = false by decide), if_neg C7.out, if_neg (by simp [c8])]
    refine bodyPost_ret (v := .agg #[.int .i64 0, .slice (some ⟨g, 0, none⟩) 8 cg, .int .i64 z, .int .i64 c]) (by simp [results, Try.results75, go_sem, *]) rfl ⟨Or.inr ⟨rfl, rfl, ?_⟩, ?_⟩
    · iterate 4 refine Arr.other ?_ (show w.heap.size + 1 + 1 + 1 ≠ g by omega) _
      exact P3.out.G
    · (iterate 4 refine Below.setCell ?_ (show g ≤ w.heap.size + 1 + 1 + 1 by omega) _)
      exact P3.out.bel
  | true =>
  rw [c8] at d1
  cases c9 : (S q).s with
  | false =>
    rw [c9] at h1
    go_wp2
    obtain rfl : err = 8 := by rw [← HE.out, accI, if_neg (by simp [C1.out]), if_neg (by simp [C2.out]), if_neg C4.out, if_neg C6.out, if_neg (show ¬ stB 28 = false by decide), if_neg C7.out, if_pos ⟨c8, c9⟩]
    refine bodyPost_ret (v := .agg #[.int .i64 8, .slice none 0 0, .int .i64 0, .int .i64 0]) (by simp [results, Try.results75, go_sem, *]) rfl ⟨Or.inl ⟨by decide, rfl⟩, ?_⟩
    (iterate 4 refine Below.setCell ?_ (show g ≤ w.heap.size + 1 + 1 + 1 by omega) _)
    exact P3.out.bel
  | true =>
    rw [c9] at h1
    go_wp2
    obtain rfl : err = 0 := by rw [← HE.out, accI, if_neg (by simp [C1.out]), if_neg (by simp [C2.out]), if_neg C4.out, if_neg C6.out, if_neg (show ¬ stB 28 = false by decide), if_neg C7.out, if_neg (by simp [c9])]
    refine bodyPost_ret (v := .agg #[.int .i64 0, .slice (some ⟨g, 0, none⟩) 8 cg, .int .i64 z, .int .i64 c]) (by simp [results, Try.results75, go_sem, *]) rfl ⟨Or.inr ⟨rfl, rfl, ?_⟩, ?_⟩
    · iterate 4 refine Arr.other ?_ (show w.heap.size + 1 + 1 + 1 ≠ g by omega) _
      exact P3.out.G
    · (iterate 4 refine Below.setCell ?_ (show g ≤ w.heap.size + 1 + 1 + 1 by omega) _)
      exact P3.out.bel
end Go.Proofs.Ytjnooklalbcamaa
/- Transfer, the model's word. -/
namespace Go.Proofs.Ytjnooklalbcamaa
open Go.RowKit

set_option maxRecDepth 20000 in
set_option maxHeartbeats 8000000 in
theorem specTransfer_28 (bH cH nH : Nat) (S : Nat → HS) (bR cR nR : Nat) (V0 : Nat → VV) (bA cA : Nat) (V : Nat → VV) (z c : Int) (di ia ib q : Nat) (hd : di < 8) (ha : ia < 8) (hb : ib < 8) (w : World) (lH : nH ≤ 1048576) (lR : nR ≤ 1048576) (h1 : SigCp w bH nH S bR nR V0) (h2 : Arr w bA (8 * 6) (vF V)) (hok : absOK nH S nR V0 8 V z c = true) (hik : implIns 28 (di : Int) (ia : Int) (ib : Int) 0 (q : Int) = true) (hA : Bd (V ia)) (hB : Bd (V ib)) (hqi : (V ia).k = 1 → (V ia).h = (q : Int) → q < nH) :
    Calls Try.prog 32 #[.agg #[.slice (some ⟨bH, 0, none⟩) nH cH, .slice (some ⟨bR, 0, none⟩) nR cR], .agg #[.slice (some ⟨bA, 0, none⟩) 8 cA, .int .i64 z, .int .i64 c], .agg #[.int .i64 28, .int .i64 (di : Int), .int .i64 (ia : Int), .int .i64 (ib : Int), .int .i64 0, .int .i64 (q : Int)]] w fun e w' => TrAns w w' e (accI 28 0 (q : Int) (V ia) (V ib) (V di) (S q)) V z c ∧ Below w.heap.size w w' := by
  have H1 : Hid (SigCp w bH nH S bR nR V0) := h1
  have H2 : Hid (Arr w bA (8 * 6) (vF V)) := h2
  have HOK : Hid (absOK nH S nR V0 8 V z c = true) := hok
  have HIK : Hid (implIns 28 (di : Int) (ia : Int) (ib : Int) 0 (q : Int) = true) := hik
  have HBA : Hid (Bd (V ia)) := hA
  have HBB : Hid (Bd (V ib)) := hB
  have HQI : Hid ((V ia).k = 1 → (V ia).h = (q : Int) → q < nH) := hqi
  clear h1 h2 hok hik hA hB hqi
  obtain ⟨err, herr⟩ : ∃ x, (accI 28 0 (q : Int) (V ia) (V ib) (V di) (S q)) = x := ⟨_, rfl⟩
  rw [herr]
  have HERR : Hid ((accI 28 0 (q : Int) (V ia) (V ib) (V di) (S q)) = err) := herr
  clear herr
  go_enter Try.func32, Try.ntmps32
  go_upto_region 1 with fail
  obtain ⟨u, hu, pu⟩ := it_pre w bH nH cH bR nR cR bA 8 cA (z := z) (c := c) (op := 28) (d := (di : Int)) (ra := (ia : Int)) (rb := (ib : Int)) (imm := 0) (h := (q : Int))
  rw [hu]
  have P0 : Hid (ItP w u bH nH cH bR nR cR bA 8 cA z c 28 (di : Int) (ia : Int) (ib : Int) 0 (q : Int)) := pu
  clear hu pu
  obtain ⟨⟨s0, s1⟩, ⟨a0, a1, a2⟩, r0, r1, r2, r3⟩ := it_cells P0.out
  obtain ⟨i0, i1, i2, i3, i4, i5⟩ := ins_cells P0.out.I
  have rl := P0.out.R.1
  have rf := P0.out.RF
  go_wp2_with fail
  refine (specAbs_any bH cH nH S bR cR nR V0 bA cA 8 V z c u lH lR (by omega) (H1.out.below P0.out.bel) (H2.out.below P0.out.bel H2.out.lt)).mono ?_
  rintro e u1 ⟨rfl, hbe⟩
  have P1 : Hid (ItP w u1 bH nH cH bR nR cR bA 8 cA z c 28 (di : Int) (ia : Int) (ib : Int) 0 (q : Int)) := P0.out.below hbe
  clear hbe P0
  clear s0 s1 a0 a1 a2 r0 r1 r2 r3 i0 i1 i2 i3 i4 i5 rl rf
  rw [HOK.out]
  obtain ⟨⟨s0, s1⟩, ⟨a0, a1, a2⟩, r0, r1, r2, r3⟩ := it_cells P1.out
  obtain ⟨i0, i1, i2, i3, i4, i5⟩ := ins_cells P1.out.I
  have rl := P1.out.R.1
  have rf := P1.out.RF
  go_wp2_with fail
  refine (specIns_any 28 (di : Int) (ia : Int) (ib : Int) 0 (q : Int) _).mono ?_
  rintro e u2 ⟨rfl, hbe⟩
  have P2 : Hid (ItP w u2 bH nH cH bR nR cR bA 8 cA z c 28 (di : Int) (ia : Int) (ib : Int) 0 (q : Int)) := P1.out.below hbe
  clear hbe P1
  clear s0 s1 a0 a1 a2 r0 r1 r2 r3 i0 i1 i2 i3 i4 i5 rl rf
  rw [HIK.out]
  obtain ⟨⟨s0, s1⟩, ⟨a0, a1, a2⟩, r0, r1, r2, r3⟩ := it_cells P2.out
  obtain ⟨i0, i1, i2, i3, i4, i5⟩ := ins_cells P2.out.I
  have rl := P2.out.R.1
  have rf := P2.out.RF
  go_wp2_with fail
  refine (l4Abs_any bA cA V z c u2 (H2.out.below P2.out.bel H2.out.lt)).mono ?_
  rintro e u3 ⟨g, cg, hg, rfl, hbe, hG⟩
  have P3 : Hid (ItP w u3 bH nH cH bR nR cR bA 8 cA z c 28 (di : Int) (ia : Int) (ib : Int) 0 (q : Int)) := P2.out.below hbe
  have HG3 : Hid (Arr u3 g (8 * 6) (vF V)) := hG
  have og : w.heap.size + 1 + 1 + 1 < g := Nat.lt_of_lt_of_le P2.out.R.1 hg
  clear hbe hG hg P2
  clear s0 s1 a0 a1 a2 r0 r1 r2 r3 i0 i1 i2 i3 i4 i5 rl rf
  obtain ⟨⟨s0, s1⟩, ⟨a0, a1, a2⟩, r0, r1, r2, r3⟩ := it_cells P3.out
  obtain ⟨i0, i1, i2, i3, i4, i5⟩ := ins_cells P3.out.I
  have rl := P3.out.R.1
  have rf := P3.out.RF
  have lg := HG3.out.lt
  go_upto_region 4 with fail
  clear s0 s1 a0 a1 a2 r0 r1 r2 r3 i0 i1 i2 i3 i4 i5 rl rf
  clear lg
  obtain ⟨u4, hu4, b4, e4⟩ : ∃ v, u3.alloc (.cells #[.slice (some ⟨g, 0, none⟩) 8 cg, .int .i64 z, .int .i64 c] 66) = v ∧ Below u3.heap.size u3 v ∧ Cl v u3.heap.size [.slice (some ⟨g, 0, none⟩) 8 cg, .int .i64 z, .int .i64 c] := ⟨_, rfl, (Below.refl _ _).alloc (Nat.le_refl _) _, Cl.new⟩
  rw [hu4]
  clear hu4
  have P4 : Hid (ItP w u4 bH nH cH bR nR cR bA 8 cA z c 28 (di : Int) (ia : Int) (ib : Int) 0 (q : Int)) := P3.out.below b4
  have HG4 : Hid (Arr u4 g (8 * 6) (vF V)) := HG3.out.below b4 HG3.out.lt
  obtain ⟨q0, q1, q2⟩ := clg e4
  clear b4 e4 P3 HG3
  generalize u3.heap.size = no at *
  obtain ⟨⟨s0, s1⟩, ⟨a0, a1, a2⟩, r0, r1, r2, r3⟩ := it_cells P4.out
  obtain ⟨i0, i1, i2, i3, i4, i5⟩ := ins_cells P4.out.I
  have rl := P4.out.R.1
  have rf := P4.out.RF
  go_wp2_with fail
  refine (l4Access_28 bH nH cH bR nR cR g cg S V z c di ia ib q hd ha hb u4 lH HQI.out (H1.out.h.below P4.out.bel H1.out.h.lt) HG4.out HBA.out HBB.out).mono ?_
  rintro e u5 ⟨hx, hbe⟩
  rw [HERR.out] at hx
  have rl5 : w.heap.size + 1 + 1 + 1 < u5.heap.size := Nat.lt_of_lt_of_le P4.out.R.1 hbe.size
  have bl5 : Below w.heap.size w u5 := P4.out.bel.trans (hbe.mono (by omega))
  have t0 : u5.cell? ⟨w.heap.size + 1 + 1 + 1, 0, none⟩ = some (.int .i64 0) := (hbe.cell (p := ⟨w.heap.size + 1 + 1 + 1, 0, none⟩) (show _ < g by omega)).trans r0
  have t1 : u5.cell? ⟨w.heap.size + 1 + 1 + 1, 1, none⟩ = some (.slice none 0 0) := (hbe.cell (p := ⟨w.heap.size + 1 + 1 + 1, 1, none⟩) (show _ < g by omega)).trans r1
  have t2 : u5.cell? ⟨w.heap.size + 1 + 1 + 1, 2, none⟩ = some (.int .i64 0) := (hbe.cell (p := ⟨w.heap.size + 1 + 1 + 1, 2, none⟩) (show _ < g by omega)).trans r2
  have t3 : u5.cell? ⟨w.heap.size + 1 + 1 + 1, 3, none⟩ = some (.int .i64 0) := (hbe.cell (p := ⟨w.heap.size + 1 + 1 + 1, 3, none⟩) (show _ < g by omega)).trans r3
  have tf : ∀ i, u5.frozen? ⟨w.heap.size + 1 + 1 + 1, i, none⟩ = false := fun i => (hbe.frozen (p := ⟨w.heap.size + 1 + 1 + 1, i, none⟩) (show _ < g by omega)).trans (rf i)
  have HBL : Hid (Below w.heap.size w u5) := bl5
  clear s0 s1 a0 a1 a2 r0 r1 r2 r3 i0 i1 i2 i3 i4 i5 rl rf
  clear q0 q1 q2 bl5 hbe P4 HG4
  rcases hx with ⟨hne, rfl⟩ | ⟨heq, rfl, hAr⟩
  · have HNE : Hid (err ≠ 0) := hne
    clear hne
    go_wp2
    refine bodyPost_ret (v := .agg #[.int .i64 err, .slice none 0 0, .int .i64 0, .int .i64 0]) (by simp [results, Try.results32, go_sem, *]) rfl ⟨Or.inl ⟨HNE.out, rfl⟩, ?_⟩
    (iterate 4 refine Below.setCell ?_ (show w.heap.size ≤ w.heap.size + 1 + 1 + 1 by omega) _)
    exact HBL.out
  · have HEQ : Hid (err = 0) := heq
    have HAR : Hid (Arr u5 g (8 * 6) (vF V)) := hAr
    clear heq hAr
    go_wp2
    refine bodyPost_ret (v := .agg #[.int .i64 0, .slice (some ⟨g, 0, none⟩) 8 cg, .int .i64 z, .int .i64 c]) (by simp [results, Try.results32, go_sem, *]) rfl ⟨Or.inr ⟨HEQ.out, g, cg, by omega, rfl, ?_⟩, ?_⟩
    · (iterate 4 refine Arr.other ?_ (show w.heap.size + 1 + 1 + 1 ≠ g by omega) _)
      exact HAR.out
    · (iterate 4 refine Below.setCell ?_ (show w.heap.size ≤ w.heap.size + 1 + 1 + 1 by omega) _)
      exact HBL.out
end Go.Proofs.Ytjnooklalbcamaa
