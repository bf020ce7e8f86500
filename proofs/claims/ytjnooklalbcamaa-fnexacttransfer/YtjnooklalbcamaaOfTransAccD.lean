import Derived.Test.YtjnooklalbcamaaOfTransResB
/- A load or store, the model's word. -/
namespace Go.Proofs.Ytjnooklalbcamaa
open Go.RowKit

set_option maxRecDepth 20000 in
set_option maxHeartbeats 8000000 in
theorem l4Access_22 (bH nH cH bR nR cR g cg : Nat) (S : Nat → HS) (V : Nat → VV) (z c imm : Int) (di ia ib q : Nat) (hd : di < 8) (ha : ia < 8) (hb : ib < 8) (w : World) (_lH : nH ≤ 1048576) (hqi : (V ia).k = 1 → (V ia).h = (q : Int) → q < nH) (hh : Arr w bH (nH * 3) (hsF S)) (hg : Arr w g (8 * 6) (vF V)) (hA : Bd (V ia)) (hB : Bd (V ib)) (n0 : -1000000 ≤ imm) (n1 : imm ≤ 1000000) :
    Calls Try.prog 75 #[.agg #[.slice (some ⟨bH, 0, none⟩) nH cH, .slice (some ⟨bR, 0, none⟩) nR cR], .agg #[.slice (some ⟨g, 0, none⟩) 8 cg, .int .i64 z, .int .i64 c], .agg #[.int .i64 22, .int .i64 (di : Int), .int .i64 (ia : Int), .int .i64 (ib : Int), .int .i64 imm, .int .i64 (q : Int)]] w fun e w' => AccAns w' g cg e (accI 22 imm (q : Int) (V ia) zV (V di) (S q)) (updV V di (numV (S q).s (-1))) z c ∧ Below g w w' := by
  obtain ⟨err, herr⟩ : ∃ x, accI 22 imm (q : Int) (V ia) zV (V di) (S q) = x := ⟨_, rfl⟩
  rw [herr]
  have HE : Hid (accI 22 imm (q : Int) (V ia) zV (V di) (S q) = err) := herr
  have HH : Hid (Arr w bH (nH * 3) (hsF S)) := hh
  have HQI : Hid ((V ia).k = 1 → (V ia).h = (q : Int) → q < nH) := hqi
  have HG : Hid (Arr w g (8 * 6) (vF V)) := hg
  have lg := hg.lt
  have lo0 := hA.l0
  have lo1 := hA.l1
  have hi0 := hA.h0
  have hi1 := hA.h1
  have bm0 := hB.m0
  have bm1 := hB.m1
  clear herr hh hqi hg hA hB
  have ha8 : (ia : Int) < 8 := by omega
  have hb8 : (ib : Int) < 8 := by omega
  have hd8 : (di : Int) < 8 := by omega
  go_enter Try.func75, Try.ntmps75
  go_upto_region 1 with fail
  obtain ⟨u, hu, pu⟩ := it_pre w bH nH cH bR nR cR g 8 cg (z := z) (c := c) (op := 22) (d := (di : Int)) (ra := (ia : Int)) (rb := (ib : Int)) (imm := imm) (h := (q : Int))
  rw [hu]
  have P0 : Hid (ItP w u bH nH cH bR nR cR g 8 cg z c 22 (di : Int) (ia : Int) (ib : Int) imm (q : Int)) := pu
  clear hu pu
  have HGU : Hid (Arr u g (8 * 6) (vF V)) := HG.out.below P0.out.bel lg
  obtain ⟨_, ⟨a0, _, _⟩, _⟩ := it_cells P0.out
  obtain ⟨i0, i1, i2, i3, i4, i5⟩ := ins_cells P0.out.I
  obtain ⟨x0, x1, x2, x3, x4, x5⟩ := reg_cells HGU.out ia ha
  obtain ⟨y0, y1, y2, y3, y4, y5⟩ := reg_cells HGU.out ib hb
  have ul1 := P0.out.A.1
  have ul2 := P0.out.I.1
  have ul3 := HGU.out.lt
  go_upto_region 3 with fail
  clear ul1 ul2 ul3 a0 i0 i1 i2 i3 i4 i5 x0 x1 x2 x3 x4 x5 y0 y1 y2 y3 y4 y5
  obtain ⟨u1, hu1, p1⟩ : ∃ v, (u.alloc (.cells #[.int .i64 (V ia).k, .bool (V ia).s, .int .i64 (V ia).m, .int .i64 (V ia).h, .int .i64 (V ia).lo, .int .i64 (V ia).hi] 24)).alloc (.cells #[.int .i64 (V ib).k, .bool (V ib).s, .int .i64 (V ib).m, .int .i64 (V ib).h, .int .i64 (V ib).lo, .int .i64 (V ib).hi] 24) = v ∧ AcP w v bH nH cH bR nR cR g cg z c 22 (di : Int) (ia : Int) (ib : Int) imm (q : Int) u.heap.size (u.heap.size + 1) (V ia) (V ib) V := by
    have b1 := (Below.refl u.heap.size u).alloc (Nat.le_refl _) (.cells #[.int .i64 (V ia).k, .bool (V ia).s, .int .i64 (V ia).m, .int .i64 (V ia).h, .int .i64 (V ia).lo, .int .i64 (V ia).hi] 24)
    have e1 := Cl.new (w := u) (vs := #[.int .i64 (V ia).k, .bool (V ia).s, .int .i64 (V ia).m, .int .i64 (V ia).h, .int .i64 (V ia).lo, .int .i64 (V ia).hi]) (t := 24)
    generalize hy : u.alloc (.cells #[.int .i64 (V ia).k, .bool (V ia).s, .int .i64 (V ia).m, .int .i64 (V ia).h, .int .i64 (V ia).lo, .int .i64 (V ia).hi] 24) = y at *
    have s1 : y.heap.size = u.heap.size + 1 := by rw [← hy]; simp
    clear hy
    have b2 := (Below.refl y.heap.size y).alloc (Nat.le_refl _) (.cells #[.int .i64 (V ib).k, .bool (V ib).s, .int .i64 (V ib).m, .int .i64 (V ib).h, .int .i64 (V ib).lo, .int .i64 (V ib).hi] 24)
    have e2 := Cl.new (w := y) (vs := #[.int .i64 (V ib).k, .bool (V ib).s, .int .i64 (V ib).m, .int .i64 (V ib).h, .int .i64 (V ib).lo, .int .i64 (V ib).hi]) (t := 24)
    rw [s1] at e2
    have p := P0.out.below (b1.trans (b2.mono b1.size))
    exact ⟨_, rfl, p.bel.mono (Nat.le_of_lt lg), p.S, p.A, p.I, p.R, p.RF, e1.below b2, e2, HG.out.below p.bel lg⟩
  rw [hu1]
  have ga : w.heap.size ≤ u.heap.size := P0.out.bel.size
  have gb : w.heap.size ≤ u.heap.size + 1 := by omega
  have hbH : bH < w.heap.size := HH.out.lt
  have HHU : Hid (Arr u1 bH (nH * 3) (hsF S)) := HH.out.below (by rw [← hu1]; exact (P0.out.bel.alloc (by have := P0.out.bel.size; omega) _).alloc (by simp; have := P0.out.bel.size; omega) _) hbH
  clear hu1
  obtain ⟨na, hna⟩ : ∃ x, u.heap.size = x := ⟨_, rfl⟩
  obtain ⟨nb, hnb⟩ : ∃ x, u.heap.size + 1 = x := ⟨_, rfl⟩
  rw [hnb] at p1 gb ⊢
  rw [hna] at p1 ga ⊢
  clear hna hnb P0 HGU HG HH
  have P1 : Hid (AcP w u1 bH nH cH bR nR cR g cg z c 22 (di : Int) (ia : Int) (ib : Int) imm (q : Int) na nb (V ia) (V ib) V) := p1
  clear p1
  have s0 := P1.out.S.2 0 (by simp)
  have a0 := P1.out.A.2 0 (by simp)
  have a1 := P1.out.A.2 1 (by simp)
  have a2 := P1.out.A.2 2 (by simp)
  simp only [List.getD_eq_getElem?_getD, List.getElem?_cons_zero, List.getElem?_cons_succ, Option.getD_some] at s0 a0 a1 a2
  obtain ⟨i0, i1, i2, i3, i4, i5⟩ := ins_cells P1.out.I
  obtain ⟨x0, x1, x2, x3, x4, x5⟩ := cl6 P1.out.a
  obtain ⟨y0, y1, y2, y3, y4, y5⟩ := cl6 P1.out.b
  have r0 := P1.out.R.2 0 (by simp)
  have r1 := P1.out.R.2 1 (by simp)
  have r2 := P1.out.R.2 2 (by simp)
  have r3 := P1.out.R.2 3 (by simp)
  simp only [List.getD_eq_getElem?_getD, List.getElem?_cons_zero, List.getElem?_cons_succ, Option.getD_some] at r0 r1 r2 r3
  have rf := P1.out.RF
  have rl := P1.out.R.1
  by_cases c1 : (V ia).k = 1
  rotate_left
  · have e1 : ((V ia).k != 1) = true := by simp [c1]
    go_wp2
    obtain rfl : err = 3 := by rw [← HE.out, accI, if_pos c1]
    refine bodyPost_ret (v := .agg #[.int .i64 3, .slice none 0 0, .int .i64 0, .int .i64 0]) (by simp [results, Try.results75, go_sem, *]) rfl ⟨Or.inl ⟨by decide, rfl⟩, ?_⟩
    (iterate 4 refine Below.setCell ?_ (show g ≤ w.heap.size + 1 + 1 + 1 by omega) _)
    exact P1.out.bel
  have e1 : ((V ia).k != 1) = false := by simp [c1]
  have C1 : Hid ((V ia).k = 1) := c1
  clear c1
  by_cases c2 : (V ia).h = (q : Int)
  rotate_left
  · have e2 : ((V ia).h != (q : Int)) = true := by simp [c2]
    go_wp2
    obtain rfl : err = 4 := by rw [← HE.out, accI, if_neg (by simp [C1.out]), if_pos c2]
    refine bodyPost_ret (v := .agg #[.int .i64 4, .slice none 0 0, .int .i64 0, .int .i64 0]) (by simp [results, Try.results75, go_sem, *]) rfl ⟨Or.inl ⟨by decide, rfl⟩, ?_⟩
    (iterate 4 refine Below.setCell ?_ (show g ≤ w.heap.size + 1 + 1 + 1 by omega) _)
    exact P1.out.bel
  have hq : q < nH := HQI.out C1.out c2
  have hqn : (q : Int) < nH := by omega
  have C2 : Hid ((V ia).h = (q : Int)) := c2
  rw [c2] at x3
  have e2 : ((q : Int) != (q : Int)) = false := by simp
  clear c2 HQI
  obtain ⟨h0, h1, h2⟩ := hs_at HHU.out hq
  go_upto_region 14 with fail
  clear s0 a0 a1 a2 i0 i1 i2 i3 i4 i5 x0 x1 x2 x3 x4 x5 y0 y1 y2 y3 y4 y5 r0 r1 r2 r3 rf rl
  clear h0 h1 h2 e1 e2
  obtain ⟨u2, hu2, b2, g2⟩ : ∃ v, u1.alloc (.cells #[.int .i64 (S q).size, .bool (S q).s, .bool (S q).w] 98) = v ∧ Below u1.heap.size u1 v ∧ Cl v u1.heap.size [.int .i64 (S q).size, .bool (S q).s, .bool (S q).w] := ⟨_, rfl, (Below.refl _ _).alloc (Nat.le_refl _) _, Cl.new⟩
  rw [hu2]
  have P2 : Hid (AcP w u2 bH nH cH bR nR cR g cg z c 22 (di : Int) (ia : Int) (ib : Int) imm (q : Int) na nb (V ia) (V ib) V) := P1.out.below b2
  have G2 : Hid (Cl u2 u1.heap.size [.int .i64 (S q).size, .bool (S q).s, .bool (S q).w]) := g2
  have hnh : w.heap.size ≤ u1.heap.size := by have := P1.out.R.1; omega
  clear hu2 b2 g2 P1 HHU
  generalize u1.heap.size = nh at *
  have s0 := P2.out.S.2 0 (by simp)
  have a0 := P2.out.A.2 0 (by simp)
  have a1 := P2.out.A.2 1 (by simp)
  have a2 := P2.out.A.2 2 (by simp)
  simp only [List.getD_eq_getElem?_getD, List.getElem?_cons_zero, List.getElem?_cons_succ, Option.getD_some] at s0 a0 a1 a2
  obtain ⟨i0, i1, i2, i3, i4, i5⟩ := ins_cells P2.out.I
  obtain ⟨x0, x1, x2, x3, x4, x5⟩ := cl6 P2.out.a
  obtain ⟨y0, y1, y2, y3, y4, y5⟩ := cl6 P2.out.b
  have r0 := P2.out.R.2 0 (by simp)
  have r1 := P2.out.R.2 1 (by simp)
  have r2 := P2.out.R.2 2 (by simp)
  have r3 := P2.out.R.2 3 (by simp)
  simp only [List.getD_eq_getElem?_getD, List.getElem?_cons_zero, List.getElem?_cons_succ, Option.getD_some] at r0 r1 r2 r3
  have rf := P2.out.RF
  have rl := P2.out.R.1
  have h0 := G2.out.2 0 (by simp)
  have h1 := G2.out.2 1 (by simp)
  have h2 := G2.out.2 2 (by simp)
  simp only [List.getD_eq_getElem?_getD, List.getElem?_cons_zero, List.getElem?_cons_succ, Option.getD_some] at h0 h1 h2
  have C5 : Hid ((V ia).hi + imm + zV.m + wdI 22 = (V ia).hi + imm + 8) := (by rw [show wdI 22 = 8 from rfl, show zV.m = 0 from rfl]; omega : (V ia).hi + imm + zV.m + wdI 22 = (V ia).hi + imm + 8)
  by_cases c5 : (V ia).lo + imm < 0
  · have e5 : decide ((V ia).lo + imm < 0) = true := by simp; omega
    go_wp2
    obtain rfl : err = 6 := by rw [← HE.out, accI, if_neg (by simp [C1.out]), if_neg (by simp [C2.out]), if_neg (by simp [zV, maxV]), if_pos (Or.inl c5)]
    refine bodyPost_ret (v := .agg #[.int .i64 6, .slice none 0 0, .int .i64 0, .int .i64 0]) (by simp [results, Try.results75, go_sem, *]) rfl ⟨Or.inl ⟨by decide, rfl⟩, ?_⟩
    (iterate 4 refine Below.setCell ?_ (show g ≤ w.heap.size + 1 + 1 + 1 by omega) _)
    exact P2.out.bel
  have e5 : decide ((V ia).lo + imm < 0) = false := by simp; omega
  by_cases c6 : (S q).size < (V ia).hi + imm + 8
  · have e6 : decide ((S q).size < (V ia).hi + imm + 8) = true := by simp; omega
    go_wp2
    obtain rfl : err = 6 := by rw [← HE.out, accI, if_neg (by simp [C1.out]), if_neg (by simp [C2.out]), if_neg (by simp [zV, maxV]), if_pos (Or.inr (by rw [C5.out]; exact c6))]
    refine bodyPost_ret (v := .agg #[.int .i64 6, .slice none 0 0, .int .i64 0, .int .i64 0]) (by simp [results, Try.results75, go_sem, *]) rfl ⟨Or.inl ⟨by decide, rfl⟩, ?_⟩
    (iterate 4 refine Below.setCell ?_ (show g ≤ w.heap.size + 1 + 1 + 1 by omega) _)
    exact P2.out.bel
  have e6 : decide ((S q).size < (V ia).hi + imm + 8) = false := by simp; omega
  have c6' : ¬ ((V ia).lo + imm < 0 ∨ (S q).size < (V ia).hi + imm + zV.m + wdI 22) := by rw [C5.out]; omega
  have C6 : Hid (¬ ((V ia).lo + imm < 0 ∨ (S q).size < (V ia).hi + imm + zV.m + wdI 22)) := c6'
  clear c5 c6 c6'
  go_upto_region 25 with fail
  clear s0 a0 a1 a2 i0 i1 i2 i3 i4 i5 x0 x1 x2 x3 x4 x5 y0 y1 y2 y3 y4 y5 r0 r1 r2 r3 rf rl
  clear h0 h1 h2 e5 e6
  have a0 : ∀ w', Below u2.heap.size u2 w' → w'.cell? ⟨w.heap.size + 1, 0, none⟩ = some (.slice (some ⟨g, 0, none⟩) 8 cg) := fun w' h => (P2.out.A.below h).2 0 (by simp)
  have i1 : ∀ w', Below u2.heap.size u2 w' → w'.cell? ⟨w.heap.size + 1 + 1, 1, none⟩ = some (.int .i64 (di : Int)) := fun w' h => (P2.out.I.below h).2 1 (by simp)
  have h1 : ∀ w', Below u2.heap.size u2 w' → w'.cell? ⟨nh, 1, none⟩ = some (.bool (S q).s) := fun w' h => (G2.out.below h).2 1 (by simp)
  refine wp_region_L (T := fun w' => Below u2.heap.size u2 w') (s := 8) (by kernel_rfl) (Below.refl _ _).drew (fun hHeld => ?_)
  refine wpAnyL_tk 0 ?k1v rfl ?k1y ?k1r
  case k1y => (intro w hSw; (try dsimp only at hSw); go_simp; try with_reducible rfl)
  try simp only [Act.put, List.getElem_toArray, List.getElem_cons_zero, List.setIfInBounds_toArray, List.set_cons_zero, List.set_cons_succ]
  refine wpAnyL_tk 1 ?k2v rfl ?k2y ?k2r
  case k2y => (intro w hSw; (try dsimp only at hSw); go_simp; try with_reducible rfl)
  try simp only [Act.put, List.getElem_toArray, List.getElem_cons_zero, List.getElem_cons_succ, List.setIfInBounds_toArray, List.set_cons_zero, List.set_cons_succ]
  refine wpAnyL_tk 2 ?k3v rfl ?k3y ?k3r
  case k3y => (intro w hSw; (try dsimp only at hSw); go_simp; try with_reducible rfl)
  try simp only [Act.put, List.getElem_toArray, List.getElem_cons_zero, List.getElem_cons_succ, List.setIfInBounds_toArray, List.set_cons_zero, List.set_cons_succ]
  refine wpAnyL_tk 3 ?k4v rfl ?k4y ?k4r
  case k4y => (intro w hSw; (try dsimp only at hSw); go_simp; try with_reducible rfl)
  try simp only [Act.put, List.getElem_toArray, List.getElem_cons_zero, List.getElem_cons_succ, List.setIfInBounds_toArray, List.set_cons_zero, List.set_cons_succ]
  refine wpAnyL_tk 4 ?k5v rfl ?k5y ?k5r
  case k5y => (intro w hSw; (try dsimp only at hSw); go_simp; try with_reducible rfl)
  try simp only [Act.put, List.getElem_toArray, List.getElem_cons_zero, List.getElem_cons_succ, List.setIfInBounds_toArray, List.set_cons_zero, List.set_cons_succ]
  refine wpAnyL_tk 5 ?k6v rfl ?k6y ?k6r
  case k6y => (intro w hSw; (try dsimp only at hSw); go_simp; try with_reducible rfl)
  try simp only [Act.put, List.getElem_toArray, List.getElem_cons_zero, List.getElem_cons_succ, List.setIfInBounds_toArray, List.set_cons_zero, List.set_cons_succ]
  refine wpAnyL_call (i := 6) rfl (by kernel_rfl) (fun KK hK => ?_)
  go_simp
  refine (l4Num_any (S q).s (-1) _).mono ?_
  rintro e xu5 ⟨rfl, hbe⟩
  have bx : Below u2.heap.size u2 xu5 := (Below.refl u2.heap.size u2).drew.trans hbe
  clear hbe
  obtain ⟨nvu5, hnv⟩ : ∃ x, numV (S q).s (-1) = x := ⟨_, rfl⟩
  rw [hnv]
  have HNVu5 : Hid (numV (S q).s (-1) = nvu5) := hnv
  clear hnv
  simp only [VV.v]
  go_wp2_with fail
  refine hK.out _ _ bx (fun hHeld2 => ?_)
  clear hK KK
  try simp only [Act.put, List.getElem_toArray, List.getElem_cons_zero, List.getElem_cons_succ, List.setIfInBounds_toArray, List.set_cons_zero, List.set_cons_succ]
  refine wpAnyL_tk 7 ?k7v rfl ?k7y ?k7r
  case k7y => (intro w hSw; (try dsimp only at hSw); go_simp; try with_reducible rfl)
  try simp only [Act.put, List.getElem_toArray, List.getElem_cons_zero, List.getElem_cons_succ, List.setIfInBounds_toArray, List.set_cons_zero, List.set_cons_succ]
  have Pxu5 : Hid (AcP w xu5 bH nH cH bR nR cR g cg z c 22 (di : Int) (ia : Int) (ib : Int) imm (q : Int) na nb (V ia) (V ib) V) := P2.out.below bx
  have Gxu5 : Hid (Cl xu5 nh [.int .i64 (S q).size, .bool (S q).s, .bool (S q).w]) := G2.out.below bx
  clear a0 i1 h1 hHeld hHeld2 bx P2 G2
  obtain ⟨d0, d1, d2, d3, d4, d5⟩ := reg_cells Pxu5.out.G di hd
  have gf := Pxu5.out.G.free
  have gl := Pxu5.out.G.lt
  refine wpAnyL_store rfl (by kernel_rfl) (by kernel_rfl) (fun KK hK => ?_)
  go_simp
  refine hK.out _ _ ?_
  clear hK KK d0 d1 d2 d3 d4 d5 gf gl
  obtain ⟨u5, huu5⟩ : ∃ v, put6 xu5 g (di * 6) nvu5 = v := ⟨_, rfl⟩
  rw [show (((((xu5.setCell ⟨g, di * 6, none⟩ (.int .i64 nvu5.k)).setCell ⟨g, di * 6 + 1, none⟩ (.bool nvu5.s)).setCell ⟨g, di * 6 + 2, none⟩ (.int .i64 nvu5.m)).setCell ⟨g, di * 6 + 3, none⟩ (.int .i64 nvu5.h)).setCell ⟨g, di * 6 + 4, none⟩ (.int .i64 nvu5.lo)).setCell ⟨g, di * 6 + 5, none⟩ (.int .i64 nvu5.hi) = u5 from huu5]
  have P5 : Hid (AcP w u5 bH nH cH bR nR cR g cg z c 22 (di : Int) (ia : Int) (ib : Int) imm (q : Int) na nb (V ia) (V ib) (updV V di nvu5)) := by rw [← huu5]; exact Pxu5.out.put lg ga gb hd nvu5
  have G5 : Hid (Cl u5 nh [.int .i64 (S q).size, .bool (S q).s, .bool (S q).w]) := by rw [← huu5]; exact cl_put6 Gxu5.out (by omega) _
  clear huu5 Pxu5 Gxu5
  have s0 := P5.out.S.2 0 (by simp)
  have a0 := P5.out.A.2 0 (by simp)
  have a1 := P5.out.A.2 1 (by simp)
  have a2 := P5.out.A.2 2 (by simp)
  simp only [List.getD_eq_getElem?_getD, List.getElem?_cons_zero, List.getElem?_cons_succ, Option.getD_some] at s0 a0 a1 a2
  obtain ⟨i0, i1, i2, i3, i4, i5⟩ := ins_cells P5.out.I
  obtain ⟨x0, x1, x2, x3, x4, x5⟩ := cl6 P5.out.a
  obtain ⟨y0, y1, y2, y3, y4, y5⟩ := cl6 P5.out.b
  have r0 := P5.out.R.2 0 (by simp)
  have r1 := P5.out.R.2 1 (by simp)
  have r2 := P5.out.R.2 2 (by simp)
  have r3 := P5.out.R.2 3 (by simp)
  simp only [List.getD_eq_getElem?_getD, List.getElem?_cons_zero, List.getElem?_cons_succ, Option.getD_some] at r0 r1 r2 r3
  have rf := P5.out.RF
  have rl := P5.out.R.1
  go_wp2
  obtain rfl : err = 0 := by rw [← HE.out, accI, if_neg (by simp [C1.out]), if_neg (by simp [C2.out]), if_neg (by simp [zV, maxV]), if_neg C6.out, if_pos (show stB 22 = false by decide)]
  refine bodyPost_ret (v := .agg #[.int .i64 0, .slice (some ⟨g, 0, none⟩) 8 cg, .int .i64 z, .int .i64 c]) (by simp [results, Try.results75, go_sem, *]) rfl ⟨Or.inr ⟨rfl, rfl, ?_⟩, ?_⟩
  · iterate 4 refine Arr.other ?_ (show w.heap.size + 1 + 1 + 1 ≠ g by omega) _
    rw [HNVu5.out]; exact P5.out.G
  · (iterate 4 refine Below.setCell ?_ (show g ≤ w.heap.size + 1 + 1 + 1 by omega) _)
    exact P5.out.bel
end Go.Proofs.Ytjnooklalbcamaa
/- A load or store, the model's word. -/
namespace Go.Proofs.Ytjnooklalbcamaa
open Go.RowKit

set_option maxRecDepth 20000 in
set_option maxHeartbeats 8000000 in
theorem l4Access_23 (bH nH cH bR nR cR g cg : Nat) (S : Nat → HS) (V : Nat → VV) (z c imm : Int) (di ia ib q : Nat) (hd : di < 8) (ha : ia < 8) (hb : ib < 8) (w : World) (_lH : nH ≤ 1048576) (hqi : (V ia).k = 1 → (V ia).h = (q : Int) → q < nH) (hh : Arr w bH (nH * 3) (hsF S)) (hg : Arr w g (8 * 6) (vF V)) (hA : Bd (V ia)) (hB : Bd (V ib)) (n0 : -1000000 ≤ imm) (n1 : imm ≤ 1000000) :
    Calls Try.prog 75 #[.agg #[.slice (some ⟨bH, 0, none⟩) nH cH, .slice (some ⟨bR, 0, none⟩) nR cR], .agg #[.slice (some ⟨g, 0, none⟩) 8 cg, .int .i64 z, .int .i64 c], .agg #[.int .i64 23, .int .i64 (di : Int), .int .i64 (ia : Int), .int .i64 (ib : Int), .int .i64 imm, .int .i64 (q : Int)]] w fun e w' => AccAns w' g cg e (accI 23 imm (q : Int) (V ia) zV (V di) (S q)) V z c ∧ Below g w w' := by
  obtain ⟨err, herr⟩ : ∃ x, accI 23 imm (q : Int) (V ia) zV (V di) (S q) = x := ⟨_, rfl⟩
  rw [herr]
  have HE : Hid (accI 23 imm (q : Int) (V ia) zV (V di) (S q) = err) := herr
  have HH : Hid (Arr w bH (nH * 3) (hsF S)) := hh
  have HQI : Hid ((V ia).k = 1 → (V ia).h = (q : Int) → q < nH) := hqi
  have HG : Hid (Arr w g (8 * 6) (vF V)) := hg
  have lg := hg.lt
  have lo0 := hA.l0
  have lo1 := hA.l1
  have hi0 := hA.h0
  have hi1 := hA.h1
  have bm0 := hB.m0
  have bm1 := hB.m1
  clear herr hh hqi hg hA hB
  have ha8 : (ia : Int) < 8 := by omega
  have hb8 : (ib : Int) < 8 := by omega
  have hd8 : (di : Int) < 8 := by omega
  go_enter Try.func75, Try.ntmps75
  go_upto_region 1 with fail
  obtain ⟨u, hu, pu⟩ := it_pre w bH nH cH bR nR cR g 8 cg (z := z) (c := c) (op := 23) (d := (di : Int)) (ra := (ia : Int)) (rb := (ib : Int)) (imm := imm) (h := (q : Int))
  rw [hu]
  have P0 : Hid (ItP w u bH nH cH bR nR cR g 8 cg z c 23 (di : Int) (ia : Int) (ib : Int) imm (q : Int)) := pu
  clear hu pu
  have HGU : Hid (Arr u g (8 * 6) (vF V)) := HG.out.below P0.out.bel lg
  obtain ⟨_, ⟨a0, _, _⟩, _⟩ := it_cells P0.out
  obtain ⟨i0, i1, i2, i3, i4, i5⟩ := ins_cells P0.out.I
  obtain ⟨x0, x1, x2, x3, x4, x5⟩ := reg_cells HGU.out ia ha
  obtain ⟨y0, y1, y2, y3, y4, y5⟩ := reg_cells HGU.out ib hb
  have ul1 := P0.out.A.1
  have ul2 := P0.out.I.1
  have ul3 := HGU.out.lt
  go_upto_region 3 with fail
  clear ul1 ul2 ul3 a0 i0 i1 i2 i3 i4 i5 x0 x1 x2 x3 x4 x5 y0 y1 y2 y3 y4 y5
  obtain ⟨u1, hu1, p1⟩ : ∃ v, (u.alloc (.cells #[.int .i64 (V ia).k, .bool (V ia).s, .int .i64 (V ia).m, .int .i64 (V ia).h, .int .i64 (V ia).lo, .int .i64 (V ia).hi] 24)).alloc (.cells #[.int .i64 (V ib).k, .bool (V ib).s, .int .i64 (V ib).m, .int .i64 (V ib).h, .int .i64 (V ib).lo, .int .i64 (V ib).hi] 24) = v ∧ AcP w v bH nH cH bR nR cR g cg z c 23 (di : Int) (ia : Int) (ib : Int) imm (q : Int) u.heap.size (u.heap.size + 1) (V ia) (V ib) V := by
    have b1 := (Below.refl u.heap.size u).alloc (Nat.le_refl _) (.cells #[.int .i64 (V ia).k, .bool (V ia).s, .int .i64 (V ia).m, .int .i64 (V ia).h, .int .i64 (V ia).lo, .int .i64 (V ia).hi] 24)
    have e1 := Cl.new (w := u) (vs := #[.int .i64 (V ia).k, .bool (V ia).s, .int .i64 (V ia).m, .int .i64 (V ia).h, .int .i64 (V ia).lo, .int .i64 (V ia).hi]) (t := 24)
    generalize hy : u.alloc (.cells #[.int .i64 (V ia).k, .bool (V ia).s, .int .i64 (V ia).m, .int .i64 (V ia).h, .int .i64 (V ia).lo, .int .i64 (V ia).hi] 24) = y at *
    have s1 : y.heap.size = u.heap.size + 1 := by rw [← hy]; simp
    clear hy
    have b2 := (Below.refl y.heap.size y).alloc (Nat.le_refl _) (.cells #[.int .i64 (V ib).k, .bool (V ib).s, .int .i64 (V ib).m, .int .i64 (V ib).h, .int .i64 (V ib).lo, .int .i64 (V ib).hi] 24)
    have e2 := Cl.new (w := y) (vs := #[.int .i64 (V ib).k, .bool (V ib).s, .int .i64 (V ib).m, .int .i64 (V ib).h, .int .i64 (V ib).lo, .int .i64 (V ib).hi]) (t := 24)
    rw [s1] at e2
    have p := P0.out.below (b1.trans (b2.mono b1.size))
    exact ⟨_, rfl, p.bel.mono (Nat.le_of_lt lg), p.S, p.A, p.I, p.R, p.RF, e1.below b2, e2, HG.out.below p.bel lg⟩
  rw [hu1]
  have ga : w.heap.size ≤ u.heap.size := P0.out.bel.size
  have gb : w.heap.size ≤ u.heap.size + 1 := by omega
  have hbH : bH < w.heap.size := HH.out.lt
  have HHU : Hid (Arr u1 bH (nH * 3) (hsF S)) := HH.out.below (by rw [← hu1]; exact (P0.out.bel.alloc (by have := P0.out.bel.size; omega) _).alloc (by simp; have := P0.out.bel.size; omega) _) hbH
  clear hu1
  obtain ⟨na, hna⟩ : ∃ x, u.heap.size = x := ⟨_, rfl⟩
  obtain ⟨nb, hnb⟩ : ∃ x, u.heap.size + 1 = x := ⟨_, rfl⟩
  rw [hnb] at p1 gb ⊢
  rw [hna] at p1 ga ⊢
  clear hna hnb P0 HGU HG HH
  have P1 : Hid (AcP w u1 bH nH cH bR nR cR g cg z c 23 (di : Int) (ia : Int) (ib : Int) imm (q : Int) na nb (V ia) (V ib) V) := p1
  clear p1
  have s0 := P1.out.S.2 0 (by simp)
  have a0 := P1.out.A.2 0 (by simp)
  have a1 := P1.out.A.2 1 (by simp)
  have a2 := P1.out.A.2 2 (by simp)
  simp only [List.getD_eq_getElem?_getD, List.getElem?_cons_zero, List.getElem?_cons_succ, Option.getD_some] at s0 a0 a1 a2
  obtain ⟨i0, i1, i2, i3, i4, i5⟩ := ins_cells P1.out.I
  obtain ⟨x0, x1, x2, x3, x4, x5⟩ := cl6 P1.out.a
  obtain ⟨y0, y1, y2, y3, y4, y5⟩ := cl6 P1.out.b
  have r0 := P1.out.R.2 0 (by simp)
  have r1 := P1.out.R.2 1 (by simp)
  have r2 := P1.out.R.2 2 (by simp)
  have r3 := P1.out.R.2 3 (by simp)
  simp only [List.getD_eq_getElem?_getD, List.getElem?_cons_zero, List.getElem?_cons_succ, Option.getD_some] at r0 r1 r2 r3
  have rf := P1.out.RF
  have rl := P1.out.R.1
  by_cases c1 : (V ia).k = 1
  rotate_left
  · have e1 : ((V ia).k != 1) = true := by simp [c1]
    go_wp2
    obtain rfl : err = 3 := by rw [← HE.out, accI, if_pos c1]
    refine bodyPost_ret (v := .agg #[.int .i64 3, .slice none 0 0, .int .i64 0, .int .i64 0]) (by simp [results, Try.results75, go_sem, *]) rfl ⟨Or.inl ⟨by decide, rfl⟩, ?_⟩
    (iterate 4 refine Below.setCell ?_ (show g ≤ w.heap.size + 1 + 1 + 1 by omega) _)
    exact P1.out.bel
  have e1 : ((V ia).k != 1) = false := by simp [c1]
  have C1 : Hid ((V ia).k = 1) := c1
  clear c1
  by_cases c2 : (V ia).h = (q : Int)
  rotate_left
  · have e2 : ((V ia).h != (q : Int)) = true := by simp [c2]
    go_wp2
    obtain rfl : err = 4 := by rw [← HE.out, accI, if_neg (by simp [C1.out]), if_pos c2]
    refine bodyPost_ret (v := .agg #[.int .i64 4, .slice none 0 0, .int .i64 0, .int .i64 0]) (by simp [results, Try.results75, go_sem, *]) rfl ⟨Or.inl ⟨by decide, rfl⟩, ?_⟩
    (iterate 4 refine Below.setCell ?_ (show g ≤ w.heap.size + 1 + 1 + 1 by omega) _)
    exact P1.out.bel
  have hq : q < nH := HQI.out C1.out c2
  have hqn : (q : Int) < nH := by omega
  have C2 : Hid ((V ia).h = (q : Int)) := c2
  rw [c2] at x3
  have e2 : ((q : Int) != (q : Int)) = false := by simp
  clear c2 HQI
  obtain ⟨h0, h1, h2⟩ := hs_at HHU.out hq
  go_upto_region 14 with fail
  clear s0 a0 a1 a2 i0 i1 i2 i3 i4 i5 x0 x1 x2 x3 x4 x5 y0 y1 y2 y3 y4 y5 r0 r1 r2 r3 rf rl
  clear h0 h1 h2 e1 e2
  obtain ⟨u2, hu2, b2, g2⟩ : ∃ v, u1.alloc (.cells #[.int .i64 (S q).size, .bool (S q).s, .bool (S q).w] 98) = v ∧ Below u1.heap.size u1 v ∧ Cl v u1.heap.size [.int .i64 (S q).size, .bool (S q).s, .bool (S q).w] := ⟨_, rfl, (Below.refl _ _).alloc (Nat.le_refl _) _, Cl.new⟩
  rw [hu2]
  have P2 : Hid (AcP w u2 bH nH cH bR nR cR g cg z c 23 (di : Int) (ia : Int) (ib : Int) imm (q : Int) na nb (V ia) (V ib) V) := P1.out.below b2
  have G2 : Hid (Cl u2 u1.heap.size [.int .i64 (S q).size, .bool (S q).s, .bool (S q).w]) := g2
  have hnh : w.heap.size ≤ u1.heap.size := by have := P1.out.R.1; omega
  clear hu2 b2 g2 P1 HHU
  generalize u1.heap.size = nh at *
  have s0 := P2.out.S.2 0 (by simp)
  have a0 := P2.out.A.2 0 (by simp)
  have a1 := P2.out.A.2 1 (by simp)
  have a2 := P2.out.A.2 2 (by simp)
  simp only [List.getD_eq_getElem?_getD, List.getElem?_cons_zero, List.getElem?_cons_succ, Option.getD_some] at s0 a0 a1 a2
  obtain ⟨i0, i1, i2, i3, i4, i5⟩ := ins_cells P2.out.I
  obtain ⟨x0, x1, x2, x3, x4, x5⟩ := cl6 P2.out.a
  obtain ⟨y0, y1, y2, y3, y4, y5⟩ := cl6 P2.out.b
  have r0 := P2.out.R.2 0 (by simp)
  have r1 := P2.out.R.2 1 (by simp)
  have r2 := P2.out.R.2 2 (by simp)
  have r3 := P2.out.R.2 3 (by simp)
  simp only [List.getD_eq_getElem?_getD, List.getElem?_cons_zero, List.getElem?_cons_succ, Option.getD_some] at r0 r1 r2 r3
  have rf := P2.out.RF
  have rl := P2.out.R.1
  have h0 := G2.out.2 0 (by simp)
  have h1 := G2.out.2 1 (by simp)
  have h2 := G2.out.2 2 (by simp)
  simp only [List.getD_eq_getElem?_getD, List.getElem?_cons_zero, List.getElem?_cons_succ, Option.getD_some] at h0 h1 h2
  have C5 : Hid ((V ia).hi + imm + zV.m + wdI 23 = (V ia).hi + imm + 1) := (by rw [show wdI 23 = 1 from rfl, show zV.m = 0 from rfl]; omega : (V ia).hi + imm + zV.m + wdI 23 = (V ia).hi + imm + 1)
  by_cases c5 : (V ia).lo + imm < 0
  · have e5 : decide ((V ia).lo + imm < 0) = true := by simp; omega
    go_wp2
    obtain rfl : err = 6 := by rw [← HE.out, accI, if_neg (by simp [C1.out]), if_neg (by simp [C2.out]), if_neg (by simp [zV, maxV]), if_pos (Or.inl c5)]
    refine bodyPost_ret (v := .agg #[.int .i64 6, .slice none 0 0, .int .i64 0, .int .i64 0]) (by simp [results, Try.results75, go_sem, *]) rfl ⟨Or.inl ⟨by decide, rfl⟩, ?_⟩
    (iterate 4 refine Below.setCell ?_ (show g ≤ w.heap.size + 1 + 1 + 1 by omega) _)
    exact P2.out.bel
  have e5 : decide ((V ia).lo + imm < 0) = false := by simp; omega
  by_cases c6 : (S q).size < (V ia).hi + imm + 1
  · have e6 : decide ((S q).size < (V ia).hi + imm + 1) = true := by simp; omega
    go_wp2
    obtain rfl : err = 6 := by rw [← HE.out, accI, if_neg (by simp [C1.out]), if_neg (by simp [C2.out]), if_neg (by simp [zV, maxV]), if_pos (Or.inr (by rw [C5.out]; exact c6))]
    refine bodyPost_ret (v := .agg #[.int .i64 6, .slice none 0 0, .int .i64 0, .int .i64 0]) (by simp [results, Try.results75, go_sem, *]) rfl ⟨Or.inl ⟨by decide, rfl⟩, ?_⟩
    (iterate 4 refine Below.setCell ?_ (show g ≤ w.heap.size + 1 + 1 + 1 by omega) _)
    exact P2.out.bel
  have e6 : decide ((S q).size < (V ia).hi + imm + 1) = false := by simp; omega
  have c6' : ¬ ((V ia).lo + imm < 0 ∨ (S q).size < (V ia).hi + imm + zV.m + wdI 23) := by rw [C5.out]; omega
  have C6 : Hid (¬ ((V ia).lo + imm < 0 ∨ (S q).size < (V ia).hi + imm + zV.m + wdI 23)) := c6'
  clear c5 c6 c6'
  obtain ⟨_, d1, _⟩ := reg_cells P2.out.G di hd
  cases c7 : (S q).w with
  | false =>
    rw [c7] at h2
    go_wp2
    obtain rfl : err = 7 := by rw [← HE.out, accI, if_neg (by simp [C1.out]), if_neg (by simp [C2.out]), if_neg (by simp [zV, maxV]), if_neg C6.out, if_neg (show ¬ stB 23 = false by decide), if_pos c7]
    refine bodyPost_ret (v := .agg #[.int .i64 7, .slice none 0 0, .int .i64 0, .int .i64 0]) (by simp [results, Try.results75, go_sem, *]) rfl ⟨Or.inl ⟨by decide, rfl⟩, ?_⟩
    (iterate 4 refine Below.setCell ?_ (show g ≤ w.heap.size + 1 + 1 + 1 by omega) _)
    exact P2.out.bel
  | true =>
  rw [c7] at h2
  have C7 : Hid (¬ (S q).w = false) := (by simp [c7] : ¬ (S q).w = false)
  clear c7
  cases c8 : (V di).s with
  | false =>
    rw [c8] at d1
    go_wp2
    obtain rfl : err = 0 := by rw [← HE.out, accI, if_neg (by simp [C1.out]), if_neg (by simp [C2.out]), if_neg (by simp [zV, maxV]), if_neg C6.out, if_neg (show ¬ stB 23 = false by decide), if_neg C7.out, if_neg (by simp [c8])]
    refine bodyPost_ret (v := .agg #[.int .i64 0, .slice (some ⟨g, 0, none⟩) 8 cg, .int .i64 z, .int .i64 c]) (by simp [results, Try.results75, go_sem, *]) rfl ⟨Or.inr ⟨rfl, rfl, ?_⟩, ?_⟩
    · iterate 4 refine Arr.other ?_ (show w.heap.size + 1 + 1 + 1 ≠ g by omega) _
      exact P2.out.G
    · (iterate 4 refine Below.setCell ?_ (show g ≤ w.heap.size + 1 + 1 + 1 by omega) _)
      exact P2.out.bel
  | true =>
  rw [c8] at d1
  cases c9 : (S q).s with
  | false =>
    rw [c9] at h1
    go_wp2
    obtain rfl : err = 8 := by rw [← HE.out, accI, if_neg (by simp [C1.out]), if_neg (by simp [C2.out]), if_neg (by simp [zV, maxV]), if_neg C6.out, if_neg (show ¬ stB 23 = false by decide), if_neg C7.out, if_pos ⟨c8, c9⟩]
    refine bodyPost_ret (v := .agg #[.int .i64 8, .slice none 0 0, .int .i64 0, .int .i64 0]) (by simp [results, Try.results75, go_sem, *]) rfl ⟨Or.inl ⟨by decide, rfl⟩, ?_⟩
    (iterate 4 refine Below.setCell ?_ (show g ≤ w.heap.size + 1 + 1 + 1 by omega) _)
    exact P2.out.bel
  | true =>
    rw [c9] at h1
    go_wp2
    obtain rfl : err = 0 := by rw [← HE.out, accI, if_neg (by simp [C1.out]), if_neg (by simp [C2.out]), if_neg (by simp [zV, maxV]), if_neg C6.out, if_neg (show ¬ stB 23 = false by decide), if_neg C7.out, if_neg (by simp [c9])]
    refine bodyPost_ret (v := .agg #[.int .i64 0, .slice (some ⟨g, 0, none⟩) 8 cg, .int .i64 z, .int .i64 c]) (by simp [results, Try.results75, go_sem, *]) rfl ⟨Or.inr ⟨rfl, rfl, ?_⟩, ?_⟩
    · iterate 4 refine Arr.other ?_ (show w.heap.size + 1 + 1 + 1 ≠ g by omega) _
      exact P2.out.G
    · (iterate 4 refine Below.setCell ?_ (show g ≤ w.heap.size + 1 + 1 + 1 by omega) _)
      exact P2.out.bel
end Go.Proofs.Ytjnooklalbcamaa
