/- Flat sizes where there are no procedures. -/
import Derived.Test.YtbnaegpjmiiihaaUnitFlat
namespace Go.Proofs.Ytbnaegpjmiiihaa
open Go.RowKit
set_option maxRecDepth 20000 in
set_option maxHeartbeats 8000000 in
theorem flatBlock0_any (L : Nat → SV) (Z : Nat → Int) (w0 : World) (z0 : ∀ i, 0 ≤ Z i) (z1 : ∀ i, Z i ≤ 2001) (me deep : Int) : ∀ (m i te : Nat) (depth : Int) (v : Value) (S : Nat → Prop) (w : World), Below w0.heap.size w0 w → RepN L m w S v i te → i ≤ te → te ≤ 2000 → (chk L me 0 deep i te depth).1 = 0 →
    Calls Try.prog 26 #[v, .slice none 0 0] w fun e w' => e = .returned (.int .i64 (szTo L Z te - szTo L Z i)) ∧ Below w.heap.size w w' := by
  have zle : ∀ k : Nat, szTo L Z k ≤ 2001 * (k : Int) := fun k => by
    induction k with
    | zero => simp [szTo]
    | succ k ih =>
      have := wI_le (s := L k) z1
      show szTo L Z k + wI (L k) Z ≤ _
      omega
  have ZLE : Hid (∀ k : Nat, szTo L Z k ≤ 2001 * (k : Int)) := zle
  have Z0 : Hid (∀ i, 0 ≤ Z i) := z0
  clear zle z0 z1
  intro m
  induction m with
  | zero =>
    intro i te depth v S w _ hr hit _ _
    obtain ⟨h1, rfl⟩ := hr
    obtain rfl : i = te := by omega
    refine (flatNil_any none 0 _ w).mono ?_
    rintro e w' ⟨rfl, rfl⟩
    exact ⟨ret_int (by omega), Below.refl _ _⟩
  | succ m ih =>
    intro i te depth v S w hw0 hr hit h2k hck
    obtain ⟨xs, hrow, hxl, hx⟩ := hr
    by_cases hit2 : i = te
    · subst hit2
      have hl0 : xs.length = 0 := by rw [hxl, tops_end (by omega)]; rfl
      have hv : ∃ ao cap, v = .slice ao 0 cap := by
        rcases hrow.1.2 with ⟨e, _⟩ | ⟨g, cap, cur, e, _⟩
        · exact ⟨_, _, e⟩
        · rw [hl0] at e; exact ⟨_, _, e⟩
      obtain ⟨ao, cap, rfl⟩ := hv
      refine (flatNil_any ao cap _ w).mono ?_
      rintro e w' ⟨rfl, rfl⟩
      exact ⟨ret_int (by omega), Below.refl _ _⟩
    have hlx : 0 < xs.length := by rw [hxl, tops_more (by omega)]; simp
    have hl2k : xs.length ≤ 2000 := by rw [hxl]; exact Nat.le_trans (tops_len L _ i te (Nat.le_refl _)) (by omega)
    obtain ⟨g, cv, hv⟩ := row_some2 hrow.1 hlx
    subst hv
    have lgw : g < w.heap.size := (hrow.1.lt g rfl).2
    have HW0 : Hid (Below w0.heap.size w0 w) := hw0
    have HROW : Hid (RowS w S (.slice (some ⟨g, 0, none⟩) xs.length cv) xs) := hrow
    have HXL : Hid (xs.length = (tops L i te).length) := hxl
    have HX : Hid _ := hx
    have HCK : Hid ((chk L me 0 deep i te depth).1 = 0) := hck
    have IH : Hid _ := ih
    clear hw0 hrow hxl hx hck ih
    obtain ⟨res, hres⟩ : ∃ x, szTo L Z te - szTo L Z i = x := ⟨_, rfl⟩
    rw [hres]
    have HRES : Hid (szTo L Z te - szTo L Z i = res) := hres
    clear hres
    obtain ⟨nx, hnx⟩ : ∃ y, xs.length = y := ⟨_, rfl⟩
    have HNX : Hid (xs.length = nx) := hnx
    rw [hnx] at hlx hl2k ⊢
    clear hnx
    go_enter Try.func26, Try.ntmps26
    go_wp2
    go_loopw [5, 10] (fun tv iv wr => ∃ (q p : Nat), q ≤ nx ∧ i ≤ p ∧ p ≤ te ∧ iv = .int .i64 (q : Int) ∧ tv = .int .i64 (szTo L Z p - szTo L Z i) ∧ Below w.heap.size w wr ∧ (tops L i te).drop q = tops L p te ∧ (chk L me 0 deep p te depth).1 = 0) (fun _ iv _ => nx - (intOf iv).toNat)
    case atStart => exact ⟨0, i, Nat.zero_le _, Nat.le_refl _, hit, rfl, by simp, Below.refl _ _, by simp, HCK.out⟩
    case round =>
      obtain ⟨q, p, hq, hip, hpt, rfl, rfl, hbr, hdr, hcp⟩ := hrel
      have BR : Hid (Below w.heap.size w wr) := hbr
      have HDR : Hid ((tops L i te).drop q = tops L p te) := hdr
      have HCP : Hid ((chk L me 0 deep p te depth).1 = 0) := hcp
      clear hbr hdr hcp
      have t0 := szTo_mono (L := L) Z0.out hip
      have t1 := ZLE.out p
      have t2 := szTo_pos (L := L) Z0.out i
      by_cases hlt : p < te
      rotate_left
      · obtain rfl : p = te := by omega
        have hqn : q = nx := by
          have h := congrArg List.length HDR.out
          rw [List.length_drop, ← HXL.out, HNX.out, tops_end (i := p) (te := p) (by omega)] at h
          simp at h; omega
        have hqx' : ¬ (q : Int) < (nx : Int) := by omega
        clear t0 t1 t2
        go_wp2
        go_ret
        exact ⟨ret_int (by rw [← HRES.out]), BR.out⟩
      have hqx : q < nx := by
        have h := congrArg List.length HDR.out
        rw [List.length_drop, ← HXL.out, HNX.out, tops_more hlt] at h
        simp at h; omega
      have hqx' : (q : Int) < (nx : Int) := by omega
      obtain ⟨x, hxq⟩ : ∃ x, xs[q]? = some x := ⟨xs[q]'(by rw [HNX.out]; exact hqx), by simp [HNX.out, hqx]⟩
      have hpq : (tops L i te)[q]? = some p := by
        have h := congrArg (fun l => l[0]?) HDR.out
        simp only [tops_more hlt, List.getElem?_drop, Nat.add_zero, List.getElem?_cons_zero] at h
        exact h
      have hdn : (tops L i te).drop (q + 1) = tops L (p + 1 + (L p).thn.toNat + (L p).els.toNat) te := by
        have h := congrArg (List.drop 1) HDR.out
        rw [List.drop_drop, tops_more hlt] at h
        simpa [Nat.add_comm] using h
      have g0 : wr.cell? ⟨g, q, none⟩ = some x := by
        rw [BR.out.cell (p := ⟨g, q, none⟩) lgw, HROW.out.1.cellAt q (by rw [HNX.out]; omega)]
        exact hxq
      obtain ⟨sok, hnt, c1, c2, c3⟩ := chk_next HCP.out hlt
      have HSOK : Hid (stOK (L p) 0 = true) := sok
      have HC1 : Hid _ := c1
      have HC2 : Hid _ := c2
      have HC3 : Hid _ := c3
      have HDN : Hid _ := hdn
      have HNT : Hid (p + 1 + (L p).thn.toNat + (L p).els.toNat ≤ te) := hnt
      have HP1 : Hid (szTo L Z (p + 1) = szTo L Z p + wI (L p) Z) := rfl
      have hcase := HX.out q x p hxq hpq
      clear sok c1 c2 c3 hdn hnt hxq hpq
      have hthn : Hid ((L p).k = 1 ∨ (L p).k = 4 → (L p).thn.toNat = 0 ∧ (L p).els.toNat = 0) := (fun h => by have := (st_plain HSOK.out).1 h; omega : (L p).k = 1 ∨ (L p).k = 4 → (L p).thn.toNat = 0 ∧ (L p).els.toNat = 0)
      have hels : Hid ((L p).k = 3 → (L p).els.toNat = 0) := (fun h => by have := (st_plain HSOK.out).2 h; omega : (L p).k = 3 → (L p).els.toNat = 0)
      rcases hcase with ⟨k1, rfl⟩ | ⟨k2, v1, v2, rfl, r1, r2⟩ | ⟨k3, v1, rfl, r1⟩ | ⟨k4, rfl⟩
      · obtain ⟨ea, eb⟩ := hthn.out (.inl k1)
        have HQ : Hid (szTo L Z (p + 1 + (L p).thn.toNat + (L p).els.toNat) = szTo L Z p + 1) := (by rw [ea, eb]; show szTo L Z p + wI (L p) Z = _; simp [wI, k1] : szTo L Z (p + 1 + (L p).thn.toNat + (L p).els.toNat) = szTo L Z p + 1)
        have hm := meth_single
        clear k1 ea eb
        go_wp2_with fail
        refine (flatSingle_any _ _ _ _ _ _ _ _ _).mono ?_
        rintro e u1 ⟨rfl, hb⟩
        have B2 : Hid (Below w.heap.size w u1) := BR.out.trans (hb.mono BR.out.size)
        clear hb hm g0
        go_wp2
        go_roundw
        case rel => exact ⟨q + 1, p + 1 + (L p).thn.toNat + (L p).els.toNat, by omega, by omega, HNT.out, by go_num, by rw [HQ.out]; congr 1; omega, B2.out, HDN.out, HC3.out⟩
        case measure => simp [intOf]; omega
      · have HQ : Hid (szTo L Z (p + 1) = szTo L Z p + 2) := (by show szTo L Z p + wI (L p) Z = _; simp [wI, k2] : szTo L Z (p + 1) = szTo L Z p + 2)
        have hm := meth_choice
        have m1 := szTo_mono (L := L) Z0.out (show p + 1 ≤ p + 1 + (L p).thn.toNat by omega)
        have m2 := szTo_mono (L := L) Z0.out (show p + 1 + (L p).thn.toNat ≤ p + 1 + (L p).thn.toNat + (L p).els.toNat by omega)
        have m3 := ZLE.out (p + 1 + (L p).thn.toNat + (L p).els.toNat)
        have m4 := szTo_pos (L := L) Z0.out (p + 1)
        have hn := HNT.out
        obtain ⟨s1, hs1⟩ : ∃ y, szTo L Z (p + 1 + (L p).thn.toNat) - szTo L Z (p + 1) = y := ⟨_, rfl⟩
        obtain ⟨s2, hs2⟩ : ∃ y, szTo L Z (p + 1 + (L p).thn.toNat + (L p).els.toNat) - szTo L Z (p + 1 + (L p).thn.toNat) = y := ⟨_, rfl⟩
        have HS1 : Hid _ := hs1
        have HS2 : Hid _ := hs2
        have y0 : 0 ≤ s1 := by omega
        have y1 : s1 ≤ 1099511627776 := by omega
        have y2 : 0 ≤ s2 := by omega
        have y3 : s2 ≤ 1099511627776 := by omega
        have y4 : s1 + s2 ≤ 4002000 := by omega
        have R1 : Hid (RepN L m w S v1 (p + 1) (p + 1 + (L p).thn.toNat)) := r1
        have R2 : Hid (RepN L m w S v2 (p + 1 + (L p).thn.toNat) (p + 1 + (L p).thn.toNat + (L p).els.toNat)) := r2
        clear k2 r1 r2 m1 m2 m3 m4 hn hs1 hs2
        go_wp2_with fail
        refine (flatChoice_any _ _ v1 v2 _ s1 s2 _ y0 y1 y2 y3 (fun w' hb' => ?h1) (fun w' hb' => ?h2)).mono ?_
        case h1 =>
          have hbb := BR.out.trans (hb'.mono BR.out.size)
          have hn := HNT.out
          have h := IH.out (p + 1) (p + 1 + (L p).thn.toNat) (depth + 1) v1 S w' (HW0.out.trans (hbb.mono HW0.out.size)) (R1.out.below hbb) (by omega) (by omega) HC1.out
          rw [HS1.out] at h
          exact h
        case h2 =>
          have hbb := BR.out.trans (hb'.mono BR.out.size)
          have hn := HNT.out
          have h := IH.out (p + 1 + (L p).thn.toNat) (p + 1 + (L p).thn.toNat + (L p).els.toNat) (depth + 1) v2 S w' (HW0.out.trans (hbb.mono HW0.out.size)) (R2.out.below hbb) (by omega) (by omega) HC2.out
          rw [HS2.out] at h
          exact h
        rintro e u1 ⟨rfl, hb⟩
        have B2 : Hid (Below w.heap.size w u1) := BR.out.trans (hb.mono BR.out.size)
        clear hb hm g0
        go_wp2
        go_roundw
        case rel => exact ⟨q + 1, p + 1 + (L p).thn.toNat + (L p).els.toNat, by omega, by omega, HNT.out, by go_num, by have q1 := HS1.out; have q2 := HS2.out; have q3 := HQ.out; congr 1; omega, B2.out, HDN.out, HC3.out⟩
        case measure => simp [intOf]; omega
      · have ee := hels.out k3
        have HQ : Hid (szTo L Z (p + 1) = szTo L Z p + 2) := (by show szTo L Z p + wI (L p) Z = _; simp [wI, k3] : szTo L Z (p + 1) = szTo L Z p + 2)
        have hm := meth_loop
        have m1 := szTo_mono (L := L) Z0.out (show p + 1 ≤ p + 1 + (L p).thn.toNat by omega)
        have m3 := ZLE.out (p + 1 + (L p).thn.toNat)
        have m4 := szTo_pos (L := L) Z0.out (p + 1)
        have hn := HNT.out
        obtain ⟨s1, hs1⟩ : ∃ y, szTo L Z (p + 1 + (L p).thn.toNat) - szTo L Z (p + 1) = y := ⟨_, rfl⟩
        have HS1 : Hid _ := hs1
        have HEE : Hid ((L p).els.toNat = 0) := ee
        have y0 : 0 ≤ s1 := by omega
        have y1 : s1 ≤ 4002000 := by omega
        have R1 : Hid (RepN L m w S v1 (p + 1) (p + 1 + (L p).thn.toNat)) := r1
        clear k3 r1 m1 m3 m4 hn hs1 ee
        go_wp2_with fail
        refine (flatLoop_any _ _ v1 _ s1 _ y0 (by omega) (fun w' hb' => ?h1)).mono ?_
        case h1 =>
          have hbb := BR.out.trans (hb'.mono BR.out.size)
          have hn := HNT.out
          have h := IH.out (p + 1) (p + 1 + (L p).thn.toNat) (depth + 1) v1 S w' (HW0.out.trans (hbb.mono HW0.out.size)) (R1.out.below hbb) (by omega) (by omega) HC1.out
          rw [HS1.out] at h
          exact h
        rintro e u1 ⟨rfl, hb⟩
        have B2 : Hid (Below w.heap.size w u1) := BR.out.trans (hb.mono BR.out.size)
        clear hb hm g0
        go_wp2
        go_roundw
        case rel => exact ⟨q + 1, p + 1 + (L p).thn.toNat + (L p).els.toNat, by omega, by omega, HNT.out, by go_num, by have q1 := HS1.out; have q3 := HQ.out; rw [HEE.out]; congr 1; simp only [Nat.add_zero]; omega, B2.out, HDN.out, HC3.out⟩
        case measure => simp [intOf]; omega
      · obtain ⟨q0, q1⟩ := st_call HSOK.out k4
        omega
end Go.Proofs.Ytbnaegpjmiiihaa
