/- FnExactValidSig: proved. -/
import Derived.Test.YtjnooklalbcamaaOpenSig
import Derived.Test.YtjnooklalbcamaaRegL
import Derived.Deep.RegionHeld3
import Derived.Deep.Cut
import Derived.Deep.DeepCutAuto
import Derived.OpenShut
import Derived.ChangeOld
import Derived.Below
namespace Go.Proofs.Ytjnooklalbcamaa
open Go.ChangeShapes Go.WideShapes Go.ChangeAt Go.RowKit Go.Deep

theorem sig_own : ownKnob Try.prog.godebug = none := by kernel_rfl
theorem sig_laidOut : laidOutB Try.prog = true := by kernel_rfl

set_option maxHeartbeats 400000 in
theorem lawSig_great (aoH : Option Addr) (nH cH : Nat) (aoR : Option Addr) (nR cR : Nat) (w : World) (h : 1048576 < nH + nR) (mH : nH ≤ maxLen) (mR : nR ≤ maxLen) :
    Calls Try.prog 4 #[.agg #[.slice aoH nH cH, .slice aoR nR cR]] w fun e w' => e = .returned (.bool true) ∧ Below w.heap.size w w' := by
  go_enter Try.func4, Try.ntmps4
  go_wp2_with fail
  refine (szSig_no _ _ _ _ _ _ _ _ (by omega) (by omega) (by omega) mH mR).mono ?_
  rintro e w1 ⟨rfl, hb1⟩
  go_wp2
  go_ret
  exact ⟨rfl, ((Below.refl _ _).alloc (Nat.le_refl _) _).trans (hb1.mono (by simp))⟩

set_option maxHeartbeats 1000000 in
theorem lawSig_walk (aoH : Option Addr) (nH cH : Nat) (S : Nat → HS) (aoR : Option Addr) (nR cR : Nat) (V : Nat → VV) (w : World) (hl : nH + nR ≤ 1048576) (hin : SigIn w aoH nH S aoR nR V) :
    Calls Try.prog 4 #[.agg #[.slice aoH nH cH, .slice aoR nR cR]] w fun e w' => e = .returned (.bool true) ∧ Below w.heap.size w w' := by
  have HI : Hid (SigIn w aoH nH S aoR nR V) := hin
  have lH : nH ≤ 1048576 := by omega
  have lR : nR ≤ 1048576 := by omega
  have hne : (sigOK nH S nR V != sigOK nH S nR V) = false := by simp
  clear hin
  go_enter Try.func4, Try.ntmps4
  go_wp2_with fail
  refine (szSig_ok _ _ _ _ _ _ _ _ (by omega) (by omega) (by omega)).mono ?_
  rintro e w1 ⟨rfl, hb1⟩
  have b1 : Below w.heap.size w w1 := ((Below.refl _ _).alloc (Nat.le_refl _) _).trans (hb1.mono (by simp))
  have HB1 : Hid (Below w.heap.size w w1) := b1
  have z1 : w.heap.size < w1.heap.size := by have := hb1.size; simp at this; omega
  have x0 : w1.cell? ⟨w.heap.size, 0, none⟩ = some (.slice aoH nH cH) := by rw [hb1.cell (by simp)]; simp [go_sem]
  have x1 : w1.cell? ⟨w.heap.size, 1, none⟩ = some (.slice aoR nR cR) := by rw [hb1.cell (by simp)]; simp [go_sem]
  clear hb1 b1
  go_wp2_with fail
  refine (toSig_in _ _ _ S _ _ _ V _ lH lR (HI.out.below HB1.out (Nat.le_refl _))).mono ?_
  rintro e w2 ⟨cbH, cbR, gH, gR, rfl, hb2, hc2⟩
  have HC2 : Hid (SigCp w2 cbH nH S cbR nR V) := hc2
  have HB2 : Hid (Below w.heap.size w w2) := HB1.out.trans (hb2.mono HB1.out.size)
  have z2 : w.heap.size < w2.heap.size := Nat.lt_of_lt_of_le z1 hb2.size
  have y0 : w2.cell? ⟨w.heap.size, 0, none⟩ = some (.slice aoH nH cH) := (hb2.cell (p := ⟨w.heap.size, 0, none⟩) z1).trans x0
  have y1 : w2.cell? ⟨w.heap.size, 1, none⟩ = some (.slice aoR nR cR) := (hb2.cell (p := ⟨w.heap.size, 1, none⟩) z1).trans x1
  clear hb2 hc2 x0 x1 z1
  go_wp2_with fail
  refine (specSig_any _ _ _ S _ _ _ V _ lH lR HC2.out).mono ?_
  rintro e w3 ⟨rfl, hb3⟩
  have HB3 : Hid (Below w.heap.size w w3) := HB2.out.trans (hb3.mono HB2.out.size)
  have z3 : w.heap.size < w3.heap.size := Nat.lt_of_lt_of_le z2 hb3.size
  have x0 : w3.cell? ⟨w.heap.size, 0, none⟩ = some (.slice aoH nH cH) := (hb3.cell (p := ⟨w.heap.size, 0, none⟩) z2).trans y0
  have x1 : w3.cell? ⟨w.heap.size, 1, none⟩ = some (.slice aoR nR cR) := (hb3.cell (p := ⟨w.heap.size, 1, none⟩) z2).trans y1
  clear hb3 y0 y1 z2 HC2 gH gR
  go_wp2_with fail
  refine (toSig_in _ _ _ S _ _ _ V _ lH lR (HI.out.below HB3.out (Nat.le_refl _))).mono ?_
  rintro e w4 ⟨bH, bR, gH, gR, rfl, hb4, hc4⟩
  have HC4 : Hid (SigCp w4 bH nH S bR nR V) := hc4
  have HB4 : Hid (Below w.heap.size w w4) := HB3.out.trans (hb4.mono HB3.out.size)
  have z4 : w.heap.size < w4.heap.size := Nat.lt_of_lt_of_le z3 hb4.size
  have y0 : w4.cell? ⟨w.heap.size, 0, none⟩ = some (.slice aoH nH cH) := (hb4.cell (p := ⟨w.heap.size, 0, none⟩) z3).trans x0
  have y1 : w4.cell? ⟨w.heap.size, 1, none⟩ = some (.slice aoR nR cR) := (hb4.cell (p := ⟨w.heap.size, 1, none⟩) z3).trans x1
  clear hb4 hc4 x0 x1 z3
  go_wp2_with fail
  obtain ⟨w5, hw5, hb5, z5, v0, v1, y0', y1'⟩ : ∃ w5, w4.alloc (.cells #[.slice (some ⟨bH, 0, none⟩) nH nH, .slice (some ⟨bR, 0, none⟩) nR nR] 48) = w5 ∧ Below w4.heap.size w4 w5 ∧ w4.heap.size < w5.heap.size ∧ w5.cell? ⟨w4.heap.size, 0, none⟩ = some (.slice (some ⟨bH, 0, none⟩) nH nH) ∧ w5.cell? ⟨w4.heap.size, 1, none⟩ = some (.slice (some ⟨bR, 0, none⟩) nR nR) ∧ w5.cell? ⟨w.heap.size, 0, none⟩ = some (.slice aoH nH cH) ∧ w5.cell? ⟨w.heap.size, 1, none⟩ = some (.slice aoR nR cR) :=
    ⟨_, rfl, (Below.refl _ _).alloc (Nat.le_refl _) _, by simp, by simp [go_sem], by simp [go_sem], (World.cell?_alloc_lt _ _ _ z4).trans y0, (World.cell?_alloc_lt _ _ _ z4).trans y1⟩
  rw [hw5]
  have HC5 : Hid (SigCp w5 bH nH S bR nR V) := HC4.out.below hb5
  have HB5 : Hid (Below w.heap.size w w5) := HB4.out.trans (hb5.mono HB4.out.size)
  clear hw5 hb5 y0 y1
  refine (implSig_any _ _ _ S _ _ _ V _ lH lR HC5.out).mono ?_
  rintro e w6 ⟨rfl, hb6⟩
  have HC6 : Hid (SigCp w6 bH nH S bR nR V) := HC5.out.below hb6
  have HB6 : Hid (Below w.heap.size w w6) := HB5.out.trans (hb6.mono HB5.out.size)
  have z6 : w4.heap.size < w6.heap.size := Nat.lt_of_lt_of_le z5 hb6.size
  have z6' : w.heap.size < w6.heap.size := Nat.lt_trans z4 z6
  have A0 : ∀ w', Below w6.heap.size w6 w' → w'.cell? ⟨w.heap.size, 0, none⟩ = some (.slice aoH nH cH) := fun w' h => (h.cell (p := ⟨w.heap.size, 0, none⟩) z6').trans ((hb6.cell (p := ⟨w.heap.size, 0, none⟩) (Nat.lt_trans z4 z5)).trans y0')
  have A1 : ∀ w', Below w6.heap.size w6 w' → w'.cell? ⟨w.heap.size, 1, none⟩ = some (.slice aoR nR cR) := fun w' h => (h.cell (p := ⟨w.heap.size, 1, none⟩) z6').trans ((hb6.cell (p := ⟨w.heap.size, 1, none⟩) (Nat.lt_trans z4 z5)).trans y1')
  have B0 : ∀ w', Below w6.heap.size w6 w' → w'.cell? ⟨w4.heap.size, 0, none⟩ = some (.slice (some ⟨bH, 0, none⟩) nH nH) := fun w' h => (h.cell (p := ⟨w4.heap.size, 0, none⟩) z6).trans ((hb6.cell (p := ⟨w4.heap.size, 0, none⟩) z5).trans v0)
  have B1 : ∀ w', Below w6.heap.size w6 w' → w'.cell? ⟨w4.heap.size, 1, none⟩ = some (.slice (some ⟨bR, 0, none⟩) nR nR) := fun w' h => (h.cell (p := ⟨w4.heap.size, 1, none⟩) z6).trans ((hb6.cell (p := ⟨w4.heap.size, 1, none⟩) z5).trans v1)
  clear hb6 v0 v1 y0' y1' HC4 HC5 HB5
  go_upto_region 10 with fail
  refine wp_region_held_drew (S := fun w' => Below w6.heap.size w6 w') (by kernel_rfl) (Below.refl _ _).drew (fun hHeld => ?_)
  refine wpAnyH_tk 0 ?rv0 rfl ?ry0 ?rr0
  case ry0 => (intro w hSw; (try dsimp only at hSw); go_simp; try with_reducible rfl)
  try go_frame
  refine wpAnyH_tk 1 ?rv1 rfl ?ry1 ?rr1
  case ry1 => (intro w hSw; (try dsimp only at hSw); go_simp; try with_reducible rfl)
  try go_frame
  refine wpAnyH_ready (rs := [2]) (by kernel_rfl) (by simp) ?_
  refine AllReadyH.cons rfl (fun KK hK => ?_) AllReadyH.nil
  go_simp
  refine (toSig_in _ _ _ S _ _ _ V _ lH lR (HI.out.below HB6.out.drew (Nat.le_refl _))).mono ?_
  rintro e w7 ⟨bH', bR', gH', gR', rfl, hb7, hc7⟩
  have HC7 : Hid (SigCp w7 bH' nH S bR' nR V) := hc7
  have b7 : Below w6.heap.size w6 w7 := (Below.refl w6.heap.size w6).drew.trans (hb7.mono (Nat.le_refl _))
  have HC7' : Hid (SigCp w7 bH nH S bR nR V) := HC6.out.below b7
  have HB7 : Hid (Below w6.heap.size w6 w7) := b7
  clear hb7 hc7
  go_wp2_with fail
  refine hK.out _ _ b7 (fun hHeld7 => ?_)
  clear hK KK b7
  try go_frame
  refine wpAnyH_ready (rs := [3]) (by kernel_rfl) (by simp) ?_
  refine AllReadyH.cons rfl (fun KK hK => ?_) AllReadyH.nil
  go_simp
  refine (eqSig_same _ _ _ S _ _ _ V _ _ _ _ _ lH lR HC7'.out HC7.out).mono ?_
  rintro e w8 ⟨rfl, hb8⟩
  have b8 : Below w6.heap.size w6 w8 := HB7.out.trans (hb8.mono HB7.out.size)
  have HB8 : Hid (Below w.heap.size w w8) := HB6.out.trans (b8.mono HB6.out.size)
  clear hb8
  go_wp2_with fail
  refine hK.out _ _ b8 (fun hHeld8 => ?_)
  clear hK KK b8
  try go_frame
  refine wpAnyH_tk 4 ?rv4 rfl ?ry4 ?rr4
  case ry4 => (intro w hSw; (try dsimp only at hSw); go_simp; try with_reducible rfl)
  try go_frame
  refine wpAnyH_done (by kernel_rfl) ?_ _
  clear A0 A1 B0 B1
  go_wp2
  go_ret
  exact ⟨rfl, HB8.out⟩

set_option maxRecDepth 100000 in
theorem lawSig_lifted (os : Os) (started : os.Started) (H : Type) (enc : TypeId × Value → H) :
    ReturnsInHanded {} Try.checked os 4 .any (Rows.fnExactValidSigSpec.pre6 enc Try.prog Try.f4 Rows.fnExactValidSigRow.domain false) (Rows.fnExactValidSigSpec.post enc Try.prog Try.f4 false true false false) := by
  refine returnsInHanded_of_change (C := Try.checked) sig_own started (by kernel_rfl) Try.func4
    (ChangeSpec.witness6 (enc := enc) (C := Try.checked) false ⟨#[], #[.agg #[.slice none 0 0, .slice none 0 0]], []⟩ 8 (by kernel_rfl) (by kernel_rfl) (by kernel_rfl) (by kernel_rfl)) ?_
  intro W base args ds gs before hval0 hW _ _
  have hval : ∀ (j : Nat) t v, Try.f4.params[j]? = some t → args[j]? = some v → Value.okWide Try.prog W .any base t v := hval0
  have hW' := hW
  obtain ⟨p, q, hA0, hV, rfl, _, _⟩ := hW
  have hA : DataW.TrodAll enc Try.prog W 0 (fun _ => true) true Try.f4.params.toList args.toList ds p := hA0
  rw [Try.params4] at hA hval
  obtain ⟨v0, d0, rfl, rfl, h0⟩ := trodAll_one hA
  obtain ⟨rfl, rfl⟩ := trodVars_none hV
  obtain ⟨cs, rfl, _⟩ := okWide_struct Try.underlying42 (hval 0 42 v0 rfl rfl)
  have k0 := h0
  have lt0 : ∀ x ∈ p, x.block < W.heap.size := by obtain ⟨m, hm⟩ := k0; exact DataW.trod_lt m _ _ _ hm
  obtain ⟨fuel0, hf0⟩ := h0
  obtain ⟨aoH, nH, cH, S, aoR, nR, cR, V, hcs, mH, mR, hin⟩ := open_sig hf0
  have : cs = #[.slice aoH nH cH, .slice aoR nR cR] := by
    cases cs; simpa [Value.cells] using hcs
  subst this
  clear hA0 hval0
  have fin : ∀ (e : Ending) (W' : World), e = .returned (.bool true) ∧ Below W.heap.size W W' → ∃ v, e = .returned v ∧ Rows.fnExactValidSigSpec.post enc Try.prog Try.f4 false true false false W #[.agg #[.slice aoH nH cH, .slice aoR nR cR]] v W' := by
    rintro e W' ⟨he, bel⟩
    subst he
    exact ⟨_, rfl, _, _, _, [], _, [], hW', trodAll_mk1 (shut_bool Try.underlying4 _), trodAll_mk1 (Below.trod sig_laidOut (by kernel_rfl) (of_decide_eq_true (by kernel_rfl)) k0 bel lt0), rfl, bel.frame _, fun h => by cases h⟩
  by_cases hl : nH + nR ≤ 1048576
  · exact (lawSig_walk aoH nH cH S aoR nR cR V W hl hin).mono fin
  · exact (lawSig_great aoH nH cH aoR nR cR W (by omega) mH mR).mono fin

theorem validSig_holds : Rows.FnExactValidSigSaid :=
  OpenClaim.holds_of_wide 4 Try.f4 rfl rfl rfl rfl rfl rfl rfl ⟨rfl, rfl, rfl, rfl, rfl⟩ rfl rfl rfl rfl rfl (by kernel_rfl) Try.func4 (by kernel_rfl)
    (of_decide_eq_true (by kernel_rfl)) (by unfold Func.isWrapper; first | (rw [if_pos (by decide +kernel)]; kernel_rfl) | (rw [if_neg (by decide +kernel)]; exact ⟨rfl, rfl⟩))
    (fun os started H enc _ => lawSig_lifted os started H enc)
end Go.Proofs.Ytjnooklalbcamaa
