/- FnExactLower: proved. -/
import Derived.Test.YtbnaegpjmiiihaaLowMark
import Derived.Test.YtbnaegpjmiiihaaOpenProc
import Derived.ChangeOld
import Derived.Below
namespace Go.Proofs.Ytbnaegpjmiiihaa
open Go.ChangeShapes Go.WideShapes Go.ChangeAt Go.RowKit Go.Deep
theorem low_own : ownKnob Try.prog.godebug = none := by kernel_rfl
theorem low_laidOut : laidOutB Try.prog = true := by kernel_rfl

set_option maxRecDepth 20000 in
set_option maxHeartbeats 16000000 in
theorem lawLower_walk (ao : Option Addr) (n cap : Nat) (L : Nat → SV) (w : World) (hm : n ≤ maxLen) (hin : InRow w ao (n * 11) (stF L)) :
    Calls Try.prog 3 #[.slice ao n cap] w fun e w' => e = .returned (.bool true) ∧ Below w.heap.size w w' := by
  have HI : Hid (InRow w ao (n * 11) (stF L)) := hin
  clear hin
  unfold maxLen at hm
  obtain ⟨out, hout⟩ : ∃ x, lowR L n = x := ⟨_, rfl⟩
  have hlo : out.length ≤ 2001 := by rw [← hout]; exact lowR_len L n
  have HO : Hid (lowR L n = out) := hout
  clear hout
  go_enter Try.func3, Try.ntmps3
  by_cases hs : n ≤ 1048576
  rotate_left
  · go_wp2_with fail
    refine (szSt_no ao n cap 1048576 w (by omega) (by omega) hm).mono ?_
    rintro e wa ⟨rfl, hw⟩
    rw [hw]
    go_wp2
    go_ret
    exact ⟨rfl, Below.refl _ _⟩
  go_wp2_with fail
  refine (szSt_ok ao n cap 1048576 w (by omega) (by omega)).mono ?_
  rintro e wa ⟨rfl, hw⟩
  rw [hw]
  clear hw
  go_wp2_with fail
  refine (toStmtS_in ao n cap L w hs HI.out).mono ?_
  rintro e w1 ⟨rfl, hb1, ha1⟩
  have B1 : Hid (Below w.heap.size w w1) := hb1
  have A1 : Hid (Arr w1 w.heap.size (n * 11) (stF L)) := ha1
  clear hb1 ha1
  go_wp2_with fail
  refine (specLower_any w.heap.size n n L w1 hs (Nat.le_refl _) A1.out).mono ?_
  rintro e w2 ⟨gs, cS, rfl, ho2, hb2⟩
  rw [HO.out] at ho2 ⊢
  have B2 : Hid (Below w.heap.size w w2) := B1.out.trans (hb2.mono B1.out.size)
  have S2 : Hid (w2.ownsRow w1.heap.size 36 6 (.slice (some ⟨gs, 0, none⟩) out.length cS) out.length (ci out)) := ho2
  have gs2 : gs < w2.heap.size := (ho2.lt gs rfl).2
  clear hb2 ho2 A1
  go_wp2_with fail
  refine (toStmtS_in ao n cap L w2 hs (HI.out.below B2.out (Nat.le_refl _))).mono ?_
  rintro e w3 ⟨rfl, hb3, ha3⟩
  have B3 : Hid (Below w.heap.size w w3) := B2.out.trans (hb3.mono B2.out.size)
  have S3 : Hid (w3.ownsRow w1.heap.size 36 6 (.slice (some ⟨gs, 0, none⟩) out.length cS) out.length (ci out)) := row_belowU S2.out hb3
  have A3 : Hid (Arr w3 w2.heap.size (n * 11) (stF L)) := ha3
  have z23 : w2.heap.size < w3.heap.size := ha3.lt
  have lw2 := B2.out.size
  clear hb3 ha3 S2
  obtain ⟨xb, hxb⟩ : ∃ y, w2.heap.size = y := ⟨_, rfl⟩
  rw [hxb] at A3 z23 gs2 lw2 ⊢
  clear hxb
  go_wp2_with fail
  refine (implLower_any xb n n L w3 hs A3.out).mono ?_
  rintro e w4 ⟨gv, rfl, ho4, hb4⟩
  rw [HO.out] at ho4
  obtain ⟨aog, kg, cg, hgv⟩ := row_slice ho4
  subst hgv
  have B4 : Hid (Below w.heap.size w w4) := B3.out.trans (hb4.mono B3.out.size)
  have S4 : Hid (w4.ownsRow w1.heap.size 36 6 (.slice (some ⟨gs, 0, none⟩) out.length cS) out.length (ci out)) := row_belowU S3.out hb4
  have A4 : Hid (Arr w4 xb (n * 11) (stF L)) := A3.out.below hb4 A3.out.lt
  have G4 : Hid (w4.ownsRow w3.heap.size 36 6 (.slice aog kg cg) out.length (ci out)) := ho4
  have z34 : w3.heap.size ≤ w4.heap.size := hb4.size
  clear hb4 ho4 S3 A3
  go_wp2_with fail
  refine (eqInsS_rows out w4 (by omega) G4.out S4.out).mono ?_
  rintro e w5 ⟨rfl, hb5⟩
  have B5 : Hid (Below w.heap.size w w5) := B4.out.trans (hb5.mono B4.out.size)
  have S5 : Hid (w5.ownsRow w1.heap.size 36 6 (.slice (some ⟨gs, 0, none⟩) out.length cS) out.length (ci out)) := row_belowU S4.out hb5
  have A5 : Hid (Arr w5 xb (n * 11) (stF L)) := A4.out.below hb5 A4.out.lt
  have G5 : Hid (w5.ownsRow w3.heap.size 36 6 (.slice aog kg cg) out.length (ci out)) := row_belowU G4.out hb5
  have z35 : w3.heap.size ≤ w5.heap.size := Nat.le_trans z34 hb5.size
  clear hb5 S4 A4 G4
  go_wp2_with fail
  refine (toStmtS_in ao n cap L w5 hs (HI.out.below B5.out (Nat.le_refl _))).mono ?_
  rintro e w6 ⟨rfl, hb6, ha6⟩
  have B6 : Hid (Below w.heap.size w w6) := B5.out.trans (hb6.mono B5.out.size)
  have S6 : Hid (w6.ownsRow w1.heap.size 36 6 (.slice (some ⟨gs, 0, none⟩) out.length cS) out.length (ci out)) := row_belowU S5.out hb6
  have A6 : Hid (Arr w6 xb (n * 11) (stF L)) := A5.out.below hb6 A5.out.lt
  have D6 : Hid (Arr w6 w5.heap.size (n * 11) (stF L)) := ha6
  have G6 : Hid (w6.ownsRow w3.heap.size 36 6 (.slice aog kg cg) out.length (ci out)) := row_belowU G5.out hb6
  have z36 : w3.heap.size ≤ w6.heap.size := Nat.le_trans z35 hb6.size
  clear hb6 ha6 S5 A5 G5
  go_wp2_with fail
  refine (eqStmtS_same xb 0 n n w5.heap.size 0 n L w6 hs A6.out.at D6.out.at).mono ?_
  rintro e w7 ⟨rfl, hb7⟩
  have B7 : Hid (Below w.heap.size w w7) := B6.out.trans (hb7.mono B6.out.size)
  have S7 : Hid (w7.ownsRow w1.heap.size 36 6 (.slice (some ⟨gs, 0, none⟩) out.length cS) out.length (ci out)) := row_belowU S6.out hb7
  have A7 : Hid (Arr w7 xb (n * 11) (stF L)) := A6.out.below hb7 A6.out.lt
  have G7 : Hid (w7.ownsRow w3.heap.size 36 6 (.slice aog kg cg) out.length (ci out)) := row_belowU G6.out hb7
  have z37 : w3.heap.size ≤ w7.heap.size := Nat.le_trans z36 hb7.size
  clear hb7 S6 A6 G6 D6
  go_wp2_with fail
  refine (markSt_at xb n n _ 1 w7 hs (by omega) (by omega) A7.out).mono ?_
  rintro e w8 ⟨rfl, hf8, _⟩
  have B8 : Hid (Below w.heap.size w w8) := B7.out.trans (hf8.undr (by omega) lw2)
  have S8 : Hid (w8.ownsRow w1.heap.size 36 6 (.slice (some ⟨gs, 0, none⟩) out.length cS) out.length (ci out)) := row_ft S7.out hf8 (by simp [Value.ownBlock]; omega)
  have G8 : Hid (w8.ownsRow w3.heap.size 36 6 (.slice aog kg cg) out.length (ci out)) := row_ft G7.out hf8 (fun e => by have := (G7.out.lt xb e).1; omega)
  have z38 : w3.heap.size ≤ w8.heap.size := Nat.le_trans z37 hf8.size
  obtain ⟨rm, hrm⟩ : ∃ y : Int, 1 + 11 * (n : Int) = y := ⟨_, rfl⟩
  rw [hrm]
  have rm' : ¬ rm < 0 := by omega
  clear hf8 S7 A7 G7 hrm
  go_wp2_with fail
  refine (eqInsS_rows out w8 (by omega) G8.out S8.out).mono ?_
  rintro e w9 ⟨rfl, hb9⟩
  have B9 : Hid (Below w.heap.size w w9) := B8.out.trans (hb9.mono B8.out.size)
  have S9 : Hid (w9.ownsRow w1.heap.size 36 6 (.slice (some ⟨gs, 0, none⟩) out.length cS) out.length (ci out)) := row_belowU S8.out hb9
  have G9 : Hid (w9.ownsRow w3.heap.size 36 6 (.slice aog kg cg) out.length (ci out)) := row_belowU G8.out hb9
  have z39 : w3.heap.size ≤ w9.heap.size := Nat.le_trans z38 hb9.size
  clear hb9 S8 G8
  go_wp2_with fail
  refine (markIn_row out 1 w9 (by omega) (by omega) (by omega) z39 G9.out).mono ?_
  rintro e w10 ⟨rfl, hb10, hm10⟩
  have lw3 : w.heap.size ≤ w3.heap.size := B3.out.size
  have B10 : Hid (Below w.heap.size w w10) := B9.out.trans (hb10.mono lw3)
  have S10 : Hid (w10.ownsRow w1.heap.size 36 6 (.slice (some ⟨gs, 0, none⟩) out.length cS) out.length (ci out)) := (by
    refine ⟨S9.out.1, ?_⟩
    rcases S9.out.2 with h' | ⟨g', cap', cur, h', h1, h2, h3⟩
    · exact .inl h'
    · have hg : g' = gs := by have := (Value.slice.inj h').1; simp at this; exact this.symm
      exact .inr ⟨g', cap', cur, h', h1, (hb10.block g' (by omega)).trans h2, h3⟩ : w10.ownsRow w1.heap.size 36 6 (.slice (some ⟨gs, 0, none⟩) out.length cS) out.length (ci out))
  have M10 : Hid (out.length = 0 ∨ ∃ g c, Value.slice aog kg cg = .slice (some ⟨g, 0, none⟩) out.length c ∧ Arr w10 g (out.length * 6) (markL 1)) := hm10
  obtain ⟨nl, hnl⟩ : ∃ y : Int, 1 + 6 * (out.length : Int) = y := ⟨_, rfl⟩
  have HNL : Hid (1 + 6 * (out.length : Int) = nl) := hnl
  rw [hnl]
  have nl0 : ¬ nl < 0 := by omega
  clear hb10 hm10 hnl S9
  go_wp2_with fail
  refine (heldIn_row out 1 w10 w9 (by omega) (by omega) (by omega) G9.out M10.out).mono ?_
  rintro e w10' ⟨rfl, hw⟩
  rw [hw, HNL.out]
  clear hw M10 G9
  go_wp2_with fail
  refine (toStmtS_in ao n cap L w10 hs (HI.out.below B10.out (Nat.le_refl _))).mono ?_
  rintro e w11 ⟨rfl, hb11, ha11⟩
  have B11 : Hid (Below w.heap.size w w11) := B10.out.trans (hb11.mono B10.out.size)
  have S11 : Hid (w11.ownsRow w1.heap.size 36 6 (.slice (some ⟨gs, 0, none⟩) out.length cS) out.length (ci out)) := row_belowU S10.out hb11
  have A11 : Hid (Arr w11 w10.heap.size (n * 11) (stF L)) := ha11
  clear hb11 ha11 S10
  go_wp2_with fail
  refine (implLower_any w10.heap.size n n L w11 hs A11.out).mono ?_
  rintro e w12 ⟨hv, rfl, ho12, hb12⟩
  rw [HO.out] at ho12
  obtain ⟨aoh, kh, ch, hhv⟩ := row_slice ho12
  subst hhv
  have B12 : Hid (Below w.heap.size w w12) := B11.out.trans (hb12.mono B11.out.size)
  have S12 : Hid (w12.ownsRow w1.heap.size 36 6 (.slice (some ⟨gs, 0, none⟩) out.length cS) out.length (ci out)) := row_belowU S11.out hb12
  have G12 : Hid (w12.ownsRow w11.heap.size 36 6 (.slice aoh kh ch) out.length (ci out)) := ho12
  clear hb12 ho12 S11 A11
  go_wp2_with fail
  refine (eqInsS_rows out w12 (by omega) G12.out S12.out).mono ?_
  rintro e w13 ⟨rfl, hb13⟩
  go_wp2
  go_ret
  exact ⟨rfl, B12.out.trans (hb13.mono B12.out.size)⟩

set_option maxRecDepth 100000 in
theorem lawLower_lifted (os : Os) (started : os.Started) (H : Type) (enc : TypeId × Value → H) :
    ReturnsInHanded {} Try.checked os 3 .any (Rows.fnExactLowerSpec.pre6 enc Try.prog Try.f3 Rows.fnExactLowerRow.domain false) (Rows.fnExactLowerSpec.post enc Try.prog Try.f3 false true false false) := by
  refine returnsInHanded_of_change (C := Try.checked) low_own started (by kernel_rfl) Try.func3
    (ChangeSpec.witness6 (enc := enc) (C := Try.checked) false ⟨#[], #[.slice none 0 0], []⟩ 8 (by kernel_rfl) (by kernel_rfl) (by kernel_rfl) (by kernel_rfl)) ?_
  intro W base args ds gs before hval0 hW _ _
  have hval : ∀ (j : Nat) t v, Try.f3.params[j]? = some t → args[j]? = some v → Value.okWide Try.prog W .any base t v := hval0
  have hW' := hW
  obtain ⟨p, q, hA0, hV, rfl, _, _⟩ := hW
  have hA : DataW.TrodAll enc Try.prog W 0 (fun _ => true) true Try.f3.params.toList args.toList ds p := hA0
  rw [Try.params3] at hA hval
  obtain ⟨v0, d0, rfl, rfl, h0⟩ := trodAll_one hA
  obtain ⟨rfl, rfl⟩ := trodVars_none hV
  obtain ⟨ao, len, cap, rfl⟩ := okWide_slice Try.underlying22 (hval 0 22 v0 rfl rfl)
  have k0 := h0
  have lt0 : ∀ x ∈ p, x.block < W.heap.size := by obtain ⟨m, hm⟩ := k0; exact DataW.trod_lt m _ _ _ hm
  obtain ⟨fuel, hf⟩ := h0
  obtain ⟨hm, L, hin⟩ := open_stmtS (by simpa [Value.cells] using hf)
  clear hA0 hval0
  refine (lawLower_walk ao len cap L W hm hin).mono ?_
  rintro e W' ⟨he, bel⟩
  subst he
  exact ⟨_, rfl, _, _, _, [], _, [], hW', trodAll_mk1 (shut_bool Try.underlying4 _), trodAll_mk1 (Below.trod low_laidOut (by kernel_rfl) (of_decide_eq_true (by kernel_rfl)) k0 bel lt0), rfl, bel.frame _, fun h => by cases h⟩

theorem lower_holds : Rows.FnExactLowerSaid :=
  OpenClaim.holds_of_wide 3 Try.f3 rfl rfl rfl rfl rfl rfl rfl ⟨rfl, rfl, rfl, rfl, rfl⟩ rfl rfl rfl rfl rfl (by kernel_rfl) Try.func3 (by kernel_rfl)
    (of_decide_eq_true (by kernel_rfl)) (by unfold Func.isWrapper; first | (rw [if_pos (by decide +kernel)]; kernel_rfl) | (rw [if_neg (by decide +kernel)]; exact ⟨rfl, rfl⟩))
    (fun os started H enc _ => lawLower_lifted os started H enc)
end Go.Proofs.Ytbnaegpjmiiihaa
