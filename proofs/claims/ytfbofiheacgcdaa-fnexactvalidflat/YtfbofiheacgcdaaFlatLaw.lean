/- FnExactValidFlat: proved. -/
import Derived.Test.YtfbofiheacgcdaaFlatAny
import Derived.Test.YtfbofiheacgcdaaOpenIns
import Derived.OpenShut
import Derived.ChangeOld
import Derived.Below
namespace Go.Proofs.Ytfbofiheacgcdaa
open Go.ChangeShapes Go.WideShapes Go.ChangeAt Go.RowKit Go.Deep

theorem flat_own : ownKnob Try.prog.godebug = none := by kernel_rfl
theorem flat_laidOut : laidOutB Try.prog = true := by kernel_rfl

set_option maxHeartbeats 400000 in
theorem lawFlat_great (ao : Option Addr) (len cap : Nat) (w : World) (h : 1048576 < len) (hm : len ≤ maxLen) :
    Calls Try.prog 4 #[.slice ao len cap] w fun e w' => e = .returned (.bool true) ∧ Below w.heap.size w w' := by
  unfold maxLen at hm
  go_enter Try.func4, Try.ntmps4
  go_wp2_with fail
  refine (szInsS_no _ _ _ _ _ (by omega) (by omega) hm).mono ?_
  rintro e w1 ⟨rfl, rfl⟩
  go_wp2
  go_ret
  exact ⟨rfl, Below.refl _ _⟩

set_option maxHeartbeats 400000 in
theorem lawFlat_walk (ao : Option Addr) (len cap : Nat) (F : Nat → Nat → Int) (w : World) (hlen : len ≤ 1048576) (hin : InRow w ao (len * 6) (insF F)) :
    Calls Try.prog 4 #[.slice ao len cap] w fun e w' => e = .returned (.bool true) ∧ Below w.heap.size w w' := by
  have HI : Hid (InRow w ao (len * 6) (insF F)) := hin
  clear hin
  have hlen' : (len : Int) ≤ 1048576 := by omega
  have hne : (flatOK len F != flatOK len F) = false := by simp
  go_enter Try.func4, Try.ntmps4
  go_wp2_with fail
  refine (szInsS_ok _ _ _ _ _ (by omega) (by omega)).mono ?_
  rintro e w1 ⟨rfl, rfl⟩
  go_wp2_with fail
  refine (toInsS_in _ _ _ F _ hlen HI.out).mono ?_
  rintro e w1 ⟨rfl, hb1, ha1⟩
  have H1 : Hid (Arr w1 _ (len * 6) (insF F)) := ha1
  clear ha1
  go_wp2_with fail
  refine (specFlat_any _ _ _ _ F _ hlen H1.out.at).mono ?_
  rintro e w2 ⟨rfl, hb2⟩
  have hb12 := hb1.trans (hb2.mono hb1.size)
  go_wp2_with fail
  refine (toInsS_in _ _ _ F _ hlen (HI.out.below hb12 (Nat.le_refl _))).mono ?_
  rintro e w3 ⟨rfl, hb3, ha3⟩
  have H3 : Hid (Arr w3 _ (len * 6) (insF F)) := ha3
  clear ha3
  have hb13 := hb12.trans (hb3.mono hb12.size)
  go_wp2_with fail
  refine (implFlat_any _ _ _ _ F _ hlen H3.out.at).mono ?_
  rintro e w4 ⟨rfl, hb4⟩
  have hb14 := hb13.trans (hb4.mono hb13.size)
  have H4 : Hid (Arr w4 _ (len * 6) (insF F)) := H3.out.below hb4 H3.out.lt
  go_wp2_with fail
  refine (toInsS_in _ _ _ F _ hlen (HI.out.below hb14 (Nat.le_refl _))).mono ?_
  rintro e w5 ⟨rfl, hb5, ha5⟩
  have H5 : Hid (Arr w5 _ (len * 6) (insF F)) := ha5
  clear ha5
  have hb15 := hb14.trans (hb5.mono hb14.size)
  have H45 : Hid (Arr w5 _ (len * 6) (insF F)) := H4.out.below hb5 H4.out.lt
  go_wp2_with fail
  refine (eqInsS_same _ _ _ _ _ _ _ F _ hlen H45.out.at H5.out.at).mono ?_
  rintro e w6 ⟨rfl, hb6⟩
  have hb16 := hb15.trans (hb6.mono hb15.size)
  go_wp2
  go_ret
  exact ⟨rfl, hb16⟩

set_option maxRecDepth 100000 in
theorem lawFlat_lifted (os : Os) (started : os.Started) (H : Type) (enc : TypeId × Value → H) :
    ReturnsInHanded {} Try.checked os 4 .any (Rows.fnExactValidFlatSpec.pre6 enc Try.prog Try.f4 Rows.fnExactValidFlatRow.domain false) (Rows.fnExactValidFlatSpec.post enc Try.prog Try.f4 false true false false) := by
  refine returnsInHanded_of_change (C := Try.checked) flat_own started (by kernel_rfl) Try.func4
    (ChangeSpec.witness6 (enc := enc) (C := Try.checked) false ⟨#[], #[.slice none 0 0], []⟩ 8 (by kernel_rfl) (by kernel_rfl) (by kernel_rfl) (by kernel_rfl)) ?_
  intro W base args ds gs before hval0 hW _ _
  have hval : ∀ (j : Nat) t v, Try.f4.params[j]? = some t → args[j]? = some v → Value.okWide Try.prog W .any base t v := hval0
  have hW' := hW
  obtain ⟨p, q, hA0, hV, rfl, _, _⟩ := hW
  have hA : DataW.TrodAll enc Try.prog W 0 (fun _ => true) true Try.f4.params.toList args.toList ds p := hA0
  rw [Try.params4] at hA hval
  obtain ⟨v0, d0, rfl, rfl, h0⟩ := trodAll_one hA
  obtain ⟨rfl, rfl⟩ := trodVars_none hV
  obtain ⟨ao, len, cap, rfl⟩ := okWide_slice Try.underlying28 (hval 0 28 v0 rfl rfl)
  have k0 := h0
  have lt0 : ∀ x ∈ p, x.block < W.heap.size := by obtain ⟨m, hm⟩ := k0; exact DataW.trod_lt m _ _ _ hm
  obtain ⟨fuel, hf⟩ := h0
  obtain ⟨hm, F, hin⟩ := open_insS (by simpa [Value.cells] using hf)
  clear hA0 hval0
  have fin : ∀ (e : Ending) (W' : World), e = .returned (.bool true) ∧ Below W.heap.size W W' → ∃ v, e = .returned v ∧ Rows.fnExactValidFlatSpec.post enc Try.prog Try.f4 false true false false W #[.slice ao len cap] v W' := by
    rintro e W' ⟨he, bel⟩
    subst he
    exact ⟨_, rfl, _, _, _, [], _, [], hW', trodAll_mk1 (shut_bool Try.underlying4 _), trodAll_mk1 (Below.trod flat_laidOut (by kernel_rfl) (of_decide_eq_true (by kernel_rfl)) k0 bel lt0), rfl, bel.frame _, fun h => by cases h⟩
  by_cases hl : len ≤ 1048576
  · exact (lawFlat_walk ao len cap F W hl hin).mono fin
  · exact (lawFlat_great ao len cap W (by omega) hm).mono fin

theorem validFlat_holds : Rows.FnExactValidFlatSaid :=
  OpenClaim.holds_of_wide 4 Try.f4 rfl rfl rfl rfl rfl rfl rfl ⟨rfl, rfl, rfl, rfl, rfl⟩ rfl rfl rfl rfl rfl (by kernel_rfl) Try.func4 (by kernel_rfl)
    (of_decide_eq_true (by kernel_rfl)) (by unfold Func.isWrapper; first | (rw [if_pos (by decide +kernel)]; kernel_rfl) | (rw [if_neg (by decide +kernel)]; exact ⟨rfl, rfl⟩))
    (fun os started H enc _ => lawFlat_lifted os started H enc)
end Go.Proofs.Ytfbofiheacgcdaa
