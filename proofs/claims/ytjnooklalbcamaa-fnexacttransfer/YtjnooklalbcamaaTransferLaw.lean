import Derived.Test.YtjnooklalbcamaaTransLaw
import Derived.Test.YtjnooklalbcamaaOfOpenVals
import Derived.OpenShut
import Derived.ChangeOld
import Derived.Below
/- FnExactTransfer: proved. -/
namespace Go.Proofs.Ytjnooklalbcamaa
open Go.ChangeShapes Go.WideShapes Go.ChangeAt Go.RowKit Go.Deep
theorem cellsLInsT : Try.prog.cellsOf 75 = 6 := by kernel_rfl
theorem cellsI64T : Try.prog.cellsOf 2 = 1 := by kernel_rfl
set_option maxRecDepth 100000 in
/-- The cells of an instruction that reads as data. -/
theorem open_ins1 {H : Type} {enc : TypeId × Value → H} {w : World} {base : Nat} {spare : Nat → Bool} {held : Bool} {fuel : Nat} {cs : List Value} {x : DataW H × List MemPlace}
    (h : DataW.trod enc Try.prog w base spare held fuel 75 cs = some x) :
    ∃ op d a b imm hh : Int, cs = [.int .i64 op, .int .i64 d, .int .i64 a, .int .i64 b, .int .i64 imm, .int .i64 hh] ∧ (Lit.int .i64 op).wf = true ∧ (Lit.int .i64 d).wf = true ∧ (Lit.int .i64 a).wf = true ∧ (Lit.int .i64 b).wf = true ∧ (Lit.int .i64 imm).wf = true ∧ (Lit.int .i64 hh).wf = true := by
  obtain ⟨xs, n, _, _, hl, hlen, hf⟩ := DataW.trod_struct Try.underlying75 h
  rw [cellsLInsT] at hl
  match cs, hl with
  | [c0, c1, c2, c3, c4, c5], _ =>
    match xs, hlen with
    | [y0, y1, y2, y3, y4, y5], _ =>
      have h0 := hf 0 _ rfl
      have h1 := hf 1 _ rfl
      have h2 := hf 2 _ rfl
      have h3 := hf 3 _ rfl
      have h4 := hf 4 _ rfl
      have h5 := hf 5 _ rfl
      simp [cellsI64T] at h0 h1 h2 h3 h4 h5
      obtain ⟨n0, e0, _, w0⟩ := DataW.trod_int Try.underlying2 h0
      obtain ⟨n1, e1, _, w1⟩ := DataW.trod_int Try.underlying2 h1
      obtain ⟨n2, e2, _, w2⟩ := DataW.trod_int Try.underlying2 h2
      obtain ⟨n3, e3, _, w3⟩ := DataW.trod_int Try.underlying2 h3
      obtain ⟨n4, e4, _, w4⟩ := DataW.trod_int Try.underlying2 h4
      obtain ⟨n5, e5, _, w5⟩ := DataW.trod_int Try.underlying2 h5
      simp at e0 e1 e2 e3 e4 e5
      subst e0 e1 e2 e3 e4 e5
      exact ⟨_, _, _, _, _, _, rfl, w0, w1, w2, w3, w4, w5⟩




set_option maxRecDepth 100000 in
theorem lawTransfer_lifted (os : Os) (started : os.Started) (H : Type) (enc : TypeId × Value → H) :
    ReturnsInHanded {} Try.checked os 8 .any (Rows.fnExactTransferSpec.pre6 enc Try.prog Try.f8 Rows.fnExactTransferRow.domain false) (Rows.fnExactTransferSpec.post enc Try.prog Try.f8 false true false false) := by
  refine returnsInHanded_of_change (C := Try.checked) (by kernel_rfl : ownKnob Try.prog.godebug = none) started (by kernel_rfl) Try.func8
    (ChangeSpec.witness6 (enc := enc) (C := Try.checked) false ⟨#[], #[.agg #[.slice none 0 0, .slice none 0 0], .agg #[.slice none 0 0, .int .i64 0, .int .i64 0], .agg #[.int .i64 0, .int .i64 0, .int .i64 0, .int .i64 0, .int .i64 0, .int .i64 0]], []⟩ 8 (by kernel_rfl) (by kernel_rfl) (by kernel_rfl) (by kernel_rfl)) ?_
  intro W base args ds gs before hval0 hW _ _
  have hval : ∀ (j : Nat) t v, Try.f8.params[j]? = some t → args[j]? = some v → Value.okWide Try.prog W .any base t v := hval0
  have hW' := hW
  obtain ⟨p, q, hA0, hV, rfl, _, _⟩ := hW
  have hA : DataW.TrodAll enc Try.prog W 0 (fun _ => true) true Try.f8.params.toList args.toList ds p := hA0
  rw [Try.params8] at hA hval
  obtain ⟨v0, v1, v2, d0, d1, d2, p0, p1, p2, rfl, rfl, rfl, h0, h1, h2⟩ := trodAll_three hA
  obtain ⟨rfl, rfl⟩ := trodVars_none hV
  obtain ⟨cs0, rfl, _⟩ := okWide_struct Try.underlying42 (hval 0 42 v0 rfl rfl)
  obtain ⟨cs1, rfl, _⟩ := okWide_struct Try.underlying62 (hval 1 62 v1 rfl rfl)
  obtain ⟨cs2, rfl, _⟩ := okWide_struct Try.underlying75 (hval 2 75 v2 rfl rfl)
  have k0 := h0
  have lt0 : ∀ x ∈ p0, x.block < W.heap.size := by obtain ⟨m, hm⟩ := k0; exact DataW.trod_lt m _ _ _ hm
  obtain ⟨fuel0, hf0⟩ := h0
  obtain ⟨aoH0, nH0, cH0, S0, aoR0, nR0, cR0, V0, hcs0, mH0, mR0, hin0⟩ := open_sig hf0
  have : cs0 = #[.slice aoH0 nH0 cH0, .slice aoR0 nR0 cR0] := by
    cases cs0; simpa [Value.cells] using hcs0
  subst this
  have k1 := h1
  have lt1 : ∀ x ∈ p1, x.block < W.heap.size := by obtain ⟨m, hm⟩ := k1; exact DataW.trod_lt m _ _ _ hm
  obtain ⟨fuel1, hf1⟩ := h1
  obtain ⟨aoA1, nA1, cA1, U1, zA1, cF1, hcs1, mA1, hin1⟩ := open_abs hf1
  have : cs1 = #[.slice aoA1 nA1 cA1, .int .i64 zA1, .int .i64 cF1] := by
    cases cs1; simpa [Value.cells] using hcs1
  subst this
  have k2 := h2
  have lt2 : ∀ x ∈ p2, x.block < W.heap.size := by obtain ⟨m, hm⟩ := k2; exact DataW.trod_lt m _ _ _ hm
  obtain ⟨fuel2, hf2⟩ := h2
  obtain ⟨op, d, ra, rb, imm, hh, hcs2, _⟩ := open_ins1 hf2
  have : cs2 = #[.int .i64 op, .int .i64 d, .int .i64 ra, .int .i64 rb, .int .i64 imm, .int .i64 hh] := by
    cases cs2; simpa [Value.cells] using hcs2
  subst this
  clear hA0 hval0
  refine (lawTransfer_walk _ _ _ _ _ _ _ _ _ _ _ _ _ _ _ _ _ _ _ _ W mH0 mR0 hin0 mA1 hin1).mono fun e W' ⟨he, bel⟩ => ?_
  subst he
  exact ⟨_, rfl, _, _, _, [], _, [], hW', trodAll_mk1 (shut_bool Try.underlying4 _), trodAll_mk3 (Below.trod (by kernel_rfl : laidOutB Try.prog = true) (by kernel_rfl) (of_decide_eq_true (by kernel_rfl)) k0 bel lt0) (Below.trod (by kernel_rfl : laidOutB Try.prog = true) (by kernel_rfl) (of_decide_eq_true (by kernel_rfl)) k1 bel lt1) (Below.trod (by kernel_rfl : laidOutB Try.prog = true) (by kernel_rfl) (of_decide_eq_true (by kernel_rfl)) k2 bel lt2), rfl, bel.frame _, fun h => by cases h⟩

theorem transfer_holds : Rows.FnExactTransferSaid :=
  OpenClaim.holds_of_wide 8 Try.f8 rfl rfl rfl rfl rfl rfl rfl ⟨rfl, rfl, rfl, rfl, rfl⟩ rfl rfl rfl rfl rfl (by kernel_rfl) Try.func8 (by kernel_rfl)
    (of_decide_eq_true (by kernel_rfl)) (by unfold Func.isWrapper; first | (rw [if_pos (by decide +kernel)]; kernel_rfl) | (rw [if_neg (by decide +kernel)]; exact ⟨rfl, rfl⟩))
    (fun os started H enc _ => lawTransfer_lifted os started H enc)
end Go.Proofs.Ytjnooklalbcamaa
