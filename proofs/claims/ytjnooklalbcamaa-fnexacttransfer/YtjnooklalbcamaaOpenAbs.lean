import Derived.Test.YtjnooklalbcamaaOfFill
/- What is known: measured at any size; read as data. -/
namespace Go.Proofs.Ytjnooklalbcamaa
open Go.ChangeShapes Go.WideShapes Go.ChangeAt Go.RowKit Go.Deep

theorem szSig_any (aoH : Option Addr) (nH cH : Nat) (aoR : Option Addr) (nR cR : Nat) (left : Int) (w : World) (h0 : 0 ≤ left) (h2 : left ≤ 1048576) (mH : nH ≤ 9223372036854775807) (mR : nR ≤ 9223372036854775807) :
    Calls Try.prog 15 #[.agg #[.slice aoH nH cH, .slice aoR nR cR], .int .i64 left] w fun e w' => ∃ r, e = .returned (.int .i64 r) ∧ (r = -1 ∨ (0 ≤ r ∧ r ≤ left ∧ (nH ≤ 1048576 ∧ nR ≤ 1048576))) ∧ Below w.heap.size w w' := by
  by_cases h : (nH : Int) + nR ≤ left
  · exact (szSig_ok _ _ _ _ _ _ _ _ h0 h h2).mono fun e w' ⟨he, hb⟩ => ⟨_, he, .inr ⟨by omega, by omega, by omega, by omega⟩, hb⟩
  · exact (szSig_no _ _ _ _ _ _ _ _ h0 (by omega) h2 mH mR).mono fun e w' ⟨he, hb⟩ => ⟨_, he, .inl rfl, hb⟩
theorem szAbs_any (ao : Option Addr) (n cap : Nat) (z c : Int) (left : Int) (w : World) (h0 : 0 ≤ left) (h2 : left ≤ 1048576) (m : n ≤ 9223372036854775807) :
    Calls Try.prog 25 #[.agg #[.slice ao n cap, .int .i64 z, .int .i64 c], .int .i64 left] w fun e w' => ∃ r, e = .returned (.int .i64 r) ∧ (r = -1 ∨ (0 ≤ r ∧ r ≤ left ∧ n ≤ 1048576)) ∧ Below w.heap.size w w' := by
  by_cases h : (n : Int) ≤ left
  · exact (szAbs_ok _ _ _ _ _ _ _ h0 h h2).mono fun e w' ⟨he, hb⟩ => ⟨_, he, .inr ⟨by omega, by omega, by omega⟩, hb⟩
  · exact (szAbs_no _ _ _ _ _ _ _ h0 (by omega) h2 m).mono fun e w' ⟨he, hb⟩ => ⟨_, he, .inl rfl, hb⟩

theorem cellsLAbs : Try.prog.cellsOf 62 = 3 := by kernel_rfl
set_option maxRecDepth 100000 in
theorem open_abs {H : Type} {enc : TypeId × Value → H} {w : World} {base : Nat} {spare : Nat → Bool} {held : Bool} {fuel : Nat} {cs : List Value} {x : DataW H × List MemPlace} (h : DataW.trod enc Try.prog w base spare held fuel 62 cs = some x) :
    ∃ (ao : Option Addr) (n cap : Nat) (U : Nat → VV) (z c : Int), cs = [.slice ao n cap, .int .i64 z, .int .i64 c] ∧ n ≤ maxLen ∧ InRow w ao (n * 6) (vF U) := by
  obtain ⟨xs, n, _, _, hl, hlen, hf⟩ := DataW.trod_struct Try.underlying62 h
  rw [cellsLAbs] at hl
  match cs, hl with
  | [c0, c1, c2], _ =>
    match xs, hlen with
    | [y0, y1, y2], _ =>
      have h0 := hf 0 _ rfl
      have h1 := hf 1 _ rfl
      have h2 := hf 2 _ rfl
      simp [cellsLValS, v_cellsI64] at h0 h1 h2
      obtain ⟨ao, m, cap, rfl⟩ := v_slice_shape Try.underlying40 h0
      obtain ⟨mR, V, iR⟩ := open_valS h0
      obtain ⟨n1, e1, _, _⟩ := DataW.trod_int Try.underlying2 h1
      obtain ⟨n2, e2, _, _⟩ := DataW.trod_int Try.underlying2 h2
      simp at e1 e2
      subst e1 e2
      exact ⟨ao, m, cap, V, n1, n2, rfl, mR, iR⟩
end Go.Proofs.Ytjnooklalbcamaa
