/- Signatures and what is known, read as data. -/
import Derived.Test.YtjnooklalbcamaaSigWalks
namespace Go.Proofs.Ytjnooklalbcamaa
open Go.ChangeShapes Go.WideShapes Go.ChangeAt Go.RowKit Go.Deep

theorem cellsLSig : Try.prog.cellsOf 42 = 2 := by kernel_rfl
theorem cellsLValS : Try.prog.cellsOf 40 = 1 := by kernel_rfl
theorem cellsLHSS : Try.prog.cellsOf 39 = 1 := by kernel_rfl
theorem v_slice_shape {H : Type} {enc : TypeId × Value → H} {w : World} {base : Nat} {spare : Nat → Bool} {held : Bool} {t e : TypeId} (ht : Try.prog.underlying t = some (.slice e)) {fuel : Nat} {c : Value} {x : DataW H × List MemPlace} (h : DataW.trod enc Try.prog w base spare held fuel t [c] = some x) : ∃ ao n cap, c = .slice ao n cap := by
  rcases open_slice ht h with ⟨h0, _⟩ | ⟨a, len', cap', m, n, D, Pl, hcs, _⟩
  · simp at h0; exact ⟨_, _, _, h0⟩
  · simp at hcs; exact ⟨_, _, _, hcs⟩

theorem open_valS {H : Type} {enc : TypeId × Value → H} {w : World} {base : Nat} {spare : Nat → Bool} {held : Bool} {fuel : Nat} {ao : Option Addr} {len cap : Nat} {x : DataW H × List MemPlace}
    (h : DataW.trod enc Try.prog w base spare held fuel 40 [.slice ao len cap] = some x) : len ≤ maxLen ∧ ∃ V, InRow w ao (len * 6) (vF V) := by
  obtain ⟨hm, f, hin, hel⟩ := open_row Try.underlying40 cellsLVal (by omega) h
  refine ⟨hm, ?_⟩
  haveI : Inhabited VV := ⟨⟨0, false, 0, 0, 0, 0⟩⟩
  obtain ⟨G, hG⟩ := choose_lt (n := len) (p := fun i (g : VV) => ∀ j, j < 6 → f (i * 6 + j) = vC g j) (fun i hi => by
    obtain ⟨n, y, hy⟩ := hel i hi
    obtain ⟨v, e⟩ := val_cells hy
    refine ⟨v, fun j hj => ?_⟩
    simp [List.range, List.range.loop] at e
    obtain ⟨e0, e1, e2, e3, e4, e5⟩ := e
    match j, hj with
    | 0, _ => simpa [vC] using e0
    | 1, _ => simpa [vC] using e1
    | 2, _ => simpa [vC] using e2
    | 3, _ => simpa [vC] using e3
    | 4, _ => simpa [vC] using e4
    | 5, _ => simpa [vC] using e5)
  refine ⟨G, hin.congr fun p hp => ?_⟩
  have h1 : p / 6 < len := by omega
  have := hG (p / 6) h1 (p % 6) (by omega)
  rw [show p / 6 * 6 + p % 6 = p by omega] at this
  rw [this]; rfl

theorem open_hsS {H : Type} {enc : TypeId × Value → H} {w : World} {base : Nat} {spare : Nat → Bool} {held : Bool} {fuel : Nat} {ao : Option Addr} {len cap : Nat} {x : DataW H × List MemPlace}
    (h : DataW.trod enc Try.prog w base spare held fuel 39 [.slice ao len cap] = some x) : len ≤ maxLen ∧ ∃ V, InRow w ao (len * 3) (hsF V) := by
  obtain ⟨hm, f, hin, hel⟩ := open_row Try.underlying39 cellsLHS (by omega) h
  refine ⟨hm, ?_⟩
  haveI : Inhabited HS := ⟨⟨0, false, false⟩⟩
  obtain ⟨G, hG⟩ := choose_lt (n := len) (p := fun i (g : HS) => ∀ j, j < 3 → f (i * 3 + j) = hsC g j) (fun i hi => by
    obtain ⟨n, y, hy⟩ := hel i hi
    obtain ⟨v, e⟩ := hs_cells hy
    refine ⟨v, fun j hj => ?_⟩
    simp [List.range, List.range.loop] at e
    obtain ⟨e0, e1, e2⟩ := e
    match j, hj with
    | 0, _ => simpa [hsC] using e0
    | 1, _ => simpa [hsC] using e1
    | 2, _ => simpa [hsC] using e2)
  refine ⟨G, hin.congr fun p hp => ?_⟩
  have h1 : p / 3 < len := by omega
  have := hG (p / 3) h1 (p % 3) (by omega)
  rw [show p / 3 * 3 + p % 3 = p by omega] at this
  rw [this]; rfl

set_option maxRecDepth 100000 in
theorem open_sig {H : Type} {enc : TypeId × Value → H} {w : World} {base : Nat} {spare : Nat → Bool} {held : Bool} {fuel : Nat} {cs : List Value} {x : DataW H × List MemPlace} (h : DataW.trod enc Try.prog w base spare held fuel 42 cs = some x) :
    ∃ (aoH : Option Addr) (nH cH : Nat) (S : Nat → HS) (aoR : Option Addr) (nR cR : Nat) (V : Nat → VV), cs = [.slice aoH nH cH, .slice aoR nR cR] ∧ nH ≤ maxLen ∧ nR ≤ maxLen ∧ SigIn w aoH nH S aoR nR V := by
  obtain ⟨xs, n, _, _, hl, hlen, hf⟩ := DataW.trod_struct Try.underlying42 h
  rw [cellsLSig] at hl
  match cs, hl with
  | [c0, c1], _ =>
    match xs, hlen with
    | [y0, y1], _ =>
      have h0 := hf 0 _ rfl
      have h1 := hf 1 _ rfl
      simp [cellsLValS, cellsLHSS] at h0 h1
      obtain ⟨aoH, nH, cH, rfl⟩ := v_slice_shape Try.underlying39 h0
      obtain ⟨mH, S, iH⟩ := open_hsS h0
      obtain ⟨aoR, nR, cR, rfl⟩ := v_slice_shape Try.underlying40 h1
      obtain ⟨mR, V, iR⟩ := open_valS h1
      exact ⟨aoH, nH, cH, S, aoR, nR, cR, V, rfl, mH, mR, iH, iR⟩
end Go.Proofs.Ytjnooklalbcamaa
