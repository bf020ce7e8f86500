/- Instructions that read as data. -/
import Derived.Test.YtojbdeapcaebnaaDoorOpenRow
import Derived.Test.YtojbdeapcaebnaaDoorFlatWalks
namespace Go.Proofs.YtojbdeapcaebnaaDoor
open Go.ChangeShapes Go.WideShapes Go.ChangeAt Go.RowKit Go.Deep

theorem cellsLIns : Tryd.prog.cellsOf 41 = 6 := by kernel_rfl
theorem cellsI64 : Tryd.prog.cellsOf 2 = 1 := by kernel_rfl

set_option maxRecDepth 100000 in
/-- The cells of an instruction that reads as data. -/
theorem ins_cells {H : Type} {enc : TypeId × Value → H} {w : World} {base : Nat} {spare : Nat → Bool} {held : Bool} {fuel : Nat} {cs : List Value} {x : DataW H × List MemPlace}
    (h : DataW.trod enc Tryd.prog w base spare held fuel 41 cs = some x) :
    ∃ op d a b imm hh : Int, cs = [.int .i64 op, .int .i64 d, .int .i64 a, .int .i64 b, .int .i64 imm, .int .i64 hh] ∧ (Lit.int .i64 op).wf = true ∧ (Lit.int .i64 d).wf = true ∧ (Lit.int .i64 a).wf = true ∧ (Lit.int .i64 b).wf = true ∧ (Lit.int .i64 imm).wf = true ∧ (Lit.int .i64 hh).wf = true := by
  obtain ⟨xs, n, _, _, hl, hlen, hf⟩ := DataW.trod_struct Tryd.underlying41 h
  rw [cellsLIns] at hl
  match cs, hl with
  | [c0, c1, c2, c3, c4, c5], _ =>
    match xs, hlen with
    | [y0, y1, y2, y3, y4, y5], _ =>
      have h0 := hf 0 _ rfl
      have h1 := hf 1 _ rfl
      have h2 := hf 2 _ rfl
      have h3 := hf 3 _ rfl
      have h4 := hf 4 _ rfl
      have h5 := hf 5 _ rfl
      simp [cellsI64] at h0 h1 h2 h3 h4 h5
      obtain ⟨n0, e0, _, w0⟩ := DataW.trod_int Tryd.underlying2 h0
      obtain ⟨n1, e1, _, w1⟩ := DataW.trod_int Tryd.underlying2 h1
      obtain ⟨n2, e2, _, w2⟩ := DataW.trod_int Tryd.underlying2 h2
      obtain ⟨n3, e3, _, w3⟩ := DataW.trod_int Tryd.underlying2 h3
      obtain ⟨n4, e4, _, w4⟩ := DataW.trod_int Tryd.underlying2 h4
      obtain ⟨n5, e5, _, w5⟩ := DataW.trod_int Tryd.underlying2 h5
      simp at e0 e1 e2 e3 e4 e5
      subst e0 e1 e2 e3 e4 e5
      exact ⟨_, _, _, _, _, _, rfl, w0, w1, w2, w3, w4, w5⟩




/-- A list of instructions that reads as data. -/
theorem open_insS {H : Type} {enc : TypeId × Value → H} {w : World} {base : Nat} {spare : Nat → Bool} {held : Bool} {fuel : Nat} {ao : Option Addr} {len cap : Nat} {x : DataW H × List MemPlace}
    (h : DataW.trod enc Tryd.prog w base spare held fuel 22 [.slice ao len cap] = some x) : len ≤ maxLen ∧ ∃ F, InRow w ao (len * 6) (insF F) := by
  obtain ⟨hm, f, hin, hel⟩ := open_row Tryd.underlying22 cellsLIns (by omega) h
  refine ⟨hm, ?_⟩
  obtain ⟨G, hG⟩ := choose_lt (n := len) (p := fun i (g : Nat → Int) => ∀ j, j < 6 → f (i * 6 + j) = .int .i64 (g j)) (fun i hi => by
    obtain ⟨n, y, hy⟩ := hel i hi
    obtain ⟨op, d, a, b, imm, hh, e, _⟩ := ins_cells hy
    refine ⟨fun j => [op, d, a, b, imm, hh].getD j 0, fun j hj => ?_⟩
    simp [List.range, List.range.loop] at e
    obtain ⟨e0, e1, e2, e3, e4, e5⟩ := e
    match j, hj with
    | 0, _ => simpa using e0
    | 1, _ => simpa using e1
    | 2, _ => simpa using e2
    | 3, _ => simpa using e3
    | 4, _ => simpa using e4
    | 5, _ => simpa using e5)
  refine ⟨G, hin.congr fun p hp => ?_⟩
  have h1 : p / 6 < len := by omega
  have := hG (p / 6) h1 (p % 6) (by omega)
  rw [show p / 6 * 6 + p % 6 = p by omega] at this
  rw [this]; rfl

end Go.Proofs.YtojbdeapcaebnaaDoor
