/- A list of procedures that reads as data. -/
import Derived.Test.YtbnaegpjmiiihaaOpenRow
import Derived.Test.YtbnaegpjmiiihaaUnitCopy2
import Derived.OpenShut
namespace Go.Proofs.Ytbnaegpjmiiihaa
open Go.ChangeShapes Go.WideShapes Go.ChangeAt Go.RowKit Go.Deep
theorem cellsU_i64 : Try.prog.cellsOf 2 = 1 := by kernel_rfl
theorem cellsU_ins : Try.prog.cellsOf 40 = 6 := by kernel_rfl
theorem cellsU_stmt : Try.prog.cellsOf 42 = 11 := by kernel_rfl
theorem cellsU_stmtS : Try.prog.cellsOf 22 = 1 := by kernel_rfl
section
variable {H : Type} {enc : TypeId × Value → H} {w : World} {base : Nat} {spare : Nat → Bool} {held : Bool}
set_option maxRecDepth 100000 in
theorem insU_cells {fuel : Nat} {cs : List Value} {x : DataW H × List MemPlace} (h : DataW.trod enc Try.prog w base spare held fuel 40 cs = some x) :
    ∃ op d a b imm hh : Int, cs = [.int .i64 op, .int .i64 d, .int .i64 a, .int .i64 b, .int .i64 imm, .int .i64 hh] := by
  obtain ⟨xs, n, _, _, hl, hlen, hf⟩ := DataW.trod_struct Try.underlying40 h
  rw [cellsU_ins] at hl
  match cs, hl with
  | [c0, c1, c2, c3, c4, c5], _ =>
    match xs, hlen with
    | [y0, y1, y2, y3, y4, y5], _ =>
      have h0 := hf 0 _ rfl
      have h1 := hf 1 _ rfl
      have h2 := hf 2 _ rfl
      have h3 := hf 3 _ rfl
      have h4 := hf 4 _ rfl
      have h5 := hf 5 _ rfl
      simp [cellsU_i64] at h0 h1 h2 h3 h4 h5
      obtain ⟨n0, e0, _⟩ := DataW.trod_int Try.underlying2 h0
      obtain ⟨n1, e1, _⟩ := DataW.trod_int Try.underlying2 h1
      obtain ⟨n2, e2, _⟩ := DataW.trod_int Try.underlying2 h2
      obtain ⟨n3, e3, _⟩ := DataW.trod_int Try.underlying2 h3
      obtain ⟨n4, e4, _⟩ := DataW.trod_int Try.underlying2 h4
      obtain ⟨n5, e5, _⟩ := DataW.trod_int Try.underlying2 h5
      simp at e0 e1 e2 e3 e4 e5
      subst e0 e1 e2 e3 e4 e5
      exact ⟨_, _, _, _, _, _, rfl⟩
set_option maxRecDepth 100000 in
theorem stmtU_cells {fuel : Nat} {cs : List Value} {x : DataW H × List MemPlace} (h : DataW.trod enc Try.prog w base spare held fuel 42 cs = some x) :
    ∃ s : SV, cs = [.int .i64 s.k, .int .i64 s.op, .int .i64 s.d, .int .i64 s.a, .int .i64 s.b, .int .i64 s.imm, .int .i64 s.h, .int .i64 s.cond, .int .i64 s.thn, .int .i64 s.els, .int .i64 s.proc] := by
  obtain ⟨xs, n, _, _, hl, hlen, hf⟩ := DataW.trod_struct Try.underlying42 h
  rw [cellsU_stmt] at hl
  match cs, hl with
  | [c0, c1, c2, c3, c4, c5, c6, c7, c8, c9, c10], _ =>
    match xs, hlen with
    | [y0, y1, y2, y3, y4, y5], _ =>
      have h0 := hf 0 _ rfl
      have h1 := hf 1 _ rfl
      have h2 := hf 2 _ rfl
      have h3 := hf 3 _ rfl
      have h4 := hf 4 _ rfl
      have h5 := hf 5 _ rfl
      simp [cellsU_i64, cellsU_ins] at h0 h1 h2 h3 h4 h5
      obtain ⟨n0, e0, _⟩ := DataW.trod_int Try.underlying2 h0
      obtain ⟨op, d, a, b, imm, hh, e1⟩ := insU_cells h1
      obtain ⟨n2, e2, _⟩ := DataW.trod_int Try.underlying2 h2
      obtain ⟨n3, e3, _⟩ := DataW.trod_int Try.underlying2 h3
      obtain ⟨n4, e4, _⟩ := DataW.trod_int Try.underlying2 h4
      obtain ⟨n5, e5, _⟩ := DataW.trod_int Try.underlying2 h5
      simp at e0 e1 e2 e3 e4 e5
      obtain ⟨f0, f1, f2, f3, f4, f5⟩ := e1
      subst e0 f0 f1 f2 f3 f4 f5 e2 e3 e4 e5
      exact ⟨⟨_, _, _, _, _, _, _, _, _, _, _⟩, rfl⟩
theorem sliceU_shape {P : Program} {t e : TypeId} {fuel : Nat} {v : Value} {x : DataW H × List MemPlace} (ht : P.underlying t = some (.slice e)) (h : DataW.trod enc P w base spare held fuel t [v] = some x) : ∃ ao len cap, v = .slice ao len cap := by
  rcases open_slice ht h with ⟨h0, _⟩ | ⟨a, len', cap', m, n, D, Pl, hcs, _⟩
  · simp only [List.cons.injEq, and_true] at h0; exact ⟨_, _, _, h0⟩
  · simp only [List.cons.injEq, and_true] at hcs; exact ⟨_, _, _, hcs⟩
theorem open_stmtS {fuel : Nat} {ao : Option Addr} {len cap : Nat} {x : DataW H × List MemPlace} (h : DataW.trod enc Try.prog w base spare held fuel 22 [.slice ao len cap] = some x) : len ≤ maxLen ∧ ∃ L, InRow w ao (len * 11) (stF L) := by
  obtain ⟨hm, f, hin, hel⟩ := open_row Try.underlying22 cellsU_stmt (by omega) h
  refine ⟨hm, ?_⟩
  have : Inhabited SV := ⟨⟨0, 0, 0, 0, 0, 0, 0, 0, 0, 0, 0⟩⟩
  obtain ⟨L, hG⟩ := choose_lt (n := len) (p := fun i (s : SV) => ∀ j, j < 11 → f (i * 11 + j) = stC s j) (fun i hi => by
    obtain ⟨n, y, hy⟩ := hel i hi
    obtain ⟨s, e⟩ := stmtU_cells hy
    refine ⟨s, fun j hj => ?_⟩
    simp [List.range, List.range.loop] at e
    obtain ⟨e0, e1, e2, e3, e4, e5, e6, e7, e8, e9, e10⟩ := e
    match j, hj with
    | 0, _ => exact e0
    | 1, _ => exact e1
    | 2, _ => exact e2
    | 3, _ => exact e3
    | 4, _ => exact e4
    | 5, _ => exact e5
    | 6, _ => exact e6
    | 7, _ => exact e7
    | 8, _ => exact e8
    | 9, _ => exact e9
    | 10, _ => exact e10)
  refine ⟨L, hin.congr fun p hp => ?_⟩
  have h1 : p / 11 < len := by omega
  have := hG (p / 11) h1 (p % 11) (by omega)
  rw [show p / 11 * 11 + p % 11 = p by omega] at this
  rw [this]; rfl
end
end Go.Proofs.Ytbnaegpjmiiihaa
