/- Vals and heaplets' signatures that read as data. -/
import Derived.Test.YtjnooklalbcamaaOpenRow
import Derived.Test.YtjnooklalbcamaaValJoin
namespace Go.Proofs.Ytjnooklalbcamaa
open Go.ChangeShapes Go.WideShapes Go.ChangeAt Go.RowKit Go.Deep

theorem cellsLVal : Try.prog.cellsOf 70 = 6 := by kernel_rfl
theorem cellsLHS : Try.prog.cellsOf 141 = 3 := by kernel_rfl
theorem v_cellsI64 : Try.prog.cellsOf 2 = 1 := by kernel_rfl
theorem v_cellsBool : Try.prog.cellsOf 4 = 1 := by kernel_rfl

set_option maxRecDepth 100000 in
/-- The cells of a Val that reads as data. -/
theorem val_cells {H : Type} {enc : TypeId × Value → H} {w : World} {base : Nat} {spare : Nat → Bool} {held : Bool} {fuel : Nat} {cs : List Value} {x : DataW H × List MemPlace}
    (h : DataW.trod enc Try.prog w base spare held fuel 70 cs = some x) :
    ∃ v : VV, cs = [.int .i64 v.k, .bool v.s, .int .i64 v.m, .int .i64 v.h, .int .i64 v.lo, .int .i64 v.hi] := by
  obtain ⟨xs, n, _, _, hl, hlen, hf⟩ := DataW.trod_struct Try.underlying70 h
  rw [cellsLVal] at hl
  match cs, hl with
  | [c0, c1, c2, c3, c4, c5], _ =>
    match xs, hlen with
    | [y0, y1, y2, y3, y4, y5], _ =>
      have h0 := hf 0 _ rfl
      have h1 := hf 1 _ rfl
      have h2 := hf 2 _ rfl
      have h3 := hf 3 _ rfl
      have h4 := hf 4 _ rfl
      have h5 := hf 5 _ rfl
      simp [v_cellsI64, v_cellsBool] at h0 h1 h2 h3 h4 h5
      obtain ⟨n0, e0, _, _⟩ := DataW.trod_int Try.underlying2 h0
      obtain ⟨n1, e1, _⟩ := DataW.trod_bool Try.underlying4 h1
      obtain ⟨n2, e2, _, _⟩ := DataW.trod_int Try.underlying2 h2
      obtain ⟨n3, e3, _, _⟩ := DataW.trod_int Try.underlying2 h3
      obtain ⟨n4, e4, _, _⟩ := DataW.trod_int Try.underlying2 h4
      obtain ⟨n5, e5, _, _⟩ := DataW.trod_int Try.underlying2 h5
      simp at e0 e1 e2 e3 e4 e5
      subst e0 e1 e2 e3 e4 e5
      exact ⟨⟨n0, n1, n2, n3, n4, n5⟩, rfl⟩

/-- A heaplet's signature: its fields. -/
structure HS where
  size : Int
  s : Bool
  w : Bool

set_option maxRecDepth 100000 in
theorem hs_cells {H : Type} {enc : TypeId × Value → H} {w : World} {base : Nat} {spare : Nat → Bool} {held : Bool} {fuel : Nat} {cs : List Value} {x : DataW H × List MemPlace}
    (h : DataW.trod enc Try.prog w base spare held fuel 141 cs = some x) :
    ∃ v : HS, cs = [.int .i64 v.size, .bool v.s, .bool v.w] := by
  obtain ⟨xs, n, _, _, hl, hlen, hf⟩ := DataW.trod_struct Try.underlying141 h
  rw [cellsLHS] at hl
  match cs, hl with
  | [c0, c1, c2], _ =>
    match xs, hlen with
    | [y0, y1, y2], _ =>
      have h0 := hf 0 _ rfl
      have h1 := hf 1 _ rfl
      have h2 := hf 2 _ rfl
      simp [v_cellsI64, v_cellsBool] at h0 h1 h2
      obtain ⟨n0, e0, _, _⟩ := DataW.trod_int Try.underlying2 h0
      obtain ⟨n1, e1, _⟩ := DataW.trod_bool Try.underlying4 h1
      obtain ⟨n2, e2, _⟩ := DataW.trod_bool Try.underlying4 h2
      simp at e0 e1 e2
      subst e0 e1 e2
      exact ⟨⟨n0, n1, n2⟩, rfl⟩
end Go.Proofs.Ytjnooklalbcamaa
