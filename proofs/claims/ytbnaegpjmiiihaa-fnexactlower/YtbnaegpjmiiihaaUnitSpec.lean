/- A unit checked: the model's word. -/
import Derived.Test.YtbnaegpjmiiihaaUnitMath
import Derived.Test.YtbnaegpjmiiihaaCopyList
import Derived.Test.YtbnaegpjmiiihaaAppOwn
import Derived.Deep.Onto
namespace Go.Proofs.Ytbnaegpjmiiihaa
open Go.RowKit
/-- Where spec.CheckUnit stands: its answer's block. -/
structure UsP (w u : World) : Prop where
  bel : Below w.heap.size w u
  R : Cl u w.heap.size [.int .i64 0, .int .i64 0, .int .i64 0]
  RF : ∀ i, u.frozen? ⟨w.heap.size, i, none⟩ = false
theorem UsP.below {w u v : World} (p : UsP w u) {B : Nat} (hB : w.heap.size < B) (hb : Below B u v) : UsP w v :=
  ⟨p.bel.trans (hb.mono (by omega)), ⟨Nat.lt_of_lt_of_le p.R.1 hb.size, fun i hi => (hb.cell (p := ⟨w.heap.size, i, none⟩) hB).trans (p.R.2 i hi)⟩, fun i => (hb.frozen (p := ⟨w.heap.size, i, none⟩) hB).trans (p.RF i)⟩
theorem us_cells {w u : World} (p : UsP w u) : u.cell? ⟨w.heap.size, 0, none⟩ = some (.int .i64 0) ∧ u.cell? ⟨w.heap.size, 1, none⟩ = some (.int .i64 0) ∧ u.cell? ⟨w.heap.size, 2, none⟩ = some (.int .i64 0) := ⟨p.R.2 0 (by simp), p.R.2 1 (by simp), p.R.2 2 (by simp)⟩
theorem unit_bad {Pv : Nat → PV} {np : Nat} {x : Int × Int × Int} (hn : ¬ (np < 1 ∨ 20 < np)) (h : findBad Pv np np 0 = x) (h0 : x.1 ≠ 0) : unitR Pv np = x := by
  rw [unitR, if_neg hn, h, if_pos h0]
theorem row_belowU {w w' : World} {base e size n : Nat} {v : Value} {xs : List Value} (h : w.ownsRow base e size v n xs) (hb : Below w.heap.size w w') : w'.ownsRow base e size v n xs := by
  refine ⟨h.1, ?_⟩
  rcases h.2 with h | ⟨g, cap, cur, rfl, h1, h2, h3⟩
  · exact .inl h
  · have hg : g < w.heap.size := (Array.getElem?_eq_some_iff.1 h2).1
    exact .inr ⟨g, cap, cur, rfl, h1, (hb.block g hg).trans h2, h3⟩
theorem row_some2 {w : World} {base e size n : Nat} {v : Value} {xs : List Value} (h : w.ownsRow base e size v n xs) (hn : 0 < n) : ∃ g c, v = .slice (some ⟨g, 0, none⟩) n c := by
  rcases h.2 with ⟨_, rfl⟩ | ⟨g, cap, cur, rfl, _⟩
  · omega
  · exact ⟨_, _, rfl⟩
theorem Arr.setU {w : World} {b n : Nat} {f : Nat → Value} (h : Arr w b n f) (o : Nat) (ho : o < n) (v : Value) : Arr (w.setCell ⟨b, o, none⟩ v) b n (fun i => if i = o then v else f i) := by
  have := h.setCells o [v] (by simp; omega)
  refine Arr.congr (f := fun i => if o ≤ i ∧ i < o + [v].length then [v].getD (i - o) undef else f i) this fun i _ => ?_
  by_cases e : i = o
  · subst e; simp
  · rw [if_neg (by simp; omega), if_neg e]
theorem info_i64 : (Try.prog.info? 2).map (fun i => (i.zero, i.size, i.bytes)) = some (some (.int .i64 0), 1, 8) := by kernel_rfl

end Go.Proofs.Ytbnaegpjmiiihaa
