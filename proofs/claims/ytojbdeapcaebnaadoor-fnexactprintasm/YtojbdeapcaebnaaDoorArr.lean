/- Rows of cells in memory: a row that the call itself made, and a row that came in; plain facts on worlds. Imports nothing of the program. -/
import Derived.WalkKit
import Derived.WalkSpells
import Derived.Laws.IdiomCopy
namespace Go.Proofs.YtojbdeapcaebnaaDoor
open Go.RowKit

theorem bcell {W w1 : World} (hb : Below W.heap.size W w1) : (∀ b o, b < W.heap.size → w1.cell? ⟨b, o, none⟩ = W.cell? ⟨b, o, none⟩) ∧ (∀ b o, b < W.heap.size → w1.frozen? ⟨b, o, none⟩ = W.frozen? ⟨b, o, none⟩) :=
  ⟨fun b o h => hb.cell (p := ⟨b, o, none⟩) h, fun b o h => hb.frozen (p := ⟨b, o, none⟩) h⟩

/-- From place 'off' of block b on lie n cells, cell i holding f i. -/
def At (w : World) (b off n : Nat) (f : Nat → Value) : Prop := b < w.heap.size ∧ ∀ i, i < n → w.cell? ⟨b, off + i, none⟩ = some (f i)
/-- Block b, which may be written, begins with n cells, cell i holding f i. -/
def Arr (w : World) (b n : Nat) (f : Nat → Value) : Prop := b < w.heap.size ∧ (∀ i, w.frozen? ⟨b, i, none⟩ = false) ∧ ∀ i, i < n → w.cell? ⟨b, i, none⟩ = some (f i)

theorem Arr.lt {w : World} {b n : Nat} {f : Nat → Value} (h : Arr w b n f) : b < w.heap.size := h.1
theorem Arr.free {w : World} {b n : Nat} {f : Nat → Value} (h : Arr w b n f) : ∀ i, w.frozen? ⟨b, i, none⟩ = false := h.2.1
theorem Arr.cell {w : World} {b n : Nat} {f : Nat → Value} (h : Arr w b n f) {i : Nat} (hi : i < n) : w.cell? ⟨b, i, none⟩ = some (f i) := h.2.2 i hi
theorem Arr.at {w : World} {b n : Nat} {f : Nat → Value} (h : Arr w b n f) : At w b 0 n f := ⟨h.1, fun i hi => by rw [Nat.zero_add]; exact h.2.2 i hi⟩
theorem Arr.congr {w : World} {b n : Nat} {f g : Nat → Value} (h : Arr w b n f) (e : ∀ i, i < n → f i = g i) : Arr w b n g := ⟨h.1, h.2.1, fun i hi => by rw [h.2.2 i hi, e i hi]⟩
theorem Arr.below {w w' : World} {B b n : Nat} {f : Nat → Value} (h : Arr w b n f) (hb : Below B w w') (hB : b < B) : Arr w' b n f :=
  ⟨Nat.lt_of_lt_of_le h.1 hb.size, fun i => (hb.frozen (p := ⟨b, i, none⟩) hB).trans (h.2.1 i), fun i hi => (hb.cell (p := ⟨b, i, none⟩) hB).trans (h.2.2 i hi)⟩
theorem At.lt {w : World} {b off n : Nat} {f : Nat → Value} (h : At w b off n f) : b < w.heap.size := h.1
theorem At.cell {w : World} {b off n : Nat} {f : Nat → Value} (h : At w b off n f) {i : Nat} (hi : i < n) : w.cell? ⟨b, off + i, none⟩ = some (f i) := h.2 i hi
theorem At.below {w w' : World} {B b off n : Nat} {f : Nat → Value} (h : At w b off n f) (hb : Below B w w') (hB : b < B) : At w' b off n f :=
  ⟨Nat.lt_of_lt_of_le h.1 hb.size, fun i hi => (hb.cell (p := ⟨b, off + i, none⟩) hB).trans (h.2 i hi)⟩
theorem At.congr {w : World} {b off n : Nat} {f g : Nat → Value} (h : At w b off n f) (e : ∀ i, i < n → f i = g i) : At w b off n g := ⟨h.1, fun i hi => by rw [h.2 i hi, e i hi]⟩

theorem size_setCells (b : Nat) : ∀ (vs : List Value) (o : Nat) (w : World), (w.setCells b o vs).heap.size = w.heap.size
  | [], _, _ => rfl
  | v :: r, o, w => by rw [World.setCells, size_setCells b r]; simp
theorem below_setCells {B b : Nat} (hB : B ≤ b) : ∀ (vs : List Value) (o : Nat) {w0 w : World}, Below B w0 w → Below B w0 (w.setCells b o vs)
  | [], _, _, _, h => h
  | v :: r, o, _, _, h => by rw [World.setCells]; exact below_setCells hB r (o + 1) (h.setCell (by simpa using hB) v)
theorem Arr.setCells {w : World} {b n : Nat} {f : Nat → Value} (h : Arr w b n f) (o : Nat) (vs : List Value) (ho : o + vs.length ≤ n) :
    Arr (w.setCells b o vs) b n (fun i => if o ≤ i ∧ i < o + vs.length then vs.getD (i - o) undef else f i) := by
  refine ⟨by rw [size_setCells]; exact h.1, fun i => by rw [World.frozen?_setCells]; exact h.2.1 i, fun i hi => ?_⟩
  by_cases g : o ≤ i ∧ i < o + vs.length
  · have hj : i - o < vs.length := by omega
    have := World.cell?_setCells_in b vs o w (fun j hj => by rw [h.2.2 (o + j) (by omega)]; rfl) (i - o) hj
    rw [show o + (i - o) = i by omega] at this
    rw [this]
    simp [g, List.getD, hj]
  · rw [World.cell?_setCells_out b vs o w ⟨b, i, none⟩ (fun _ _ => by simp only; omega), h.2.2 i hi]
    simp [g]
theorem Arr.other {w : World} {b n : Nat} {f : Nat → Value} (h : Arr w b n f) {a : Addr} (ha : a.block ≠ b) (v : Value) : Arr (w.setCell a v) b n f :=
  ⟨by simpa using h.1, fun i => by rw [World.frozen?_setCell]; exact h.2.1 i, fun i hi => by rw [World.cell?_setCell_other _ _ _ _ (fun e => ha (by rw [e]))]; exact h.2.2 i hi⟩
/-- A row that 'make' has just laid. -/
theorem Arr.made {w w1 : World} {e size n : Nat} {xs : List Value} {z : Nat → Value} (hown : w1.ownsRow w.heap.size e size (.slice (some ⟨w.heap.size, 0, none⟩) n n) n xs) (hx : ∀ i, i < n * size → xs[i]? = some (z i)) : Arr w1 w.heap.size (n * size) z := by
  refine ⟨?_, fun i => hown.frozenAt i, fun i hi => by rw [hown.cellAt i hi]; exact hx i hi⟩
  rcases hown.2 with ⟨h', _⟩ | ⟨g', cap', cur, h', _, hg, _⟩
  · simp at h'
  · simp only [Value.slice.injEq, Option.some.injEq, Addr.mk.injEq, and_true, true_and] at h'
    obtain ⟨rfl, rfl⟩ := h'
    by_cases hl : w.heap.size < w1.heap.size
    · exact hl
    · rw [Array.getElem?_eq_none (by omega)] at hg; cases hg
/-- A slice that came in: it is empty, or its n cells lie in a row. -/
def InRow (w : World) (ao : Option Addr) (n : Nat) (f : Nat → Value) : Prop := n = 0 ∨ ∃ b off, ao = some ⟨b, off, none⟩ ∧ At w b off n f
theorem InRow.below {w w' : World} {B : Nat} {ao : Option Addr} {n : Nat} {f : Nat → Value} (h : InRow w ao n f) (hb : Below B w w') (hB : w.heap.size ≤ B) : InRow w' ao n f := by
  rcases h with h | ⟨b, off, rfl, h⟩
  · exact .inl h
  · exact .inr ⟨b, off, rfl, h.below hb (Nat.lt_of_lt_of_le h.lt hB)⟩
theorem InRow.congr {w : World} {ao : Option Addr} {n : Nat} {f g : Nat → Value} (h : InRow w ao n f) (e : ∀ i, i < n → f i = g i) : InRow w ao n g := by
  rcases h with h | ⟨b, off, rfl, h⟩
  · exact .inl h
  · exact .inr ⟨b, off, rfl, h.congr e⟩
theorem made_get (z : Array Value) (n i : Nat) (h : i < n) : (madeCells z n).toList[i]? = some (z[i % z.size]!) := by
  simp [madeCells, h]
theorem cells9 {w : World} {base e b : Nat} {v0 v1 v2 v3 v4 v5 v6 v7 v8 : Value} (h : w.ownsRow base e 9 (.slice (some ⟨b, 0, none⟩) 1 1) 1 [v0, v1, v2, v3, v4, v5, v6, v7, v8]) : w.cell? ⟨b, 0, none⟩ = some v0 ∧ w.cell? ⟨b, 1, none⟩ = some v1 ∧ w.cell? ⟨b, 2, none⟩ = some v2 ∧ w.cell? ⟨b, 3, none⟩ = some v3 ∧ w.cell? ⟨b, 4, none⟩ = some v4 ∧ w.cell? ⟨b, 5, none⟩ = some v5 ∧ w.cell? ⟨b, 6, none⟩ = some v6 ∧ w.cell? ⟨b, 7, none⟩ = some v7 ∧ w.cell? ⟨b, 8, none⟩ = some v8 :=
  ⟨h.cellAt 0 (by decide), h.cellAt 1 (by decide), h.cellAt 2 (by decide), h.cellAt 3 (by decide), h.cellAt 4 (by decide), h.cellAt 5 (by decide), h.cellAt 6 (by decide), h.cellAt 7 (by decide), h.cellAt 8 (by decide)⟩
theorem c9f {w w' : World} {b : Nat} {v0 v1 v2 v3 v4 v5 v6 v7 v8 : Value} (h : ∀ o, w'.cell? ⟨b, o, none⟩ = w.cell? ⟨b, o, none⟩) (c0 : w.cell? ⟨b, 0, none⟩ = some v0) (c1 : w.cell? ⟨b, 1, none⟩ = some v1) (c2 : w.cell? ⟨b, 2, none⟩ = some v2) (c3 : w.cell? ⟨b, 3, none⟩ = some v3) (c4 : w.cell? ⟨b, 4, none⟩ = some v4) (c5 : w.cell? ⟨b, 5, none⟩ = some v5) (c6 : w.cell? ⟨b, 6, none⟩ = some v6) (c7 : w.cell? ⟨b, 7, none⟩ = some v7) (c8 : w.cell? ⟨b, 8, none⟩ = some v8) : w'.cell? ⟨b, 0, none⟩ = some v0 ∧ w'.cell? ⟨b, 1, none⟩ = some v1 ∧ w'.cell? ⟨b, 2, none⟩ = some v2 ∧ w'.cell? ⟨b, 3, none⟩ = some v3 ∧ w'.cell? ⟨b, 4, none⟩ = some v4 ∧ w'.cell? ⟨b, 5, none⟩ = some v5 ∧ w'.cell? ⟨b, 6, none⟩ = some v6 ∧ w'.cell? ⟨b, 7, none⟩ = some v7 ∧ w'.cell? ⟨b, 8, none⟩ = some v8 :=
  ⟨(h 0).trans c0, (h 1).trans c1, (h 2).trans c2, (h 3).trans c3, (h 4).trans c4, (h 5).trans c5, (h 6).trans c6, (h 7).trans c7, (h 8).trans c8⟩
theorem c9b {w w' : World} {B b : Nat} {v0 v1 v2 v3 v4 v5 v6 v7 v8 : Value} (h : Below B w w') (hb : b < B) (c0 : w.cell? ⟨b, 0, none⟩ = some v0) (c1 : w.cell? ⟨b, 1, none⟩ = some v1) (c2 : w.cell? ⟨b, 2, none⟩ = some v2) (c3 : w.cell? ⟨b, 3, none⟩ = some v3) (c4 : w.cell? ⟨b, 4, none⟩ = some v4) (c5 : w.cell? ⟨b, 5, none⟩ = some v5) (c6 : w.cell? ⟨b, 6, none⟩ = some v6) (c7 : w.cell? ⟨b, 7, none⟩ = some v7) (c8 : w.cell? ⟨b, 8, none⟩ = some v8) : w'.cell? ⟨b, 0, none⟩ = some v0 ∧ w'.cell? ⟨b, 1, none⟩ = some v1 ∧ w'.cell? ⟨b, 2, none⟩ = some v2 ∧ w'.cell? ⟨b, 3, none⟩ = some v3 ∧ w'.cell? ⟨b, 4, none⟩ = some v4 ∧ w'.cell? ⟨b, 5, none⟩ = some v5 ∧ w'.cell? ⟨b, 6, none⟩ = some v6 ∧ w'.cell? ⟨b, 7, none⟩ = some v7 ∧ w'.cell? ⟨b, 8, none⟩ = some v8 :=
  c9f (fun o => h.cell (p := ⟨b, o, none⟩) hb) c0 c1 c2 c3 c4 c5 c6 c7 c8
theorem cells6 {w : World} {base e b : Nat} {v0 v1 v2 v3 v4 v5 : Value} (h : w.ownsRow base e 6 (.slice (some ⟨b, 0, none⟩) 1 1) 1 [v0, v1, v2, v3, v4, v5]) : w.cell? ⟨b, 0, none⟩ = some v0 ∧ w.cell? ⟨b, 1, none⟩ = some v1 ∧ w.cell? ⟨b, 2, none⟩ = some v2 ∧ w.cell? ⟨b, 3, none⟩ = some v3 ∧ w.cell? ⟨b, 4, none⟩ = some v4 ∧ w.cell? ⟨b, 5, none⟩ = some v5 :=
  ⟨h.cellAt 0 (by decide), h.cellAt 1 (by decide), h.cellAt 2 (by decide), h.cellAt 3 (by decide), h.cellAt 4 (by decide), h.cellAt 5 (by decide)⟩
theorem c6f {w w' : World} {b : Nat} {v0 v1 v2 v3 v4 v5 : Value} (h : ∀ o, w'.cell? ⟨b, o, none⟩ = w.cell? ⟨b, o, none⟩) (c0 : w.cell? ⟨b, 0, none⟩ = some v0) (c1 : w.cell? ⟨b, 1, none⟩ = some v1) (c2 : w.cell? ⟨b, 2, none⟩ = some v2) (c3 : w.cell? ⟨b, 3, none⟩ = some v3) (c4 : w.cell? ⟨b, 4, none⟩ = some v4) (c5 : w.cell? ⟨b, 5, none⟩ = some v5) : w'.cell? ⟨b, 0, none⟩ = some v0 ∧ w'.cell? ⟨b, 1, none⟩ = some v1 ∧ w'.cell? ⟨b, 2, none⟩ = some v2 ∧ w'.cell? ⟨b, 3, none⟩ = some v3 ∧ w'.cell? ⟨b, 4, none⟩ = some v4 ∧ w'.cell? ⟨b, 5, none⟩ = some v5 :=
  ⟨(h 0).trans c0, (h 1).trans c1, (h 2).trans c2, (h 3).trans c3, (h 4).trans c4, (h 5).trans c5⟩
theorem c6b {w w' : World} {B b : Nat} {v0 v1 v2 v3 v4 v5 : Value} (h : Below B w w') (hb : b < B) (c0 : w.cell? ⟨b, 0, none⟩ = some v0) (c1 : w.cell? ⟨b, 1, none⟩ = some v1) (c2 : w.cell? ⟨b, 2, none⟩ = some v2) (c3 : w.cell? ⟨b, 3, none⟩ = some v3) (c4 : w.cell? ⟨b, 4, none⟩ = some v4) (c5 : w.cell? ⟨b, 5, none⟩ = some v5) : w'.cell? ⟨b, 0, none⟩ = some v0 ∧ w'.cell? ⟨b, 1, none⟩ = some v1 ∧ w'.cell? ⟨b, 2, none⟩ = some v2 ∧ w'.cell? ⟨b, 3, none⟩ = some v3 ∧ w'.cell? ⟨b, 4, none⟩ = some v4 ∧ w'.cell? ⟨b, 5, none⟩ = some v5 :=
  c6f (fun o => h.cell (p := ⟨b, o, none⟩) hb) c0 c1 c2 c3 c4 c5
end Go.Proofs.YtojbdeapcaebnaaDoor
