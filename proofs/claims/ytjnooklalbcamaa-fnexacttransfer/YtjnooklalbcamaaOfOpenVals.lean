import Derived.WalkKit
import Derived.WalkSpells
import Derived.Laws.IdiomCopy
import Derived.ProofKit
import Derived.Deep.Slices
import Derived.Test.YtjnooklalbcamaaRows
import Derived.WalkLawsBesides
/- Rows of cells in memory: a row that the call itself made, and a row that came in; plain facts on worlds. Imports nothing of the program. -/
namespace Go.Proofs.Ytjnooklalbcamaa
open Go.RowKit

theorem bcell {W w1 : World} (hb : Below W.heap.size W w1) : (∀ b o, b < W.heap.size → w1.cell? ⟨b, o, none⟩ = W.cell? ⟨b, o, none⟩) ∧ (∀ b o, b < W.heap.size → w1.frozen? ⟨b, o, none⟩ = W.frozen? ⟨b, o, none⟩) :=
  ⟨fun b o h => hb.cell (p := ⟨b, o, none⟩) h, fun b o h => hb.frozen (p := ⟨b, o, none⟩) h⟩

/-- From place 'off' of block b on lie n cells, cell i holding f i. -/
def At (w : World) (b off n : Nat) (f : Nat → Value) : Prop := b < w.heap.size ∧ ∀ i, i < n → w.cell? ⟨b, off + i, none⟩ = some (f i)
/-- Block b, which may be written, begins with n cells, cell i holding f i. -/
def Arr (w : World) (b n : Nat) (f : Nat → Value) : Prop := b < w.heap.size ∧ (∀ i, w.frozen? ⟨b, i, none⟩ = false) ∧ ∀ i, i < n → w.cell? ⟨b, i, none⟩ = some (f i)

theorem Arr.lt {w : World} {b n : Nat} {f : Nat → Value} (h : Arr w b n f) : b < w.heap.size := h.1
theorem Arr.free {w : World} {b n : Nat} {f : Nat → Value} (h : Arr w b n f) : ∀ i, w.frozen? ⟨b, i, none⟩ = false := h.2.1
theorem Arr.cell {w : World} {b n : Nat} {f : Nat → Value} (h : Arr w b n f) {i : Nat} (hi : i < n) : w.cell? ⟨b, i, none⟩ = some (f i) := h.2.2 i hi
theorem Arr.at {w : World} {b n : Nat} {f : Nat → Value} (h : Arr w b n f) : At w b 0 n f := ⟨h.1, fun i hi => by rw [Nat.zero_add]; exact h.2.2 i hi⟩
theorem Arr.congr {w : World} {b n : Nat} {f g : Nat → Value} (h : Arr w b n f) (e : ∀ i, i < n → f i = g i) : Arr w b n g := ⟨h.1, h.2.1, fun i hi => by rw [h.2.2 i hi, e i hi]⟩
theorem Arr.below {w w' : World} {B b n : Nat} {f : Nat → Value} (h : Arr w b n f) (hb : Below B w w') (hB : b < B) : Arr w' b n f :=
  ⟨Nat.lt_of_lt_of_le h.1 hb.size, fun i => (hb.frozen (p := ⟨b, i, none⟩) hB).trans (h.2.1 i), fun i hi => (hb.cell (p := ⟨b, i, none⟩) hB).trans (h.2.2 i hi)⟩
theorem At.lt {w : World} {b off n : Nat} {f : Nat → Value} (h : At w b off n f) : b < w.heap.size := h.1
theorem At.cell {w : World} {b off n : Nat} {f : Nat → Value} (h : At w b off n f) {i : Nat} (hi : i < n) : w.cell? ⟨b, off + i, none⟩ = some (f i) := h.2 i hi
theorem At.below {w w' : World} {B b off n : Nat} {f : Nat → Value} (h : At w b off n f) (hb : Below B w w') (hB : b < B) : At w' b off n f :=
  ⟨Nat.lt_of_lt_of_le h.1 hb.size, fun i hi => (hb.cell (p := ⟨b, off + i, none⟩) hB).trans (h.2 i hi)⟩
theorem At.congr {w : World} {b off n : Nat} {f g : Nat → Value} (h : At w b off n f) (e : ∀ i, i < n → f i = g i) : At w b off n g := ⟨h.1, fun i hi => by rw [h.2 i hi, e i hi]⟩

theorem size_setCells (b : Nat) : ∀ (vs : List Value) (o : Nat) (w : World), (w.setCells b o vs).heap.size = w.heap.size
  | [], _, _ => rfl
  | v :: r, o, w => by rw [World.setCells, size_setCells b r]; simp
theorem below_setCells {B b : Nat} (hB : B ≤ b) : ∀ (vs : List Value) (o : Nat) {w0 w : World}, Below B w0 w → Below B w0 (w.setCells b o vs)
  | [], _, _, _, h => h
  | v :: r, o, _, _, h => by rw [World.setCells]; exact below_setCells hB r (o + 1) (h.setCell (by simpa using hB) v)
theorem Arr.setCells {w : World} {b n : Nat} {f : Nat → Value} (h : Arr w b n f) (o : Nat) (vs : List Value) (ho : o + vs.length ≤ n) :
    Arr (w.setCells b o vs) b n (fun i => if o ≤ i ∧ i < o + vs.length then vs.getD (i - o) undef else f i) := by
  refine ⟨by rw [size_setCells]; exact h.1, fun i => by rw [World.frozen?_setCells]; exact h.2.1 i, fun i hi => ?_⟩
  by_cases g : o ≤ i ∧ i < o + vs.length
  · have hj : i - o < vs.length := by omega
    have := World.cell?_setCells_in b vs o w (fun j hj => by rw [h.2.2 (o + j) (by omega)]; rfl) (i - o) hj
    rw [show o + (i - o) = i by omega] at this
    rw [this]
    simp [g, List.getD, hj]
  · rw [World.cell?_setCells_out b vs o w ⟨b, i, none⟩ (fun _ _ => by simp only; omega), h.2.2 i hi]
    simp [g]
theorem Arr.other {w : World} {b n : Nat} {f : Nat → Value} (h : Arr w b n f) {a : Addr} (ha : a.block ≠ b) (v : Value) : Arr (w.setCell a v) b n f :=
  ⟨by simpa using h.1, fun i => by rw [World.frozen?_setCell]; exact h.2.1 i, fun i hi => by rw [World.cell?_setCell_other _ _ _ _ (fun e => ha (by rw [e]))]; exact h.2.2 i hi⟩
/-- A row that 'make' has just laid. -/
theorem Arr.made {w w1 : World} {e size n : Nat} {xs : List Value} {z : Nat → Value} (hown : w1.ownsRow w.heap.size e size (.slice (some ⟨w.heap.size, 0, none⟩) n n) n xs) (hx : ∀ i, i < n * size → xs[i]? = some (z i)) : Arr w1 w.heap.size (n * size) z := by
  refine ⟨?_, fun i => hown.frozenAt i, fun i hi => by rw [hown.cellAt i hi]; exact hx i hi⟩
  rcases hown.2 with ⟨h', _⟩ | ⟨g', cap', cur, h', _, hg, _⟩
  · simp at h'
  · simp only [Value.slice.injEq, Option.some.injEq, Addr.mk.injEq, and_true, true_and] at h'
    obtain ⟨rfl, rfl⟩ := h'
    by_cases hl : w.heap.size < w1.heap.size
    · exact hl
    · rw [Array.getElem?_eq_none (by omega)] at hg; cases hg
/-- A slice that came in: it is empty, or its n cells lie in a row. -/
def InRow (w : World) (ao : Option Addr) (n : Nat) (f : Nat → Value) : Prop := n = 0 ∨ ∃ b off, ao = some ⟨b, off, none⟩ ∧ At w b off n f
theorem InRow.below {w w' : World} {B : Nat} {ao : Option Addr} {n : Nat} {f : Nat → Value} (h : InRow w ao n f) (hb : Below B w w') (hB : w.heap.size ≤ B) : InRow w' ao n f := by
  rcases h with h | ⟨b, off, rfl, h⟩
  · exact .inl h
  · exact .inr ⟨b, off, rfl, h.below hb (Nat.lt_of_lt_of_le h.lt hB)⟩
theorem InRow.congr {w : World} {ao : Option Addr} {n : Nat} {f g : Nat → Value} (h : InRow w ao n f) (e : ∀ i, i < n → f i = g i) : InRow w ao n g := by
  rcases h with h | ⟨b, off, rfl, h⟩
  · exact .inl h
  · exact .inr ⟨b, off, rfl, h.congr e⟩
theorem made_get (z : Array Value) (n i : Nat) (h : i < n) : (madeCells z n).toList[i]? = some (z[i % z.size]!) := by
  simp [madeCells, h]
theorem cells9 {w : World} {base e b : Nat} {v0 v1 v2 v3 v4 v5 v6 v7 v8 : Value} (h : w.ownsRow base e 9 (.slice (some ⟨b, 0, none⟩) 1 1) 1 [v0, v1, v2, v3, v4, v5, v6, v7, v8]) : w.cell? ⟨b, 0, none⟩ = some v0 ∧ w.cell? ⟨b, 1, none⟩ = some v1 ∧ w.cell? ⟨b, 2, none⟩ = some v2 ∧ w.cell? ⟨b, 3, none⟩ = some v3 ∧ w.cell? ⟨b, 4, none⟩ = some v4 ∧ w.cell? ⟨b, 5, none⟩ = some v5 ∧ w.cell? ⟨b, 6, none⟩ = some v6 ∧ w.cell? ⟨b, 7, none⟩ = some v7 ∧ w.cell? ⟨b, 8, none⟩ = some v8 :=
  ⟨h.cellAt 0 (by decide), h.cellAt 1 (by decide), h.cellAt 2 (by decide), h.cellAt 3 (by decide), h.cellAt 4 (by decide), h.cellAt 5 (by decide), h.cellAt 6 (by decide), h.cellAt 7 (by decide), h.cellAt 8 (by decide)⟩
theorem c9f {w w' : World} {b : Nat} {v0 v1 v2 v3 v4 v5 v6 v7 v8 : Value} (h : ∀ o, w'.cell? ⟨b, o, none⟩ = w.cell? ⟨b, o, none⟩) (c0 : w.cell? ⟨b, 0, none⟩ = some v0) (c1 : w.cell? ⟨b, 1, none⟩ = some v1) (c2 : w.cell? ⟨b, 2, none⟩ = some v2) (c3 : w.cell? ⟨b, 3, none⟩ = some v3) (c4 : w.cell? ⟨b, 4, none⟩ = some v4) (c5 : w.cell? ⟨b, 5, none⟩ = some v5) (c6 : w.cell? ⟨b, 6, none⟩ = some v6) (c7 : w.cell? ⟨b, 7, none⟩ = some v7) (c8 : w.cell? ⟨b, 8, none⟩ = some v8) : w'.cell? ⟨b, 0, none⟩ = some v0 ∧ w'.cell? ⟨b, 1, none⟩ = some v1 ∧ w'.cell? ⟨b, 2, none⟩ = some v2 ∧ w'.cell? ⟨b, 3, none⟩ = some v3 ∧ w'.cell? ⟨b, 4, none⟩ = some v4 ∧ w'.cell? ⟨b, 5, none⟩ = some v5 ∧ w'.cell? ⟨b, 6, none⟩ = some v6 ∧ w'.cell? ⟨b, 7, none⟩ = some v7 ∧ w'.cell? ⟨b, 8, none⟩ = some v8 :=
  ⟨(h 0).trans c0, (h 1).trans c1, (h 2).trans c2, (h 3).trans c3, (h 4).trans c4, (h 5).trans c5, (h 6).trans c6, (h 7).trans c7, (h 8).trans c8⟩
theorem c9b {w w' : World} {B b : Nat} {v0 v1 v2 v3 v4 v5 v6 v7 v8 : Value} (h : Below B w w') (hb : b < B) (c0 : w.cell? ⟨b, 0, none⟩ = some v0) (c1 : w.cell? ⟨b, 1, none⟩ = some v1) (c2 : w.cell? ⟨b, 2, none⟩ = some v2) (c3 : w.cell? ⟨b, 3, none⟩ = some v3) (c4 : w.cell? ⟨b, 4, none⟩ = some v4) (c5 : w.cell? ⟨b, 5, none⟩ = some v5) (c6 : w.cell? ⟨b, 6, none⟩ = some v6) (c7 : w.cell? ⟨b, 7, none⟩ = some v7) (c8 : w.cell? ⟨b, 8, none⟩ = some v8) : w'.cell? ⟨b, 0, none⟩ = some v0 ∧ w'.cell? ⟨b, 1, none⟩ = some v1 ∧ w'.cell? ⟨b, 2, none⟩ = some v2 ∧ w'.cell? ⟨b, 3, none⟩ = some v3 ∧ w'.cell? ⟨b, 4, none⟩ = some v4 ∧ w'.cell? ⟨b, 5, none⟩ = some v5 ∧ w'.cell? ⟨b, 6, none⟩ = some v6 ∧ w'.cell? ⟨b, 7, none⟩ = some v7 ∧ w'.cell? ⟨b, 8, none⟩ = some v8 :=
  c9f (fun o => h.cell (p := ⟨b, o, none⟩) hb) c0 c1 c2 c3 c4 c5 c6 c7 c8
theorem cells6 {w : World} {base e b : Nat} {v0 v1 v2 v3 v4 v5 : Value} (h : w.ownsRow base e 6 (.slice (some ⟨b, 0, none⟩) 1 1) 1 [v0, v1, v2, v3, v4, v5]) : w.cell? ⟨b, 0, none⟩ = some v0 ∧ w.cell? ⟨b, 1, none⟩ = some v1 ∧ w.cell? ⟨b, 2, none⟩ = some v2 ∧ w.cell? ⟨b, 3, none⟩ = some v3 ∧ w.cell? ⟨b, 4, none⟩ = some v4 ∧ w.cell? ⟨b, 5, none⟩ = some v5 :=
  ⟨h.cellAt 0 (by decide), h.cellAt 1 (by decide), h.cellAt 2 (by decide), h.cellAt 3 (by decide), h.cellAt 4 (by decide), h.cellAt 5 (by decide)⟩
theorem c6f {w w' : World} {b : Nat} {v0 v1 v2 v3 v4 v5 : Value} (h : ∀ o, w'.cell? ⟨b, o, none⟩ = w.cell? ⟨b, o, none⟩) (c0 : w.cell? ⟨b, 0, none⟩ = some v0) (c1 : w.cell? ⟨b, 1, none⟩ = some v1) (c2 : w.cell? ⟨b, 2, none⟩ = some v2) (c3 : w.cell? ⟨b, 3, none⟩ = some v3) (c4 : w.cell? ⟨b, 4, none⟩ = some v4) (c5 : w.cell? ⟨b, 5, none⟩ = some v5) : w'.cell? ⟨b, 0, none⟩ = some v0 ∧ w'.cell? ⟨b, 1, none⟩ = some v1 ∧ w'.cell? ⟨b, 2, none⟩ = some v2 ∧ w'.cell? ⟨b, 3, none⟩ = some v3 ∧ w'.cell? ⟨b, 4, none⟩ = some v4 ∧ w'.cell? ⟨b, 5, none⟩ = some v5 :=
  ⟨(h 0).trans c0, (h 1).trans c1, (h 2).trans c2, (h 3).trans c3, (h 4).trans c4, (h 5).trans c5⟩
theorem c6b {w w' : World} {B b : Nat} {v0 v1 v2 v3 v4 v5 : Value} (h : Below B w w') (hb : b < B) (c0 : w.cell? ⟨b, 0, none⟩ = some v0) (c1 : w.cell? ⟨b, 1, none⟩ = some v1) (c2 : w.cell? ⟨b, 2, none⟩ = some v2) (c3 : w.cell? ⟨b, 3, none⟩ = some v3) (c4 : w.cell? ⟨b, 4, none⟩ = some v4) (c5 : w.cell? ⟨b, 5, none⟩ = some v5) : w'.cell? ⟨b, 0, none⟩ = some v0 ∧ w'.cell? ⟨b, 1, none⟩ = some v1 ∧ w'.cell? ⟨b, 2, none⟩ = some v2 ∧ w'.cell? ⟨b, 3, none⟩ = some v3 ∧ w'.cell? ⟨b, 4, none⟩ = some v4 ∧ w'.cell? ⟨b, 5, none⟩ = some v5 :=
  c6f (fun o => h.cell (p := ⟨b, o, none⟩) hb) c0 c1 c2 c3 c4 c5
end Go.Proofs.Ytjnooklalbcamaa
/- A slice of whatever elements that reads as data: its cells in a row, each element's cells with their reading. -/
namespace Go.Proofs.Ytjnooklalbcamaa
open Go.ChangeShapes Go.WideShapes Go.ChangeAt Go.RowKit Go.Deep

theorem open_row {H : Type} {enc : TypeId × Value → H} {P : Program} {w : World} {base : Nat} {spare : Nat → Bool} {held : Bool} {t e : TypeId} {fuel K : Nat} {ao : Option Addr} {len cap : Nat} {x : DataW H × List MemPlace}
    (ht : P.underlying t = some (.slice e)) (hK : P.cellsOf e = K) (hpos : 0 < K) (h : DataW.trod enc P w base spare held fuel t [.slice ao len cap] = some x) :
    len ≤ maxLen ∧ ∃ f : Nat → Value, InRow w ao (len * K) f ∧ ∀ i, i < len → ∃ n y, DataW.trod enc P w base spare held n e ((List.range K).map fun j => f (i * K + j)) = some y := by
  rcases open_slice ht h with ⟨h0, _⟩ | ⟨a, len', cap', m, n, D, Pl, hcs, hb, hl, hm, hmm, _, hx⟩
  · simp only [List.cons.injEq, Value.slice.injEq, and_true] at h0
    obtain ⟨_, rfl, _⟩ := h0
    exact ⟨Nat.zero_le _, fun _ => undef, .inl (by simp), fun i hi => by omega⟩
  · simp only [List.cons.injEq, Value.slice.injEq, and_true] at hcs
    obtain ⟨rfl, rfl, rfl⟩ := hcs
    have hlm : len ≤ m := by rw [hmm]; split <;> omega
    refine ⟨by omega, ?_⟩
    rw [hK] at hx
    obtain ⟨c, hc⟩ := choose_lt (n := m) (p := fun i cs' => w.cells? base (a.add (i * K)) K = some cs' ∧ DataW.trod enc P w base spare held n e cs' = some (D i, Pl i)) hx
    have hcell : ∀ i, i < m → (c i).length = K ∧ ∀ j, j < K → w.cell? (a.add (i * K + j)) = (c i)[j]? := by
      intro i hi
      obtain ⟨_, hlen, hce⟩ := World.cells?_some (hc i hi).1
      refine ⟨hlen, fun j hj => ?_⟩
      rw [← add_add]; exact hce j hj
    refine ⟨fun p => (c (p / K)).getD (p % K) undef, ?_, fun i hi => ⟨n, (D i, Pl i), ?_⟩⟩
    · by_cases h0 : len = 0
      · subst h0; exact .inl (by simp)
      · right
        obtain ⟨b, off, spot⟩ := a
        have each : ∀ p, p < len * K → w.cell? ((⟨b, off, spot⟩ : Addr).add p) = some ((c (p / K)).getD (p % K) undef) := by
          intro p hp
          have h1 : p / K < len := (Nat.div_lt_iff_lt_mul hpos).2 hp
          have h2 : p % K < K := Nat.mod_lt _ hpos
          obtain ⟨q1, q2⟩ := hcell (p / K) (by omega)
          have := q2 (p % K) h2
          rw [show p / K * K + p % K = p by rw [Nat.mul_comm]; exact Nat.div_add_mod p K] at this
          rw [this, List.getD_eq_getElem?_getD, List.getElem?_eq_getElem (by omega)]
          rfl
        have hp0 : 0 < len * K := Nat.mul_pos (by omega) hpos
        have hspot : spot = none := by simpa [Addr.add] using World.cell?_spot (each 0 hp0)
        subst hspot
        refine ⟨b, off, rfl, ?_, fun p hp => ?_⟩
        · have := each 0 hp0
          exact block_lt_of_cell this
        · rw [← Go.WideShapes.add_plain]; exact each p hp
    · have e1 : ((List.range K).map fun j => (c ((i * K + j) / K)).getD ((i * K + j) % K) undef) = c i := by
        obtain ⟨q1, _⟩ := hcell i (by omega)
        apply List.ext_getElem?
        intro j
        by_cases hj : j < K
        · rw [List.getElem?_map, List.getElem?_range hj]
          simp only [Option.map_some]
          rw [show (i * K + j) / K = i by rw [Nat.mul_comm, Nat.mul_add_div hpos, Nat.div_eq_of_lt hj]; rfl, show (i * K + j) % K = j by rw [Nat.mul_comm, Nat.mul_add_mod]; exact Nat.mod_eq_of_lt hj]
          rw [List.getD_eq_getElem?_getD, List.getElem?_eq_getElem (by omega)]
          rfl
        · rw [List.getElem?_eq_none (by simp; omega), List.getElem?_eq_none (by omega)]
      rw [e1]
      exact (hc i (by omega)).2
end Go.Proofs.Ytjnooklalbcamaa
/- Vals: carried over, compared, joined. -/
namespace Go.Proofs.Ytjnooklalbcamaa
open Go.RowKit

/-- A Val: its fields. -/
structure VV where
  k : Int
  s : Bool
  m : Int
  h : Int
  lo : Int
  hi : Int
def VV.v (x : VV) : Value := .agg #[.int .i64 x.k, .bool x.s, .int .i64 x.m, .int .i64 x.h, .int .i64 x.lo, .int .i64 x.hi]
/-- What holds of both. -/
def joinV (a b : VV) : VV :=
  if a.k = 1 ∧ b.k = 1 ∧ a.h = b.h then ⟨1, false, 0, a.h, if b.lo < a.lo then b.lo else a.lo, if b.hi > a.hi then b.hi else a.hi⟩
  else if a.k = 0 ∧ b.k = 0 ∧ a.m ≠ -1 ∧ b.m ≠ -1 then ⟨0, a.s || b.s, if b.m > a.m then b.m else a.m, 0, 0, 0⟩
  else ⟨0, a.s || b.s, -1, 0, 0, 0⟩

set_option maxHeartbeats 400000 in
theorem toVal_any (k : Int) (s : Bool) (m h lo hi : Int) (w : World) :
    Calls Try.prog 30 #[.agg #[.int .i64 k, .bool s, .int .i64 m, .int .i64 h, .int .i64 lo, .int .i64 hi]] w fun e w' => e = .returned (.agg #[.int .i64 k, .bool s, .int .i64 m, .int .i64 h, .int .i64 lo, .int .i64 hi]) ∧ Below w.heap.size w w' := by
  go_enter Try.func30, Try.ntmps30
  go_wp2
  exact bodyPost_ret (v := .agg #[.int .i64 k, .bool s, .int .i64 m, .int .i64 h, .int .i64 lo, .int .i64 hi]) (by simp [results, Try.results30, go_sem]) rfl ⟨rfl, (((Below.refl _ _).alloc (Nat.le_refl _) _).alloc (by simp) _).alloc (by simp; omega) _⟩

set_option maxHeartbeats 400000 in
theorem eqVal_same (k : Int) (s : Bool) (m h lo hi : Int) (w : World) :
    Calls Try.prog 31 #[.agg #[.int .i64 k, .bool s, .int .i64 m, .int .i64 h, .int .i64 lo, .int .i64 hi], .agg #[.int .i64 k, .bool s, .int .i64 m, .int .i64 h, .int .i64 lo, .int .i64 hi]] w fun e w' => e = .returned (.bool true) ∧ Below w.heap.size w w' := by
  go_enter Try.func31, Try.ntmps31
  go_wp2
  go_ret
  exact ⟨rfl, ((Below.refl _ _).alloc (Nat.le_refl _) _).alloc (by simp) _⟩

set_option maxHeartbeats 4000000 in
theorem implJoin_any (k : Int) (s : Bool) (m h lo hi : Int) (k' : Int) (s' : Bool) (m' h' lo' hi' : Int) (w : World) :
    Calls Try.prog 11 #[.agg #[.int .i64 k, .bool s, .int .i64 m, .int .i64 h, .int .i64 lo, .int .i64 hi], .agg #[.int .i64 k', .bool s', .int .i64 m', .int .i64 h', .int .i64 lo', .int .i64 hi']] w fun e w' => e = .returned (joinV ⟨k, s, m, h, lo, hi⟩ ⟨k', s', m', h', lo', hi'⟩).v ∧ Below w.heap.size w w' := by
  go_enter Try.func11, Try.ntmps11
  go_wp2
  all_goals
    refine' bodyPost_ret (v := _) ?_ rfl ⟨?_, ?_⟩
    rotate_left 1
    · simp [results, Try.results11, go_sem]; rfl
    rotate_left 1
    · exact (((Below.refl _ _).alloc (Nat.le_refl _) _).alloc (by simp) _).alloc (by simp; omega) _
    · simp_all [joinV, VV.v] <;> omega

set_option maxHeartbeats 4000000 in
theorem specJoin_any (k : Int) (s : Bool) (m h lo hi : Int) (k' : Int) (s' : Bool) (m' h' lo' hi' : Int) (w : World) :
    Calls Try.prog 12 #[.agg #[.int .i64 k, .bool s, .int .i64 m, .int .i64 h, .int .i64 lo, .int .i64 hi], .agg #[.int .i64 k', .bool s', .int .i64 m', .int .i64 h', .int .i64 lo', .int .i64 hi']] w fun e w' => e = .returned (joinV ⟨k, s, m, h, lo, hi⟩ ⟨k', s', m', h', lo', hi'⟩).v ∧ Below w.heap.size w w' := by
  go_enter Try.func12, Try.ntmps12
  go_wp2
  all_goals
    refine' bodyPost_ret (v := _) ?_ rfl ⟨?_, ?_⟩
    rotate_left 1
    · simp [results, Try.results12, go_sem]; rfl
    rotate_left 1
    · exact ((((Below.refl _ _).alloc (Nat.le_refl _) _).alloc (by simp) _).alloc (by simp; omega) _).alloc (by simp; omega) _
    · simp_all [joinV, VV.v] <;> omega
end Go.Proofs.Ytjnooklalbcamaa
/- Vals and heaplets' signatures that read as data. -/
namespace Go.Proofs.Ytjnooklalbcamaa
open Go.ChangeShapes Go.WideShapes Go.ChangeAt Go.RowKit Go.Deep

theorem cellsLVal : Try.prog.cellsOf 70 = 6 := by kernel_rfl
theorem cellsLHS : Try.prog.cellsOf 141 = 3 := by kernel_rfl
theorem v_cellsI64 : Try.prog.cellsOf 2 = 1 := by kernel_rfl
theorem v_cellsBool : Try.prog.cellsOf 4 = 1 := by kernel_rfl

set_option maxRecDepth 100000 in
/-- The cells of a Val that reads as data. -/
theorem val_cells {H : Type} {enc : TypeId × Value → H} {w : World} {base : Nat} {spare : Nat → Bool} {held : Bool} {fuel : Nat} {cs : List Value} {x : DataW H × List MemPlace}
    (h : DataW.trod enc Try.prog w base spare held fuel 70 cs = some x) :
    ∃ v : VV, cs = [.int .i64 v.k, .bool v.s, .int .i64 v.m, .int .i64 v.h, .int .i64 v.lo, .int .i64 v.hi] := by
  obtain ⟨xs, n, _, _, hl, hlen, hf⟩ := DataW.trod_struct Try.underlying70 h
  rw [cellsLVal] at hl
  match cs, hl with
  | [c0, c1, c2, c3, c4, c5], _ =>
    match xs, hlen with
    | [y0, y1, y2, y3, y4, y5], _ =>
      have h0 := hf 0 _ rfl
      have h1 := hf 1 _ rfl
      have h2 := hf 2 _ rfl
      have h3 := hf 3 _ rfl
      have h4 := hf 4 _ rfl
      have h5 := hf 5 _ rfl
      simp [v_cellsI64, v_cellsBool] at h0 h1 h2 h3 h4 h5
      obtain ⟨n0, e0, _, _⟩ := DataW.trod_int Try.underlying2 h0
      obtain ⟨n1, e1, _⟩ := DataW.trod_bool Try.underlying4 h1
      obtain ⟨n2, e2, _, _⟩ := DataW.trod_int Try.underlying2 h2
      obtain ⟨n3, e3, _, _⟩ := DataW.trod_int Try.underlying2 h3
      obtain ⟨n4, e4, _, _⟩ := DataW.trod_int Try.underlying2 h4
      obtain ⟨n5, e5, _, _⟩ := DataW.trod_int Try.underlying2 h5
      simp at e0 e1 e2 e3 e4 e5
      subst e0 e1 e2 e3 e4 e5
      exact ⟨⟨n0, n1, n2, n3, n4, n5⟩, rfl⟩

/-- A heaplet's signature: its fields. -/
structure HS where
  size : Int
  s : Bool
  w : Bool

set_option maxRecDepth 100000 in
theorem hs_cells {H : Type} {enc : TypeId × Value → H} {w : World} {base : Nat} {spare : Nat → Bool} {held : Bool} {fuel : Nat} {cs : List Value} {x : DataW H × List MemPlace}
    (h : DataW.trod enc Try.prog w base spare held fuel 141 cs = some x) :
    ∃ v : HS, cs = [.int .i64 v.size, .bool v.s, .bool v.w] := by
  obtain ⟨xs, n, _, _, hl, hlen, hf⟩ := DataW.trod_struct Try.underlying141 h
  rw [cellsLHS] at hl
  match cs, hl with
  | [c0, c1, c2], _ =>
    match xs, hlen with
    | [y0, y1, y2], _ =>
      have h0 := hf 0 _ rfl
      have h1 := hf 1 _ rfl
      have h2 := hf 2 _ rfl
      simp [v_cellsI64, v_cellsBool] at h0 h1 h2
      obtain ⟨n0, e0, _, _⟩ := DataW.trod_int Try.underlying2 h0
      obtain ⟨n1, e1, _⟩ := DataW.trod_bool Try.underlying4 h1
      obtain ⟨n2, e2, _⟩ := DataW.trod_bool Try.underlying4 h2
      simp at e0 e1 e2
      subst e0 e1 e2
      exact ⟨⟨n0, n1, n2⟩, rfl⟩
end Go.Proofs.Ytjnooklalbcamaa
