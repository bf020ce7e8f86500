/- Blocks as trees in memory. -/
import Derived.Test.YtbnaegpjmiiihaaUnitSpec
import Derived.Maps.AppendAt
namespace Go.Proofs.Ytbnaegpjmiiihaa
open Go.RowKit
/-- The numbers of a block's own statements. -/
def tops (L : Nat → SV) (i te : Nat) : List Nat :=
  if _h : i < te then i :: tops L (i + 1 + (L i).thn.toNat + (L i).els.toNat) te else []
theorem tops_end {L : Nat → SV} {i te : Nat} (h : ¬ i < te) : tops L i te = [] := by rw [tops, dif_neg h]
theorem tops_more {L : Nat → SV} {i te : Nat} (h : i < te) : tops L i te = i :: tops L (i + 1 + (L i).thn.toNat + (L i).els.toNat) te := by rw [tops, dif_pos h]
/-- A row of nodes. -/
def RowS (w : World) (S : Nat → Prop) (v : Value) (xs : List Value) : Prop := w.ownsRow 0 66 1 v xs.length xs ∧ ∀ b, v.ownBlock = some b → S b
def insV (s : SV) : List Value := [.int .i64 s.op, .int .i64 s.d, .int .i64 s.a, .int .i64 s.b, .int .i64 s.imm, .int .i64 s.h]
/-- v stands for the statements i .. te: its rows lie in blocks of S. -/
def RepN (L : Nat → SV) : Nat → World → (Nat → Prop) → Value → Nat → Nat → Prop
  | 0, _, _, v, i, te => te ≤ i ∧ v = .slice none 0 0
  | m + 1, w, S, v, i, te => ∃ xs : List Value, RowS w S v xs ∧ xs.length = (tops L i te).length ∧ ∀ (k : Nat) (x : Value) (p : Nat), xs[k]? = some x → (tops L i te)[k]? = some p →
      ((L p).k = 1 ∧ x = .iface 68 (.agg #[.int .i64 (p : Int), .int .i64 (L p).op, .int .i64 (L p).d, .int .i64 (L p).a, .int .i64 (L p).b, .int .i64 (L p).imm, .int .i64 (L p).h])) ∨
      ((L p).k = 2 ∧ ∃ v1 v2, x = .iface 70 (.agg #[.int .i64 (p : Int), .int .i64 (L p).cond, v1, v2]) ∧ RepN L m w S v1 (p + 1) (p + 1 + (L p).thn.toNat) ∧ RepN L m w S v2 (p + 1 + (L p).thn.toNat) (p + 1 + (L p).thn.toNat + (L p).els.toNat)) ∨
      ((L p).k = 3 ∧ ∃ v1, x = .iface 73 (.agg #[.int .i64 (p : Int), .int .i64 (L p).cond, v1]) ∧ RepN L m w S v1 (p + 1) (p + 1 + (L p).thn.toNat)) ∨
      ((L p).k = 4 ∧ x = .iface 84 (.agg #[.int .i64 (L p).proc]))
/-- What is kept of a world: the blocks of S. -/
theorem RepN.kept {L : Nat → SV} {w w' : World} {S S' : Nat → Prop} (hs : ∀ b, S b → S' b) (hk : ∀ b, S b → b < w.heap.size → w'.heap[b]? = w.heap[b]?) : ∀ (m : Nat) {v : Value} {i te : Nat}, RepN L m w S v i te → RepN L m w' S' v i te
  | 0, _, _, _, h => h
  | m + 1, v, i, te, h => by
    obtain ⟨xs, ⟨hr, hb⟩, hl, hx⟩ := h
    refine ⟨xs, ⟨⟨hr.1, ?_⟩, fun b h => hs b (hb b h)⟩, hl, fun k x p h1 h2 => ?_⟩
    · rcases hr.2 with h | ⟨g, cap, cur, rfl, h1, h2, h3⟩
      · exact .inl h
      · have hg : g < w.heap.size := (Array.getElem?_eq_some_iff.1 h2).1
        exact .inr ⟨g, cap, cur, rfl, h1, (hk g (hb g rfl) hg).trans h2, h3⟩
    · rcases hx k x p h1 h2 with q | ⟨q, v1, v2, e, r1, r2⟩ | ⟨q, v1, e, r1⟩ | q
      · exact .inl q
      · exact .inr (.inl ⟨q, v1, v2, e, r1.kept hs hk m, r2.kept hs hk m⟩)
      · exact .inr (.inr (.inl ⟨q, v1, e, r1.kept hs hk m⟩))
      · exact .inr (.inr (.inr q))
theorem RepN.below {L : Nat → SV} {w w' : World} {S : Nat → Prop} {m : Nat} {v : Value} {i te : Nat} (h : RepN L m w S v i te) (hb : Below w.heap.size w w') : RepN L m w' S v i te :=
  h.kept (fun _ h => h) (fun b _ hl => hb.block b hl)
end Go.Proofs.Ytbnaegpjmiiihaa
