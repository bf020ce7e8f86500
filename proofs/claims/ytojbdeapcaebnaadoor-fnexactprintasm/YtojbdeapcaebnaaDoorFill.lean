/- A row that is filled from its head; the plain functions of a machine's lists. Imports nothing of the program. -/
import Derived.Test.YtojbdeapcaebnaaDoorArr
namespace Go.Proofs.YtojbdeapcaebnaaDoor
open Go.RowKit

/-- The first m cells as f has them, the others as z. -/
def upTo (f z : Nat → Value) (m p : Nat) : Value := if p < m then f p else z p
theorem upTo_zero (f z : Nat → Value) (p : Nat) : upTo f z 0 p = z p := by simp [upTo]
theorem upTo_all {f z : Nat → Value} {m p : Nat} (h : p < m) : upTo f z m p = f p := by simp [upTo, h]
theorem Arr.fill {w : World} {b n o : Nat} {f z : Nat → Value} {vs : List Value} (h : Arr w b n (upTo f z o)) (ho : o + vs.length ≤ n) (hv : ∀ j, j < vs.length → vs.getD j undef = f (o + j)) :
    Arr (w.setCells b o vs) b n (upTo f z (o + vs.length)) :=
  (h.setCells o vs ho).congr fun i _ => by
    by_cases g : o ≤ i ∧ i < o + vs.length
    · rw [if_pos g, hv (i - o) (by omega), show o + (i - o) = i by omega, upTo_all g.2]
    · rw [if_neg g]
      unfold upTo
      by_cases q : i < o
      · rw [if_pos q, if_pos (by omega)]
      · rw [if_neg q, if_neg (by omega)]
theorem Arr.filled {w : World} {b n : Nat} {f z : Nat → Value} (h : Arr w b n (upTo f z n)) : Arr w b n f := h.congr fun _ hi => upTo_all hi
theorem Arr.retell {w : World} {b n m : Nat} {f g z : Nat → Value} (h : Arr w b n (upTo f z m)) (e : ∀ i, i < m → f i = g i) : Arr w b n (upTo g z m) := h.congr fun i _ => by
  unfold upTo
  by_cases q : i < m
  · rw [if_pos q, if_pos q, e i q]
  · rw [if_neg q, if_neg q]

def numF (k : IntKind) (R : Nat → Int) (i : Nat) : Value := .int k (R i)
def obsF (K V : Nat → Int) (p : Nat) : Value := if p % 2 = 0 then .int .i64 (K (p / 2)) else .int .u64 (V (p / 2))
def obsZ (p : Nat) : Value := if p % 2 = 0 then .int .i64 0 else .int .u64 0
theorem obsF_0 (K V : Nat → Int) (k : Nat) : obsF K V (k * 2 + 0) = .int .i64 (K k) := by unfold obsF; rw [if_pos (by omega), show (k * 2 + 0) / 2 = k by omega]
theorem obsF_1 (K V : Nat → Int) (k : Nat) : obsF K V (k * 2 + 1) = .int .u64 (V k) := by unfold obsF; rw [if_neg (by omega), show (k * 2 + 1) / 2 = k by omega]
structure HeapV where
  base : Int
  wr : Bool
  ao : Option Addr
  len : Nat
  cap : Nat
  dat : Nat → Int
def heapF (Hp : Nat → HeapV) (p : Nat) : Value := if p % 3 = 0 then .int .u64 (Hp (p / 3)).base else if p % 3 = 1 then .bool (Hp (p / 3)).wr else .slice (Hp (p / 3)).ao (Hp (p / 3)).len (Hp (p / 3)).cap
def heapZ (p : Nat) : Value := if p % 3 = 0 then .int .u64 0 else if p % 3 = 1 then .bool false else .slice none 0 0
theorem heapF_0 (Hp : Nat → HeapV) (k : Nat) : heapF Hp (k * 3 + 0) = .int .u64 (Hp k).base := by unfold heapF; rw [if_pos (by omega), show (k * 3 + 0) / 3 = k by omega]
theorem heapF_1 (Hp : Nat → HeapV) (k : Nat) : heapF Hp (k * 3 + 1) = .bool (Hp k).wr := by unfold heapF; rw [if_neg (by omega), if_pos (by omega), show (k * 3 + 1) / 3 = k by omega]
theorem heapF_2 (Hp : Nat → HeapV) (k : Nat) : heapF Hp (k * 3 + 2) = .slice (Hp k).ao (Hp k).len (Hp k).cap := by unfold heapF; rw [if_neg (by omega), if_neg (by omega), show (k * 3 + 2) / 3 = k by omega]
theorem heapF_congr {Hp Hq : Nat → HeapV} {n p : Nat} (hp : p < n * 3) (h : ∀ i, i < n → Hp i = Hq i) : heapF Hp p = heapF Hq p := by unfold heapF; rw [h (p / 3) (by omega)]
/-- A heaplet whose bytes lie at the head of block b. -/
def HeapV.moved (h : HeapV) (b : Nat) : HeapV := { h with ao := some ⟨b, 0, none⟩, cap := h.len }
/-- Heaplets that a call has copied: the list in block B, the bytes of heaplet i in block blk i. -/
def Copied (w : World) (B n : Nat) (Hp : Nat → HeapV) (blk : Nat → Nat) : Prop :=
  Arr w B (n * 3) (heapF fun i => (Hp i).moved (blk i)) ∧ (∀ i, i < n → B < blk i ∧ Arr w (blk i) (Hp i).len (numF .u8 (Hp i).dat)) ∧ ∀ i j, i < j → j < n → blk i < blk j
theorem Copied.below {w w' : World} {C B n : Nat} {Hp : Nat → HeapV} {blk : Nat → Nat} (h : Copied w B n Hp blk) (hb : Below C w w') (hC : w.heap.size ≤ C) : Copied w' B n Hp blk :=
  ⟨h.1.below hb (Nat.lt_of_lt_of_le h.1.lt hC), fun i hi => ⟨(h.2.1 i hi).1, (h.2.1 i hi).2.below hb (Nat.lt_of_lt_of_le (h.2.1 i hi).2.lt hC)⟩, h.2.2⟩
end Go.Proofs.YtojbdeapcaebnaaDoor
