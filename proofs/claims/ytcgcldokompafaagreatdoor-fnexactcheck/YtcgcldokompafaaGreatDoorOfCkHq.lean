import Derived.Test.YtcgcldokompafaaGreatDoorCkMath2
import Derived.Test.YtcgcldokompafaaGreatDoorCkMath
/- What Check answers. -/
namespace Go.Proofs.YtcgcldokompafaaGreatDoor
open Go.RowKit
def canV (V : Nat -> VV) (i : Nat) : VV := if i < 8 then V i else zV
theorem can_arr {w : World} {b : Nat} {V : Nat -> VV} (h : Arr w b (8 * 6) (vF V)) : Arr w b (8 * 6) (vF (canV V)) := h.congr (fun i hi => by
   unfold vF canV
   rw [if_pos (by omega)])
def chkR (nH : Nat) (S : Nat -> HS) (nR : Nat) (V : Nat -> VV) (L : Nat -> SV) (n : Nat) : CR :=
 if sigOK nH S nR V = true then (if runB L n then ckL ⟨nH, S, V⟩ (seg L 0 n) 0 ⟨canV V, 0, 0⟩ 0 else .bad 12 0) else .bad 11 0
theorem can_good {nH : Nat} {S : Nat -> HS} {nR : Nat} {V : Nat -> VV} (h : sigOK nH S nR V = true) : nR = 8 /\ nH <= 8 /\ FGd ⟨nH, S, V⟩ ⟨canV V, 0, 0⟩ := by
 have h2 := h
 unfold sigOK at h2
 simp only [Bool.and_eq_true] at h2
 have hg : absOK nH S nR V nR V 0 0 = true := by
  unfold absOK
  rw [h, h2.2]
  decide
 obtain ⟨q1, q2, q3, _, _⟩ := abs_iff.1 hg
 subst q2
 exact ⟨rfl, sig_le8 h, abs_iff.2 ⟨h, rfl, fun i hi => by show GV (canV V i) nH; unfold canV; rw [if_pos hi]; exact q3 i hi, ⟨Int.le_refl 0, show (0 : Int) <= 2 by decide⟩, Int.le_refl 0, show (0 : Int) <= 2 by decide⟩, fun i hi => by show canV V i = zV; unfold canV; rw [if_neg (by omega)]⟩
def AnsK (R : CR) (w : World) (e : Ending) (w' : World) : Prop :=
 Below w.heap.size w w' /\ ((∃ err at', R = .bad err at' /\ e = .returned (.agg #[.int .i64 err, .int .i64 at', .slice none 0 0, .int .i64 0, .int .i64 0])) ∨ ∃ F r g cg, R = .ok F r /\ w.heap.size <= g /\ e = .returned (.agg #[.int .i64 0, .int .i64 0, .slice (some ⟨g, 0, none⟩) 8 cg, .int .i64 F.z, .int .i64 F.c]) /\ Arr w' g (8 * 6) (vF F.V))
end Go.Proofs.YtcgcldokompafaaGreatDoor
/- Blocks. -/
namespace Go.Proofs.YtcgcldokompafaaGreatDoor
open Go.RowKit
theorem hq_cell {w : World} {p : Nat} {cs : Array Value} {t : TypeId} {fz : Nat × Nat} (h : w.heap[p]? = some (.cells cs t fz)) (j : Nat) : w.cell? ⟨p, j, none⟩ = cs[j]? := by
 unfold World.cell?
 simp only [h]
 rfl
theorem hq_free {w : World} {p : Nat} {cs : Array Value} {t : TypeId} (h : w.heap[p]? = some (.cells cs t)) (j : Nat) : w.frozen? ⟨p, j, none⟩ = false := by
 unfold World.frozen?
 simp [h]
theorem hq_set {w : World} {p : Nat} {cs : Array Value} {t : TypeId} (h : w.heap[p]? = some (.cells cs t)) (j : Nat) (v : Value) : (w.setCell ⟨p, j, none⟩ v).heap[p]? = some (.cells (cs.setIfInBounds j v) t) := by
 unfold World.setCell
 rw [Array.getElem?_modify, if_pos rfl, h]
 rfl
theorem hq_other {w : World} {p q : Nat} {o : Obj} (h : w.heap[p]? = some o) (hne : p ≠ q) (j : Nat) (v : Value) : (w.setCell ⟨q, j, none⟩ v).heap[p]? = some o := by
 rw [heap_setCell_other _ _ _ _ hne]
 exact h
theorem hq_new (w : World) (o : Obj) : (w.alloc o).heap[w.heap.size]? = some o := by simp only [World.alloc]; simp
theorem row_belowD {w w' : World} {base e size n : Nat} {v : Value} {xs : List Value} (h : w.ownsRow base e size v n xs) (hb : Below w.heap.size w w') : w'.ownsRow base e size v n xs := by
 refine ⟨h.1, ?_⟩
 rcases h.2 with h | ⟨g, cap, cur, rfl, h1, h2, h3⟩
 ·exact .inl h
 ·have hg : g < w.heap.size := (Array.getElem?_eq_some_iff.1 h2).1
  exact .inr ⟨g, cap, cur, rfl, h1, (hb.block g hg).trans h2, h3⟩
theorem cells_newD (w : World) (cs : Array Value) (t : TypeId) : ∀ (j : Nat) u, cs.toList[j]? = some u -> (w.alloc (.cells cs t)).cell? ((⟨w.heap.size, 0, none⟩ : Addr).add j) = some u := fun j u h => by
 have e : (⟨w.heap.size, 0, none⟩ : Addr).add j = ⟨w.heap.size, j, none⟩ := by unfold Addr.add; split <;> simp_all
 rw [e, hq_cell (hq_new w (.cells cs t)) j]
 simpa using h
theorem row_slD {w : World} {B e s n : Nat} {v : Value} {xs : List Value} (h : w.ownsRow B e s v n xs) : ∃ ao cap, v = .slice ao n cap := by
 rcases h.2 with ⟨h, h0⟩ | ⟨g, cap, cur, h, _⟩
 ·exact ⟨none, 0, by rw [h, h0]⟩
 ·exact ⟨_, _, h⟩
end Go.Proofs.YtcgcldokompafaaGreatDoor
