import Derived.Test.YtcgcldokompafaaGreatDoorOfCkMap2
/- Where a Check stands. -/
namespace Go.Proofs.YtcgcldokompafaaGreatDoor
open Go.RowKit
def sgA (bH nH cH bR nR cR : Nat) : Array Value := #[.slice (some ⟨bH, 0, none⟩) nH cH, .slice (some ⟨bR, 0, none⟩) nR cR]
def crZ : Array Value := #[.int .i64 0, .int .i64 0, .slice none 0 0, .int .i64 0, .int .i64 0]
structure IcP (w : World) (bH nH cH bR nR cR : Nat) (v : World) : Prop where
 B : Below w.heap.size w v
 X : v.heap[w.heap.size]? = some (.cells (sgA bH nH cH bR nR cR) 37)
 R : v.heap[w.heap.size + 1]? = some (.cells crZ 33)
section
variable {w v v' : World} {bH nH cH bR nR cR : Nat}
theorem IcP.below (h : IcP w bH nH cH bR nR cR v) (k : Below v.heap.size v v') : IcP w bH nH cH bR nR cR v' :=
 ⟨h.B.trans (k.mono h.B.size), (k.block _ (hq_ltC h.X)).trans h.X, (k.block _ (hq_ltC h.R)).trans h.R⟩
theorem IcP.kc {bC mb : Nat} (h : IcP w bH nH cH bR nR cR v) (k : Kc bC mb v v') (h1 : w.heap.size + 1 < bC) (h2 : w.heap.size + 1 < mb) : IcP w bH nH cH bR nR cR v' :=
 ⟨k.belowB h.B h.B.size (by omega) (by omega), (k.block _ (hq_ltC h.X) (by omega) (by omega)).trans h.X, (k.block _ (hq_ltC h.R) (by omega) (by omega)).trans h.R⟩
theorem IcP.ft {q : Nat} (h : IcP w bH nH cH bR nR cR v) (k : Ft q v v') (h1 : w.heap.size + 1 < q) : IcP w bH nH cH bR nR cR v' :=
 ⟨h.B.trans ⟨k.os, k.tape, k.output, k.size, fun i hi => k.block i (by have := h.B.size; omega) (by omega)⟩, (k.block _ (hq_ltC h.X) (by omega)).trans h.X, (k.block _ (hq_ltC h.R) (by omega)).trans h.R⟩
theorem IcP.cells (h : IcP w bH nH cH bR nR cR v) : v.cell? ⟨w.heap.size, 0, none⟩ = some (.slice (some ⟨bH, 0, none⟩) nH cH) /\ v.cell? ⟨w.heap.size, 1, none⟩ = some (.slice (some ⟨bR, 0, none⟩) nR cR) /\ w.heap.size < v.heap.size := ⟨(hq_cell h.X 0).trans rfl, (hq_cell h.X 1).trans rfl, hq_ltC h.X⟩
theorem IcP.res (h : IcP w bH nH cH bR nR cR v) : v.cell? ⟨w.heap.size + 1, 0, none⟩ = some (.int .i64 0) /\ v.cell? ⟨w.heap.size + 1, 1, none⟩ = some (.int .i64 0) /\ v.cell? ⟨w.heap.size + 1, 2, none⟩ = some (.slice none 0 0) /\ v.cell? ⟨w.heap.size + 1, 3, none⟩ = some (.int .i64 0) /\ v.cell? ⟨w.heap.size + 1, 4, none⟩ = some (.int .i64 0) /\ (∀ i, v.frozen? ⟨w.heap.size + 1, i, none⟩ = false) /\ w.heap.size + 1 < v.heap.size :=
 ⟨(hq_cell h.R 0).trans rfl, (hq_cell h.R 1).trans rfl, (hq_cell h.R 2).trans rfl, (hq_cell h.R 3).trans rfl, (hq_cell h.R 4).trans rfl, hq_free h.R, hq_ltC h.R⟩
end
theorem below_set5 {B b : Nat} {w u : World} (h : Below B w u) (hb : B <= b) (a0 a1 a2 a3 a4 : Value) : Below B w (((((u.setCell ⟨b, 0, none⟩ a0).setCell ⟨b, 1, none⟩ a1).setCell ⟨b, 2, none⟩ a2).setCell ⟨b, 3, none⟩ a3).setCell ⟨b, 4, none⟩ a4) :=
 ((((h.setCell (p := ⟨b, 0, none⟩) hb _).setCell (p := ⟨b, 1, none⟩) hb _).setCell (p := ⟨b, 2, none⟩) hb _).setCell (p := ⟨b, 3, none⟩) hb _).setCell (p := ⟨b, 4, none⟩) hb _
theorem ic_new (w : World) (bH nH cH bR nR cR : Nat) : ∃ y, (w.alloc (.cells #[.slice (some ⟨bH, 0, none⟩) nH cH, .slice (some ⟨bR, 0, none⟩) nR cR] 37)).alloc (.cells #[.int .i64 0, .int .i64 0, .slice none 0 0, .int .i64 0, .int .i64 0] 33) = y /\ IcP w bH nH cH bR nR cR y := by
 have n0 := hq_new w (.cells (sgA bH nH cH bR nR cR) 37)
 have b0 := (Below.refl w.heap.size w).alloc (Nat.le_refl _) (.cells (sgA bH nH cH bR nR cR) 37)
 unfold sgA at n0 b0
 generalize hx : w.alloc (.cells #[.slice (some ⟨bH, 0, none⟩) nH cH, .slice (some ⟨bR, 0, none⟩) nR cR] 37) = x at *
 have s0 : x.heap.size = w.heap.size + 1 := by rw [<- hx]; simp
 have n1 := hq_new x (.cells crZ 33)
 have b1 := (Below.refl x.heap.size x).alloc (Nat.le_refl _) (.cells crZ 33)
 unfold crZ at n1 b1
 rw [s0] at n1
 exact ⟨_, rfl, b0.trans (b1.mono (by omega)), (b1.block _ (by omega)).trans n0, n1⟩
end Go.Proofs.YtcgcldokompafaaGreatDoor
