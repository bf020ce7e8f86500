import Derived.Test.YtcgcldokompafaaGreatDoorOfCkHq
import Derived.Deep.CutBlock
/- The model's check of blocks: its small functions. -/
namespace Go.Proofs.YtcgcldokompafaaGreatDoor
open Go.RowKit
theorem hq_lt {q : Nat} {u : World} {o : Obj} (h : u.heap[q]? = some o) : q < u.heap.size := (Array.getElem?_eq_some_iff.1 h).1
theorem hq_below {q : Nat} {u u' : World} {o : Obj} (h : u.heap[q]? = some o) (f : Below u.heap.size u u') : u'.heap[q]? = some o := (f.block q (hq_lt h)).trans h
theorem grown_obj {u u' : World} {row : Option Nat} {q : Nat} {o : Obj} (h : u.heap[q]? = some o) (hg : u.grownBy u' row) (hn : row ≠ some q) : u'.heap[q]? = some o := (hg.block q (hq_lt h) (fun e => hn e.symm)).trans h
theorem grown_ne {B : Nat} {u : World} {q e s n' t : Nat} {v' : Value} {xs : List Value} {cs : Array Value} (hx : u.heap[q]? = some (.cells cs t)) (h2 : u.ownsRow B e s v' n' xs) (he : t ≠ e) : v'.ownBlock ≠ some q := fun e1 => by
 rcases h2.2 with ⟨h', _⟩ | ⟨g, cap, cur, h', _, h4, _⟩
 ·rw [h'] at e1; cases e1
 ·rw [h'] at e1
  have e2 : g = q := Option.some.inj e1
  subst e2
  rw [hx] at h4
  exact he (Obj.cells.inj (Option.some.inj h4)).2.1
def V3 (u : World) (b t : Nat) (x y z : Value) : Prop := u.heap[b]? = some (.cells #[x, y, z] t)
theorem V3.cells {u : World} {b t : Nat} {x y z : Value} (h : V3 u b t x y z) : u.cell? ⟨b, 0, none⟩ = some x /\ u.cell? ⟨b, 1, none⟩ = some y /\ u.cell? ⟨b, 2, none⟩ = some z := ⟨(hq_cell h 0).trans rfl, (hq_cell h 1).trans rfl, (hq_cell h 2).trans rfl⟩
theorem V3.lt {u : World} {b t : Nat} {x y z : Value} (h : V3 u b t x y z) : b < u.heap.size := hq_lt h
theorem V3.free {u : World} {b t : Nat} {x y z : Value} (h : V3 u b t x y z) : ∀ i, u.frozen? ⟨b, i, none⟩ = false := hq_free h
theorem V3.below {u u' : World} {b t : Nat} {x y z : Value} (h : V3 u b t x y z) (f : Below u.heap.size u u') : V3 u' b t x y z := hq_below h f
theorem V3.set {u : World} {b t : Nat} {x y z : Value} (h : V3 u b t x y z) (x' y' z' : Value) : V3 (((u.setCell ⟨b, 0, none⟩ x').setCell ⟨b, 1, none⟩ y').setCell ⟨b, 2, none⟩ z') b t x' y' z' := hq_set (hq_set (hq_set h 0 x') 1 y') 2 z'
theorem V3.set0 {u : World} {b t : Nat} {x y z : Value} (h : V3 u b t x y z) (x' : Value) : V3 (u.setCell ⟨b, 0, none⟩ x') b t x' y z := hq_set h 0 x'
theorem V3.new (u : World) (t : Nat) (x y z : Value) : V3 (u.alloc (.cells #[x, y, z] t)) u.heap.size t x y z := hq_new u _

set_option maxHeartbeats 400000 in
theorem l5JoinFlags_any (a b : Int) (w : World) : Calls Tryz.prog 96 #[.int .i64 a, .int .i64 b] w fun e w' => e = .returned (.int .i64 (jfl a b)) /\ w' = w := by
 go_enter Tryz.func96, Tryz.ntmps96
 go_wp2
 all_goals (go_ret; refine ⟨ret_int ?_, rfl⟩; simp_all [jfl])
set_option maxHeartbeats 400000 in
theorem l5Flag_any (ao : Option Addr) (n cap : Nat) (V : Nat -> VV) (z c cond : Int) (w : World) : Calls Tryz.prog 75 #[.agg #[.slice ao n cap, .int .i64 z, .int .i64 c], .int .i64 cond] w fun e w' => e = .returned (.int .i64 (cfl ⟨V, z, c⟩ cond)) /\ Below w.heap.size w w' := by
 by_cases hc : 3 <= cond
 ·by_cases h0 : c = 0
  ·rw [show cfl ⟨V, z, c⟩ cond = 1 by simp [cfl, hc, h0]]
   subst h0
   go_enter Tryz.func75, Tryz.ntmps75
   go_wp2
   go_ret
   exact ⟨rfl, (Below.refl _ _).alloc (Nat.le_refl _) _⟩
  by_cases h2 : c = 2
  ·rw [show cfl ⟨V, z, c⟩ cond = 2 by simp [cfl, hc, h2]]
   subst h2
   clear h0
   go_enter Tryz.func75, Tryz.ntmps75
   go_wp2
   go_ret
   exact ⟨rfl, (Below.refl _ _).alloc (Nat.le_refl _) _⟩
  rw [show cfl ⟨V, z, c⟩ cond = 0 by simp [cfl, hc, h0, h2]]
  have e0 : (c == 0) = false := by simpa using h0
  have e2 : (c == 2) = false := by simpa using h2
  go_enter Tryz.func75, Tryz.ntmps75
  go_wp2
  go_ret
  exact ⟨rfl, (Below.refl _ _).alloc (Nat.le_refl _) _⟩
 ·by_cases h0 : z = 0
  ·rw [show cfl ⟨V, z, c⟩ cond = 1 by simp [cfl, hc, h0]]
   subst h0
   go_enter Tryz.func75, Tryz.ntmps75
   go_wp2
   go_ret
   exact ⟨rfl, (Below.refl _ _).alloc (Nat.le_refl _) _⟩
  by_cases h2 : z = 2
  ·rw [show cfl ⟨V, z, c⟩ cond = 2 by simp [cfl, hc, h2]]
   subst h2
   clear h0
   go_enter Tryz.func75, Tryz.ntmps75
   go_wp2
   go_ret
   exact ⟨rfl, (Below.refl _ _).alloc (Nat.le_refl _) _⟩
  rw [show cfl ⟨V, z, c⟩ cond = 0 by simp [cfl, hc, h0, h2]]
  have e0 : (z == 0) = false := by simpa using h0
  have e2 : (z == 2) = false := by simpa using h2
  go_enter Tryz.func75, Tryz.ntmps75
  go_wp2
  go_ret
  exact ⟨rfl, (Below.refl _ _).alloc (Nat.le_refl _) _⟩
def outV (err at' : Int) (v : Value) (z c rounds : Int) : Value := .agg #[.int .i64 err, .int .i64 at', v, .int .i64 z, .int .i64 c, .int .i64 rounds]
set_option maxHeartbeats 400000 in
theorem l5Bad_any (err at' rounds : Int) (w : World) : Calls Tryz.prog 44 #[.int .i64 err, .int .i64 at', .int .i64 rounds] w fun e w' => e = .returned (outV err at' (.slice none 0 0) 0 0 rounds) /\ Below w.heap.size w w' := by
 go_enter Tryz.func44, Tryz.ntmps44
 go_wp2
 refine bodyPost_ret (v := outV err at' (.slice none 0 0) 0 0 rounds) (by simp [results, Tryz.results44, go_sem, outV]) rfl ⟨rfl, ?_⟩
 exact (Below.refl _ _).alloc (Nat.le_refl _) _
theorem v_at {u : World} {b n : Nat} {V : Nat -> VV} (h : Arr u b (n * 6) (vF V)) {q : Nat} (hq : q < n) : u.cell? ⟨b, q * 6, none⟩ = some (.int .i64 (V q).k) /\ u.cell? ⟨b, q * 6 + 1, none⟩ = some (.bool (V q).s) /\ u.cell? ⟨b, q * 6 + 2, none⟩ = some (.int .i64 (V q).m) /\ u.cell? ⟨b, q * 6 + 3, none⟩ = some (.int .i64 (V q).h) /\ u.cell? ⟨b, q * 6 + 4, none⟩ = some (.int .i64 (V q).lo) /\ u.cell? ⟨b, q * 6 + 5, none⟩ = some (.int .i64 (V q).hi) :=
 ⟨(h.cell (i := q * 6 + 0) (by omega)).trans (congrArg some (vF_at V q 0 (by omega))), (h.cell (i := q * 6 + 1) (by omega)).trans (congrArg some (vF_at V q 1 (by omega))), (h.cell (i := q * 6 + 2) (by omega)).trans (congrArg some (vF_at V q 2 (by omega))), (h.cell (i := q * 6 + 3) (by omega)).trans (congrArg some (vF_at V q 3 (by omega))), (h.cell (i := q * 6 + 4) (by omega)).trans (congrArg some (vF_at V q 4 (by omega))), (h.cell (i := q * 6 + 5) (by omega)).trans (congrArg some (vF_at V q 5 (by omega)))⟩

def SameR (F G : FS) (w : World) (e : Ending) (w' : World) : Prop := ∃ r : Bool, e = .returned (.bool r) /\ (r = true -> sameP F G) /\ (r = false -> ¬ sameP F G) /\ Below w.heap.size w w'
set_option maxRecDepth 20000 in
set_option maxHeartbeats 4000000 in
theorem l5Same_any (bA cA : Nat) (V : Nat -> VV) (z c : Int) (bB cB : Nat) (U : Nat -> VV) (z' c' : Int) (w : World) (hA : Arr w bA (8 * 6) (vF V)) (hB : Arr w bB (8 * 6) (vF U)) :
  Calls Tryz.prog 95 #[.agg #[.slice (some ⟨bA, 0, none⟩) 8 cA, .int .i64 z, .int .i64 c], .agg #[.slice (some ⟨bB, 0, none⟩) 8 cB, .int .i64 z', .int .i64 c']] w (SameR ⟨V, z, c⟩ ⟨U, z', c'⟩ w) := by
 have HA : Hid (Arr w bA (8 * 6) (vF V)) := hA
 have HB : Hid (Arr w bB (8 * 6) (vF U)) := hB
 clear hA hB
 go_enter Tryz.func95, Tryz.ntmps95
 go_upto_region 1 with fail
 obtain ⟨u, hu, pa, pb, bu⟩ : ∃ y, (w.alloc (.cells #[.slice (some ⟨bA, 0, none⟩) 8 cA, .int .i64 z, .int .i64 c] 31)).alloc (.cells #[.slice (some ⟨bB, 0, none⟩) 8 cB, .int .i64 z', .int .i64 c'] 31) = y /\ V3 y w.heap.size 31 (.slice (some ⟨bA, 0, none⟩) 8 cA) (.int .i64 z) (.int .i64 c) /\ V3 y (w.heap.size + 1) 31 (.slice (some ⟨bB, 0, none⟩) 8 cB) (.int .i64 z') (.int .i64 c') /\ Below w.heap.size w y := by
  refine ⟨_, rfl, (V3.new _ _ _ _ _).below ((Below.refl _ _).alloc (Nat.le_refl _) _), ?_, ((Below.refl _ _).alloc (Nat.le_refl _) _).alloc (by simp) _⟩
  have := V3.new (w.alloc (.cells #[.slice (some ⟨bA, 0, none⟩) 8 cA, .int .i64 z, .int .i64 c] 31)) 31 (.slice (some ⟨bB, 0, none⟩) 8 cB) (.int .i64 z') (.int .i64 c')
  simpa using this
 rw [hu]
 have RA : Hid (Arr u bA (8 * 6) (vF V)) := HA.out.below bu HA.out.lt
 have RB : Hid (Arr u bB (8 * 6) (vF U)) := HB.out.below bu HB.out.lt
 have BU : Hid (Below w.heap.size w u) := bu
 obtain ⟨a0, a1, a2⟩ := pa.cells
 obtain ⟨b0, b1, b2⟩ := pb.cells
 have al := pa.lt
 have bl := pb.lt
 have PA : Hid (V3 u w.heap.size 31 (.slice (some ⟨bA, 0, none⟩) 8 cA) (.int .i64 z) (.int .i64 c)) := pa
 have PB : Hid (V3 u (w.heap.size + 1) 31 (.slice (some ⟨bB, 0, none⟩) 8 cB) (.int .i64 z') (.int .i64 c')) := pb
 clear hu pa pb bu
 obtain ⟨ba, hba⟩ : ∃ y, w.heap.size = y := ⟨_, rfl⟩
 obtain ⟨bb, hbb⟩ : ∃ y, w.heap.size + 1 = y := ⟨_, rfl⟩
 rw [hbb] at PB b0 b1 b2 bl ⊢
 rw [hba] at PA a0 a1 a2 al ⊢
 by_cases ez : z = z'
 rotate_left
 ·have f0 : (z != z') = true := by simp [ez]
  have EZ : Hid (¬ z = z') := ez
  clear ez
  go_wp2
  go_ret
  exact ⟨false, rfl, fun h => absurd h (by decide), fun _ h => EZ.out h.1, BU.out⟩
 by_cases ec : c = c'
 rotate_left
 ·have f0 : (z != z') = false := by simp [ez]
  have f1 : (c != c') = true := by simp [ec]
  have EC : Hid (¬ c = c') := ec
  clear ez ec
  go_wp2
  go_ret
  exact ⟨false, rfl, fun h => absurd h (by decide), fun _ h => EC.out h.2.1, BU.out⟩
 have f0 : (z != z') = false := by simp [ez]
 have f1 : (c != c') = false := by simp [ec]
 have EZ : Hid (z = z' /\ c = c') := ⟨ez, ec⟩
 clear ez ec
 go_wp2
 clear a0 a1 a2 b0 b1 b2 al bl
 go_loopw [5] (fun i wr => ∃ k : Nat, k <= 8 /\ i = .int .i64 k /\ (∀ j, j < k -> V j = U j) /\ Below u.heap.size u wr) (fun i _ => 8 - (intOf i).toNat)
 case atStart => exact ⟨0, by omega, rfl, fun j hj => by omega, Below.refl _ _⟩
 case round =>
  obtain ⟨k, hk, rfl, hal, hbr⟩ := hrel
  have HAL : Hid (∀ j, j < k -> V j = U j) := hal
  clear hal
  have HBR : Hid (Below u.heap.size u wr) := hbr
  by_cases hlt : k < 8
  ·obtain ⟨a0, _, _⟩ := (PA.out.below hbr).cells
   obtain ⟨b0, _, _⟩ := (PB.out.below hbr).cells
   have al := (PA.out.below hbr).lt
   have bl := (PB.out.below hbr).lt
   obtain ⟨g0, g1, g2, g3, g4, g5⟩ := v_at (RA.out.below hbr RA.out.lt) hlt
   obtain ⟨q0, q1, q2, q3, q4, q5⟩ := v_at (RB.out.below hbr RB.out.lt) hlt
   have gl := (RA.out.below hbr RA.out.lt).lt
   have ql := (RB.out.below hbr RB.out.lt).lt
   have hlt' : (k : Int) < 8 := by omega
   clear hbr
   obtain ⟨x, hx⟩ : ∃ y : VV, V k = y := ⟨_, rfl⟩
   obtain ⟨y, hy⟩ : ∃ y : VV, U k = y := ⟨_, rfl⟩
   rw [hx] at g0 g1 g2 g3 g4 g5
   rw [hy] at q0 q1 q2 q3 q4 q5
   obtain ⟨x0, x1, x2, x3, x4, x5⟩ := x
   obtain ⟨y0, y1, y2, y3, y4, y5⟩ := y
   dsimp only at g0 g1 g2 g3 g4 g5 q0 q1 q2 q3 q4 q5
   have HXY : Hid (V k = ⟨x0, x1, x2, x3, x4, x5⟩ /\ U k = ⟨y0, y1, y2, y3, y4, y5⟩) := ⟨hx, hy⟩
   clear hx hy
   by_cases e0 : x0 = y0
   rotate_left
   ·have f0 : (x0 == y0) = false := by simpa using e0
    have NE : Hid (¬ x0 = y0) := e0
    clear e0
    go_wp2_with fail
    go_quiet (fail)
    clear g0 g1 g2 g3 g4 g5 q0 q1 q2 q3 q4 q5 a0 b0 al bl gl ql
    go_wp2
    go_ret
    exact ⟨false, rfl, fun h => absurd h (by decide), fun _ h => NE.out (by have := h.2.2 k hlt; dsimp only at this; rw [HXY.out.1, HXY.out.2] at this; injection this), BU.out.trans ((HBR.out.trans (below_drewN (Below.refl _ _) _)).mono BU.out.size)⟩
   subst e0
   by_cases e1 : x1 = y1
   rotate_left
   ·have f1 : (x1 == y1) = false := by simpa using e1
    have NE : Hid (¬ x1 = y1) := e1
    clear e1
    go_wp2_with fail
    go_quiet (fail)
    clear g0 g1 g2 g3 g4 g5 q0 q1 q2 q3 q4 q5 a0 b0 al bl gl ql
    go_wp2
    go_ret
    exact ⟨false, rfl, fun h => absurd h (by decide), fun _ h => NE.out (by have := h.2.2 k hlt; dsimp only at this; rw [HXY.out.1, HXY.out.2] at this; injection this), BU.out.trans ((HBR.out.trans (below_drewN (Below.refl _ _) _)).mono BU.out.size)⟩
   subst e1
   by_cases e2 : x2 = y2
   rotate_left
   ·have f2 : (x2 == y2) = false := by simpa using e2
    have NE : Hid (¬ x2 = y2) := e2
    clear e2
    go_wp2_with fail
    go_quiet (fail)
    clear g0 g1 g2 g3 g4 g5 q0 q1 q2 q3 q4 q5 a0 b0 al bl gl ql
    go_wp2
    go_ret
    exact ⟨false, rfl, fun h => absurd h (by decide), fun _ h => NE.out (by have := h.2.2 k hlt; dsimp only at this; rw [HXY.out.1, HXY.out.2] at this; injection this), BU.out.trans ((HBR.out.trans (below_drewN (Below.refl _ _) _)).mono BU.out.size)⟩
   subst e2
   by_cases e3 : x3 = y3
   rotate_left
   ·have f3 : (x3 == y3) = false := by simpa using e3
    have NE : Hid (¬ x3 = y3) := e3
    clear e3
    go_wp2_with fail
    go_quiet (fail)
    clear g0 g1 g2 g3 g4 g5 q0 q1 q2 q3 q4 q5 a0 b0 al bl gl ql
    go_wp2
    go_ret
    exact ⟨false, rfl, fun h => absurd h (by decide), fun _ h => NE.out (by have := h.2.2 k hlt; dsimp only at this; rw [HXY.out.1, HXY.out.2] at this; injection this), BU.out.trans ((HBR.out.trans (below_drewN (Below.refl _ _) _)).mono BU.out.size)⟩
   subst e3
   by_cases e4 : x4 = y4
   rotate_left
   ·have f4 : (x4 == y4) = false := by simpa using e4
    have NE : Hid (¬ x4 = y4) := e4
    clear e4
    go_wp2_with fail
    go_quiet (fail)
    clear g0 g1 g2 g3 g4 g5 q0 q1 q2 q3 q4 q5 a0 b0 al bl gl ql
    go_wp2
    go_ret
    exact ⟨false, rfl, fun h => absurd h (by decide), fun _ h => NE.out (by have := h.2.2 k hlt; dsimp only at this; rw [HXY.out.1, HXY.out.2] at this; injection this), BU.out.trans ((HBR.out.trans (below_drewN (Below.refl _ _) _)).mono BU.out.size)⟩
   subst e4
   by_cases e5 : x5 = y5
   rotate_left
   ·have f5 : (x5 == y5) = false := by simpa using e5
    have NE : Hid (¬ x5 = y5) := e5
    clear e5
    go_wp2_with fail
    go_quiet (fail)
    clear g0 g1 g2 g3 g4 g5 q0 q1 q2 q3 q4 q5 a0 b0 al bl gl ql
    go_wp2
    go_ret
    exact ⟨false, rfl, fun h => absurd h (by decide), fun _ h => NE.out (by have := h.2.2 k hlt; dsimp only at this; rw [HXY.out.1, HXY.out.2] at this; injection this), BU.out.trans ((HBR.out.trans (below_drewN (Below.refl _ _) _)).mono BU.out.size)⟩
   subst e5
   go_wp2_with fail
   go_quiet (fail)
   clear g0 g1 g2 g3 g4 g5 q0 q1 q2 q3 q4 q5 a0 b0 al bl gl ql
   go_wp2
   go_roundw
   case rel => exact ⟨k + 1, by omega, by go_num, fun j hj => (by
     by_cases e : j = k
     · rw [e, HXY.out.1, HXY.out.2]
     · exact HAL.out j (by omega)), HBR.out.trans (below_drewN (Below.refl _ _) _)⟩
   case measure => simp [intOf]; omega
  ·go_wp2
   go_ret
   exact ⟨true, rfl, fun _ => ⟨EZ.out.1, EZ.out.2, fun i hi => HAL.out i (by omega)⟩, fun h => absurd h (by decide), BU.out.trans (hbr.mono BU.out.size)⟩
end Go.Proofs.YtcgcldokompafaaGreatDoor
