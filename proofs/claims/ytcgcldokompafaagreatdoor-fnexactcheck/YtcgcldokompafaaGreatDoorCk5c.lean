import Derived.Test.YtcgcldokompafaaGreatDoorCk5b
/- The model's check of loops. -/
namespace Go.Proofs.YtcgcldokompafaaGreatDoor
open Go.RowKit Go.Deep
def sv0 : SV := ⟨0, 0, 0, 0, 0, 0, 0, 0, 0, 0, 0⟩
def lst (xs : List SV) (i : Nat) : SV := xs.getD i sv0
structure WlC (P : List SV -> Prop) : Prop where
 nil : P []
 ins : ∀ {s : SV} {xs : List SV}, s.k = 1 -> s.thn = 0 -> s.els = 0 -> P xs -> P (s :: xs)
 node : ∀ {s : SV} {x y xs : List SV}, s.k ≠ 1 -> s.thn = (x.length : Int) -> s.els = (y.length : Int) -> P x -> P y -> P xs -> P (s :: (x ++ y ++ xs))
def Wl (xs : List SV) : Prop := ∀ P, WlC P -> P xs
theorem Wl.nil : Wl [] := fun _ c => c.nil
theorem Wl.ins {s : SV} {xs : List SV} (h1 : s.k = 1) (h2 : s.thn = 0) (h3 : s.els = 0) (h : Wl xs) : Wl (s :: xs) := fun P c => c.ins h1 h2 h3 (h P c)
theorem Wl.node {s : SV} {x y xs : List SV} (h1 : s.k ≠ 1) (h2 : s.thn = (x.length : Int)) (h3 : s.els = (y.length : Int)) (a : Wl x) (b : Wl y) (h : Wl xs) : Wl (s :: (x ++ y ++ xs)) := fun P c => c.node h1 h2 h3 (a P c) (b P c) (h P c)
theorem Wl.inv {xs : List SV} (h : Wl xs) : xs = [] ∨ (∃ s ys, xs = s :: ys /\ s.k = 1 /\ s.thn = 0 /\ s.els = 0 /\ Wl ys) ∨ ∃ s x y ys, xs = s :: (x ++ y ++ ys) /\ s.k ≠ 1 /\ s.thn = (x.length : Int) /\ s.els = (y.length : Int) /\ Wl x /\ Wl y /\ Wl ys :=
 (h (fun xs => Wl xs /\ (xs = [] ∨ (∃ s ys, xs = s :: ys /\ s.k = 1 /\ s.thn = 0 /\ s.els = 0 /\ Wl ys) ∨ ∃ s x y ys, xs = s :: (x ++ y ++ ys) /\ s.k ≠ 1 /\ s.thn = (x.length : Int) /\ s.els = (y.length : Int) /\ Wl x /\ Wl y /\ Wl ys))
   ⟨⟨.nil, .inl rfl⟩, fun h1 h2 h3 h => ⟨.ins h1 h2 h3 h.1, .inr (.inl ⟨_, _, rfl, h1, h2, h3, h.1⟩)⟩, fun h1 h2 h3 a b h => ⟨.node h1 h2 h3 a.1 b.1 h.1, .inr (.inr ⟨_, _, _, _, rfl, h1, h2, h3, a.1, b.1, h.1⟩)⟩⟩).2
def SL (w : World) (v : Value) (xs : List SV) : Prop := ∃ ao cap, v = .slice ao xs.length cap /\ xs.length <= cap /\ InRow w ao (xs.length * 11) (stF (lst xs))
theorem SL.below {w w' : World} {v : Value} {xs : List SV} (h : SL w v xs) (hb : Below w.heap.size w w') : SL w' v xs := by
 obtain ⟨ao, cap, h1, h2, h3⟩ := h
 exact ⟨ao, cap, h1, h2, h3.below hb (Nat.le_refl _)⟩
theorem SL.below_of {w w' : World} {v : Value} {xs : List SV} (h : SL w v xs) (hb : Below w.heap.size w w') : SL w' v xs := h.below hb
theorem lst_sub (xs : List SV) (i m : Nat) (j : Nat) (hj : j < m * 11) : stF (lst xs) (i * 11 + j) = stF (lst ((xs.drop i).take m)) j := by
 unfold stF lst
 rw [show (i * 11 + j) / 11 = i + j / 11 by omega, show (i * 11 + j) % 11 = j % 11 by omega]
 have : j / 11 < m := by omega
 simp only [List.getD_eq_getElem?_getD, List.getElem?_take, List.getElem?_drop, this, if_true]
theorem At.sub {w : World} {b off : Nat} {xs : List SV} (h : At w b off (xs.length * 11) (stF (lst xs))) (i m : Nat) (hm : i + m <= xs.length) : At w b (off + i * 11) (m * 11) (stF (lst ((xs.drop i).take m))) :=
 ⟨h.lt, fun j hj => by rw [Nat.add_assoc, h.cell (by omega), lst_sub xs i m j hj]⟩
def AbIn (R : CR) (rounds : Int) (nH : Nat) (S : Nat -> HS) (V0 : Nat -> VV) (bA : Nat) (B : Nat) (w : World) (v : Value) (z c : Int) : Prop :=
 ∃ (g cg : Nat) (V : Nat -> VV), v = .slice (some ⟨g, 0, none⟩) 8 cg /\ (g = bA ∨ B <= g) /\ Arr w g (8 * 6) (vF V) /\ absOK nH S 8 V0 8 V z c = true /\ R = .ok ⟨V, z, c⟩ rounds
def BadIs (R : CR) (err at' : Int) : Prop := (err ≠ 0 -> R = .bad err at') /\ (err = 0 -> at' = 0)
def BlkR (R : CR) (nH : Nat) (S : Nat -> HS) (V0 : Nat -> VV) (bA : Nat) (w : World) (e : Ending) (w' : World) : Prop :=
 ∃ (err at' : Int) (ao : Option Addr) (m cap : Nat) (z c rounds : Int), e = .returned (outV err at' (.slice ao m cap) z c rounds) /\ 0 <= rounds /\ rounds <= 1000 /\ BadIs R err at' /\ (err = 0 -> AbIn R rounds nH S V0 bA w.heap.size w' (.slice ao m cap) z c) /\ Below w.heap.size w w'
def BC (xs : List SV) : Prop := ∀ (bH cH nH : Nat) (S : Nat -> HS) (bR cR : Nat) (V0 : Nat -> VV) (bA cA : Nat) (V : Nat -> VV) (z c at' rounds : Int) (v : Value) (w : World), nH <= 1048576 -> SigCp w bH nH S bR 8 V0 -> Arr w bA (8 * 6) (vF V) -> absOK nH S 8 V0 8 V z c = true -> SL w v xs -> 0 <= rounds -> rounds <= 1000 -> 0 <= at' -> at' + (xs.length : Int) <= 2097152 ->
 Calls Tryz.prog 21 #[.agg #[.slice (some ⟨bH, 0, none⟩) nH cH, .slice (some ⟨bR, 0, none⟩) 8 cR], v, .int .i64 at', .agg #[.slice (some ⟨bA, 0, none⟩) 8 cA, .int .i64 z, .int .i64 c], .int .i64 rounds] w (BlkR (ckL ⟨nH, S, V0⟩ xs at' ⟨V, z, c⟩ rounds) nH S V0 bA w)
def oz : Array Value := #[.int .i64 0, .int .i64 0, .slice none 0 0, .int .i64 0, .int .i64 0, .int .i64 0]
structure LX (w : World) (bH cH nH : Nat) (S : Nat -> HS) (bR cR : Nat) (V0 : Nat -> VV) (b0 : Nat) (bs bh br bA cA : Nat) (V : Nat -> VV) (z c : Int) (u : World) : Prop where
 bel : Below w.heap.size w u
 sg : u.heap[bs]? = some (.cells #[.slice (some ⟨bH, 0, none⟩) nH cH, .slice (some ⟨bR, 0, none⟩) 8 cR] 37)
 hd : V3 u bh 31 (.slice (some ⟨bA, 0, none⟩) 8 cA) (.int .i64 z) (.int .i64 c)
 R : u.heap[br]? = some (.cells oz 53)
 sc : SigCp u bH nH S bR 8 V0
 A : Arr u bA (8 * 6) (vF V)
 ok : absOK nH S 8 V0 8 V z c = true
 nw : bA = b0 ∨ w.heap.size <= bA
 ne : bA ≠ br
 o1 : w.heap.size = bs
 o2 : bs < bh
 o3 : bh < br
section
variable {w : World} {bH cH nH : Nat} {S : Nat -> HS} {bR cR : Nat} {V0 : Nat -> VV} {b0 bs bh br bA cA : Nat} {V : Nat -> VV} {z c : Int} {u u' : World}
theorem LX.below (h : LX w bH cH nH S bR cR V0 b0 bs bh br bA cA V z c u) (f : Below u.heap.size u u') : LX w bH cH nH S bR cR V0 b0 bs bh br bA cA V z c u' :=
 ⟨h.bel.trans (f.mono h.bel.size), hq_below h.sg f, h.hd.below f, hq_below h.R f, h.sc.below f, h.A.below f h.A.lt, h.ok, h.nw, h.ne, h.o1, h.o2, h.o3⟩
theorem LX.cells (h : LX w bH cH nH S bR cR V0 b0 bs bh br bA cA V z c u) : (u.cell? ⟨bs, 0, none⟩ = some (.slice (some ⟨bH, 0, none⟩) nH cH) /\ u.cell? ⟨bs, 1, none⟩ = some (.slice (some ⟨bR, 0, none⟩) 8 cR)) /\ (u.cell? ⟨bh, 0, none⟩ = some (.slice (some ⟨bA, 0, none⟩) 8 cA) /\ u.cell? ⟨bh, 1, none⟩ = some (.int .i64 z) /\ u.cell? ⟨bh, 2, none⟩ = some (.int .i64 c)) /\ bs < u.heap.size /\ bh < u.heap.size :=
 ⟨⟨(hq_cell h.sg 0).trans rfl, (hq_cell h.sg 1).trans rfl⟩, h.hd.cells, hq_lt h.sg, h.hd.lt⟩
theorem LX.res (h : LX w bH cH nH S bR cR V0 b0 bs bh br bA cA V z c u) : u.cell? ⟨br, 0, none⟩ = some (.int .i64 0) /\ u.cell? ⟨br, 1, none⟩ = some (.int .i64 0) /\ u.cell? ⟨br, 2, none⟩ = some (.slice none 0 0) /\ u.cell? ⟨br, 3, none⟩ = some (.int .i64 0) /\ u.cell? ⟨br, 4, none⟩ = some (.int .i64 0) /\ u.cell? ⟨br, 5, none⟩ = some (.int .i64 0) /\ (∀ i, u.frozen? ⟨br, i, none⟩ = false) /\ br < u.heap.size :=
 ⟨(hq_cell h.R 0).trans rfl, (hq_cell h.R 1).trans rfl, (hq_cell h.R 2).trans rfl, (hq_cell h.R 3).trans rfl, (hq_cell h.R 4).trans rfl, (hq_cell h.R 5).trans rfl, hq_free h.R, hq_lt h.R⟩
theorem LX.put (h : LX w bH cH nH S bR cR V0 b0 bs bh br bA cA V z c u) {g cg : Nat} {U : Nat -> VV} {z' c' : Int} (hg : Arr u g (8 * 6) (vF U)) (ok : absOK nH S 8 V0 8 U z' c' = true) (nw : g = b0 ∨ w.heap.size <= g) (ne : g ≠ br) (nh : g ≠ bh) (n1 : bH ≠ bh) (n2 : bR ≠ bh) : LX w bH cH nH S bR cR V0 b0 bs bh br g cg U z' c' (((u.setCell ⟨bh, 0, none⟩ (.slice (some ⟨g, 0, none⟩) 8 cg)).setCell ⟨bh, 1, none⟩ (.int .i64 z')).setCell ⟨bh, 2, none⟩ (.int .i64 c')) := by
 have o1 := h.o1
 have o2 := h.o2
 have o3 := h.o3
 refine ⟨?_, hq_other (hq_other (hq_other h.sg (by omega) _ _) (by omega) _ _) (by omega) _ _, h.hd.set _ _ _, hq_other (hq_other (hq_other h.R (by omega) _ _) (by omega) _ _) (by omega) _ _, ⟨((h.sc.h.other ?_ _).other ?_ _).other ?_ _, ((h.sc.r.other ?_ _).other ?_ _).other ?_ _⟩, ((hg.other ?_ _).other ?_ _).other ?_ _, ok, nw, ne, o1, o2, o3⟩
 ·exact ((h.bel.setCell (p := ⟨bh, 0, none⟩) (show w.heap.size <= bh by omega) _).setCell (p := ⟨bh, 1, none⟩) (show w.heap.size <= bh by omega) _).setCell (p := ⟨bh, 2, none⟩) (show w.heap.size <= bh by omega) _
 all_goals first | exact fun e => n1 e.symm | exact fun e => n2 e.symm | exact fun e => nh e.symm
def set6 (u : World) (b : Nat) (a0 a1 a2 a3 a4 a5 : Value) : World := (((((u.setCell ⟨b, 0, none⟩ a0).setCell ⟨b, 1, none⟩ a1).setCell ⟨b, 2, none⟩ a2).setCell ⟨b, 3, none⟩ a3).setCell ⟨b, 4, none⟩ a4).setCell ⟨b, 5, none⟩ a5
theorem below_set6 {B b : Nat} {w u : World} (h : Below B w u) (hb : B <= b) (a0 a1 a2 a3 a4 a5 : Value) : Below B w (set6 u b a0 a1 a2 a3 a4 a5) :=
 (((((h.setCell (p := ⟨b, 0, none⟩) hb _).setCell (p := ⟨b, 1, none⟩) hb _).setCell (p := ⟨b, 2, none⟩) hb _).setCell (p := ⟨b, 3, none⟩) hb _).setCell (p := ⟨b, 4, none⟩) hb _).setCell (p := ⟨b, 5, none⟩) hb _
theorem arr_set6 {b g n : Nat} {f : Nat -> Value} {u : World} (h : Arr u g n f) (hn : g ≠ b) (a0 a1 a2 a3 a4 a5 : Value) : Arr (set6 u b a0 a1 a2 a3 a4 a5) g n f :=
 (((((h.other (fun e => hn e.symm) _).other (fun e => hn e.symm) _).other (fun e => hn e.symm) _).other (fun e => hn e.symm) _).other (fun e => hn e.symm) _).other (fun e => hn e.symm) _
end
theorem lx_new (w : World) {bH cH nH : Nat} {S : Nat -> HS} {bR cR : Nat} {V0 : Nat -> VV} {bA cA : Nat} {V : Nat -> VV} {z c : Int} (h1 : SigCp w bH nH S bR 8 V0) (h2 : Arr w bA (8 * 6) (vF V)) (h3 : absOK nH S 8 V0 8 V z c = true) :
  LX w bH cH nH S bR cR V0 bA w.heap.size (w.heap.size + 1) (w.heap.size + 1 + 1) bA cA V z c (((w.alloc (.cells #[.slice (some ⟨bH, 0, none⟩) nH cH, .slice (some ⟨bR, 0, none⟩) 8 cR] 37)).alloc (.cells #[.slice (some ⟨bA, 0, none⟩) 8 cA, .int .i64 z, .int .i64 c] 31)).alloc (.cells oz 53)) := by
 have n0 := hq_new w (.cells #[.slice (some ⟨bH, 0, none⟩) nH cH, .slice (some ⟨bR, 0, none⟩) 8 cR] 37)
 generalize hx : w.alloc (.cells #[.slice (some ⟨bH, 0, none⟩) nH cH, .slice (some ⟨bR, 0, none⟩) 8 cR] 37) = x at *
 have s0 : x.heap.size = w.heap.size + 1 := by rw [<- hx]; simp
 have b0 : Below w.heap.size w x := by rw [<- hx]; exact (Below.refl _ _).alloc (Nat.le_refl _) _
 have n1 := V3.new x 31 (.slice (some ⟨bA, 0, none⟩) 8 cA) (.int .i64 z) (.int .i64 c)
 generalize hy : x.alloc (.cells #[.slice (some ⟨bA, 0, none⟩) 8 cA, .int .i64 z, .int .i64 c] 31) = y at *
 have s1 : y.heap.size = w.heap.size + 1 + 1 := by rw [<- hy]; simp [s0]
 have b1 : Below x.heap.size x y := by rw [<- hy]; exact (Below.refl _ _).alloc (Nat.le_refl _) _
 have n2 := hq_new y (.cells oz 53)
 have b2 : Below y.heap.size y (y.alloc (.cells oz 53)) := (Below.refl _ _).alloc (Nat.le_refl _) _
 have bb : Below w.heap.size w (y.alloc (.cells oz 53)) := (b0.trans (b1.mono (by omega))).trans (b2.mono (by omega))
 rw [s0] at n1
 rw [s1] at n2
 exact ⟨bb, hq_below (hq_below n0 b1) b2, n1.below b2, n2, h1.below bb, h2.below bb h2.lt, h3, Or.inl rfl, by have := h2.lt; omega, rfl, by omega, by omega⟩

section
variable {body : FS -> Int -> CR} {cond here : Int} {k : Nat} {F B J : FS} {r r' : Int} {RR : CR}
theorem loop_one (h : (k : Int) < 20) : 20 - k = (20 - (k + 1)) + 1 := by omega
theorem loop_end (i : loopF body cond here (20 - k) F r = RR) (h : ¬ (k : Int) < 20) : RR = .bad 10 here := by
 rw [<- i, show 20 - k = 0 by omega]; rfl
theorem loop_full (i : loopF body cond here (20 - k) F r = RR) (h : (k : Int) < 20) (hr : ¬ r < 1000) : RR = .bad 10 here := by
 rw [<- i, loop_one h, loopF, if_pos (by omega)]
theorem loop_flag (i : loopF body cond here (20 - k) F r = RR) (h : (k : Int) < 20) (hr : r < 1000) {f : Int} (hf : cfl F cond = f) (h0 : ¬ f = 0) : RR = .bad f here := by
 rw [<- i, loop_one h, loopF, if_neg (by omega), if_pos (by omega), hf]
theorem loop_bad (i : loopF body cond here (20 - k) F r = RR) (h : (k : Int) < 20) (hr : r < 1000) (hf : cfl F cond = 0) {e a : Int} (hb : body F (r + 1) = .bad e a) : RR = .bad e a := by
 rw [<- i, loop_one h, loopF, if_neg (by omega), if_neg (by omega), hb]
theorem loop_same (i : loopF body cond here (20 - k) F r = RR) (h : (k : Int) < 20) (hr : r < 1000) (hf : cfl F cond = 0) (hb : body F (r + 1) = .ok B r') (hj : jF F B = J) (hs : sameP J F) : RR = .ok F r' := by
 rw [<- i, loop_one h, loopF, if_neg (by omega), if_neg (by omega), hb]
 dsimp only
 rw [hj, if_pos (sameB_iff.2 hs)]
theorem loop_next (i : loopF body cond here (20 - k) F r = RR) (h : (k : Int) < 20) (hr : r < 1000) (hf : cfl F cond = 0) (hb : body F (r + 1) = .ok B r') (hj : jF F B = J) (hs : ¬ sameP J F) : loopF body cond here (20 - (k + 1)) J r' = RR := by
 rw [<- i, loop_one h, loopF, if_neg (by omega), if_neg (by omega), hb]
 dsimp only
 rw [hj, if_neg fun q => hs (sameB_iff.1 q)]
end
set_option maxRecDepth 20000 in
set_option maxHeartbeats 16000000 in
theorem l5Loop_any (xs : List SV) (IH : BC xs) (bH cH nH : Nat) (S : Nat -> HS) (bR cR : Nat) (V0 : Nat -> VV) (bA cA : Nat) (V : Nat -> VV) (z c cond here rounds : Int) (v : Value) (w : World) (lH : nH <= 1048576) (h1 : SigCp w bH nH S bR 8 V0) (h2 : Arr w bA (8 * 6) (vF V)) (h3 : absOK nH S 8 V0 8 V z c = true) (h4 : SL w v xs) (r0 : 0 <= rounds) (r1 : rounds <= 1000) (a0 : 0 <= here) (a1 : here + 1 + (xs.length : Int) <= 2097152) :
  Calls Tryz.prog 74 #[.agg #[.slice (some ⟨bH, 0, none⟩) nH cH, .slice (some ⟨bR, 0, none⟩) 8 cR], v, .int .i64 cond, .int .i64 here, .agg #[.slice (some ⟨bA, 0, none⟩) 8 cA, .int .i64 z, .int .i64 c], .int .i64 rounds] w (BlkR (loopF (fun B q => ckL ⟨nH, S, V0⟩ xs (here + 1) B q) cond here 20 ⟨V, z, c⟩ rounds) nH S V0 bA w) := by
 obtain ⟨RR, hRR⟩ : ∃ x, loopF (fun B q => ckL ⟨nH, S, V0⟩ xs (here + 1) B q) cond here 20 ⟨V, z, c⟩ rounds = x := ⟨_, rfl⟩
 rw [hRR]
 have INV0 : Hid (loopF (fun B q => ckL ⟨nH, S, V0⟩ xs (here + 1) B q) cond here (20 - 0) ⟨V, z, c⟩ rounds = RR) := hRR
 clear hRR
 have N1 : Hid (bH < w.heap.size /\ bR < w.heap.size) := ⟨h1.h.lt, h1.r.lt⟩
 have HL : Hid (SL w v xs) := h4
 have LL : Hid (nH <= 1048576) := lH
 have X0 : Hid (LX w bH cH nH S bR cR V0 bA w.heap.size (w.heap.size + 1) (w.heap.size + 1 + 1) bA cA V z c (((w.alloc (.cells #[.slice (some ⟨bH, 0, none⟩) nH cH, .slice (some ⟨bR, 0, none⟩) 8 cR] 37)).alloc (.cells #[.slice (some ⟨bA, 0, none⟩) 8 cA, .int .i64 z, .int .i64 c] 31)).alloc (.cells oz 53))) := lx_new w h1 h2 h3
 obtain ⟨va, vc, rfl, _, _⟩ := h4
 clear h1 h2 h3 lH
 go_enter Tryz.func74, Tryz.ntmps74
 go_upto_region 1 with fail
 unfold oz at X0
 obtain ⟨u, hu⟩ : ∃ y, ((w.alloc (.cells #[.slice (some ⟨bH, 0, none⟩) nH cH, .slice (some ⟨bR, 0, none⟩) 8 cR] 37)).alloc (.cells #[.slice (some ⟨bA, 0, none⟩) 8 cA, .int .i64 z, .int .i64 c] 31)).alloc (.cells #[.int .i64 0, .int .i64 0, .slice none 0 0, .int .i64 0, .int .i64 0, .int .i64 0] 53) = y := ⟨_, rfl⟩
 rw [hu] at X0 ⊢
 obtain ⟨bs, hbs⟩ : ∃ y, w.heap.size = y := ⟨_, rfl⟩
 obtain ⟨bh, hbh⟩ : ∃ y, w.heap.size + 1 = y := ⟨_, rfl⟩
 obtain ⟨br, hbr⟩ : ∃ y, w.heap.size + 1 + 1 = y := ⟨_, rfl⟩
 have X0 : Hid (LX w bH cH nH S bR cR V0 bA bs bh br bA cA V z c u) := by rw [<- hbs, <- hbh, <- hbr]; exact X0
 rw [hbr, hbh, hbs]
 have BO : Hid (w.heap.size = bs /\ bs < bh /\ bh < br) := ⟨hbs, by omega, by omega⟩
 clear hu hbs hbh hbr
 go_wp2_with fail
 go_loopw [5, 13] (fun rv kv wr => ∃ (k : Nat) (rounds : Int) (g cg : Nat) (U : Nat -> VV) (z' c' : Int), rv = .int .i64 rounds /\ kv = .int .i64 k /\ k <= 20 /\ 0 <= rounds /\ rounds <= 1000 /\ Hid (loopF (fun B q => ckL ⟨nH, S, V0⟩ xs (here + 1) B q) cond here (20 - k) ⟨U, z', c'⟩ rounds = RR) /\ LX w bH cH nH S bR cR V0 bA bs bh br g cg U z' c' wr) (fun _ kv _ => 20 - (intOf kv).toNat)
 case atStart => exact ⟨0, rounds, bA, cA, V, z, c, rfl, rfl, by omega, r0, r1, INV0, X0.out⟩
 case round =>
  clear X0 r0 r1 INV0
  obtain ⟨k, rounds, g, cg, U, z', c', rfl, rfl, hk, r0, r1, INV, x⟩ := hrel
  have X : Hid (LX w bH cH nH S bR cR V0 bA bs bh br g cg U z' c' wr) := x
  clear x
  by_cases hlt : (k : Int) < 20 /\ rounds < 1000
  rotate_left
  ·have BAD : ∀ t, Below wr.heap.size wr t -> Hid (LX w bH cH nH S bR cR V0 bA bs bh br g cg U z' c' t) := fun t h => X.out.below h
   by_cases hk20 : (k : Int) < 20
   ·have hr : ¬ rounds < 1000 := fun h => hlt ⟨hk20, h⟩
    go_wp2_with fail
    refine (l5Bad_any _ _ _ _).mono ?_
    rintro e t ⟨rfl, hb⟩
    have Y := BAD t hb
    obtain ⟨y0, y1, y2, y3, y4, y5, yf, yl⟩ := Y.out.res
    unfold outV
    go_wp2_with fail
    refine bodyPost_ret (v := outV 10 here (.slice none 0 0) 0 0 rounds) (by simp [results, Tryz.results74, go_sem, outV, *]) rfl ⟨10, here, none, 0, 0, 0, 0, rounds, rfl, r0, r1, ⟨fun _ => loop_full INV.out hk20 (by omega), fun e => absurd e (by decide)⟩, fun e => absurd e (by decide), ?_⟩
    exact below_set6 Y.out.bel (by have := BO.out; omega) _ _ _ _ _ _
   ·go_wp2_with fail
    refine (l5Bad_any _ _ _ _).mono ?_
    rintro e t ⟨rfl, hb⟩
    have Y := BAD t hb
    obtain ⟨y0, y1, y2, y3, y4, y5, yf, yl⟩ := Y.out.res
    unfold outV
    go_wp2_with fail
    refine bodyPost_ret (v := outV 10 here (.slice none 0 0) 0 0 rounds) (by simp [results, Tryz.results74, go_sem, outV, *]) rfl ⟨10, here, none, 0, 0, 0, 0, rounds, rfl, r0, r1, ⟨fun _ => loop_end INV.out (by omega), fun e => absurd e (by decide)⟩, fun e => absurd e (by decide), ?_⟩
    exact below_set6 Y.out.bel (by have := BO.out; omega) _ _ _ _ _ _
  obtain ⟨hk20, hr1000⟩ := hlt
  obtain ⟨_, ⟨c0, c1, c2⟩, cl1, cl2⟩ := X.out.cells
  go_wp2_with fail
  refine (l5Flag_any _ _ _ U _ _ _ _).mono ?_
  rintro e t1 ⟨rfl, hb⟩
  obtain ⟨fr, hfr⟩ : ∃ x, cfl ⟨U, z', c'⟩ cond = x := ⟨_, rfl⟩
  rw [hfr]
  have HFR : Hid (cfl ⟨U, z', c'⟩ cond = fr) := hfr
  clear hfr
  have X1 : Hid (LX w bH cH nH S bR cR V0 bA bs bh br g cg U z' c' t1) := X.out.below hb
  clear hb X c0 c1 c2 cl1 cl2
  by_cases hf : fr = 0
  rotate_left
  ·go_wp2_with fail
   refine (l5Bad_any _ _ _ _).mono ?_
   rintro e t ⟨rfl, hb⟩
   have Y : Hid (LX w bH cH nH S bR cR V0 bA bs bh br g cg U z' c' t) := X1.out.below hb
   obtain ⟨y0, y1, y2, y3, y4, y5, yf, yl⟩ := Y.out.res
   unfold outV
   go_wp2_with fail
   refine bodyPost_ret (v := outV fr here (.slice none 0 0) 0 0 (rounds + 1)) (by simp [results, Tryz.results74, go_sem, outV, *]) rfl ⟨fr, here, none, 0, 0, 0, 0, rounds + 1, rfl, by omega, by omega, ⟨fun _ => loop_flag INV.out hk20 hr1000 HFR.out hf, fun e => absurd e hf⟩, fun e => absurd e hf, ?_⟩
   exact below_set6 Y.out.bel (by have := BO.out; omega) _ _ _ _ _ _
  subst hf
  obtain ⟨⟨s0, s1⟩, ⟨c0, c1, c2⟩, cl1, cl2⟩ := X1.out.cells
  go_wp2_with fail
  refine (IH bH cH nH S bR cR V0 g cg U z' c' (here + 1) (rounds + 1) _ t1 LL.out X1.out.sc X1.out.A X1.out.ok (HL.out.below_of X1.out.bel) (by omega) (by omega) (by omega) a1).mono ?_
  rintro e t2 ⟨err, at2, ao, m, cap, z2, c2', rr, rfl, q0, q1, hbd, hab, hb⟩
  have HRB : Hid (err ≠ 0 -> ckL ⟨nH, S, V0⟩ xs (here + 1) ⟨U, z', c'⟩ (rounds + 1) = .bad err at2) := hbd.1
  clear hbd
  have X2 : Hid (LX w bH cH nH S bR cR V0 bA bs bh br g cg U z' c' t2) := X1.out.below hb
  have T2 : Hid (t1.heap.size <= t2.heap.size) := hb.size
  have HAB : Hid (err = 0 -> AbIn (ckL ⟨nH, S, V0⟩ xs (here + 1) ⟨U, z', c'⟩ (rounds + 1)) rr nH S V0 g t1.heap.size t2 (.slice ao m cap) z2 c2') := hab
  clear hb hab s0 s1 c0 c1 c2 cl1 cl2
  unfold outV
  by_cases he : err = 0
  rotate_left
  ·obtain ⟨t3, ht3, b3⟩ : ∃ y, t2.alloc (.cells #[.int .i64 err, .int .i64 at2, .slice ao m cap, .int .i64 z2, .int .i64 c2', .int .i64 rr] 53) = y /\ Below t2.heap.size t2 y := ⟨_, rfl, (Below.refl _ _).alloc (Nat.le_refl _) _⟩
   have n3 := hq_new t2 (.cells #[.int .i64 err, .int .i64 at2, .slice ao m cap, .int .i64 z2, .int .i64 c2', .int .i64 rr] 53)
   rw [ht3] at n3
   have Y : Hid (LX w bH cH nH S bR cR V0 bA bs bh br g cg U z' c' t3) := X2.out.below b3
   obtain ⟨y0, y1, y2, y3, y4, y5, yf, yl⟩ := Y.out.res
   have v0 := (hq_cell n3 0).trans rfl
   have v1 := (hq_cell n3 1).trans rfl
   have v2 := (hq_cell n3 2).trans rfl
   have v3 := (hq_cell n3 3).trans rfl
   have v4 := (hq_cell n3 4).trans rfl
   have v5 := (hq_cell n3 5).trans rfl
   have vl := hq_lt n3
   go_upto_region 9 with fail
   clear ht3 b3 n3
   go_wp2_with fail
   refine bodyPost_ret (v := outV err at2 (.slice ao m cap) z2 c2' rr) (by simp [results, Tryz.results74, go_sem, outV, *]) rfl ⟨err, at2, ao, m, cap, z2, c2', rr, rfl, q0, q1, ⟨fun _ => loop_bad INV.out hk20 hr1000 HFR.out (HRB.out he), fun e => absurd e he⟩, fun e => absurd e he, ?_⟩
   exact below_set6 Y.out.bel (by have := BO.out; omega) _ _ _ _ _ _
  subst he
  obtain ⟨g2, cq, U2, hv2, nw2, A2, ok2, hER⟩ := HAB.out rfl
  have HER : Hid (ckL ⟨nH, S, V0⟩ xs (here + 1) ⟨U, z', c'⟩ (rounds + 1) = .ok ⟨U2, z2, c2'⟩ rr) := hER
  clear hER HRB
  simp only [Value.slice.injEq] at hv2
  obtain ⟨rfl, rfl, rfl⟩ := hv2
  have A2 : Hid (Arr t2 g2 (8 * 6) (vF U2)) := A2
  have NW2 : Hid (g2 = g ∨ t1.heap.size <= g2) := nw2
  have OK2 : Hid (absOK nH S 8 V0 8 U2 z2 c2' = true) := ok2
  clear nw2 ok2 HAB
  obtain ⟨t3, ht3, b3⟩ : ∃ y, t2.alloc (.cells #[.int .i64 0, .int .i64 at2, .slice (some ⟨g2, 0, none⟩) 8 cap, .int .i64 z2, .int .i64 c2', .int .i64 rr] 53) = y /\ Below t2.heap.size t2 y := ⟨_, rfl, (Below.refl _ _).alloc (Nat.le_refl _) _⟩
  have n3 := hq_new t2 (.cells #[.int .i64 0, .int .i64 at2, .slice (some ⟨g2, 0, none⟩) 8 cap, .int .i64 z2, .int .i64 c2', .int .i64 rr] 53)
  rw [ht3] at n3
  have X3 : Hid (LX w bH cH nH S bR cR V0 bA bs bh br g cg U z' c' t3) := X2.out.below b3
  have A3 : Hid (Arr t3 g2 (8 * 6) (vF U2)) := A2.out.below b3 A2.out.lt
  obtain ⟨_, ⟨c0, c1, c2⟩, cl1, cl2⟩ := X3.out.cells
  have v0 := (hq_cell n3 0).trans rfl
  have v2 := (hq_cell n3 2).trans rfl
  have v3 := (hq_cell n3 3).trans rfl
  have v4 := (hq_cell n3 4).trans rfl
  have v5 := (hq_cell n3 5).trans rfl
  have vl := hq_lt n3
  go_upto_region 9 with fail
  have B13 : Hid (t1.heap.size <= t3.heap.size) := (by have := b3.size; have := T2.out; omega : t1.heap.size <= t3.heap.size)
  clear ht3 b3 n3 X2 A2
  obtain ⟨no, hno⟩ : ∃ y, t2.heap.size = y := ⟨_, rfl⟩
  rw [hno] at v0 v2 v3 v4 v5 vl ⊢
  clear hno
  go_wp2_with fail
  refine (l5Join_any g cg U z' c' g2 cap U2 z2 c2' t3 X3.out.A A3.out).mono ?_
  rintro e t4 ⟨g4, cg4, rfl, ng4, A4, hb⟩
  have ok4 := FOk.join (G := ⟨nH, S, V0⟩) (F := ⟨U, z', c'⟩) (B := ⟨U2, z2, c2'⟩) X3.out.ok OK2.out
  obtain ⟨J, hJ⟩ : ∃ x, jF ⟨U, z', c'⟩ ⟨U2, z2, c2'⟩ = x := ⟨_, rfl⟩
  rw [hJ] at A4 ok4 ⊢
  obtain ⟨U4, z4, c4⟩ := J
  have HJ : Hid (jF ⟨U, z', c'⟩ ⟨U2, z2, c2'⟩ = ⟨U4, z4, c4⟩) := hJ
  clear hJ
  unfold FOk at ok4
  dsimp only at A4 ok4 ⊢
  have X4 : Hid (LX w bH cH nH S bR cR V0 bA bs bh br g cg U z' c' t4) := X3.out.below hb
  have A4 : Hid (Arr t4 g4 (8 * 6) (vF U4)) := A4
  have NG4 : Hid (t3.heap.size <= g4 /\ t1.heap.size <= t3.heap.size) := ⟨ng4, B13.out⟩
  have OK4 : Hid (absOK nH S 8 V0 8 U4 z4 c4 = true) := ok4
  have HBR3 : Hid (br < t3.heap.size) := hq_lt X3.out.R
  clear hb ng4 ok4 X3 A3 c0 c1 c2 cl1 cl2 v0 v2 v3 v4 v5 vl
  obtain ⟨t5, ht5, b5⟩ : ∃ y, t4.alloc (.cells #[.slice (some ⟨g4, 0, none⟩) 8 cg4, .int .i64 z4, .int .i64 c4] 31) = y /\ Below t4.heap.size t4 y := ⟨_, rfl, (Below.refl _ _).alloc (Nat.le_refl _) _⟩
  have n5 := V3.new t4 31 (.slice (some ⟨g4, 0, none⟩) 8 cg4) (.int .i64 z4) (.int .i64 c4)
  rw [ht5] at n5
  have X5 : Hid (LX w bH cH nH S bR cR V0 bA bs bh br g cg U z' c' t5) := X4.out.below b5
  have A5 : Hid (Arr t5 g4 (8 * 6) (vF U4)) := A4.out.below b5 A4.out.lt
  obtain ⟨nn, hnn⟩ : ∃ y, t4.heap.size = y := ⟨_, rfl⟩
  have N5 : Hid (V3 t5 nn 31 (.slice (some ⟨g4, 0, none⟩) 8 cg4) (.int .i64 z4) (.int .i64 c4)) := (by rw [<- hnn]; exact n5 : V3 t5 nn 31 (.slice (some ⟨g4, 0, none⟩) 8 cg4) (.int .i64 z4) (.int .i64 c4))
  obtain ⟨_, ⟨c0, c1, c2⟩, cl1, cl2⟩ := X5.out.cells
  obtain ⟨m0, m1, m2⟩ := N5.out.cells
  have ml := N5.out.lt
  go_upto_region 13 with fail
  try rw [hnn]
  clear ht5 b5 n5 hnn X4 A4
  go_wp2_with fail
  refine (l5Same_any g4 cg4 U4 z4 c4 g cg U z' c' t5 A5.out X5.out.A).mono ?_
  rintro e t6 ⟨same, rfl, hs1, hs0, hb⟩
  have HS1 : Hid (same = true -> sameP ⟨U4, z4, c4⟩ ⟨U, z', c'⟩) := hs1
  have HS0 : Hid (same = false -> ¬ sameP ⟨U4, z4, c4⟩ ⟨U, z', c'⟩) := hs0
  clear hs1 hs0
  have X6 : Hid (LX w bH cH nH S bR cR V0 bA bs bh br g cg U z' c' t6) := X5.out.below hb
  have A6 : Hid (Arr t6 g4 (8 * 6) (vF U4)) := A5.out.below hb A5.out.lt
  have N6 : Hid (V3 t6 nn 31 (.slice (some ⟨g4, 0, none⟩) 8 cg4) (.int .i64 z4) (.int .i64 c4)) := N5.out.below hb
  clear hb X5 A5 N5 c0 c1 c2 cl1 cl2 m0 m1 m2 ml
  obtain ⟨_, ⟨c0, c1, c2⟩, cl1, cl2⟩ := X6.out.cells
  cases same with
  | true =>
   obtain ⟨y0, y1, y2, y3, y4, y5, yf, yl⟩ := X6.out.res
   have YA : Hid (Arr t6 g (8 * 6) (vF U) /\ g ≠ br /\ absOK nH S 8 V0 8 U z' c' = true /\ (g = bA ∨ w.heap.size <= g) /\ Below w.heap.size w t6) := ⟨X6.out.A, X6.out.ne, X6.out.ok, X6.out.nw, X6.out.bel⟩
   have hbr : bh ≠ br := by have := BO.out; omega
   clear X6 A6 N6
   go_wp2_with fail
   refine bodyPost_ret (v := outV 0 0 (.slice (some ⟨g, 0, none⟩) 8 cg) z' c' rr) (by simp [results, Tryz.results74, go_sem, outV, *]) rfl ⟨0, 0, _, _, _, z', c', rr, rfl, q0, q1, ⟨fun e => absurd rfl e, fun _ => rfl⟩, fun _ => ⟨g, cg, U, rfl, YA.out.2.2.2.1, ?_, YA.out.2.2.1, loop_same INV.out hk20 hr1000 HFR.out HER.out HJ.out (HS1.out (by first | rfl | trivial))⟩, ?_⟩
   ·exact arr_set6 YA.out.1 YA.out.2.1 _ _ _ _ _ _
   ·exact below_set6 YA.out.2.2.2.2 (by have := BO.out; omega) _ _ _ _ _ _
  | false =>
   obtain ⟨m0, m1, m2⟩ := N6.out.cells
   have ml := N6.out.lt
   have hf := X6.out.hd.free
   have hgr : br < t3.heap.size := HBR3.out
   have Y : Hid (LX w bH cH nH S bR cR V0 bA bs bh br g4 cg4 U4 z4 c4 (((t6.setCell ⟨bh, 0, none⟩ (.slice (some ⟨g4, 0, none⟩) 8 cg4)).setCell ⟨bh, 1, none⟩ (.int .i64 z4)).setCell ⟨bh, 2, none⟩ (.int .i64 c4))) := X6.out.put A6.out OK4.out (Or.inr (by have := NG4.out; have := BO.out; omega)) (by have := NG4.out; omega) (by have := NG4.out; have := BO.out; omega) (by have := N1.out; have := BO.out; omega) (by have := N1.out; have := BO.out; omega)
   clear X6 A6 N6
   go_wp2_with fail
   go_roundw
   case rel => exact ⟨k + 1, rr, g4, cg4, U4, z4, c4, rfl, by go_num, by omega, q0, q1, loop_next INV.out hk20 hr1000 HFR.out HER.out HJ.out (HS0.out (by first | rfl | trivial)), Y.out⟩
   case measure => simp [intOf]; omega
end Go.Proofs.YtcgcldokompafaaGreatDoor
