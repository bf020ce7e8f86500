/- Drawn Vals. -/
import Derived.Test.YtjnooklalbcamaaDrawLeaf
import Derived.Test.YtjnooklalbcamaaValRows
namespace Go.Proofs.Ytjnooklalbcamaa
open Go.RowKit

theorem Fw.arr {p : Nat} {w w' : World} {b n : Nat} {f : Nat → Value} (h : Fw p w w') (ha : Arr w b n f) (hn : b ≠ p) : Arr w' b n f :=
  ⟨Nat.lt_of_lt_of_le ha.lt h.size, fun i => (h.frozen ha.lt hn).trans (ha.free i), fun _ hi => (h.cell ha.lt hn).trans (ha.cell hi)⟩
theorem Fw.alloc {p : Nat} {a b : World} (h : Fw p a b) (o : Obj) : Fw p a (b.alloc o) := h.trans (.of_below ((Below.refl _ _).alloc (Nat.le_refl _) _))
/-- A write into a block that is new. -/
theorem Fw.put {p : Nat} {a b : World} (h : Fw p a b) {q : Nat} (hq : a.heap.size ≤ q) (o : Nat) (v : Value) : Fw p a (b.setCell ⟨q, o, none⟩ v) :=
  ⟨h.os, h.tape, h.output, by simpa using h.size, fun k hk hn => (Below.heap_setCell b ⟨q, o, none⟩ v k (by simp; omega)).trans (h.block k hk hn)⟩
/-- A Val in a block of its own. -/
def Vb (w : World) (b : Nat) (x : VV) : Prop := Arr w b 6 (vC x)
theorem Vb.new (w : World) (x : VV) : Vb (w.alloc (.cells #[.int .i64 x.k, .bool x.s, .int .i64 x.m, .int .i64 x.h, .int .i64 x.lo, .int .i64 x.hi] 24)) w.heap.size x := by
  refine ⟨by simp, fun i => by simp [go_sem], fun i hi => ?_⟩
  match i, hi with
  | 0, _ => simp [go_sem, vC]
  | 1, _ => simp [go_sem, vC]
  | 2, _ => simp [go_sem, vC]
  | 3, _ => simp [go_sem, vC]
  | 4, _ => simp [go_sem, vC]
  | 5, _ => simp [go_sem, vC]
theorem Vb.cells {w : World} {b : Nat} {x : VV} (h : Vb w b x) : w.cell? ⟨b, 0, none⟩ = some (.int .i64 x.k) ∧ w.cell? ⟨b, 1, none⟩ = some (.bool x.s) ∧ w.cell? ⟨b, 2, none⟩ = some (.int .i64 x.m) ∧ w.cell? ⟨b, 3, none⟩ = some (.int .i64 x.h) ∧ w.cell? ⟨b, 4, none⟩ = some (.int .i64 x.lo) ∧ w.cell? ⟨b, 5, none⟩ = some (.int .i64 x.hi) :=
  ⟨h.cell (i := 0) (by omega), h.cell (i := 1) (by omega), h.cell (i := 2) (by omega), h.cell (i := 3) (by omega), h.cell (i := 4) (by omega), h.cell (i := 5) (by omega)⟩
theorem Arr.set1 {w : World} {b n : Nat} {f : Nat → Value} (h : Arr w b n f) (o : Nat) (ho : o < n) (v : Value) : Arr (w.setCell ⟨b, o, none⟩ v) b n (fun i => if i = o then v else f i) := by
  have := h.setCells o [v] (by simp; omega)
  refine Arr.congr (f := fun i => if o ≤ i ∧ i < o + [v].length then [v].getD (i - o) undef else f i) this fun i _ => ?_
  by_cases e : i = o
  · subst e; simp
  · rw [if_neg (by simp; omega), if_neg e]
theorem vC_cases {y : VV} {f : Nat → Value} (h0 : f 0 = .int .i64 y.k) (h1 : f 1 = .bool y.s) (h2 : f 2 = .int .i64 y.m) (h3 : f 3 = .int .i64 y.h) (h4 : f 4 = .int .i64 y.lo) (h5 : f 5 = .int .i64 y.hi) : ∀ i, i < 6 → f i = vC y i := by
  intro i hi
  match i, hi with
  | 0, _ => exact h0
  | 1, _ => exact h1
  | 2, _ => exact h2
  | 3, _ => exact h3
  | 4, _ => exact h4
  | 5, _ => exact h5
theorem Vb.setM {w : World} {b : Nat} {x : VV} (h : Vb w b x) (m : Int) : Vb (w.setCell ⟨b, 2, none⟩ (.int .i64 m)) b { x with m := m } := (Arr.set1 h 2 (by omega) _).congr (vC_cases rfl rfl rfl rfl rfl rfl)
theorem Vb.setLo {w : World} {b : Nat} {x : VV} (h : Vb w b x) (m : Int) : Vb (w.setCell ⟨b, 4, none⟩ (.int .i64 m)) b { x with lo := m } := (Arr.set1 h 4 (by omega) _).congr (vC_cases rfl rfl rfl rfl rfl rfl)
theorem Vb.setHi {w : World} {b : Nat} {x : VV} (h : Vb w b x) (m : Int) : Vb (w.setCell ⟨b, 5, none⟩ (.int .i64 m)) b { x with hi := m } := (Arr.set1 h 5 (by omega) _).congr (vC_cases rfl rfl rfl rfl rfl rfl)
theorem Vb.setK {w : World} {b : Nat} {x : VV} (h : Vb w b x) (m : Int) : Vb (w.setCell ⟨b, 0, none⟩ (.int .i64 m)) b { x with k := m } := (Arr.set1 h 0 (by omega) _).congr (vC_cases rfl rfl rfl rfl rfl rfl)
theorem Cur.put {w : World} {p n cap q : Nat} {ao : Option Addr} (h : Cur w p ao n cap) (hq : p < q) (o : Nat) (v : Value) : Cur (w.setCell ⟨q, o, none⟩ v) p ao n cap := by
  have hb : Below q w (w.setCell ⟨q, o, none⟩ v) := (Below.refl q w).setCell (p := ⟨q, o, none⟩) (Nat.le_refl q) v
  obtain ⟨i, hh, q0, q1, q2, q3⟩ := h.cs
  refine ⟨by simpa using h.lt, fun i => (hb.frozen (p := ⟨p, i, none⟩) hq).trans (h.fz i), ⟨i, hh, q0, (hb.cell (p := ⟨p, 0, none⟩) hq).trans q1, (hb.cell (p := ⟨p, 1, none⟩) hq).trans q2, (hb.cell (p := ⟨p, 2, none⟩) hq).trans q3⟩, ?_, h.ln⟩
  rcases h.row with h | ⟨b, off, h1, h2, h3⟩
  · exact .inl h
  · exact .inr ⟨b, off, h1, h2, fun i hi => by obtain ⟨v, q1, q2, q3⟩ := h3 i hi; exact ⟨v, q1, q2, (hb.cell (p := ⟨b, off + i, none⟩) (Nat.lt_trans h2 hq)).trans q3⟩⟩

/-- A number's Val, as drawn. -/
def NumV (x : VV) : Prop := x.k = 0 ∧ x.h = 0 ∧ x.lo = 0 ∧ x.hi = 0 ∧ -1 ≤ x.m ∧ x.m ≤ 1099511627776
/-- A pointer's Val, as drawn. -/
def PtrV (x : VV) (n : Int) : Prop := x.k = 1 ∧ x.s = false ∧ x.m = 0 ∧ 0 ≤ x.h ∧ x.h < n ∧ -1099511627776 ≤ x.lo ∧ x.lo ≤ x.hi ∧ x.hi ≤ 1099511627776

set_option maxRecDepth 20000 in
set_option maxHeartbeats 4000000 in
theorem l4DrawNum_any (p : Nat) (ao : Option Addr) (n cap : Nat) (w : World) (hc : Cur w p ao n cap) :
    Calls Try.prog 43 #[.pointer (some ⟨p, 0, none⟩)] w fun e w' => ∃ x : VV, e = .returned x.v ∧ NumV x ∧ Fw p w w' ∧ Cur w' p ao n cap := by
  have lp := hc.lt
  have HC : Hid (Cur w p ao n cap) := hc
  clear hc
  go_enter Try.func43, Try.ntmps43
  go_wp2_with fail
  refine (l1Once_any p ao n cap 2 _ (by omega) (HC.out.below ((Below.refl _ _).alloc (Nat.le_refl _) _))).mono ?_
  rintro e w1 ⟨s, rfl, f1, k1⟩
  have R1 : Hid (Vb w1 w.heap.size ⟨0, false, 0, 0, 0, 0⟩) := f1.arr (Vb.new w ⟨0, false, 0, 0, 0, 0⟩) (by omega)
  have F1 : Hid (Fw p w w1) := ((Fw.refl _ _).alloc _).trans f1
  have K1 : Hid (Cur w1 p ao n cap) := k1
  clear f1 k1 HC
  go_wp2_with fail
  refine (l1Below_any p ao n cap 6 _ (by omega) (K1.out.below ((Below.refl _ _).alloc (Nat.le_refl _) _))).mono ?_
  rintro e w2 ⟨k, rfl, k0, k6, f2, k2⟩
  have h23 : w.heap.size < w1.heap.size := R1.out.lt
  have lp1 : p < w1.heap.size := by omega
  have V2 : Hid (Vb w2 w1.heap.size ⟨0, s, -1, 0, 0, 0⟩) := f2.arr (Vb.new w1 ⟨0, s, -1, 0, 0, 0⟩) (by omega)
  have R2 : Hid (Vb w2 w.heap.size ⟨0, false, 0, 0, 0, 0⟩) := f2.arr (R1.out.below ((Below.refl w1.heap.size w1).alloc (Nat.le_refl _) _) R1.out.lt) (by omega)
  have F2 : Hid (Fw p w w2) := (F1.out.alloc _).trans f2
  have K2 : Hid (Cur w2 p ao n cap) := k2
  clear f2 k2 K1 F1 R1
  by_cases c3 : k < 3
  · go_wp2_with fail
    refine (l1Below_any p ao n cap 20 _ (by omega) K2.out).mono ?_
    rintro e w3 ⟨m, rfl, m0, m1, f3, k3⟩
    have V3 : Hid (Vb w3 w1.heap.size ⟨0, s, -1, 0, 0, 0⟩) := f3.arr V2.out (by omega)
    have R3 : Hid (Vb w3 w.heap.size ⟨0, false, 0, 0, 0, 0⟩) := f3.arr R2.out (by omega)
    have F3 : Hid (Fw p w w3) := F2.out.trans f3
    have K3 : Hid (Cur w3 p ao n cap) := k3
    clear f3 k3 V2 R2 F2 K2
    obtain ⟨v0, v1, v2, v3, v4, v5⟩ := V3.out.cells
    have vf := V3.out.free
    have vl := V3.out.lt
    obtain ⟨r0, r1, r2, r3, r4, r5⟩ := R3.out.cells
    have rf := R3.out.free
    have rl := R3.out.lt
    go_wp2
    refine bodyPost_ret (v := VV.v ⟨0, s, m, 0, 0, 0⟩) (by simp [results, Try.results43, go_sem, VV.v, *]) rfl ⟨⟨0, s, m, 0, 0, 0⟩, rfl, ⟨rfl, rfl, rfl, rfl, by simp; omega, by simp; omega⟩, ((((((F3.out.put (Nat.le_of_lt h23) _ _).put (Nat.le_refl _) _ _).put (Nat.le_refl _) _ _).put (Nat.le_refl _) _ _).put (Nat.le_refl _) _ _).put (Nat.le_refl _) _ _).put (Nat.le_refl _) _ _, ((((((K3.out.put lp1 _ _).put lp _ _).put lp _ _).put lp _ _).put lp _ _).put lp _ _).put lp _ _⟩
  · by_cases c4 : k = 3
    · subst c4
      obtain ⟨v0, v1, v2, v3, v4, v5⟩ := V2.out.cells
      have vf := V2.out.free
      have vl := V2.out.lt
      obtain ⟨r0, r1, r2, r3, r4, r5⟩ := R2.out.cells
      have rf := R2.out.free
      have rl := R2.out.lt
      go_wp2
      refine bodyPost_ret (v := VV.v ⟨0, s, 255, 0, 0, 0⟩) (by simp [results, Try.results43, go_sem, VV.v, *]) rfl ⟨⟨0, s, 255, 0, 0, 0⟩, rfl, ⟨rfl, rfl, rfl, rfl, by simp, by simp⟩, ((((((F2.out.put (Nat.le_of_lt h23) _ _).put (Nat.le_refl _) _ _).put (Nat.le_refl _) _ _).put (Nat.le_refl _) _ _).put (Nat.le_refl _) _ _).put (Nat.le_refl _) _ _).put (Nat.le_refl _) _ _, ((((((K2.out.put lp1 _ _).put lp _ _).put lp _ _).put lp _ _).put lp _ _).put lp _ _).put lp _ _⟩
    · by_cases c5 : k = 4
      · subst c5
        go_wp2_with fail
        refine (l1Once_any p ao n cap 4 _ (by omega) K2.out).mono ?_
        rintro e w3 ⟨q, rfl, f3, k3⟩
        have V3 : Hid (Vb w3 w1.heap.size ⟨0, s, -1, 0, 0, 0⟩) := f3.arr V2.out (by omega)
        have R3 : Hid (Vb w3 w.heap.size ⟨0, false, 0, 0, 0, 0⟩) := f3.arr R2.out (by omega)
        have F3 : Hid (Fw p w w3) := F2.out.trans f3
        have K3 : Hid (Cur w3 p ao n cap) := k3
        clear f3 k3 V2 R2 F2 K2
        cases q with
        | false =>
          obtain ⟨v0, v1, v2, v3, v4, v5⟩ := V3.out.cells
          have vf := V3.out.free
          have vl := V3.out.lt
          obtain ⟨r0, r1, r2, r3, r4, r5⟩ := R3.out.cells
          have rf := R3.out.free
          have rl := R3.out.lt
          go_wp2
          refine bodyPost_ret (v := VV.v ⟨0, s, -1, 0, 0, 0⟩) (by simp [results, Try.results43, go_sem, VV.v, *]) rfl ⟨⟨0, s, -1, 0, 0, 0⟩, rfl, ⟨rfl, rfl, rfl, rfl, by simp, by simp⟩, ((((((F3.out).put (Nat.le_refl _) _ _).put (Nat.le_refl _) _ _).put (Nat.le_refl _) _ _).put (Nat.le_refl _) _ _).put (Nat.le_refl _) _ _).put (Nat.le_refl _) _ _, ((((((K3.out).put lp _ _).put lp _ _).put lp _ _).put lp _ _).put lp _ _).put lp _ _⟩
        | true =>
          go_wp2_with fail
          refine (l1Below_any p ao n cap 3 _ (by omega) K3.out).mono ?_
          rintro e w4 ⟨m, rfl, m0, m1, f4, k4⟩
          have V4 : Hid (Vb w4 w1.heap.size ⟨0, s, -1, 0, 0, 0⟩) := f4.arr V3.out (by omega)
          have R4 : Hid (Vb w4 w.heap.size ⟨0, false, 0, 0, 0, 0⟩) := f4.arr R3.out (by omega)
          have F4 : Hid (Fw p w w4) := F3.out.trans f4
          have K4 : Hid (Cur w4 p ao n cap) := k4
          clear f4 k4 V3 R3 F3 K3
          obtain ⟨v0, v1, v2, v3, v4, v5⟩ := V4.out.cells
          have vf := V4.out.free
          have vl := V4.out.lt
          obtain ⟨r0, r1, r2, r3, r4, r5⟩ := R4.out.cells
          have rf := R4.out.free
          have rl := R4.out.lt
          go_wp2
          refine bodyPost_ret (v := VV.v ⟨0, s, 1099511627776 - m, 0, 0, 0⟩) (by simp [results, Try.results43, go_sem, VV.v, *]) rfl ⟨⟨0, s, 1099511627776 - m, 0, 0, 0⟩, rfl, ⟨rfl, rfl, rfl, rfl, by simp; omega, by simp; omega⟩, ((((((F4.out.put (Nat.le_of_lt h23) _ _).put (Nat.le_refl _) _ _).put (Nat.le_refl _) _ _).put (Nat.le_refl _) _ _).put (Nat.le_refl _) _ _).put (Nat.le_refl _) _ _).put (Nat.le_refl _) _ _, ((((((K4.out.put lp1 _ _).put lp _ _).put lp _ _).put lp _ _).put lp _ _).put lp _ _).put lp _ _⟩
      · skip
        obtain ⟨v0, v1, v2, v3, v4, v5⟩ := V2.out.cells
        have vf := V2.out.free
        have vl := V2.out.lt
        obtain ⟨r0, r1, r2, r3, r4, r5⟩ := R2.out.cells
        have rf := R2.out.free
        have rl := R2.out.lt
        go_wp2
        refine bodyPost_ret (v := VV.v ⟨0, s, -1, 0, 0, 0⟩) (by simp [results, Try.results43, go_sem, VV.v, *]) rfl ⟨⟨0, s, -1, 0, 0, 0⟩, rfl, ⟨rfl, rfl, rfl, rfl, by simp, by simp⟩, ((((((F2.out).put (Nat.le_refl _) _ _).put (Nat.le_refl _) _ _).put (Nat.le_refl _) _ _).put (Nat.le_refl _) _ _).put (Nat.le_refl _) _ _).put (Nat.le_refl _) _ _, ((((((K2.out).put lp _ _).put lp _ _).put lp _ _).put lp _ _).put lp _ _).put lp _ _⟩

set_option maxRecDepth 20000 in
set_option maxHeartbeats 4000000 in
theorem l4DrawPtr_any (p : Nat) (ao : Option Addr) (n cap : Nat) (hs : Int) (w : World) (hm : 1 ≤ hs) (hc : Cur w p ao n cap) :
    Calls Try.prog 45 #[.pointer (some ⟨p, 0, none⟩), .int .i64 hs] w fun e w' => ∃ x : VV, e = .returned x.v ∧ PtrV x hs ∧ Fw p w w' ∧ Cur w' p ao n cap := by
  have lp := hc.lt
  have HC : Hid (Cur w p ao n cap) := hc
  clear hc
  go_enter Try.func45, Try.ntmps45
  go_wp2_with fail
  refine (l1Below_any p ao n cap hs _ hm (HC.out.below ((Below.refl _ _).alloc (Nat.le_refl _) _))).mono ?_
  rintro e w1 ⟨h, rfl, h0, h1, f, c⟩
  have R1 : Hid (Vb w1 w.heap.size ⟨0, false, 0, 0, 0, 0⟩) := f.arr (Vb.new w ⟨0, false, 0, 0, 0, 0⟩) (by omega)
  have F1 : Hid (Fw p w w1) := ((Fw.refl _ _).alloc _).trans f
  have K1 : Hid (Cur w1 p ao n cap) := c
  clear f c HC
  have h23 : w.heap.size < w1.heap.size := R1.out.lt
  have lp1 : p < w1.heap.size := by omega
  go_wp2_with fail
  refine (l1Below_any p ao n cap 5 _ (by omega) (K1.out.below ((Below.refl _ _).alloc (Nat.le_refl _) _))).mono ?_
  rintro e w2 ⟨lo, rfl, l0, l1, f, c⟩
  have V2 : Hid (Vb w2 w1.heap.size ⟨1, false, 0, h, 0, 0⟩) := f.arr (Vb.new w1 ⟨1, false, 0, h, 0, 0⟩) (by omega)
  have R2 : Hid (Vb w2 w.heap.size ⟨0, false, 0, 0, 0, 0⟩) := f.arr (R1.out.below ((Below.refl w1.heap.size w1).alloc (Nat.le_refl _) _) R1.out.lt) (by omega)
  have F2 : Hid (Fw p w w2) := (F1.out.alloc _).trans f
  have K2 : Hid (Cur w2 p ao n cap) := c
  clear f c K1 F1 R1
  obtain ⟨v0, v1, v2, v3, v4, v5⟩ := V2.out.cells
  have vf := V2.out.free
  have vl := V2.out.lt
  obtain ⟨r0, r1, r2, r3, r4, r5⟩ := R2.out.cells
  have rf := R2.out.free
  have rl := R2.out.lt
  go_upto_region 3 with fail
  obtain ⟨w3, hw3, V3, R3, F3, K3⟩ : ∃ v, w2.setCell ⟨w1.heap.size, 4, none⟩ (.int .i64 lo) = v ∧ Hid (Vb v w1.heap.size ⟨1, false, 0, h, lo, 0⟩) ∧ Hid (Vb v w.heap.size ⟨0, false, 0, 0, 0, 0⟩) ∧ Hid (Fw p w v) ∧ Hid (Cur v p ao n cap) := ⟨_, rfl, V2.out.setLo lo, Arr.other R2.out (by simp; omega) _, F2.out.put (Nat.le_of_lt h23) _ _, K2.out.put lp1 _ _⟩
  rw [hw3]
  clear hw3 V2 R2 F2 K2 v0 v1 v2 v3 v4 v5 vf vl r0 r1 r2 r3 r4 r5 rf rl
  have v4 : w3.cell? ⟨w1.heap.size, 4, none⟩ = some (.int .i64 lo) := V3.out.cells.2.2.2.2.1
  refine wp_region_held_drew (S := fun w' => w'.cell? ⟨w1.heap.size, 4, none⟩ = some (.int .i64 lo)) (by kernel_rfl) ?_ (fun _ => ?_)
  · exact ((Below.refl w3.heap.size w3).drew.cell (p := ⟨w1.heap.size, 4, none⟩) V3.out.lt).trans v4
  obtain ⟨w4, hw4, f, c⟩ : ∃ v, w3.drew = v ∧ Fw p w3 v ∧ Cur v p ao n cap := ⟨_, rfl, .of_below (Below.refl _ _).drew, K3.out.below (Below.refl _ _).drew⟩
  rw [hw4] at *
  have V4 : Hid (Vb w4 w1.heap.size ⟨1, false, 0, h, lo, 0⟩) := f.arr V3.out (by omega)
  have R4 : Hid (Vb w4 w.heap.size ⟨0, false, 0, 0, 0, 0⟩) := f.arr R3.out (by omega)
  have F4 : Hid (Fw p w w4) := F3.out.trans f
  have K4 : Hid (Cur w4 p ao n cap) := c
  clear f c V3 R3 F3 K3
  clear hw4
  have hS4 := V4.out.cells.2.2.2.2.1
  refine wpAnyH_tk 0 ?k1v rfl ?k1y ?k1r
  case k1y => (intro w hSw; (try dsimp only at hSw); go_simp; try with_reducible rfl)
  try go_frame
  refine wpAnyH_tk 1 ?k2v rfl ?k2y ?k2r
  case k2y => (intro w hSw; (try dsimp only at hSw); go_simp; try with_reducible rfl)
  try go_frame
  refine wpAnyH_tk 2 ?k3v rfl ?k3y ?k3r
  case k3y => (intro w hSw; (try dsimp only at hSw); go_simp; try with_reducible rfl)
  try go_frame
  refine wpAnyH_tk 4 ?k4v rfl ?k4y ?k4r
  case k4y => (intro w hSw; (try dsimp only at hSw); go_simp; try with_reducible rfl)
  try go_frame
  refine wpAnyH_ready (rs := [3]) (by kernel_rfl) (by simp) ?_
  refine AllReadyH.cons rfl (fun KK hK => ?_) AllReadyH.nil
  go_simp
  refine (l1Below_any p ao n cap 4 _ (by omega) K4.out).mono ?_
  rintro e w5 ⟨q, rfl, q0, q1, f, c⟩
  have V5 : Hid (Vb w5 w1.heap.size ⟨1, false, 0, h, lo, 0⟩) := f.arr V4.out (by omega)
  have R5 : Hid (Vb w5 w.heap.size ⟨0, false, 0, 0, 0, 0⟩) := f.arr R4.out (by omega)
  have F5 : Hid (Fw p w w5) := F4.out.trans f
  have K5 : Hid (Cur w5 p ao n cap) := c
  clear f c V4 R4 F4 K4
  go_wp2_with fail
  refine hK.out _ _ V5.out.cells.2.2.2.2.1 (fun hS5 => ?_)
  clear hK KK
  try go_frame
  refine wpAnyH_ready (rs := [5]) (by kernel_rfl) (by simp) ?_
  refine AllReadyH.cons rfl (fun KK hK => ?_) AllReadyH.nil
  go_simp
  refine (l1Below_any p ao n cap 2 _ (by omega) K5.out).mono ?_
  rintro e w6 ⟨r, rfl, r0, r1, f, c⟩
  have V6 : Hid (Vb w6 w1.heap.size ⟨1, false, 0, h, lo, 0⟩) := f.arr V5.out (by omega)
  have R6 : Hid (Vb w6 w.heap.size ⟨0, false, 0, 0, 0, 0⟩) := f.arr R5.out (by omega)
  have F6 : Hid (Fw p w w6) := F5.out.trans f
  have K6 : Hid (Cur w6 p ao n cap) := c
  clear f c V5 R5 F5 K5
  go_wp2_with fail
  refine hK.out _ _ V6.out.cells.2.2.2.2.1 (fun hS6 => ?_)
  clear hK KK
  try go_frame
  refine wpAnyH_tk 6 ?k5v rfl ?k5y ?k5r
  case k5y => (intro w hSw; (try dsimp only at hSw); go_simp; try with_reducible rfl)
  try go_frame
  refine wpAnyH_tk 7 ?k6v rfl ?k6y ?k6r
  case k6y => (intro w hSw; (try dsimp only at hSw); go_simp; try with_reducible rfl)
  try go_frame
  refine wpAnyH_tk 8 ?k7v rfl ?k7y ?k7r
  case k7y => (intro w hSw; (try dsimp only at hSw); go_simp; try with_reducible rfl)
  try go_frame
  obtain ⟨v0, v1, v2, v3, v4, v5⟩ := V6.out.cells
  have vf := V6.out.free
  have vl := V6.out.lt
  obtain ⟨r0, r1, r2, r3, r4, r5⟩ := R6.out.cells
  have rf := R6.out.free
  have rl := R6.out.lt
  refine wpAnyH_ready (rs := [9]) (by kernel_rfl) (by simp) ?_
  refine AllReadyH.cons rfl (fun KK hK => ?_) AllReadyH.nil
  go_simp
  have hr : r = 0 ∨ r = 1 := by omega
  obtain ⟨hi, hhi, e0, e1⟩ : ∃ hi : Int, IntKind.i64.wrap (lo + IntKind.i64.wrap (q * r)) = hi ∧ lo ≤ hi ∧ hi ≤ 100 := by
    refine ⟨_, rfl, ?_, ?_⟩ <;> (rcases hr with rfl | rfl <;> simp only [Int.mul_zero, Int.mul_one, IntKind.wrap_i64] <;> omega)
  rw [hhi]
  clear hhi hr
  obtain ⟨w7, hw7, V7, R7, F7, K7⟩ : ∃ v, w6.setCell ⟨w1.heap.size, 5, none⟩ (.int .i64 hi) = v ∧ Hid (Vb v w1.heap.size ⟨1, false, 0, h, lo, hi⟩) ∧ Hid (Vb v w.heap.size ⟨0, false, 0, 0, 0, 0⟩) ∧ Hid (Fw p w v) ∧ Hid (Cur v p ao n cap) := ⟨_, rfl, V6.out.setHi hi, Arr.other R6.out (by simp; omega) _, F6.out.put (Nat.le_of_lt h23) _ _, K6.out.put lp1 _ _⟩
  rw [hw7]
  refine hK.out _ _ V7.out.cells.2.2.2.2.1 (fun _ => ?_)
  clear hK KK
  refine wpAnyH_done (by kernel_rfl) ?_ _
  clear hw7 V6 R6 F6 K6 hS4 hS5 hS6 v4 v0 v1 v2 v3 v5 vf vl r0 r1 r2 r3 r4 r5 rf rl
  go_wp2_with fail
  refine (l1Below_any p ao n cap 30 _ (by omega) K7.out).mono ?_
  rintro e w8 ⟨k, rfl, k0, k1, f, c⟩
  have V8 : Hid (Vb w8 w1.heap.size ⟨1, false, 0, h, lo, hi⟩) := f.arr V7.out (by omega)
  have R8 : Hid (Vb w8 w.heap.size ⟨0, false, 0, 0, 0, 0⟩) := f.arr R7.out (by omega)
  have F8 : Hid (Fw p w w8) := F7.out.trans f
  have K8 : Hid (Cur w8 p ao n cap) := c
  clear f c V7 R7 F7 K7
  by_cases c0 : k = 0
  · subst c0
    obtain ⟨v0, v1, v2, v3, v4, v5⟩ := V8.out.cells
    have vf := V8.out.free
    have vl := V8.out.lt
    obtain ⟨r0, r1, r2, r3, r4, r5⟩ := R8.out.cells
    have rf := R8.out.free
    have rl := R8.out.lt
    go_wp2
    refine bodyPost_ret (v := VV.v ⟨1, false, 0, h, -1099511627776, hi⟩) (by simp [results, Try.results45, go_sem, VV.v, *]) rfl ⟨⟨1, false, 0, h, -1099511627776, hi⟩, rfl, ⟨rfl, rfl, rfl, h0, h1, by simp, by simp; omega, by simp; omega⟩, ((((((F8.out.put (Nat.le_of_lt h23) _ _).put (Nat.le_refl _) _ _).put (Nat.le_refl _) _ _).put (Nat.le_refl _) _ _).put (Nat.le_refl _) _ _).put (Nat.le_refl _) _ _).put (Nat.le_refl _) _ _, ((((((K8.out.put lp1 _ _).put lp _ _).put lp _ _).put lp _ _).put lp _ _).put lp _ _).put lp _ _⟩
  · by_cases c1 : k = 1
    · subst c1
      go_wp2_with fail
      refine (l1Below_any p ao n cap 30 _ (by omega) K8.out).mono ?_
      rintro e w9 ⟨m, rfl, m0, m1, f, c⟩
      have V9 : Hid (Vb w9 w1.heap.size ⟨1, false, 0, h, lo, hi⟩) := f.arr V8.out (by omega)
      have R9 : Hid (Vb w9 w.heap.size ⟨0, false, 0, 0, 0, 0⟩) := f.arr R8.out (by omega)
      have F9 : Hid (Fw p w w9) := F8.out.trans f
      have K9 : Hid (Cur w9 p ao n cap) := c
      clear f c V8 R8 F8 K8
      obtain ⟨v0, v1, v2, v3, v4, v5⟩ := V9.out.cells
      have vf := V9.out.free
      have vl := V9.out.lt
      obtain ⟨r0, r1, r2, r3, r4, r5⟩ := R9.out.cells
      have rf := R9.out.free
      have rl := R9.out.lt
      go_wp2
      refine bodyPost_ret (v := VV.v ⟨1, false, 0, h, lo, 1099511627776 - m⟩) (by simp [results, Try.results45, go_sem, VV.v, *]) rfl ⟨⟨1, false, 0, h, lo, 1099511627776 - m⟩, rfl, ⟨rfl, rfl, rfl, h0, h1, by simp; omega, by simp; omega, by simp; omega⟩, ((((((F9.out.put (Nat.le_of_lt h23) _ _).put (Nat.le_refl _) _ _).put (Nat.le_refl _) _ _).put (Nat.le_refl _) _ _).put (Nat.le_refl _) _ _).put (Nat.le_refl _) _ _).put (Nat.le_refl _) _ _, ((((((K9.out.put lp1 _ _).put lp _ _).put lp _ _).put lp _ _).put lp _ _).put lp _ _).put lp _ _⟩
    · skip
      obtain ⟨v0, v1, v2, v3, v4, v5⟩ := V8.out.cells
      have vf := V8.out.free
      have vl := V8.out.lt
      obtain ⟨r0, r1, r2, r3, r4, r5⟩ := R8.out.cells
      have rf := R8.out.free
      have rl := R8.out.lt
      go_wp2
      refine bodyPost_ret (v := VV.v ⟨1, false, 0, h, lo, hi⟩) (by simp [results, Try.results45, go_sem, VV.v, *]) rfl ⟨⟨1, false, 0, h, lo, hi⟩, rfl, ⟨rfl, rfl, rfl, h0, h1, by simp; omega, e0, by simp; omega⟩, ((((((F8.out).put (Nat.le_refl _) _ _).put (Nat.le_refl _) _ _).put (Nat.le_refl _) _ _).put (Nat.le_refl _) _ _).put (Nat.le_refl _) _ _).put (Nat.le_refl _) _ _, ((((((K8.out).put lp _ _).put lp _ _).put lp _ _).put lp _ _).put lp _ _).put lp _ _⟩
end Go.Proofs.Ytjnooklalbcamaa
