/- Two drawn Vals: spec.DrawJoinVals. -/
import Derived.Test.YtjnooklalbcamaaJoinDraw
import Derived.Deep.Cut
import Derived.Deep.DeepCutAuto
namespace Go.Proofs.Ytjnooklalbcamaa
open Go.RowKit

def zV : VV := ⟨0, false, 0, 0, 0, 0⟩
/-- Where DrawJoinVals stands: its answers' blocks, its cursor, its two Vals. -/
structure JS (w wx : World) (p : Nat) (ao : Option Addr) (n cap bA bB : Nat) (a b : VV) : Prop where
  bel : Below w.heap.size w wx
  cur : Cur wx p ao n cap
  t2 : Vb wx w.heap.size zV
  t3 : Vb wx (w.heap.size + 1) zV
  A : Vb wx bA a
  B : Vb wx bB b
theorem JS.fw {w u v : World} {p : Nat} {ao : Option Addr} {n cap bA bB : Nat} {a b : VV} (h : JS w u p ao n cap bA bB a b) (f : Fw p u v) (c : Cur v p ao n cap) (o1 : w.heap.size + 2 ≤ p) (o2 : p < bA) (o3 : bA < bB) : JS w v p ao n cap bA bB a b :=
  ⟨f.below h.bel (by omega) h.bel.size, c, f.arr h.t2 (by omega), f.arr h.t3 (by omega), f.arr h.A (by omega), f.arr h.B (by omega)⟩
theorem JS.below {w u v : World} {p : Nat} {ao : Option Addr} {n cap bA bB : Nat} {a b : VV} (h : JS w u p ao n cap bA bB a b) (f : Below u.heap.size u v) : JS w v p ao n cap bA bB a b :=
  ⟨h.bel.trans (f.mono h.bel.size), h.cur.below f, h.t2.below f h.t2.lt, h.t3.below f h.t3.lt, h.A.below f h.A.lt, h.B.below f h.B.lt⟩
/-- A whole Val put into a block. -/
def putV (w : World) (b : Nat) (x : VV) : World := (((((w.setCell ⟨b, 0, none⟩ (.int .i64 x.k)).setCell ⟨b, 1, none⟩ (.bool x.s)).setCell ⟨b, 2, none⟩ (.int .i64 x.m)).setCell ⟨b, 3, none⟩ (.int .i64 x.h)).setCell ⟨b, 4, none⟩ (.int .i64 x.lo)).setCell ⟨b, 5, none⟩ (.int .i64 x.hi)
theorem vb_put {w : World} {b : Nat} {y : VV} (h : Vb w b y) (x : VV) : Vb (putV w b x) b x :=
  (Arr.set1 (Arr.set1 (Arr.set1 (Arr.set1 (Arr.set1 (Arr.set1 h 0 (by omega) _) 1 (by omega) _) 2 (by omega) _) 3 (by omega) _) 4 (by omega) _) 5 (by omega) _).congr (vC_cases rfl rfl rfl rfl rfl rfl)
theorem vb_off {w : World} {b q : Nat} {y : VV} (h : Vb w b y) (x : VV) (hn : q ≠ b) : Vb (putV w q x) b y := by
  unfold putV
  exact (((((Arr.other h hn _).other hn _).other hn _).other hn _).other hn _).other hn _
theorem cur_putV {w : World} {p n cap q : Nat} {ao : Option Addr} (h : Cur w p ao n cap) (hq : p < q) (x : VV) : Cur (putV w q x) p ao n cap := by
  unfold putV
  exact (((((h.put hq _ _).put hq _ _).put hq _ _).put hq _ _).put hq _ _).put hq _ _
theorem below_putV {B : Nat} {w u : World} {q : Nat} (h : Below B w u) (hq : B ≤ q) (x : VV) : Below B w (putV u q x) := by
  unfold putV
  exact (((((h.setCell hq _).setCell hq _).setCell hq _).setCell hq _).setCell hq _).setCell hq _
theorem JS.setA {w u : World} {p : Nat} {ao : Option Addr} {n cap bA bB : Nat} {a b : VV} (h : JS w u p ao n cap bA bB a b) (o1 : w.heap.size + 2 ≤ p) (o2 : p < bA) (o3 : bA < bB) (x : VV) : JS w (putV u bA x) p ao n cap bA bB x b :=
  ⟨below_putV h.bel (by omega) x, cur_putV h.cur o2 x, vb_off h.t2 x (by omega), vb_off h.t3 x (by omega), vb_put h.A x, vb_off h.B x (by omega)⟩
theorem JS.setB {w u : World} {p : Nat} {ao : Option Addr} {n cap bA bB : Nat} {a b : VV} (h : JS w u p ao n cap bA bB a b) (o1 : w.heap.size + 2 ≤ p) (o2 : p < bA) (o3 : bA < bB) (x : VV) : JS w (putV u bB x) p ao n cap bA bB a x :=
  ⟨below_putV h.bel (by omega) x, cur_putV h.cur (by omega) x, vb_off h.t2 x (by omega), vb_off h.t3 x (by omega), vb_off h.A x (by omega), vb_put h.B x⟩
theorem JS.setK {w u : World} {p : Nat} {ao : Option Addr} {n cap bA bB : Nat} {a b : VV} (h : JS w u p ao n cap bA bB a b) (o1 : w.heap.size + 2 ≤ p) (o2 : p < bA) (o3 : bA < bB) (k : Int) : JS w (u.setCell ⟨bA, 0, none⟩ (.int .i64 k)) p ao n cap bA bB { a with k := k } b :=
  ⟨h.bel.setCell (by simp; omega) _, h.cur.put o2 _ _, Arr.other h.t2 (by simp; omega) _, Arr.other h.t3 (by simp; omega) _, h.A.setK k, Arr.other h.B (by simp; omega) _⟩

def GV (x : VV) : Prop := NumV x ∨ PtrV x 2

set_option maxRecDepth 20000 in
set_option maxHeartbeats 8000000 in
theorem drawJoin_any (ao : Option Addr) (n cap : Nat) (w : World) (hn : n ≤ 1048576) (hr : Bytes0 w w.heap.size ao n) :
    Calls Try.prog 10 #[.slice ao n cap] w fun e w' => ∃ a b : VV, e = .returned (.tuple #[a.v, b.v]) ∧ (GV a ∨ a.k = 2) ∧ GV b ∧ Below w.heap.size w w' := by
  have HR : Hid (Bytes0 w w.heap.size ao n) := hr
  clear hr
  go_enter Try.func10, Try.ntmps10
  go_wp2_with fail
  obtain ⟨u, hu, hbu, t2, t3, hsz⟩ : ∃ v, (w.alloc (.cells #[.int .i64 0, .bool false, .int .i64 0, .int .i64 0, .int .i64 0, .int .i64 0] 24)).alloc (.cells #[.int .i64 0, .bool false, .int .i64 0, .int .i64 0, .int .i64 0, .int .i64 0] 24) = v ∧ Below w.heap.size w v ∧ Vb v w.heap.size zV ∧ Vb v (w.heap.size + 1) zV ∧ w.heap.size + 2 ≤ v.heap.size := by
    refine ⟨_, rfl, ((Below.refl _ _).alloc (Nat.le_refl _) _).alloc (by simp) _, (Vb.new w zV).below ((Below.refl _ _).alloc (Nat.le_refl _) _) (by simp), ?_, by simp⟩
    have h := Vb.new (w.alloc (.cells #[.int .i64 0, .bool false, .int .i64 0, .int .i64 0, .int .i64 0, .int .i64 0] 24)) zV
    rw [World.size_alloc] at h
    exact h
  rw [hu]
  refine (l1New_any ao n cap _ hn ?_).mono ?_
  · rcases HR.out with h | ⟨b, off, h1, h2, h3⟩
    · exact .inl h
    · exact .inr ⟨b, off, h1, by omega, fun i hi => by obtain ⟨v, q1, q2, q3⟩ := h3 i hi; exact ⟨v, q1, q2, (hbu.cell (p := ⟨b, off + i, none⟩) h2).trans q3⟩⟩
  rintro e w1 ⟨p, rfl, hp, hb1, c1⟩
  have o1 : w.heap.size + 2 ≤ p := by omega
  have B1 : Hid (Below w.heap.size w w1) := hbu.trans (hb1.mono hbu.size)
  have T2 : Hid (Vb w1 w.heap.size zV) := t2.below hb1 t2.lt
  have T3 : Hid (Vb w1 (w.heap.size + 1) zV) := t3.below hb1 t3.lt
  have C1 : Hid (Cur w1 p ao n cap) := c1
  clear hu hbu t2 t3 hsz hp hb1 c1 HR
  go_wp2_with fail
  refine (l4DrawNum_any p ao n cap _ C1.out).mono ?_
  rintro e w2 ⟨a, rfl, ga, f, c⟩
  have lp2 := c.lt
  have B2 : Hid (Below w.heap.size w w2) := f.below B1.out (by omega) B1.out.size
  have T22 : Hid (Vb w2 w.heap.size zV) := f.arr T2.out (by omega)
  have T32 : Hid (Vb w2 (w.heap.size + 1) zV) := f.arr T3.out (by omega)
  have C2 : Hid (Cur w2 p ao n cap) := c
  have GA : Hid (GV a) := Or.inl ga
  clear f c ga B1 T2 T3 C1
  simp only [VV.v]
  go_wp2_with fail
  obtain ⟨u2, hu2, hbu2, va⟩ : ∃ v, w2.alloc (.cells #[.int .i64 a.k, .bool a.s, .int .i64 a.m, .int .i64 a.h, .int .i64 a.lo, .int .i64 a.hi] 24) = v ∧ Below w2.heap.size w2 v ∧ Vb v w2.heap.size a := ⟨_, rfl, (Below.refl _ _).alloc (Nat.le_refl _) _, Vb.new w2 a⟩
  rw [hu2]
  refine (l4DrawNum_any p ao n cap _ (C2.out.below hbu2)).mono ?_
  rintro e w3 ⟨b, rfl, gb, f, c⟩
  have B3 : Hid (Below w.heap.size w w3) := f.below (B2.out.trans (hbu2.mono B2.out.size)) (by omega) (Nat.le_trans B2.out.size hbu2.size)
  have T23 : Hid (Vb w3 w.heap.size zV) := f.arr (T22.out.below hbu2 T22.out.lt) (by omega)
  have T33 : Hid (Vb w3 (w.heap.size + 1) zV) := f.arr (T32.out.below hbu2 T32.out.lt) (by omega)
  have A3 : Hid (Vb w3 w2.heap.size a) := f.arr va (by omega)
  have C3 : Hid (Cur w3 p ao n cap) := c
  have GB : Hid (GV b) := Or.inl gb
  have o3 : w2.heap.size < w3.heap.size := A3.out.lt
  clear f c gb hu2 hbu2 va B2 T22 T32 C2
  simp only [VV.v]
  go_wp2_with fail
  obtain ⟨u3, hu3, hbu3, vb⟩ : ∃ v, w3.alloc (.cells #[.int .i64 b.k, .bool b.s, .int .i64 b.m, .int .i64 b.h, .int .i64 b.lo, .int .i64 b.hi] 24) = v ∧ Below w3.heap.size w3 v ∧ Vb v w3.heap.size b := ⟨_, rfl, (Below.refl _ _).alloc (Nat.le_refl _) _, Vb.new w3 b⟩
  rw [hu3]
  have j3 : JS w u3 p ao n cap w2.heap.size w3.heap.size a b := ⟨B3.out.trans (hbu3.mono B3.out.size), C3.out.below hbu3, T23.out.below hbu3 T23.out.lt, T33.out.below hbu3 T33.out.lt, A3.out.below hbu3 A3.out.lt, vb⟩
  refine (l1Below_any p ao n cap 6 _ (by omega) j3.cur).mono ?_
  rintro e w4 ⟨k, rfl, k0, k6, f, c⟩
  have J4 : Hid (JS w w4 p ao n cap w2.heap.size w3.heap.size a b) := j3.fw f c o1 lp2 o3
  clear f c hu3 hbu3 vb j3 B3 T23 T33 A3 C3
  generalize w2.heap.size = bA at *
  generalize w3.heap.size = bB at *
  go_upto_if 17 with fail
  go_cut [7] (fun s7 wx => s7 = .int .i64 k ∧ ∃ a', GV a' ∧ JS w wx p ao n cap bA bB a' b)
  case first =>
    by_cases c3 : k < 3
    · go_wp2_with fail
      refine (l4DrawPtr_any p ao n cap 2 _ (by omega) J4.out.cur).mono ?_
      rintro e w5 ⟨x, rfl, gx, f, c⟩
      have J5 : Hid (JS w w5 p ao n cap bA bB a b) := J4.out.fw f c o1 lp2 o3
      have GX : Hid (PtrV x 2) := gx
      clear f c gx
      simp only [VV.v]
      obtain ⟨v0, v1, v2, v3, v4, v5⟩ := J5.out.A.cells
      have vf := J5.out.A.free
      have vl := J5.out.A.lt
      go_wp2_with fail
      go_meet
      exact ⟨rfl, x, Or.inr GX.out, J5.out.setA o1 lp2 o3 x⟩
    · go_wp2_with fail
      go_meet
      exact ⟨rfl, a, GA.out, J4.out⟩
  case rest =>
    obtain ⟨rfl, a1, ga1, j5⟩ := hcut
    have J5 : Hid (JS w wc p ao n cap bA bB a1 b) := j5
    have GA1 : Hid (GV a1) := ga1
    clear j5 ga1 J4 GA a
    generalize wc = w5 at J5 ⊢
    go_upto_region 7 with fail
    go_cut [7, 25] (fun s7 s25 wx => s7 = .int .i64 k ∧ (∃ t : Bool, s25 = .bool t) ∧ wx = w5)
    case first =>
      go_wp2_with fail
      all_goals
        go_meet
        exact ⟨rfl, ⟨_, rfl⟩, rfl⟩
    case rest =>
      obtain ⟨rfl, ⟨t, rfl⟩, rfl⟩ := hcut
      generalize wc = w5 at J5 ⊢
      go_upto_if 25 with fail
      go_cut [7] (fun s7 wx => s7 = .int .i64 k ∧ ∃ b', GV b' ∧ JS w wx p ao n cap bA bB a1 b')
      case first =>
        cases t with
        | true =>
          go_wp2_with fail
          refine (l4DrawPtr_any p ao n cap 2 _ (by omega) J5.out.cur).mono ?_
          rintro e w6 ⟨x, rfl, gx, f, c⟩
          have J6 : Hid (JS w w6 p ao n cap bA bB a1 b) := J5.out.fw f c o1 lp2 o3
          have GX : Hid (PtrV x 2) := gx
          clear f c gx
          simp only [VV.v]
          obtain ⟨v0, v1, v2, v3, v4, v5⟩ := J6.out.B.cells
          have vf := J6.out.B.free
          have vl := J6.out.B.lt
          go_wp2_with fail
          go_meet
          exact ⟨rfl, x, Or.inr GX.out, J6.out.setB o1 lp2 o3 x⟩
        | false =>
          go_wp2_with fail
          go_meet
          exact ⟨rfl, b, GB.out, J5.out⟩
      case rest =>
        obtain ⟨rfl, b1, gb1, j6⟩ := hcut
        have J6 : Hid (JS w wc p ao n cap bA bB a1 b1) := j6
        have GB1 : Hid (GV b1) := gb1
        clear j6 gb1 J5 GB b
        generalize wc = w6 at J6 ⊢
        go_wp2_with fail
        refine (l1Once_any p ao n cap 20 _ (by omega) J6.out.cur).mono ?_
        rintro e w7 ⟨q, rfl, f, c⟩
        have J7 : Hid (JS w w7 p ao n cap bA bB a1 b1) := J6.out.fw f c o1 lp2 o3
        clear f c J6
        go_upto_if 29 with fail
        go_cut [7] (fun s7 wx => s7 = .int .i64 k ∧ ∃ a', (GV a' ∨ a'.k = 2) ∧ JS w wx p ao n cap bA bB a' b1)
        case first =>
          cases q with
          | true =>
            obtain ⟨v0, v1, v2, v3, v4, v5⟩ := J7.out.A.cells
            have vf := J7.out.A.free
            have vl := J7.out.A.lt
            go_wp2_with fail
            go_meet
            exact ⟨rfl, _, Or.inr rfl, J7.out.setK o1 lp2 o3 2⟩
          | false =>
            go_wp2_with fail
            go_meet
            exact ⟨rfl, a1, Or.inl GA1.out, J7.out⟩
        case rest =>
          obtain ⟨rfl, a2, ga2, j8⟩ := hcut
          have J8 : Hid (JS w wc p ao n cap bA bB a2 b1) := j8
          have GA2 : Hid (GV a2 ∨ a2.k = 2) := ga2
          clear j8 ga2 J7 GA1 a1
          generalize wc = w8 at J8 ⊢
          go_upto_region 11 with fail
          have s0 : ∀ w', (Vb w' bA a2 ∧ Vb w' bB b1) → w'.cell? ⟨bA, 0, none⟩ = some (.int .i64 a2.k) := fun w' h => h.1.cells.1
          have s1 : ∀ w', (Vb w' bA a2 ∧ Vb w' bB b1) → w'.cell? ⟨bA, 1, none⟩ = some (.bool a2.s) := fun w' h => h.1.cells.2.1
          have s2 : ∀ w', (Vb w' bA a2 ∧ Vb w' bB b1) → w'.cell? ⟨bA, 2, none⟩ = some (.int .i64 a2.m) := fun w' h => h.1.cells.2.2.1
          have s3 : ∀ w', (Vb w' bA a2 ∧ Vb w' bB b1) → w'.cell? ⟨bA, 3, none⟩ = some (.int .i64 a2.h) := fun w' h => h.1.cells.2.2.2.1
          have s4 : ∀ w', (Vb w' bA a2 ∧ Vb w' bB b1) → w'.cell? ⟨bA, 4, none⟩ = some (.int .i64 a2.lo) := fun w' h => h.1.cells.2.2.2.2.1
          have s5 : ∀ w', (Vb w' bA a2 ∧ Vb w' bB b1) → w'.cell? ⟨bA, 5, none⟩ = some (.int .i64 a2.hi) := fun w' h => h.1.cells.2.2.2.2.2
          have t0 : ∀ w', (Vb w' bA a2 ∧ Vb w' bB b1) → w'.cell? ⟨bB, 0, none⟩ = some (.int .i64 b1.k) := fun w' h => h.2.cells.1
          have t1 : ∀ w', (Vb w' bA a2 ∧ Vb w' bB b1) → w'.cell? ⟨bB, 1, none⟩ = some (.bool b1.s) := fun w' h => h.2.cells.2.1
          have t2 : ∀ w', (Vb w' bA a2 ∧ Vb w' bB b1) → w'.cell? ⟨bB, 2, none⟩ = some (.int .i64 b1.m) := fun w' h => h.2.cells.2.2.1
          have t3 : ∀ w', (Vb w' bA a2 ∧ Vb w' bB b1) → w'.cell? ⟨bB, 3, none⟩ = some (.int .i64 b1.h) := fun w' h => h.2.cells.2.2.2.1
          have t4 : ∀ w', (Vb w' bA a2 ∧ Vb w' bB b1) → w'.cell? ⟨bB, 4, none⟩ = some (.int .i64 b1.lo) := fun w' h => h.2.cells.2.2.2.2.1
          have t5 : ∀ w', (Vb w' bA a2 ∧ Vb w' bB b1) → w'.cell? ⟨bB, 5, none⟩ = some (.int .i64 b1.hi) := fun w' h => h.2.cells.2.2.2.2.2
          obtain ⟨w9, hw9, j9⟩ : ∃ v, w8.drew = v ∧ JS w v p ao n cap bA bB a2 b1 := ⟨_, rfl, J8.out.below (Below.refl _ _).drew⟩
          have J9 : Hid (JS w w9 p ao n cap bA bB a2 b1) := j9
          refine wp_region_held_drew (S := fun w' => Vb w' bA a2 ∧ Vb w' bB b1) (by kernel_rfl) (by rw [hw9]; exact ⟨j9.A, j9.B⟩) (fun _ => ?_)
          rw [hw9]
          have hS9 : Vb w9 bA a2 ∧ Vb w9 bB b1 := ⟨j9.A, j9.B⟩
          clear hw9 j9 J8
          refine wpAnyH_tk 0 ?k1v rfl ?k1y ?k1r
          case k1y => (intro w hSw; (try dsimp only at hSw); go_simp; try with_reducible rfl)
          try go_frame
          refine wpAnyH_tk 1 ?k2v rfl ?k2y ?k2r
          case k2y => (intro w hSw; (try dsimp only at hSw); go_simp; try with_reducible rfl)
          try go_frame
          obtain ⟨x0, x1, x2, x3, x4, x5⟩ := J9.out.t2.cells
          have xf := J9.out.t2.free
          have xl := J9.out.t2.lt
          refine wpAnyH_ready (rs := [2]) (by kernel_rfl) (by simp) ?_
          refine AllReadyH.cons rfl (fun KK hK => ?_) AllReadyH.nil
          go_simp
          change KK _ (putV w9 w.heap.size a2)
          obtain ⟨w10, hw10, b10, t10, A10, B10, U10⟩ : ∃ v, putV w9 w.heap.size a2 = v ∧ Below w.heap.size w v ∧ Vb v w.heap.size a2 ∧ Vb v bA a2 ∧ Vb v bB b1 ∧ Vb v (w.heap.size + 1) zV := ⟨_, rfl, below_putV J9.out.bel (Nat.le_refl _) _, vb_put J9.out.t2 a2, vb_off J9.out.A a2 (by omega), vb_off J9.out.B a2 (by omega), vb_off J9.out.t3 a2 (by omega)⟩
          rw [hw10]
          refine hK.out _ _ ⟨A10, B10⟩ (fun _ => ?_)
          clear hK KK x0 x1 x2 x3 x4 x5 xf xl hw10
          try go_frame
          obtain ⟨y0, y1, y2, y3, y4, y5⟩ := U10.cells
          have yf := U10.free
          have yl := U10.lt
          refine wpAnyH_ready (rs := [3]) (by kernel_rfl) (by simp) ?_
          refine AllReadyH.cons rfl (fun KK hK => ?_) AllReadyH.nil
          go_simp
          change KK _ (putV w10 (w.heap.size + 1) b1)
          obtain ⟨w11, hw11, b11, t11, u11, A11, B11⟩ : ∃ v, putV w10 (w.heap.size + 1) b1 = v ∧ Below w.heap.size w v ∧ Vb v w.heap.size a2 ∧ Vb v (w.heap.size + 1) b1 ∧ Vb v bA a2 ∧ Vb v bB b1 := ⟨_, rfl, below_putV b10 (by omega) _, vb_off t10 b1 (by omega), vb_put U10 b1, vb_off A10 b1 (by omega), vb_off B10 b1 (by omega)⟩
          rw [hw11]
          refine hK.out _ _ ⟨A11, B11⟩ (fun _ => ?_)
          clear hK KK y0 y1 y2 y3 y4 y5 yf yl hw11 t10 U10 A10 B10 b10
          refine wpAnyH_done (by kernel_rfl) ?_ _
          obtain ⟨x0, x1, x2, x3, x4, x5⟩ := t11.cells
          obtain ⟨y0, y1, y2, y3, y4, y5⟩ := u11.cells
          have HB : Hid (Below w.heap.size w w11) := b11
          clear b11 t11 u11 A11 B11
          go_wp2
          exact bodyPost_ret (v := .tuple #[a2.v, b1.v]) (by simp [results, Try.results10, go_sem, VV.v, *]) rfl ⟨a2, b1, rfl, GA2.out, GB1.out, HB.out⟩
end Go.Proofs.Ytjnooklalbcamaa
