import Derived.Test.YtdbhgaegblclaaaDoorRdTop
import Derived.Test.YtdbhgaegblclaaaDoorOpenRow
import Derived.Test.YtdbhgaegblclaaaDoorCards
import Derived.Test.YtdbhgaegblclaaaDoorTie
import Derived.OpenShut
import Derived.ChangeOld
import Derived.Below
import Derived.ProofKit
import Derived.LaidMore
import Derived.Lay
import Derived.SevenTiedAt
import Derived.Stop.Joined
/- FnExactReadAsm: proved. -/
namespace Go.Proofs.YtdbhgaegblclaaaDoor
open Go.ChangeShapes Go.WideShapes Go.ChangeAt Go.RowKit Go.Deep

theorem rdl_own : ownKnob Tryd.prog.godebug = none := by kernel_rfl
theorem rdl_laidOut : laidOutB Tryd.prog = true := by kernel_rfl

set_option maxHeartbeats 400000 in
theorem lawRead_great (ao : Option Addr) (len cap : Nat) (d : Int) (w : World) (h : 1048576 < len) (hm : len ≤ maxLen) :
    Calls Tryd.prog 6 #[.slice ao len cap, .int .i64 d] w fun e w' => e = .returned (.bool true) ∧ Below w.heap.size w w' := by
  unfold maxLen at hm
  have h' : (1048576 : Int) < len := by omega
  go_enter Tryd.func6, Tryd.ntmps6
  go_wp2
  go_ret
  exact ⟨rfl, Below.refl _ _⟩

/-- What is known while the law goes on: the two answers, and the variables that hold them. -/
structure LW (w : World) (b1 b3 p2 p4 : Nat) (er ln : Int) (xs : List NV) (aos : Option Addr) (cs : Nat) (aog : Option Addr) (cg : Nat) (v : World) : Prop where
  B : Below w.heap.size w v
  S : v.ownsRow b1 56 6 (.slice aos xs.length cs) xs.length (ci xs)
  G : v.ownsRow b3 56 6 (.slice aog xs.length cg) xs.length (ci xs)
  Q : v.heap[p2]? = some (.cells #[.int .i64 er, .int .i64 ln, .slice aos xs.length cs] 29)
  P : v.heap[p4]? = some (.cells #[.int .i64 er, .int .i64 ln, .slice aog xs.length cg] 29)
theorem LW.below {w v v' : World} {b1 b3 p2 p4 : Nat} {er ln : Int} {xs : List NV} {aos aog : Option Addr} {cs cg : Nat} (h : LW w b1 b3 p2 p4 er ln xs aos cs aog cg v) (hb : Below v.heap.size v v') : LW w b1 b3 p2 p4 er ln xs aos cs aog cg v' :=
  ⟨h.B.trans (hb.mono h.B.size), row_belowB h.S hb, row_belowB h.G hb, obj_below h.Q hb, obj_below h.P hb⟩
theorem LW.fr {S : Nat → Prop} {w v v' : World} {b1 b3 p2 p4 : Nat} {er ln : Int} {xs : List NV} {aos aog : Option Addr} {cs cg : Nat} (h : LW w b1 b3 p2 p4 er ln xs aos cs aog cg v) (hf : Fr S v v') (hw : ∀ k, k < w.heap.size → ¬ S k) (hs : ∀ q, (Value.slice aos xs.length cs).ownBlock = some q → ¬ S q) (hg : ∀ q, (Value.slice aog xs.length cg).ownBlock = some q → ¬ S q) (h2 : ¬ S p2) (h4 : ¬ S p4) : LW w b1 b3 p2 p4 er ln xs aos cs aog cg v' :=
  ⟨h.B.trans (hf.under h.B.size hw), row_fr h.S hf hs, row_fr h.G hf hg, obj_fr h.Q hf h2, obj_fr h.P hf h4⟩

set_option maxRecDepth 20000 in
set_option maxHeartbeats 8000000 in
theorem lawRead_walk (ao : Option Addr) (t : List UInt8) (cap : Nat) (d : Int) (w : World) (hlen : t.length ≤ 1048576) (hin : InRow w ao t.length (numF .u8 (bF t)))
    (ht2 : Lib.TabIs Tryd.prog w "strings.asciiSpace" .u8 Lib.asciiSpaceTab) :
    Calls Tryd.prog 6 #[.slice ao t.length cap, .int .i64 d] w fun e w' => e = .returned (.bool true) ∧ Below w.heap.size w w' := by
  have HI : Hid (InRow w ao t.length (numF .u8 (bF t))) := hin
  have T2 : Hid (Lib.TabBelow Tryd.prog w.heap.size w "strings.asciiSpace" .u8 Lib.asciiSpaceTab) := Lib.tabBelow_of_tabIs ht2
  clear hin ht2
  have hlen' : (t.length : Int) ≤ 1048576 := by omega
  have hlb : (t.length : Int) ≤ 1099511627776 := by omega
  obtain ⟨er, ln, xs, hA⟩ : ∃ er ln xs, rdA d t = (er, ln, xs) := ⟨_, _, _, rfl⟩
  have HA : Hid (rdA d t = (er, ln, xs)) := hA
  have hxl : xs.length ≤ 1048576 := by
    have := rdA_len d t
    rw [hA] at this
    have h2 : xs.length ≤ 100000 := this
    omega
  clear hA
  go_enter Tryd.func6, Tryd.ntmps6
  go_wp2_with fail
  refine (toByteS_in ao t.length cap (bF t) _ hlen HI.out).mono ?_
  rintro e w1 ⟨rfl, hb1, ha1⟩
  have A1 : Hid (Arr w1 w.heap.size t.length (numF .u8 (bF t))) := ha1
  have B1 : Hid (Below w.heap.size w w1) := hb1
  clear ha1 hb1
  go_wp2_with fail
  refine (specRead_any _ _ _ t d _ hlen' A1.out.at).mono ?_
  rintro e w2 ⟨hr, hb2⟩
  rw [HA.out] at hr
  obtain ⟨sv, rfl, ho2⟩ := hr
  obtain ⟨aos, cs, rfl⟩ := row_sl ho2
  have B2 : Hid (Below w.heap.size w w2) := B1.out.trans (hb2.mono B1.out.size)
  have S2 : Hid (w2.ownsRow w1.heap.size 56 6 (.slice aos xs.length cs) xs.length (ci xs)) := ho2
  clear ho2 hb2 A1
  go_wp2_with fail
  obtain ⟨u2, hu, bu, pu⟩ : ∃ v, w2.alloc (.cells #[.int .i64 er, .int .i64 ln, .slice aos xs.length cs] 29) = v ∧ Below w2.heap.size w2 v ∧ v.heap[w2.heap.size]? = some (.cells #[.int .i64 er, .int .i64 ln, .slice aos xs.length cs] 29) := ⟨_, rfl, (Below.refl _ _).alloc (Nat.le_refl _) _, heap_alloc_newB _ _⟩
  rw [hu]
  clear hu
  obtain ⟨p2, hp⟩ : ∃ p, w2.heap.size = p := ⟨_, rfl⟩
  have PZ2 : w2.heap.size ≤ p2 ∧ p2 ≤ w2.heap.size := by omega
  rw [hp] at pu ⊢
  have P2 : Hid (u2.heap[p2]? = some (.cells #[.int .i64 er, .int .i64 ln, .slice aos xs.length cs] 29)) := pu
  have BU : Hid (Below w.heap.size w u2) := B2.out.trans (bu.mono B2.out.size)
  have SU : Hid (u2.ownsRow w1.heap.size 56 6 (.slice aos xs.length cs) xs.length (ci xs)) := row_belowB S2.out bu
  clear bu pu hp B2 S2
  refine (toByteS_in ao t.length cap (bF t) _ hlen (HI.out.below BU.out (Nat.le_refl _))).mono ?_
  rintro e w3 ⟨rfl, hb3, ha3⟩
  have B3 : Hid (Below w.heap.size w w3) := BU.out.trans (hb3.mono BU.out.size)
  have X3 : Hid (Arr w3 u2.heap.size t.length (numF .u8 (bF t))) := ha3
  have S3 : Hid (w3.ownsRow w1.heap.size 56 6 (.slice aos xs.length cs) xs.length (ci xs)) := row_belowB SU.out hb3
  have Q3 : Hid (w3.heap[p2]? = some (.cells #[.int .i64 er, .int .i64 ln, .slice aos xs.length cs] 29)) := obj_below P2.out hb3
  have p2x : p2 < u2.heap.size := (Array.getElem?_eq_some_iff.1 P2.out).1
  have wx : w.heap.size ≤ u2.heap.size := BU.out.size
  have x3 : u2.heap.size < w3.heap.size := ha3.lt
  obtain ⟨xb, hxb⟩ : ∃ y, u2.heap.size = y := ⟨_, rfl⟩
  rw [hxb] at X3 p2x wx x3 ⊢
  have HSQ : Hid (∀ q, (Value.slice aos xs.length cs).ownBlock = some q → q < xb) := fun q hq => by have := (SU.out.lt q hq).2; omega
  clear hb3 ha3 BU SU P2 hxb
  go_wp2_with fail
  refine (implRead_any readLine_any _ _ _ t d _ hlen' (Nat.le_refl _) X3.out.at (T2.out _ B3.out)).mono ?_
  rintro e w4 ⟨hr, hb4⟩
  rw [HA.out] at hr
  obtain ⟨gv, rfl, ho4⟩ := hr
  obtain ⟨aog, cg, rfl⟩ := row_sl ho4
  have B4 : Hid (Below w.heap.size w w4) := B3.out.trans (hb4.mono B3.out.size)
  have S4 : Hid (w4.ownsRow w1.heap.size 56 6 (.slice aos xs.length cs) xs.length (ci xs)) := row_belowB S3.out hb4
  have X4 : Hid (Arr w4 xb t.length (numF .u8 (bF t))) := X3.out.below hb4 X3.out.lt
  have Q4 : Hid (w4.heap[p2]? = some (.cells #[.int .i64 er, .int .i64 ln, .slice aos xs.length cs] 29)) := obj_below Q3.out hb4
  have G4 : Hid (w4.ownsRow w3.heap.size 56 6 (.slice aog xs.length cg) xs.length (ci xs)) := ho4
  have x4 : xb < w4.heap.size := Nat.lt_of_lt_of_le x3 hb4.size
  clear ho4 hb4 S3 X3 Q3
  go_upto_region 6 with fail
  obtain ⟨u4, hu, bu, pu⟩ : ∃ v, w4.alloc (.cells #[.int .i64 er, .int .i64 ln, .slice aog xs.length cg] 29) = v ∧ Below w4.heap.size w4 v ∧ v.heap[w4.heap.size]? = some (.cells #[.int .i64 er, .int .i64 ln, .slice aog xs.length cg] 29) := ⟨_, rfl, (Below.refl _ _).alloc (Nat.le_refl _) _, heap_alloc_newB _ _⟩
  rw [hu]
  clear hu
  obtain ⟨p4, hp⟩ : ∃ p, w4.heap.size = p := ⟨_, rfl⟩
  have PZ4 : w4.heap.size ≤ p4 ∧ p4 ≤ w4.heap.size := by omega
  rw [hp] at pu ⊢
  have P4 : Hid (u4.heap[p4]? = some (.cells #[.int .i64 er, .int .i64 ln, .slice aog xs.length cg] 29)) := pu
  have BU : Hid (Below w.heap.size w u4) := B4.out.trans (bu.mono B4.out.size)
  have S5 : Hid (u4.ownsRow w1.heap.size 56 6 (.slice aos xs.length cs) xs.length (ci xs)) := row_belowB S4.out bu
  have X5 : Hid (Arr u4 xb t.length (numF .u8 (bF t))) := X4.out.below bu X4.out.lt
  have Q5 : Hid (u4.heap[p2]? = some (.cells #[.int .i64 er, .int .i64 ln, .slice aos xs.length cs] 29)) := obj_below Q4.out bu
  have G5 : Hid (u4.ownsRow w3.heap.size 56 6 (.slice aog xs.length cg) xs.length (ci xs)) := row_belowB G4.out bu
  have xp4 : xb < p4 := by omega
  clear bu pu hp B4 S4 X4 Q4 G4
  have hsq : Hid (∀ q, (Value.slice aos xs.length cs).ownBlock = some q → q < xb) := HSQ.out
  have hgq : Hid (∀ q, (Value.slice aog xs.length cg).ownBlock = some q → xb < q) := fun q hq => by have := (G5.out.lt q hq).1; omega
  have L5 : Hid (LW w w1.heap.size w3.heap.size p2 p4 er ln xs aos cs aog cg u4) := ⟨BU.out, S5.out, G5.out, Q5.out, P4.out⟩
  clear BU S5 G5 Q5 P4 HSQ
  have q0 := hp_cell L5.out.Q 0
  have q1 := hp_cell L5.out.Q 1
  have q2 := hp_cell L5.out.Q 2
  simp only [List.getElem?_toArray, List.getElem?_cons_zero, List.getElem?_cons_succ] at q0 q1 q2
  have qz := (Array.getElem?_eq_some_iff.1 L5.out.Q).1
  have g0 := hp_cell L5.out.P 0
  have g1 := hp_cell L5.out.P 1
  have g2 := hp_cell L5.out.P 2
  simp only [List.getElem?_toArray, List.getElem?_cons_zero, List.getElem?_cons_succ] at g0 g1 g2
  have gz := (Array.getElem?_eq_some_iff.1 L5.out.P).1
  go_wp2_with fail
  refine (eqAsmRes_same er ln xs _ hxl L5.out.G L5.out.S).mono ?_
  rintro e w6 ⟨rfl, hb6⟩
  have L6 : Hid (LW w w1.heap.size w3.heap.size p2 p4 er ln xs aos cs aog cg w6) := L5.out.below hb6
  have X6 : Hid (Arr w6 xb t.length (numF .u8 (bF t))) := X5.out.below hb6 X5.out.lt
  clear hb6 L5 X5
  clear q0 q1 q2 qz g0 g1 g2 gz
  go_wp2_with fail
  refine (toByteS_in ao t.length cap (bF t) _ hlen (HI.out.below L6.out.B (Nat.le_refl _))).mono ?_
  rintro e w7 ⟨rfl, hb7, ha7⟩
  have L7 : Hid (LW w w1.heap.size w3.heap.size p2 p4 er ln xs aos cs aog cg w7) := L6.out.below hb7
  have X7 : Hid (Arr w7 xb t.length (numF .u8 (bF t))) := X6.out.below hb7 X6.out.lt
  have Y7 : Hid (Arr w7 w6.heap.size t.length (numF .u8 (bF t))) := ha7
  clear hb7 ha7 L6 X6
  go_wp2_with fail
  refine (eqByteS_in _ _ t.length _ _ (bF t) _ hlb (.inr ⟨xb, rfl, X7.out⟩) (.inr ⟨_, rfl, Y7.out⟩)).mono ?_
  rintro e w8 ⟨rfl, hb8⟩
  have L8 : Hid (LW w w1.heap.size w3.heap.size p2 p4 er ln xs aos cs aog cg w8) := L7.out.below hb8
  have X8 : Hid (Arr w8 xb t.length (numF .u8 (bF t))) := X7.out.below hb8 X7.out.lt
  clear hb8 L7 X7 Y7
  go_wp2_with fail
  refine (markB_in _ t.length _ _ 1 _ hlb (by omega) (by omega) (.inr ⟨xb, rfl, X8.out⟩)).mono ?_
  rintro e w9 ⟨rfl, hf9, _⟩
  have L9 : Hid (LW w w1.heap.size w3.heap.size p2 p4 er ln xs aos cs aog cg w9) := L8.out.fr (hf9.mono (T := fun q => q = xb) (fun q hq => by have := hq.2; simp at this; exact this.symm)) (fun k hk e => by omega) (fun q hq e => by have := hsq.out q hq; omega) (fun q hq e => by have := hgq.out q hq; omega) (by omega) (by omega)
  clear hf9 L8 X8
  obtain ⟨km, hkm⟩ : ∃ y : Int, 1 + (t.length : Int) = y := ⟨_, rfl⟩
  rw [hkm]
  have km0 : ¬ km < 0 := by omega
  clear hkm
  have q0 := hp_cell L9.out.Q 0
  have q1 := hp_cell L9.out.Q 1
  have q2 := hp_cell L9.out.Q 2
  simp only [List.getElem?_toArray, List.getElem?_cons_zero, List.getElem?_cons_succ] at q0 q1 q2
  have qz := (Array.getElem?_eq_some_iff.1 L9.out.Q).1
  have g0 := hp_cell L9.out.P 0
  have g1 := hp_cell L9.out.P 1
  have g2 := hp_cell L9.out.P 2
  simp only [List.getElem?_toArray, List.getElem?_cons_zero, List.getElem?_cons_succ] at g0 g1 g2
  have gz := (Array.getElem?_eq_some_iff.1 L9.out.P).1
  go_wp2_with fail
  refine (eqAsmRes_same er ln xs _ hxl L9.out.G L9.out.S).mono ?_
  rintro e w10 ⟨rfl, hb10⟩
  have L10 : Hid (LW w w1.heap.size w3.heap.size p2 p4 er ln xs aos cs aog cg w10) := L9.out.below hb10
  clear hb10 L9
  clear q0 q1 q2 qz g0 g1 g2 gz
  have q0 := hp_cell L10.out.Q 0
  have q1 := hp_cell L10.out.Q 1
  have q2 := hp_cell L10.out.Q 2
  simp only [List.getElem?_toArray, List.getElem?_cons_zero, List.getElem?_cons_succ] at q0 q1 q2
  have qz := (Array.getElem?_eq_some_iff.1 L10.out.Q).1
  have g0 := hp_cell L10.out.P 0
  have g1 := hp_cell L10.out.P 1
  have g2 := hp_cell L10.out.P 2
  simp only [List.getElem?_toArray, List.getElem?_cons_zero, List.getElem?_cons_succ] at g0 g1 g2
  have gz := (Array.getElem?_eq_some_iff.1 L10.out.P).1
  go_wp2_with fail
  refine (markAsmRes_row er ln xs 1 _ hxl (by omega) (by omega) L10.out.G).mono ?_
  rintro e w11 ⟨rfl, hf11, hm11⟩
  have M11 : Hid (xs.length = 0 ∨ ∃ g c, Value.slice aog xs.length cg = .slice (some ⟨g, 0, none⟩) xs.length c ∧ Arr w11 g (xs.length * 6) (markL 1)) := hm11
  have HG : Hid (w10.ownsRow w3.heap.size 56 6 (.slice aog xs.length cg) xs.length (ci xs)) := L10.out.G
  have S11 : Hid (w11.ownsRow w1.heap.size 56 6 (.slice aos xs.length cs) xs.length (ci xs)) := row_fr L10.out.S hf11 (fun q h1 h2 => by have := hsq.out q h1; have := hgq.out q h2; omega)
  have Q11 : Hid (w11.heap[p2]? = some (.cells #[.int .i64 er, .int .i64 ln, .slice aos xs.length cs] 29)) := obj_fr L10.out.Q hf11 (fun e => by have := hgq.out p2 e; omega)
  have P11 : Hid (w11.heap[p4]? = some (.cells #[.int .i64 er, .int .i64 ln, .slice aog xs.length cg] 29)) := obj_fr L10.out.P hf11 (obj_ne L10.out.P L10.out.G (by decide))
  have B11 : Hid (Below w.heap.size w w11) := L10.out.B.trans (hf11.under L10.out.B.size (fun k hk e => by have := hgq.out k e; omega))
  obtain ⟨kn, hkn⟩ : ∃ y : Int, 1 + 6 * (xs.length : Int) = y := ⟨_, rfl⟩
  have HKN : Hid (1 + 6 * (xs.length : Int) = kn) := hkn
  rw [hkn]
  have kn0 : ¬ kn < 0 := by omega
  clear hkn hf11 hm11 L10
  clear q0 q1 q2 qz g0 g1 g2 gz
  have q0 := hp_cell Q11.out 0
  have q1 := hp_cell Q11.out 1
  have q2 := hp_cell Q11.out 2
  simp only [List.getElem?_toArray, List.getElem?_cons_zero, List.getElem?_cons_succ] at q0 q1 q2
  have g0 := hp_cell P11.out 0
  have g1 := hp_cell P11.out 1
  have g2 := hp_cell P11.out 2
  simp only [List.getElem?_toArray, List.getElem?_cons_zero, List.getElem?_cons_succ] at g0 g1 g2
  go_wp2_with fail
  refine (heldAsmRes_row er ln xs 1 _ _ hxl (by omega) (by omega) HG.out M11.out).mono ?_
  rintro e w12 ⟨rfl, hb12⟩
  rw [HKN.out]
  have B12 : Hid (Below w.heap.size w w12) := B11.out.trans (hb12.mono B11.out.size)
  have S12 : Hid (w12.ownsRow w1.heap.size 56 6 (.slice aos xs.length cs) xs.length (ci xs)) := row_belowB S11.out hb12
  have Q12 : Hid (w12.heap[p2]? = some (.cells #[.int .i64 er, .int .i64 ln, .slice aos xs.length cs] 29)) := obj_below Q11.out hb12
  clear hb12 S11 Q11 P11 B11 HG M11 q0 q1 q2 g0 g1 g2
  go_wp2_with fail
  refine (toByteS_in ao t.length cap (bF t) _ hlen (HI.out.below B12.out (Nat.le_refl _))).mono ?_
  rintro e w13 ⟨rfl, hb13, ha13⟩
  have B13 : Hid (Below w.heap.size w w13) := B12.out.trans (hb13.mono B12.out.size)
  have S13 : Hid (w13.ownsRow w1.heap.size 56 6 (.slice aos xs.length cs) xs.length (ci xs)) := row_belowB S12.out hb13
  have Q13 : Hid (w13.heap[p2]? = some (.cells #[.int .i64 er, .int .i64 ln, .slice aos xs.length cs] 29)) := obj_below Q12.out hb13
  have Y13 : Hid (Arr w13 w12.heap.size t.length (numF .u8 (bF t))) := ha13
  clear hb13 ha13 S12 Q12 B12
  go_wp2_with fail
  refine (implRead_any readLine_any _ _ _ t d _ hlen' (Nat.le_refl _) Y13.out.at (T2.out _ B13.out)).mono ?_
  rintro e w14 ⟨hr, hb14⟩
  rw [HA.out] at hr
  obtain ⟨hv, rfl, ho14⟩ := hr
  obtain ⟨aoh, ch, rfl⟩ := row_sl ho14
  have B14 : Hid (Below w.heap.size w w14) := B13.out.trans (hb14.mono B13.out.size)
  have S14 : Hid (w14.ownsRow w1.heap.size 56 6 (.slice aos xs.length cs) xs.length (ci xs)) := row_belowB S13.out hb14
  have Q14 : Hid (w14.heap[p2]? = some (.cells #[.int .i64 er, .int .i64 ln, .slice aos xs.length cs] 29)) := obj_below Q13.out hb14
  have H14 : Hid (w14.ownsRow w13.heap.size 56 6 (.slice aoh xs.length ch) xs.length (ci xs)) := ho14
  clear ho14 hb14 S13 Q13 B13 Y13
  go_upto_region 23 with fail
  obtain ⟨u14, hu, bu, pu⟩ : ∃ v, w14.alloc (.cells #[.int .i64 er, .int .i64 ln, .slice aoh xs.length ch] 29) = v ∧ Below w14.heap.size w14 v ∧ v.heap[w14.heap.size]? = some (.cells #[.int .i64 er, .int .i64 ln, .slice aoh xs.length ch] 29) := ⟨_, rfl, (Below.refl _ _).alloc (Nat.le_refl _) _, heap_alloc_newB _ _⟩
  rw [hu]
  clear hu
  obtain ⟨p14, hp⟩ : ∃ p, w14.heap.size = p := ⟨_, rfl⟩
  have PZ14 : w14.heap.size ≤ p14 ∧ p14 ≤ w14.heap.size := by omega
  rw [hp] at pu ⊢
  have P14 : Hid (u14.heap[p14]? = some (.cells #[.int .i64 er, .int .i64 ln, .slice aoh xs.length ch] 29)) := pu
  have BU : Hid (Below w.heap.size w u14) := B14.out.trans (bu.mono B14.out.size)
  have S15 : Hid (u14.ownsRow w1.heap.size 56 6 (.slice aos xs.length cs) xs.length (ci xs)) := row_belowB S14.out bu
  have Q15 : Hid (u14.heap[p2]? = some (.cells #[.int .i64 er, .int .i64 ln, .slice aos xs.length cs] 29)) := obj_below Q14.out bu
  have H15 : Hid (u14.ownsRow w13.heap.size 56 6 (.slice aoh xs.length ch) xs.length (ci xs)) := row_belowB H14.out bu
  clear bu pu hp B14 S14 Q14 H14
  have q0 := hp_cell Q15.out 0
  have q1 := hp_cell Q15.out 1
  have q2 := hp_cell Q15.out 2
  simp only [List.getElem?_toArray, List.getElem?_cons_zero, List.getElem?_cons_succ] at q0 q1 q2
  have g0 := hp_cell P14.out 0
  have g1 := hp_cell P14.out 1
  have g2 := hp_cell P14.out 2
  simp only [List.getElem?_toArray, List.getElem?_cons_zero, List.getElem?_cons_succ] at g0 g1 g2
  go_wp2_with fail
  refine (eqAsmRes_same er ln xs _ hxl H15.out S15.out).mono ?_
  rintro e w16 ⟨rfl, hb16⟩
  clear q0 q1 q2 g0 g1 g2
  go_wp2
  go_ret
  exact ⟨rfl, BU.out.trans (hb16.mono BU.out.size)⟩
theorem tabR_laid {name : String} {k : IntKind} {zs : List Int} {dd : DataW Unit} (hd : dd = Lib.tabData k zs) {W : World} (h : laidMetH Tryd.prog Rows.fnExactReadAsmRow.laid W) (hx : (Rows.fnExactReadAsmRow.laid.filter fun x => x.1 == name) = [(name, dd)]) {g : Nat} {t e : TypeId} {n : Nat}
    (hg : Tryd.prog.globalNamed name = some g) (hty : (Tryd.prog.globals[g]?).map (·.type) = some t) (ht : Tryd.prog.underlying t = some (.array n e)) (he : Tryd.prog.underlying e = some (.int k)) (hce : Tryd.prog.cellsOf e = 1) (hct : Tryd.prog.cellsOf t = n) :
    Lib.TabIs Tryd.prog W name k zs := by
  rw [MakeChecks.laidMetH_plain _ _ _ (by kernel_rfl)] at h
  have h1 := laidMet.filter (fun x => x.1 == name) h
  rw [hx, hd] at h1
  exact Lib.tabIs_of_head hg hty ht he hce hct h1
theorem rdl_u8 : Tryd.prog.cellsOf 5 = 1 := by kernel_rfl
theorem rdl_wf {n : Int} (h : (Lit.int .u8 n).wf = true) : 0 ≤ n ∧ n ≤ 255 := by
  simpa [Lit.wf, IntKind.min, IntKind.max, IntKind.signed, IntKind.bits] using h
theorem open_by {H : Type} {enc : TypeId × Value → H} {w : World} {base : Nat} {spare : Nat → Bool} {held : Bool} {fuel : Nat} {ao : Option Addr} {len cap : Nat} {x : DataW H × List MemPlace}
    (h : DataW.trod enc Tryd.prog w base spare held fuel 22 [.slice ao len cap] = some x) : len ≤ maxLen ∧ ∃ t : List UInt8, t.length = len ∧ InRow w ao t.length (numF .u8 (bF t)) := by
  obtain ⟨hm, f, hin, hel⟩ := open_row Tryd.underlying22 rdl_u8 (by omega) h
  refine ⟨hm, ?_⟩
  have hR : ∀ i, ∃ r : Int, i < len → f i = .int .u8 r ∧ (Lit.int .u8 r).wf = true := fun i => by
    by_cases hi : i < len
    · obtain ⟨n, y, hy⟩ := hel i hi
      simp [List.range, List.range.loop] at hy
      obtain ⟨r, e1, _, wb⟩ := DataW.trod_int Tryd.underlying5 hy
      simp at e1
      exact ⟨r, fun _ => ⟨e1, wb⟩⟩
    · exact ⟨0, fun h => absurd h hi⟩
  obtain ⟨R, hR⟩ : ∃ R : Nat → Int, ∀ i, i < len → f i = .int .u8 (R i) ∧ (Lit.int .u8 (R i)).wf = true := ⟨fun i => (hR i).choose, fun i hi => (hR i).choose_spec hi⟩
  refine ⟨byL len R, byL_len len R, ?_⟩
  rw [byL_len]
  rw [Nat.mul_one] at hin
  exact hin.congr fun i hi => by
    obtain ⟨e1, e2⟩ := hR i hi
    have e3 := rdl_wf e2
    rw [e1]
    show _ = Value.int .u8 (bF (byL len R) i)
    rw [byL_at hi e3.1 e3.2]

set_option maxRecDepth 100000 in
theorem lawRead_lifted (os : Os) (started : os.Started) (H : Type) (enc : TypeId × Value → H) :
    ReturnsInHanded {} Tryd.checked os 6 .any (fun w args => (Rows.fnExactReadAsmSpec.pre enc Tryd.prog Tryd.f6 Rows.fnExactReadAsmRow.domain false w args ∧ laidMetH Tryd.prog Rows.fnExactReadAsmRow.laid w) ∧ sizedMet enc Tryd.prog Tryd.f6 (OpenSpec.ofChange Rows.fnExactReadAsmSpec) false w args)
      (Rows.fnExactReadAsmSpec.post enc Tryd.prog Tryd.f6 false true false false) := by
  refine returnsInHanded_of_change_and (C := Tryd.checked) (X := fun w _ => laidMetH Tryd.prog Rows.fnExactReadAsmRow.laid w) (fun _ _ _ hh h => h.of_heap hh) rdl_own started (by kernel_rfl) Tryd.func6
    (ChangeSpec.witness_shaped (enc := enc) (C := Tryd.checked) (os := os) (X := fun w _ => laidMetH Tryd.prog Rows.fnExactReadAsmRow.laid w) false (World.laidAll Tryd.prog os Rows.fnExactReadAsmRow.laid) #[.slice none 0 0, .int .i64 0] 8 (World.laidAll_os _ _ _)
      (World.shaped_of_ZipB (by kernel_rfl) (by kernel_rfl)) (by kernel_rfl) (by kernel_rfl) (by kernel_rfl)
      (by rw [MakeChecks.laidMetH_plain _ _ _ (by kernel_rfl)]; exact laidMet_laidAll _ (by kernel_rfl) (by kernel_rfl))) ?_
  intro W base args ds gs before hval0 hW hc _ hL _
  have hval : ∀ (j : Nat) t v, Tryd.f6.params[j]? = some t → args[j]? = some v → Value.okWide Tryd.prog W .any base t v := hval0
  have hW' := hW
  obtain ⟨p, q, hA0, hV, rfl, _, _⟩ := hW
  have hA : DataW.TrodAll enc Tryd.prog W 0 (fun _ => true) true Tryd.f6.params.toList args.toList ds p := hA0
  rw [Tryd.params6] at hA hval
  obtain ⟨v0, v1, d0, d1, p0, p1, rfl, rfl, rfl, h0, h1⟩ := trodAll_two hA
  obtain ⟨rfl, rfl⟩ := trodVars_none hV
  obtain ⟨ao, len, cap, rfl⟩ := okWide_slice Tryd.underlying22 (hval 0 22 v0 rfl rfl)
  have k0 := h0
  have k1 := h1
  have lt0 : ∀ x ∈ p0, x.block < W.heap.size := by obtain ⟨m, hm⟩ := k0; exact DataW.trod_lt m _ _ _ hm
  have lt1 : ∀ x ∈ p1, x.block < W.heap.size := by obtain ⟨m, hm⟩ := k1; exact DataW.trod_lt m _ _ _ hm
  obtain ⟨x, rfl, rfl, rfl, wx⟩ := open_int Tryd.underlying2 (hval 1 2 v1 rfl rfl) h1
  obtain ⟨fuel, hf⟩ := h0
  obtain ⟨hm, t, rfl, hin⟩ := open_by (by simpa [Value.cells] using hf)
  clear hA0 hval0
  have t2 : Lib.TabIs Tryd.prog W "strings.asciiSpace" .u8 Lib.asciiSpaceTab := tabR_laid (by rfl) hL (by kernel_rfl) (g := 0) (t := 116) (e := 5) (n := 256) (by kernel_rfl) (by kernel_rfl) (by kernel_rfl) (by kernel_rfl) (by kernel_rfl) (by kernel_rfl)
  have fin : ∀ (e : Ending) (W' : World), e = .returned (.bool true) ∧ Below W.heap.size W W' → ∃ v, e = .returned v ∧ Rows.fnExactReadAsmSpec.post enc Tryd.prog Tryd.f6 false true false false W #[.slice ao t.length cap, .int .i64 x] v W' := by
    rintro e W' ⟨he, bel⟩
    subst he
    exact ⟨_, rfl, _, _, _, [], _, [], hW', trodAll_mk1 (shut_bool Tryd.underlying4 _), trodAll_mk2 (Below.trod rdl_laidOut (by kernel_rfl) (of_decide_eq_true (by kernel_rfl)) k0 bel lt0) (Below.trod rdl_laidOut (by kernel_rfl) (of_decide_eq_true (by kernel_rfl)) k1 bel lt1), rfl, bel.frame _, fun h => by cases h⟩
  by_cases hl : t.length ≤ 1048576
  · exact (lawRead_walk ao t cap x W hl hin t2).mono fin
  · exact (lawRead_great ao t.length cap x W (by omega) hm).mono fin

theorem readRow_holds : Rows.FnExactReadAsmSaid :=
  OpenClaim.holds_of_wide 6 Tryd.f6 rfl rfl rfl rfl rfl rfl rfl ⟨rfl, rfl, rfl, rfl, rfl⟩ rfl rfl rfl rfl rfl (by kernel_rfl) Tryd.func6 (by kernel_rfl)
    (of_decide_eq_true (by kernel_rfl)) (by unfold Func.isWrapper; first | (rw [if_pos (by decide +kernel)]; kernel_rfl) | (rw [if_neg (by decide +kernel)]; exact ⟨rfl, rfl⟩))
    (fun os started H enc _ => lawRead_lifted os started H enc)
theorem readAsm_holds : Rows.FnExactReadAsmCardSaid :=
  Claim7.holds_tied_plain_at .later [] [.listed, .data] true (true, "526a9e8472aaa462521bd2fe3cf1c21a57e56d06059a78feaaf6406b119f1658") false readRow_holds (fun _ h => by cases h) (by kernel_rfl) (fun _ h => by cases h) fnExactReadAsm_row_tie rfl ⟨rfl, rfl⟩ (by kernel_rfl) rfl
    (fun f fn hf hfn => by
      obtain rfl : f = 6 := Option.some.inj ((show Tryd.prog.funcNamed "loop.example/s01319/laws.FnExactReadAsm" = some 6 by kernel_rfl).symm.trans hf) |>.symm
      obtain rfl : fn = Tryd.f6 := (Option.some.inj (Tryd.func6.symm.trans hfn)).symm
      exact ⟨by kernel_rfl, fun j t ht => by
        rw [Tryd.params6] at ht
        have hm : t ∈ [22, 2] := by simpa using Array.mem_of_getElem? ht
        have hall : ([22, 2].all fun u => !Tryd.prog.wantsStandIn u) = true := by kernel_rfl
        exact (show Tryd.prog.wantsStandIn t = false by simpa using List.all_eq_true.1 hall t hm)⟩)
    (by kernel_rfl)
end Go.Proofs.YtdbhgaegblclaaaDoor
