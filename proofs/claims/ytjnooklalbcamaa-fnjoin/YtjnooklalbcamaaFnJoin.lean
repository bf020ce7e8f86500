/- FnJoin: the walk. -/
import Derived.Test.YtjnooklalbcamaaJoinHolds
namespace Go.Proofs.Ytjnooklalbcamaa
open Go.RowKit

/-- Where FnJoin stands: two Vals and their join. -/
structure JL (w wx : World) (bA bB bJ : Nat) (a b j : VV) : Prop where
  bel : Below w.heap.size w wx
  A : Vb wx bA a
  B : Vb wx bB b
  J : Vb wx bJ j
theorem JL.below {w u v : World} {bA bB bJ : Nat} {a b j : VV} (h : JL w u bA bB bJ a b j) (f : Below u.heap.size u v) : JL w v bA bB bJ a b j :=
  ⟨h.bel.trans (f.mono h.bel.size), h.A.below f h.A.lt, h.B.below f h.B.lt, h.J.below f h.J.lt⟩

set_option maxRecDepth 20000 in
set_option maxHeartbeats 8000000 in
theorem lawFnJoin_walk (aoC : Option Addr) (nC capC : Nat) (aoM : Option Addr) (nM capM : Nat) (w : World) (mC : nC ≤ 9223372036854775807) (_mM : nM ≤ 9223372036854775807) (hC : Bytes0 w w.heap.size aoC nC) (hM : Bytes0 w w.heap.size aoM nM) :
    Calls Try.prog 3 #[.slice aoC nC capC, .slice aoM nM capM] w fun e w' => e = .returned (.bool true) ∧ Below w.heap.size w w' := by
  have HC : Hid (Bytes0 w w.heap.size aoC nC) := hC
  have HM : Hid (Bytes0 w w.heap.size aoM nM) := hM
  clear hC hM
  by_cases lC : (1048576 : Int) < nC
  · go_enter Try.func3, Try.ntmps3
    go_wp2
    go_ret
    exact ⟨rfl, Below.refl _ _⟩
  by_cases lM : (1048576 : Int) < nM
  · go_enter Try.func3, Try.ntmps3
    go_wp2
    go_ret
    exact ⟨rfl, Below.refl _ _⟩
  go_enter Try.func3, Try.ntmps3
  go_wp2_with fail
  refine (drawJoin_any aoC nC capC _ (by omega) HC.out).mono ?_
  rintro e w1 ⟨a, b, rfl, ga, gb, hb1⟩
  have GA : Hid (GV a ∨ a.k = 2) := ga
  have GB : Hid (GV b) := gb
  have B1 : Hid (Below w.heap.size w w1) := hb1
  clear ga gb hb1
  simp only [VV.v]
  go_wp2_with fail
  obtain ⟨u1, hu1, b1, va, vb⟩ : ∃ v, (w1.alloc (.cells #[.int .i64 a.k, .bool a.s, .int .i64 a.m, .int .i64 a.h, .int .i64 a.lo, .int .i64 a.hi] 24)).alloc (.cells #[.int .i64 b.k, .bool b.s, .int .i64 b.m, .int .i64 b.h, .int .i64 b.lo, .int .i64 b.hi] 24) = v ∧ Below w1.heap.size w1 v ∧ Vb v w1.heap.size a ∧ Vb v (w1.heap.size + 1) b := by
    refine ⟨_, rfl, ((Below.refl _ _).alloc (Nat.le_refl _) _).alloc (by simp) _, (Vb.new w1 a).below ((Below.refl _ _).alloc (Nat.le_refl _) _) (by simp), ?_⟩
    have h := Vb.new (w1.alloc (.cells #[.int .i64 a.k, .bool a.s, .int .i64 a.m, .int .i64 a.h, .int .i64 a.lo, .int .i64 a.hi] 24)) b
    rw [World.size_alloc] at h
    exact h
  rw [hu1]
  have B2 : Hid (Below w.heap.size w u1) := B1.out.trans (b1.mono B1.out.size)
  have A2 : Hid (Vb u1 w1.heap.size a) := va
  have V2 : Hid (Vb u1 (w1.heap.size + 1) b) := vb
  clear hu1 b1 va vb B1
  generalize w1.heap.size + 1 = bB at *
  generalize w1.heap.size = bA at *
  refine (implJoin_any a.k a.s a.m a.h a.lo a.hi b.k b.s b.m b.h b.lo b.hi _).mono ?_
  rintro e w2 ⟨rfl, hb2⟩
  obtain ⟨j, hj⟩ : ∃ j, joinV ⟨a.k, a.s, a.m, a.h, a.lo, a.hi⟩ ⟨b.k, b.s, b.m, b.h, b.lo, b.hi⟩ = j := ⟨_, rfl⟩
  have HJ : Hid (joinV a b = j) := hj
  rw [hj]
  clear hj
  have B3 : Hid (Below w.heap.size w w2) := B2.out.trans (hb2.mono B2.out.size)
  have A3 : Hid (Vb w2 bA a) := A2.out.below hb2 A2.out.lt
  have V3 : Hid (Vb w2 bB b) := V2.out.below hb2 V2.out.lt
  clear hb2 B2 A2 V2
  simp only [VV.v]
  go_upto_region 5 with fail
  obtain ⟨u, hu, ju⟩ : ∃ v, w2.alloc (.cells #[.int .i64 j.k, .bool j.s, .int .i64 j.m, .int .i64 j.h, .int .i64 j.lo, .int .i64 j.hi] 24) = v ∧ JL w v bA bB w2.heap.size a b j := ⟨_, rfl, B3.out.alloc B3.out.size _, A3.out.below ((Below.refl _ _).alloc (Nat.le_refl _) _) A3.out.lt, V3.out.below ((Below.refl _ _).alloc (Nat.le_refl _) _) V3.out.lt, Vb.new w2 j⟩
  rw [hu]
  generalize w2.heap.size = bJ at *
  have JU : Hid (JL w u bA bB bJ a b j) := ju
  clear hu ju B3 A3 V3
  have ra0 : ∀ w', Below u.heap.size u w' → w'.cell? ⟨bA, 0, none⟩ = some (.int .i64 a.k) := fun w' h => (JU.out.below h).A.cells.1
  have ra1 : ∀ w', Below u.heap.size u w' → w'.cell? ⟨bA, 1, none⟩ = some (.bool a.s) := fun w' h => (JU.out.below h).A.cells.2.1
  have ra2 : ∀ w', Below u.heap.size u w' → w'.cell? ⟨bA, 2, none⟩ = some (.int .i64 a.m) := fun w' h => (JU.out.below h).A.cells.2.2.1
  have ra3 : ∀ w', Below u.heap.size u w' → w'.cell? ⟨bA, 3, none⟩ = some (.int .i64 a.h) := fun w' h => (JU.out.below h).A.cells.2.2.2.1
  have ra4 : ∀ w', Below u.heap.size u w' → w'.cell? ⟨bA, 4, none⟩ = some (.int .i64 a.lo) := fun w' h => (JU.out.below h).A.cells.2.2.2.2.1
  have ra5 : ∀ w', Below u.heap.size u w' → w'.cell? ⟨bA, 5, none⟩ = some (.int .i64 a.hi) := fun w' h => (JU.out.below h).A.cells.2.2.2.2.2
  have rb0 : ∀ w', Below u.heap.size u w' → w'.cell? ⟨bB, 0, none⟩ = some (.int .i64 b.k) := fun w' h => (JU.out.below h).B.cells.1
  have rb1 : ∀ w', Below u.heap.size u w' → w'.cell? ⟨bB, 1, none⟩ = some (.bool b.s) := fun w' h => (JU.out.below h).B.cells.2.1
  have rb2 : ∀ w', Below u.heap.size u w' → w'.cell? ⟨bB, 2, none⟩ = some (.int .i64 b.m) := fun w' h => (JU.out.below h).B.cells.2.2.1
  have rb3 : ∀ w', Below u.heap.size u w' → w'.cell? ⟨bB, 3, none⟩ = some (.int .i64 b.h) := fun w' h => (JU.out.below h).B.cells.2.2.2.1
  have rb4 : ∀ w', Below u.heap.size u w' → w'.cell? ⟨bB, 4, none⟩ = some (.int .i64 b.lo) := fun w' h => (JU.out.below h).B.cells.2.2.2.2.1
  have rb5 : ∀ w', Below u.heap.size u w' → w'.cell? ⟨bB, 5, none⟩ = some (.int .i64 b.hi) := fun w' h => (JU.out.below h).B.cells.2.2.2.2.2
  have rj0 : ∀ w', Below u.heap.size u w' → w'.cell? ⟨bJ, 0, none⟩ = some (.int .i64 j.k) := fun w' h => (JU.out.below h).J.cells.1
  have rj1 : ∀ w', Below u.heap.size u w' → w'.cell? ⟨bJ, 1, none⟩ = some (.bool j.s) := fun w' h => (JU.out.below h).J.cells.2.1
  have rj2 : ∀ w', Below u.heap.size u w' → w'.cell? ⟨bJ, 2, none⟩ = some (.int .i64 j.m) := fun w' h => (JU.out.below h).J.cells.2.2.1
  have rj3 : ∀ w', Below u.heap.size u w' → w'.cell? ⟨bJ, 3, none⟩ = some (.int .i64 j.h) := fun w' h => (JU.out.below h).J.cells.2.2.2.1
  have rj4 : ∀ w', Below u.heap.size u w' → w'.cell? ⟨bJ, 4, none⟩ = some (.int .i64 j.lo) := fun w' h => (JU.out.below h).J.cells.2.2.2.2.1
  have rj5 : ∀ w', Below u.heap.size u w' → w'.cell? ⟨bJ, 5, none⟩ = some (.int .i64 j.hi) := fun w' h => (JU.out.below h).J.cells.2.2.2.2.2
  go_cut [43] (fun s43 wx => s43 = .bool false ∧ Below u.heap.size u wx)
  case first =>
    obtain ⟨ud, hud, bud⟩ : ∃ v, u.drew = v ∧ Below u.heap.size u v := ⟨_, rfl, (Below.refl _ _).drew⟩
    refine wp_region_held_drew (S := fun w' => Below u.heap.size u w') (by kernel_rfl) (Below.refl _ _).drew (fun _ => ?_)
    rw [hud]
    clear hud
    refine wpAnyH_tk 0 ?k1v rfl ?k1y ?k1r
    case k1y => (intro w hSw; (try dsimp only at hSw); go_simp; try with_reducible rfl)
    try go_frame
    refine wpAnyH_tk 1 ?k2v rfl ?k2y ?k2r
    case k2y => (intro w hSw; (try dsimp only at hSw); go_simp; try with_reducible rfl)
    try go_frame
    refine wpAnyH_tk 2 ?k3v rfl ?k3y ?k3r
    case k3y => (intro w hSw; (try dsimp only at hSw); go_simp; try with_reducible rfl)
    try go_frame
    refine wpAnyH_ready (rs := [3]) (by kernel_rfl) (by simp) ?_
    refine AllReadyH.cons rfl (fun KK hK => ?_) AllReadyH.nil
    go_simp
    refine (specJoin_any a.k a.s a.m a.h a.lo a.hi b.k b.s b.m b.h b.lo b.hi _).mono ?_
    rintro e v1 ⟨rfl, hv1⟩
    have bv1 : Below u.heap.size u v1 := bud.trans (hv1.mono bud.size)
    clear hv1
    rw [show joinV ⟨a.k, a.s, a.m, a.h, a.lo, a.hi⟩ ⟨b.k, b.s, b.m, b.h, b.lo, b.hi⟩ = j from HJ.out]
    simp only [VV.v]
    go_wp2_with fail
    refine hK.out _ _ bv1 (fun _ => ?_)
    clear hK KK
    try go_frame
    refine wpAnyH_tk 4 ?k4v rfl ?k4y ?k4r
    case k4y => (intro w hSw; (try dsimp only at hSw); go_simp; try with_reducible rfl)
    try go_frame
    refine wpAnyH_tk 5 ?k5v rfl ?k5y ?k5r
    case k5y => (intro w hSw; (try dsimp only at hSw); go_simp; try with_reducible rfl)
    try go_frame
    refine wpAnyH_tk 6 ?k6v rfl ?k6y ?k6r
    case k6y => (intro w hSw; (try dsimp only at hSw); go_simp; try with_reducible rfl)
    try go_frame
    refine wpAnyH_tk 7 ?k7v rfl ?k7y ?k7r
    case k7y => (intro w hSw; (try dsimp only at hSw); go_simp; try with_reducible rfl)
    try go_frame
    by_cases hk : a.k < 2
    · skip
      refine wpAnyH_tk 8 ?k8v rfl ?k8y ?k8r
      case k8y => (intro w hSw; (try dsimp only at hSw); go_simp; try with_reducible rfl)
      try go_frame
      refine wpAnyH_tk 9 ?k9v rfl ?k9y ?k9r
      case k9y => (intro w hSw; (try dsimp only at hSw); go_simp; try with_reducible rfl)
      try go_frame
      refine wpAnyH_tk 10 ?k10v rfl ?k10y ?k10r
      case k10y => (intro w hSw; (try dsimp only at hSw); go_simp; try with_reducible rfl)
      try go_frame
      refine wpAnyH_tk 11 ?k11v rfl ?k11y ?k11r
      case k11y => (intro w hSw; (try dsimp only at hSw); go_simp; try with_reducible rfl)
      try go_frame
      refine wpAnyH_tk 13 ?k12v rfl ?k12y ?k12r
      case k12y => (intro w hSw; (try dsimp only at hSw); go_simp; try with_reducible rfl)
      try simp only [Act.put, List.getElem_toArray, List.getElem_cons_zero, List.getElem_cons_succ, List.setIfInBounds_toArray, List.set_cons_zero, List.set_cons_succ]
      refine wpAnyH_ready (rs := [12]) (by kernel_rfl) (by simp) ?_
      refine AllReadyH.cons rfl (fun KK hK => ?_) AllReadyH.nil
      go_simp
      refine (implJoin_any b.k b.s b.m b.h b.lo b.hi a.k a.s a.m a.h a.lo a.hi _).mono ?_
      rintro e v2 ⟨rfl, hv2⟩
      have bv2 : Below u.heap.size u v2 := bv1.trans (hv2.mono bv1.size)
      clear hv2
      rw [show joinV ⟨b.k, b.s, b.m, b.h, b.lo, b.hi⟩ ⟨a.k, a.s, a.m, a.h, a.lo, a.hi⟩ = j from (join_comm b a).trans HJ.out]
      simp only [VV.v]
      go_wp2_with fail
      refine hK.out _ _ bv2 (fun _ => ?_)
      clear hK KK
      try go_frame
      refine wpAnyH_tk 14 ?k13v rfl ?k13y ?k13r
      case k13y => (intro w hSw; (try dsimp only at hSw); go_simp; try with_reducible rfl)
      try simp only [Act.put, List.getElem_toArray, List.getElem_cons_zero, List.getElem_cons_succ, List.setIfInBounds_toArray, List.set_cons_zero, List.set_cons_succ]
      refine wpAnyH_tk 15 ?k14v rfl ?k14y ?k14r
      case k14y => (intro w hSw; (try dsimp only at hSw); go_simp; try with_reducible rfl)
      try simp only [Act.put, List.getElem_toArray, List.getElem_cons_zero, List.getElem_cons_succ, List.setIfInBounds_toArray, List.set_cons_zero, List.set_cons_succ]
      refine wpAnyH_tk 16 ?k15v rfl ?k15y ?k15r
      case k15y => (intro w hSw; (try dsimp only at hSw); go_simp; try with_reducible rfl)
      try simp only [Act.put, List.getElem_toArray, List.getElem_cons_zero, List.getElem_cons_succ, List.setIfInBounds_toArray, List.set_cons_zero, List.set_cons_succ]
      refine wpAnyH_done (by kernel_rfl) ?_ _
      go_wp2_with fail
      go_meet
      exact ⟨rfl, bv2⟩
    · skip
      refine wpAnyH_tk 8 ?k16v rfl ?k16y ?k16r
      case k16y => (intro w hSw; (try dsimp only at hSw); go_simp; try with_reducible rfl)
      try go_frame
      refine wpAnyH_tk 9 ?k17v rfl ?k17y ?k17r
      case k17y => (intro w hSw; (try dsimp only at hSw); go_simp; try with_reducible rfl)
      try go_frame
      refine wpAnyH_sk 10 rfl ?_
      try simp only [Act.put, List.getElem_toArray, List.getElem_cons_zero, List.getElem_cons_succ, List.setIfInBounds_toArray, List.set_cons_zero, List.set_cons_succ]
      refine wpAnyH_sk 11 rfl ?_
      try simp only [Act.put, List.getElem_toArray, List.getElem_cons_zero, List.getElem_cons_succ, List.setIfInBounds_toArray, List.set_cons_zero, List.set_cons_succ]
      refine wpAnyH_sk 12 rfl ?_
      try simp only [Act.put, List.getElem_toArray, List.getElem_cons_zero, List.getElem_cons_succ, List.setIfInBounds_toArray, List.set_cons_zero, List.set_cons_succ]
      refine wpAnyH_sk 13 rfl ?_
      try simp only [Act.put, List.getElem_toArray, List.getElem_cons_zero, List.getElem_cons_succ, List.setIfInBounds_toArray, List.set_cons_zero, List.set_cons_succ]
      refine wpAnyH_sk 14 rfl ?_
      try simp only [Act.put, List.getElem_toArray, List.getElem_cons_zero, List.getElem_cons_succ, List.setIfInBounds_toArray, List.set_cons_zero, List.set_cons_succ]
      refine wpAnyH_tk 15 ?k18v rfl ?k18y ?k18r
      case k18y => (intro w hSw; (try dsimp only at hSw); go_simp; try with_reducible rfl)
      try simp only [Act.put, List.getElem_toArray, List.getElem_cons_zero, List.getElem_cons_succ, List.setIfInBounds_toArray, List.set_cons_zero, List.set_cons_succ]
      refine wpAnyH_tk 16 ?k19v rfl ?k19y ?k19r
      case k19y => (intro w hSw; (try dsimp only at hSw); go_simp; try with_reducible rfl)
      try simp only [Act.put, List.getElem_toArray, List.getElem_cons_zero, List.getElem_cons_succ, List.setIfInBounds_toArray, List.set_cons_zero, List.set_cons_succ]
      refine wpAnyH_done (by kernel_rfl) ?_ _
      go_wp2_with fail
      go_meet
      exact ⟨rfl, bv1⟩
  case rest =>
    obtain ⟨rfl, hbc⟩ := hcut
    have JC : Hid (JL w wc bA bB bJ a b j) := JU.out.below hbc
    clear hbc JU ra0 ra1 ra2 ra3 ra4 ra5 rb0 rb1 rb2 rb3 rb4 rb5 rj0 rj1 rj2 rj3 rj4 rj5
    generalize wc = w3 at JC ⊢
    obtain ⟨ca0, ca1, ca2, ca3, ca4, ca5⟩ := JC.out.A.cells
    obtain ⟨cb0, cb1, cb2, cb3, cb4, cb5⟩ := JC.out.B.cells
    obtain ⟨cj0, cj1, cj2, cj3, cj4, cj5⟩ := JC.out.J.cells
    by_cases hk : 1 < a.k
    · go_wp2
      go_ret
      exact ⟨rfl, JC.out.bel⟩
    have GA2 : Hid (GV a) := by
      rcases GA.out with h | h
      · exact h
      · omega
    clear GA
    go_wp2
    clear ca0 ca1 ca2 ca3 ca4 ca5 cb0 cb1 cb2 cb3 cb4 cb5 cj0 cj1 cj2 cj3 cj4 cj5
    have GJ : Hid (GV j) := by have := gv_join GA2.out GB.out; rw [HJ.out] at this; exact this
    obtain ⟨w4, hw4, j4, h4, m4⟩ : ∃ v, (w3.alloc (.cells #[.int .u64 1000, .bool false, .slice none 0 0, .int .u64 5000, .bool false, .slice none 0 0] 30)).alloc (.cells #[.slice none 0 0, .bool false, .bool false, .bool false, .bool false, .slice (some ⟨w3.heap.size, 0, none⟩) 2 2, .int .i64 0, .int .i64 0, .slice none 0 0] 35) = v ∧ JL w v bA bB bJ a b j ∧ Cl v w3.heap.size [.int .u64 1000, .bool false, .slice none 0 0, .int .u64 5000, .bool false, .slice none 0 0] ∧ Cl v (w3.heap.size + 1) [.slice none 0 0, .bool false, .bool false, .bool false, .bool false, .slice (some ⟨w3.heap.size, 0, none⟩) 2 2, .int .i64 0, .int .i64 0, .slice none 0 0] := by
      refine ⟨_, rfl, (JC.out.below ((Below.refl _ _).alloc (Nat.le_refl _) _)).below ((Below.refl _ _).alloc (Nat.le_refl _) _), (Cl.new).below ((Below.refl _ _).alloc (Nat.le_refl _) _), ?_⟩
      have h := Cl.new (w := w3.alloc (.cells #[.int .u64 1000, .bool false, .slice none 0 0, .int .u64 5000, .bool false, .slice none 0 0] 30)) (vs := #[.slice none 0 0, .bool false, .bool false, .bool false, .bool false, .slice (some ⟨w3.heap.size, 0, none⟩) 2 2, .int .i64 0, .int .i64 0, .slice none 0 0]) (t := 35)
      simp only [World.size_alloc] at h
      exact h
    rw [hw4]
    clear hw4
    generalize w3.heap.size + 1 = bM at *
    generalize w3.heap.size = bH at *
    clear JC
    go_loopw [9] (fun i wr => ∃ k : Nat, k ≤ 16 ∧ i = .int .i64 k ∧ Hid (JL w wr bA bB bJ a b j) ∧ Hid (Cl wr bH [.int .u64 1000, .bool false, .slice none 0 0, .int .u64 5000, .bool false, .slice none 0 0]) ∧ Hid (Cl wr bM [.slice none 0 0, .bool false, .bool false, .bool false, .bool false, .slice (some ⟨bH, 0, none⟩) 2 2, .int .i64 0, .int .i64 0, .slice none 0 0])) (fun i _ => 16 - (intOf i).toNat)
    case atStart => exact ⟨0, Nat.zero_le _, rfl, j4, h4, m4⟩
    case round =>
      clear j4 h4 m4
      obtain ⟨k, hk16, rfl, JR, HH, MM⟩ := hrel
      by_cases hlt : k < 16
      · go_wp2_with fail
        refine (lwAt_any aoM nM capM k w.heap.size _ (by omega) ?_).mono ?_
        · rcases HM.out with h | ⟨b, off, h1, h2, h3⟩
          · exact .inl h
          · exact .inr ⟨b, off, h1, h2, fun i hi => by obtain ⟨v, q1, q2, q3⟩ := h3 i hi; exact ⟨v, q1, q2, (JR.out.bel.cell (p := ⟨b, off + i, none⟩) h2).trans q3⟩⟩
        rintro e wq ⟨x, rfl, x0, x1, hwq⟩
        rw [hwq]
        clear hwq
        go_upto_if 61 with fail
        go_cut [10] (fun s10 wx => (∃ x : Int, s10 = .int .u64 x) ∧ wx = wr)
        case first =>
          go_wp2_with fail
          all_goals
            go_meet
            exact ⟨⟨_, rfl⟩, rfl⟩
        case rest =>
          obtain ⟨⟨x, rfl⟩, hwc⟩ := hcut
          rw [hwc]
          clear hwc
          go_upto_if 66 with fail
          go_cut [10] (fun s10 wx => (∃ x : Int, s10 = .int .u64 x) ∧ wx = wr)
          case first =>
            go_wp2_with fail
            all_goals
              go_meet
              exact ⟨⟨_, rfl⟩, rfl⟩
          case rest =>
            obtain ⟨⟨x, rfl⟩, hwc⟩ := hcut
            rw [hwc]
            clear hwc
            obtain ⟨ca0, ca1, ca2, ca3, ca4, ca5⟩ := JR.out.A.cells
            obtain ⟨cb0, cb1, cb2, cb3, cb4, cb5⟩ := JR.out.B.cells
            obtain ⟨cj0, cj1, cj2, cj3, cj4, cj5⟩ := JR.out.J.cells
            have cm0 : wr.cell? ⟨bM, 0, none⟩ = some (.slice none 0 0) := MM.out.2 0 (by simp)
            have cm1 : wr.cell? ⟨bM, 1, none⟩ = some (.bool false) := MM.out.2 1 (by simp)
            have cm2 : wr.cell? ⟨bM, 2, none⟩ = some (.bool false) := MM.out.2 2 (by simp)
            have cm3 : wr.cell? ⟨bM, 3, none⟩ = some (.bool false) := MM.out.2 3 (by simp)
            have cm4 : wr.cell? ⟨bM, 4, none⟩ = some (.bool false) := MM.out.2 4 (by simp)
            have cm5 : wr.cell? ⟨bM, 5, none⟩ = some (.slice (some ⟨bH, 0, none⟩) 2 2) := MM.out.2 5 (by simp)
            have cm6 : wr.cell? ⟨bM, 6, none⟩ = some (.int .i64 0) := MM.out.2 6 (by simp)
            have cm7 : wr.cell? ⟨bM, 7, none⟩ = some (.int .i64 0) := MM.out.2 7 (by simp)
            have cm8 : wr.cell? ⟨bM, 8, none⟩ = some (.slice none 0 0) := MM.out.2 8 (by simp)
            go_wp2_with fail
            refine (lwHolds_any a x bH _ GA2.out (HH.out.2 0 (by simp)) (HH.out.2 3 (by simp)) HH.out.1).mono ?_
            rintro e y1 ⟨rfl, hb⟩
            have J1 : Hid (JL w y1 bA bB bJ a b j) := JR.out.below hb
            have H1 : Hid (Cl y1 bH [.int .u64 1000, .bool false, .slice none 0 0, .int .u64 5000, .bool false, .slice none 0 0]) := HH.out.below hb
            have M1 : Hid (Cl y1 bM [.slice none 0 0, .bool false, .bool false, .bool false, .bool false, .slice (some ⟨bH, 0, none⟩) 2 2, .int .i64 0, .int .i64 0, .slice none 0 0]) := MM.out.below hb
            clear hb ca0 ca1 ca2 ca3 ca4 ca5 cb0 cb1 cb2 cb3 cb4 cb5 cj0 cj1 cj2 cj3 cj4 cj5 cm0 cm1 cm2 cm3 cm4 cm5 cm6 cm7 cm8
            cases ha : holdsJ a x with
            | true =>
              have HA : Hid (holdsJ a x = true) := ha
              clear ha
              obtain ⟨ca0, ca1, ca2, ca3, ca4, ca5⟩ := J1.out.A.cells
              obtain ⟨cb0, cb1, cb2, cb3, cb4, cb5⟩ := J1.out.B.cells
              obtain ⟨cj0, cj1, cj2, cj3, cj4, cj5⟩ := J1.out.J.cells
              have cm0 : y1.cell? ⟨bM, 0, none⟩ = some (.slice none 0 0) := M1.out.2 0 (by simp)
              have cm1 : y1.cell? ⟨bM, 1, none⟩ = some (.bool false) := M1.out.2 1 (by simp)
              have cm2 : y1.cell? ⟨bM, 2, none⟩ = some (.bool false) := M1.out.2 2 (by simp)
              have cm3 : y1.cell? ⟨bM, 3, none⟩ = some (.bool false) := M1.out.2 3 (by simp)
              have cm4 : y1.cell? ⟨bM, 4, none⟩ = some (.bool false) := M1.out.2 4 (by simp)
              have cm5 : y1.cell? ⟨bM, 5, none⟩ = some (.slice (some ⟨bH, 0, none⟩) 2 2) := M1.out.2 5 (by simp)
              have cm6 : y1.cell? ⟨bM, 6, none⟩ = some (.int .i64 0) := M1.out.2 6 (by simp)
              have cm7 : y1.cell? ⟨bM, 7, none⟩ = some (.int .i64 0) := M1.out.2 7 (by simp)
              have cm8 : y1.cell? ⟨bM, 8, none⟩ = some (.slice none 0 0) := M1.out.2 8 (by simp)
              go_wp2_with fail
              refine (lwHolds_any j x bH _ GJ.out (H1.out.2 0 (by simp)) (H1.out.2 3 (by simp)) H1.out.1).mono ?_
              rintro e z1 ⟨rfl, hb⟩
              have J1j : Hid (JL w z1 bA bB bJ a b j) := J1.out.below hb
              have H1j : Hid (Cl z1 bH [.int .u64 1000, .bool false, .slice none 0 0, .int .u64 5000, .bool false, .slice none 0 0]) := H1.out.below hb
              have M1j : Hid (Cl z1 bM [.slice none 0 0, .bool false, .bool false, .bool false, .bool false, .slice (some ⟨bH, 0, none⟩) 2 2, .int .i64 0, .int .i64 0, .slice none 0 0]) := M1.out.below hb
              clear hb ca0 ca1 ca2 ca3 ca4 ca5 cb0 cb1 cb2 cb3 cb4 cb5 cj0 cj1 cj2 cj3 cj4 cj5 cm0 cm1 cm2 cm3 cm4 cm5 cm6 cm7 cm8
              have hj : holdsJ j x = true := by have := hold_join (a := a) (b := b) (x := x) (Or.inl HA.out); rw [HJ.out] at this; exact this
              rw [hj]
              clear hj
              go_wp2
              go_roundw
              case rel => first | exact ⟨k + 1, by omega, by go_num, J1j, H1j, M1j⟩ | ((repeat apply Exists.intro); exact ⟨⟨k + 1, by omega, by go_num, J1j, H1j, M1j⟩, rfl⟩)
              case measure => simp [intOf]; omega
            | false =>
              clear ha
              obtain ⟨ca0, ca1, ca2, ca3, ca4, ca5⟩ := J1.out.A.cells
              obtain ⟨cb0, cb1, cb2, cb3, cb4, cb5⟩ := J1.out.B.cells
              obtain ⟨cj0, cj1, cj2, cj3, cj4, cj5⟩ := J1.out.J.cells
              have cm0 : y1.cell? ⟨bM, 0, none⟩ = some (.slice none 0 0) := M1.out.2 0 (by simp)
              have cm1 : y1.cell? ⟨bM, 1, none⟩ = some (.bool false) := M1.out.2 1 (by simp)
              have cm2 : y1.cell? ⟨bM, 2, none⟩ = some (.bool false) := M1.out.2 2 (by simp)
              have cm3 : y1.cell? ⟨bM, 3, none⟩ = some (.bool false) := M1.out.2 3 (by simp)
              have cm4 : y1.cell? ⟨bM, 4, none⟩ = some (.bool false) := M1.out.2 4 (by simp)
              have cm5 : y1.cell? ⟨bM, 5, none⟩ = some (.slice (some ⟨bH, 0, none⟩) 2 2) := M1.out.2 5 (by simp)
              have cm6 : y1.cell? ⟨bM, 6, none⟩ = some (.int .i64 0) := M1.out.2 6 (by simp)
              have cm7 : y1.cell? ⟨bM, 7, none⟩ = some (.int .i64 0) := M1.out.2 7 (by simp)
              have cm8 : y1.cell? ⟨bM, 8, none⟩ = some (.slice none 0 0) := M1.out.2 8 (by simp)
              go_wp2_with fail
              refine (lwHolds_any b x bH _ GB.out (H1.out.2 0 (by simp)) (H1.out.2 3 (by simp)) H1.out.1).mono ?_
              rintro e y2 ⟨rfl, hb⟩
              have J2 : Hid (JL w y2 bA bB bJ a b j) := J1.out.below hb
              have H2 : Hid (Cl y2 bH [.int .u64 1000, .bool false, .slice none 0 0, .int .u64 5000, .bool false, .slice none 0 0]) := H1.out.below hb
              have M2 : Hid (Cl y2 bM [.slice none 0 0, .bool false, .bool false, .bool false, .bool false, .slice (some ⟨bH, 0, none⟩) 2 2, .int .i64 0, .int .i64 0, .slice none 0 0]) := M1.out.below hb
              clear hb ca0 ca1 ca2 ca3 ca4 ca5 cb0 cb1 cb2 cb3 cb4 cb5 cj0 cj1 cj2 cj3 cj4 cj5 cm0 cm1 cm2 cm3 cm4 cm5 cm6 cm7 cm8
              cases hb : holdsJ b x with
              | true =>
                have HB : Hid (holdsJ b x = true) := hb
                clear hb
                obtain ⟨ca0, ca1, ca2, ca3, ca4, ca5⟩ := J2.out.A.cells
                obtain ⟨cb0, cb1, cb2, cb3, cb4, cb5⟩ := J2.out.B.cells
                obtain ⟨cj0, cj1, cj2, cj3, cj4, cj5⟩ := J2.out.J.cells
                have cm0 : y2.cell? ⟨bM, 0, none⟩ = some (.slice none 0 0) := M2.out.2 0 (by simp)
                have cm1 : y2.cell? ⟨bM, 1, none⟩ = some (.bool false) := M2.out.2 1 (by simp)
                have cm2 : y2.cell? ⟨bM, 2, none⟩ = some (.bool false) := M2.out.2 2 (by simp)
                have cm3 : y2.cell? ⟨bM, 3, none⟩ = some (.bool false) := M2.out.2 3 (by simp)
                have cm4 : y2.cell? ⟨bM, 4, none⟩ = some (.bool false) := M2.out.2 4 (by simp)
                have cm5 : y2.cell? ⟨bM, 5, none⟩ = some (.slice (some ⟨bH, 0, none⟩) 2 2) := M2.out.2 5 (by simp)
                have cm6 : y2.cell? ⟨bM, 6, none⟩ = some (.int .i64 0) := M2.out.2 6 (by simp)
                have cm7 : y2.cell? ⟨bM, 7, none⟩ = some (.int .i64 0) := M2.out.2 7 (by simp)
                have cm8 : y2.cell? ⟨bM, 8, none⟩ = some (.slice none 0 0) := M2.out.2 8 (by simp)
                go_wp2_with fail
                refine (lwHolds_any j x bH _ GJ.out (H2.out.2 0 (by simp)) (H2.out.2 3 (by simp)) H2.out.1).mono ?_
                rintro e z2 ⟨rfl, hb⟩
                have J2j : Hid (JL w z2 bA bB bJ a b j) := J2.out.below hb
                have H2j : Hid (Cl z2 bH [.int .u64 1000, .bool false, .slice none 0 0, .int .u64 5000, .bool false, .slice none 0 0]) := H2.out.below hb
                have M2j : Hid (Cl z2 bM [.slice none 0 0, .bool false, .bool false, .bool false, .bool false, .slice (some ⟨bH, 0, none⟩) 2 2, .int .i64 0, .int .i64 0, .slice none 0 0]) := M2.out.below hb
                clear hb ca0 ca1 ca2 ca3 ca4 ca5 cb0 cb1 cb2 cb3 cb4 cb5 cj0 cj1 cj2 cj3 cj4 cj5 cm0 cm1 cm2 cm3 cm4 cm5 cm6 cm7 cm8
                have hj : holdsJ j x = true := by have := hold_join (a := a) (b := b) (x := x) (Or.inr HB.out); rw [HJ.out] at this; exact this
                rw [hj]
                clear hj
                go_wp2
                go_roundw
                case rel => first | exact ⟨k + 1, by omega, by go_num, J2j, H2j, M2j⟩ | ((repeat apply Exists.intro); exact ⟨⟨k + 1, by omega, by go_num, J2j, H2j, M2j⟩, rfl⟩)
                case measure => simp [intOf]; omega
              | false =>
                clear hb
                go_wp2
                go_roundw
                case rel => first | exact ⟨k + 1, by omega, by go_num, J2, H2, M2⟩ | ((repeat apply Exists.intro); exact ⟨⟨k + 1, by omega, by go_num, J2, H2, M2⟩, rfl⟩)
                case measure => simp [intOf]; omega
      · obtain rfl : k = 16 := by omega
        obtain ⟨ca0, ca1, ca2, ca3, ca4, ca5⟩ := JR.out.A.cells
        obtain ⟨cb0, cb1, cb2, cb3, cb4, cb5⟩ := JR.out.B.cells
        obtain ⟨cj0, cj1, cj2, cj3, cj4, cj5⟩ := JR.out.J.cells
        have hs : j.s = ((a.s || b.s) && decide (j.k = 0)) := by have := join_secret a b; rw [HJ.out] at this; exact this
        cases h1 : a.s <;> cases h2 : b.s <;> (try rw [h1] at ca1 hs) <;> (try rw [h2] at cb1 hs) <;> go_wp2
        all_goals
          go_ret
          refine ⟨ret_bool ?_, JR.out.bel⟩
          by_cases hk0 : j.k = 0 <;> simp_all
end Go.Proofs.Ytjnooklalbcamaa
