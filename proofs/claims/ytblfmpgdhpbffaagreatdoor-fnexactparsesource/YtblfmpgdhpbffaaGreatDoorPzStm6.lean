import Derived.Test.YtblfmpgdhpbffaaGreatDoorOfPzStm0
/- spec.l6Stmt: l6Stmt_ins. -/
namespace Go.Proofs.YtblfmpgdhpbffaaGreatDoor
open Go.RowKit

set_option maxRecDepth 20000 in
set_option maxHeartbeats 12800000 in
theorem l6Stmt_ins (B : Nat) (S : PS) (sH sR sP sN sO : Sl) (bv : List Value) (l : List UInt8) (f : List (List UInt8)) (fb fc : Nat) (w : World) (hB : B ≤ w.heap.size) (hm : MS w B S sH sR sP sN sO bv) (h3 : S.st = 3) (hbl : (bodS S).length ≤ 1000000) (hp : S.ps.length ≤ 1000000) (_ho6 : S.op.length ≤ 1000000) (hth : ∀ o ∈ S.op, 0 ≤ o.th ∧ o.th ≤ 1000000) (hf : FA w fb f) (hl : ∀ i, ((stB (fd f i)).size : Int) ≤ 200000) (hll : ((stB l).size : Int) ≤ 200000) (hne : 0 < f.length) (hlf : f.length ≤ 200001) (hw : fd f 0 ≠ [105, 102] ∧ fd f 0 ≠ [119, 104, 105, 108, 101] ∧ fd f 0 ≠ [101, 108, 115, 101] ∧ fd f 0 ≠ [101, 110, 100] ∧ fd f 0 ≠ [99, 97, 108, 108]) :
    Calls Tryz.prog 25 #[.agg #[.int .i64 S.d, .slice sH.a sH.n sH.c, .slice sR.a sR.n sR.c, .slice sP.a sP.n sP.c, .int .i64 (S.st : Int), .slice sN.a sN.n sN.c, .slice sO.a sO.n sO.c, .bool false], .string (stB l), .slice (some ⟨fb, 0, none⟩) f.length fc] w fun e w' => MR B w (stmS S l f) e w' := by
  obtain ⟨RR, hRR⟩ : ∃ y, stmS S l f = y := ⟨_, rfl⟩
  rw [hRR]
  have HRR : Hid (stmS S l f = RR) := hRR
  have M : Hid (MS w B S sH sR sP sN sO bv) := hm
  have H3 : Hid (S.st = 3) := h3
  have HTH : Hid (∀ o ∈ S.op, 0 ≤ o.th ∧ o.th ≤ 1000000) := hth
  have HL : Hid (∀ i, ((stB (fd f i)).size : Int) ≤ 200000) := hl
  have HF : Hid (FA w fb f) := hf
  clear hm hf hl h3 hth hRR
  go_enter Tryz.func25, Tryz.ntmps25
  go_upto_region 1 with fail
  obtain ⟨u, hu, p0, bu⟩ : ∃ y, ((w.alloc (.cells #[.int .i64 S.d, .slice sH.a sH.n sH.c, .slice sR.a sR.n sR.c, .slice sP.a sP.n sP.c, .int .i64 (S.st : Int), .slice sN.a sN.n sN.c, .slice sO.a sO.n sO.c, .bool false] 45)).alloc (.cells #[.int .i64 0, .slice none 0 0, .slice none 0 0, .slice none 0 0, .int .i64 0, .slice none 0 0, .slice none 0 0, .bool false] 45)) = y ∧ PX w.heap.size (w.heap.size + 1) #[.int .i64 S.d, .slice sH.a sH.n sH.c, .slice sR.a sR.n sR.c, .slice sP.a sP.n sP.c, .int .i64 (S.st : Int), .slice sN.a sN.n sN.c, .slice sO.a sO.n sO.c, .bool false] #[.int .i64 0, .slice none 0 0, .slice none 0 0, .slice none 0 0, .int .i64 0, .slice none 0 0, .slice none 0 0, .bool false] y ∧ Below w.heap.size w y := ⟨_, rfl, px_new w _ _, two_below w _ _⟩
  rw [hu]
  obtain ⟨x, hx⟩ : ∃ y, w.heap.size = y := ⟨_, rfl⟩
  rw [hx] at p0 ⊢
  have HX : Hid (w.heap.size = x) := hx
  have P0 : Hid (PX x (x + 1) #[.int .i64 S.d, .slice sH.a sH.n sH.c, .slice sR.a sR.n sR.c, .slice sP.a sP.n sP.c, .int .i64 (S.st : Int), .slice sN.a sN.n sN.c, .slice sO.a sO.n sO.c, .bool false] #[.int .i64 0, .slice none 0 0, .slice none 0 0, .slice none 0 0, .int .i64 0, .slice none 0 0, .slice none 0 0, .bool false] u) := p0
  have F0 : Hid (Fm tsM B w u) := Fm.of_below bu hB
  have M0 : Hid (MS u B S sH sR sP sN sO bv) := M.out.below bu
  have hBx : B ≤ x := by omega
  have hBu : B ≤ u.heap.size := by have := bu.size; omega
  have A0 : Hid (FA u fb f) := HF.out.below bu
  obtain ⟨c0, c1, c2, c3, c4, c5, c6, c7⟩ := hp8 p0.P
  have e0 : (0 : Int) < (f.length : Int) := by omega
  have HXS : Hid (x + 1 < u.heap.size) := (Array.getElem?_eq_some_iff.1 p0.R).1
  clear hu hx p0 bu HF M
  obtain ⟨s0, hs0⟩ : ∃ y, stB (fd f 0) = y := ⟨_, rfl⟩
  obtain ⟨s1, hs1⟩ : ∃ y, stB (fd f 1) = y := ⟨_, rfl⟩
  obtain ⟨sl, hsl⟩ : ∃ y, stB l = y := ⟨_, rfl⟩
  have HS0 : Hid (stB (fd f 0) = s0) := hs0
  have HS1 : Hid (stB (fd f 1) = s1) := hs1
  have HSL : Hid (stB l = sl) := hsl
  have g0 : u.cell? ⟨fb, 0, none⟩ = some (.string s0) := (A0.out.cell 0 hne).trans (by rw [hs0])
  have hz1 : (s1.size : Int) ≤ 200000 := by rw [← hs1]; exact HL.out 1
  rw [hsl] at hll ⊢
  have WD : Hid (s1.data.toList = fd f 1) := (by rw [← hs1]; simp [stB] : s1.data.toList = fd f 1)
  have WL : Hid (sl.data.toList = l) := (by rw [← hsl]; simp [stB] : sl.data.toList = l)
  clear hs0 hs1 hsl
  obtain ⟨n0, n0'⟩ := beqF HS0.out hw.1
  obtain ⟨n1, n1'⟩ := beqF HS0.out hw.2.1
  obtain ⟨n2, n2'⟩ := beqF HS0.out hw.2.2.1
  obtain ⟨n3, n3'⟩ := beqF HS0.out hw.2.2.2.1
  obtain ⟨n4, n4'⟩ := beqF HS0.out hw.2.2.2.2
  have HSO : Hid (RR = insS S l) := (by rw [← HRR.out]; unfold stmS; rw [if_pos H3.out, if_neg hw.1, if_neg hw.2.1, if_neg hw.2.2.1, if_neg hw.2.2.2.1, if_neg hw.2.2.2.2] : RR = insS S l)
  clear hw
  go_wp2_with fail
  refine (ins_any sl 1 u hll (.inr rfl)).mono ?_
  rintro e u2 ⟨he, hb2⟩
  rw [WL.out] at he
  have P2 : Hid (PX x (x + 1) #[.int .i64 S.d, .slice sH.a sH.n sH.c, .slice sR.a sR.n sR.c, .slice sP.a sP.n sP.c, .int .i64 (S.st : Int), .slice sN.a sN.n sN.c, .slice sO.a sO.n sO.c, .bool false] #[.int .i64 0, .slice none 0 0, .slice none 0 0, .slice none 0 0, .int .i64 0, .slice none 0 0, .slice none 0 0, .bool false] u2) := P0.out.below hb2
  have M2 : Hid (MS u2 B S sH sR sP sN sO bv) := M0.out.below hb2
  have F2 : Hid (Fm tsM B w u2) := F0.out.below hb2 hBu
  have hBu2 : B ≤ u2.heap.size := by have := hb2.size; omega
  clear hb2 c0 c1 c2 c3 c4 c5 c6 c7 g0 P0 M0 F0 A0
  cases hr : insL 1 l with
  | none =>
    rw [hr] at he
    have he' : e = .returned (.tuple #[.bool false, .agg #[.int .i64 0, .int .i64 0, .int .i64 0, .int .i64 0, .int .i64 0, .int .i64 0]]) := he
    subst he'
    have HR : Hid (RR = none) := (by rw [HSO.out]; unfold insS; rw [hr] : RR = none)
    clear hr he
    go_upto_region 24 with fail
    obtain ⟨u3, hu3, hb3, hv3⟩ : ∃ z, u2.alloc (.cells #[.int .i64 0, .int .i64 0, .int .i64 0, .int .i64 0, .int .i64 0, .int .i64 0] 91) = z ∧ Below u2.heap.size u2 z ∧ z.heap[u2.heap.size]? = some (.cells #[.int .i64 0, .int .i64 0, .int .i64 0, .int .i64 0, .int .i64 0, .int .i64 0] 91) := ⟨_, rfl, (Below.refl _ _).alloc (Nat.le_refl _) _, heap_alloc_newB _ _⟩
    rw [hu3]
    obtain ⟨vb, hvb⟩ : ∃ z, u2.heap.size = z := ⟨_, rfl⟩
    rw [hvb] at hv3 ⊢
    have P3 : Hid (PX x (x + 1) #[.int .i64 S.d, .slice sH.a sH.n sH.c, .slice sR.a sR.n sR.c, .slice sP.a sP.n sP.c, .int .i64 (S.st : Int), .slice sN.a sN.n sN.c, .slice sO.a sO.n sO.c, .bool false] #[.int .i64 0, .slice none 0 0, .slice none 0 0, .slice none 0 0, .int .i64 0, .slice none 0 0, .slice none 0 0, .bool false] u3) := P2.out.below hb3
    have M3 : Hid (MS u3 B S sH sR sP sN sO bv) := M2.out.below hb3
    have F3 : Hid (Fm tsM B w u3) := F2.out.below hb3 hBu2
    have hBu3 : B ≤ u3.heap.size := by have := hb3.size; omega
    have V3 : Hid (u3.heap[vb]? = some (.cells #[.int .i64 0, .int .i64 0, .int .i64 0, .int .i64 0, .int .i64 0, .int .i64 0] 91)) := hv3
    have v0 := hp_cell hv3 0
    have v1 := hp_cell hv3 1
    have v2 := hp_cell hv3 2
    have v3 := hp_cell hv3 3
    have v4 := hp_cell hv3 4
    have v5 := hp_cell hv3 5
    simp only [List.getElem?_toArray, List.getElem?_cons_zero, List.getElem?_cons_succ] at v0 v1 v2 v3 v4 v5
    obtain ⟨c0, c1, c2, c3, c4, c5, c6, c7⟩ := hp8 P3.out.P
    clear hu3 hb3 hv3 hvb
    go_wp2_with fail
    refine (l6Bad_any S.d (S.st : Int) sH sR sP sN sO false u3).mono ?_
    rintro e u9 ⟨rfl, hb9⟩
    have P9 := P3.out.below hb9
    have F9 : Hid (Fm tsM B w u9) := F3.out.below hb9 hBu3
    obtain ⟨z0, z1, z2, z3, z4, z5, z6, z7⟩ := hp8 P9.R
    have f9 := hp_frz P9.R
    clear hb9
    go_wp2
    refine bodyPost_ret (v := .agg #[.int .i64 S.d, .slice sH.a sH.n sH.c, .slice sR.a sR.n sR.c, .slice sP.a sP.n sP.c, .int .i64 (S.st : Int), .slice sN.a sN.n sN.c, .slice sO.a sO.n sO.c, .bool true]) (by simp [results, Tryz.results25, go_sem, z0, z1, z2, z3, z4, z5, z6, z7]) rfl ?_
    unfold MR
    rw [HR.out]
    exact ⟨F9.out.put8 (by have := HX.out; omega) (by omega) _ _ _ _ _ _ _ _, S.d, (S.st : Int), sH, sR, sP, sN, sO, rfl⟩
  | some y =>
    rw [hr] at he
    have he' : e = .returned (.tuple #[.bool true, .agg #[.int .i64 y.op, .int .i64 y.d, .int .i64 y.a, .int .i64 y.b, .int .i64 y.imm, .int .i64 y.h]]) := he
    subst he'
    have HY : Hid (insL 1 l = some y) := hr
    clear hr he
    go_upto_region 24 with fail
    obtain ⟨u3, hu3, hb3, hv3⟩ : ∃ z, u2.alloc (.cells #[.int .i64 y.op, .int .i64 y.d, .int .i64 y.a, .int .i64 y.b, .int .i64 y.imm, .int .i64 y.h] 91) = z ∧ Below u2.heap.size u2 z ∧ z.heap[u2.heap.size]? = some (.cells #[.int .i64 y.op, .int .i64 y.d, .int .i64 y.a, .int .i64 y.b, .int .i64 y.imm, .int .i64 y.h] 91) := ⟨_, rfl, (Below.refl _ _).alloc (Nat.le_refl _) _, heap_alloc_newB _ _⟩
    rw [hu3]
    obtain ⟨vb, hvb⟩ : ∃ z, u2.heap.size = z := ⟨_, rfl⟩
    rw [hvb] at hv3 ⊢
    have P3 : Hid (PX x (x + 1) #[.int .i64 S.d, .slice sH.a sH.n sH.c, .slice sR.a sR.n sR.c, .slice sP.a sP.n sP.c, .int .i64 (S.st : Int), .slice sN.a sN.n sN.c, .slice sO.a sO.n sO.c, .bool false] #[.int .i64 0, .slice none 0 0, .slice none 0 0, .slice none 0 0, .int .i64 0, .slice none 0 0, .slice none 0 0, .bool false] u3) := P2.out.below hb3
    have M3 : Hid (MS u3 B S sH sR sP sN sO bv) := M2.out.below hb3
    have F3 : Hid (Fm tsM B w u3) := F2.out.below hb3 hBu2
    have hBu3 : B ≤ u3.heap.size := by have := hb3.size; omega
    have V3 : Hid (u3.heap[vb]? = some (.cells #[.int .i64 y.op, .int .i64 y.d, .int .i64 y.a, .int .i64 y.b, .int .i64 y.imm, .int .i64 y.h] 91)) := hv3
    have v0 := hp_cell hv3 0
    have v1 := hp_cell hv3 1
    have v2 := hp_cell hv3 2
    have v3 := hp_cell hv3 3
    have v4 := hp_cell hv3 4
    have v5 := hp_cell hv3 5
    simp only [List.getElem?_toArray, List.getElem?_cons_zero, List.getElem?_cons_succ] at v0 v1 v2 v3 v4 v5
    obtain ⟨c0, c1, c2, c3, c4, c5, c6, c7⟩ := hp8 P3.out.P
    clear hu3 hb3 hv3 hvb
    go_wp2_with fail
    refine (specIns_any y.op y.d y.a y.b y.imm y.h u3).mono ?_
    rintro e u4 ⟨rfl, hb4⟩
    have P4 : Hid (PX x (x + 1) #[.int .i64 S.d, .slice sH.a sH.n sH.c, .slice sR.a sR.n sR.c, .slice sP.a sP.n sP.c, .int .i64 (S.st : Int), .slice sN.a sN.n sN.c, .slice sO.a sO.n sO.c, .bool false] #[.int .i64 0, .slice none 0 0, .slice none 0 0, .slice none 0 0, .int .i64 0, .slice none 0 0, .slice none 0 0, .bool false] u4) := P3.out.below hb4
    have M4 : Hid (MS u4 B S sH sR sP sN sO bv) := M3.out.below hb4
    have F4 : Hid (Fm tsM B w u4) := F3.out.below hb4 hBu3
    have hBu4 : B ≤ u4.heap.size := by have := hb4.size; omega
    have V4 := (hb4.block vb (Array.getElem?_eq_some_iff.1 V3.out).1).trans V3.out
    clear v0 v1 v2 v3 v4 v5 c0 c1 c2 c3 c4 c5 c6 c7 hb4 P3 M3 F3 V3
    have v0 := hp_cell V4 0
    have v1 := hp_cell V4 1
    have v2 := hp_cell V4 2
    have v3 := hp_cell V4 3
    have v4 := hp_cell V4 4
    have v5 := hp_cell V4 5
    simp only [List.getElem?_toArray, List.getElem?_cons_zero, List.getElem?_cons_succ] at v0 v1 v2 v3 v4 v5
    obtain ⟨c0, c1, c2, c3, c4, c5, c6, c7⟩ := hp8 P4.out.P
    clear V4
    cases hv : implIns y.op y.d y.a y.b y.imm y.h with
    | false =>
      have HR : Hid (RR = none) := (by rw [HSO.out]; unfold insS; rw [HY.out]; simp only; rw [if_neg (fun h => by rw [hv] at h; cases h.1)] : RR = none)
      clear hv
      go_wp2_with fail
      refine (l6Bad_any S.d (S.st : Int) sH sR sP sN sO false u4).mono ?_
      rintro e u9 ⟨rfl, hb9⟩
      have P9 := P4.out.below hb9
      have F9 : Hid (Fm tsM B w u9) := F4.out.below hb9 hBu4
      obtain ⟨z0, z1, z2, z3, z4, z5, z6, z7⟩ := hp8 P9.R
      have f9 := hp_frz P9.R
      clear hb9
      go_wp2
      refine bodyPost_ret (v := .agg #[.int .i64 S.d, .slice sH.a sH.n sH.c, .slice sR.a sR.n sR.c, .slice sP.a sP.n sP.c, .int .i64 (S.st : Int), .slice sN.a sN.n sN.c, .slice sO.a sO.n sO.c, .bool true]) (by simp [results, Tryz.results25, go_sem, z0, z1, z2, z3, z4, z5, z6, z7]) rfl ?_
      unfold MR
      rw [HR.out]
      exact ⟨F9.out.put8 (by have := HX.out; omega) (by omega) _ _ _ _ _ _ _ _, S.d, (S.st : Int), sH, sR, sP, sN, sO, rfl⟩
    | true =>
      by_cases h29 : y.op < 29
      rotate_left
      · have e5 : (29 : Int) ≤ y.op := by omega
        have HR : Hid (RR = none) := (by rw [HSO.out]; unfold insS; rw [HY.out]; simp only; rw [if_neg (fun h => h29 h.2)] : RR = none)
        clear hv h29
        go_wp2_with fail
        refine (l6Bad_any S.d (S.st : Int) sH sR sP sN sO false u4).mono ?_
        rintro e u9 ⟨rfl, hb9⟩
        have P9 := P4.out.below hb9
        have F9 : Hid (Fm tsM B w u9) := F4.out.below hb9 hBu4
        obtain ⟨z0, z1, z2, z3, z4, z5, z6, z7⟩ := hp8 P9.R
        have f9 := hp_frz P9.R
        clear hb9
        go_wp2
        refine bodyPost_ret (v := .agg #[.int .i64 S.d, .slice sH.a sH.n sH.c, .slice sR.a sR.n sR.c, .slice sP.a sP.n sP.c, .int .i64 (S.st : Int), .slice sN.a sN.n sN.c, .slice sO.a sO.n sO.c, .bool true]) (by simp [results, Tryz.results25, go_sem, z0, z1, z2, z3, z4, z5, z6, z7]) rfl ?_
        unfold MR
        rw [HR.out]
        exact ⟨F9.out.put8 (by have := HX.out; omega) (by omega) _ _ _ _ _ _ _ _, S.d, (S.st : Int), sH, sR, sP, sN, sO, rfl⟩
      have e5 : ¬ (29 : Int) ≤ y.op := by omega
      have HR : Hid (RR = some (addS S (⟨1, y.op, y.d, y.a, y.b, y.imm, y.h, 0, 0, 0, 0⟩ : SV))) := (by rw [HSO.out]; unfold insS; rw [HY.out]; simp only; rw [if_pos ⟨hv, h29⟩]; rfl : RR = some (addS S (⟨1, y.op, y.d, y.a, y.b, y.imm, y.h, 0, 0, 0, 0⟩ : SV)))
      clear hv h29
      go_wp2_with fail
      refine (l6Put_op B S S.op sH sR sP sN sO bv 1 0 0 y.op y.d y.a y.b y.imm y.h u4 hBu4 M4.out.m0 (M4.out.I.ps H3.out) (M4.out.I.add _ H3.out) hbl hp).mono ?_
      rintro e u9 ⟨bv9, f9', rfl, m9⟩
      have P9 : Hid (PX x (x + 1) #[.int .i64 S.d, .slice sH.a sH.n sH.c, .slice sR.a sR.n sR.c, .slice sP.a sP.n sP.c, .int .i64 (S.st : Int), .slice sN.a sN.n sN.c, .slice sO.a sO.n sO.c, .bool false] #[.int .i64 0, .slice none 0 0, .slice none 0 0, .slice none 0 0, .int .i64 0, .slice none 0 0, .slice none 0 0, .bool false] u9) := P4.out.fm f9'
      have F9 : Hid (Fm tsM B w u9) := F4.out.trans f9'
      have M9 : Hid (MS u9 B (addS S (⟨1, y.op, y.d, y.a, y.b, y.imm, y.h, 0, 0, 0, 0⟩ : SV)) sH sR sP sN sO bv9) := m9
      clear f9' m9
      obtain ⟨z0, z1, z2, z3, z4, z5, z6, z7⟩ := hp8 P9.out.R
      have f9 := hp_frz P9.out.R
      go_wp2
      refine bodyPost_ret (v := .agg #[.int .i64 S.d, .slice sH.a sH.n sH.c, .slice sR.a sR.n sR.c, .slice sP.a sP.n sP.c, .int .i64 (S.st : Int), .slice sN.a sN.n sN.c, .slice sO.a sO.n sO.c, .bool false]) (by simp [results, Tryz.results25, go_sem, z0, z1, z2, z3, z4, z5, z6, z7]) rfl ?_
      unfold MR
      rw [HR.out]
      exact ⟨F9.out.put8 (by have := HX.out; omega) (by omega) _ _ _ _ _ _ _ _, sH, sR, sP, sN, sO, _, rfl, M9.out.put8 P9.out _ _ _ _ _ _ _ _⟩
end Go.Proofs.YtblfmpgdhpbffaaGreatDoor
