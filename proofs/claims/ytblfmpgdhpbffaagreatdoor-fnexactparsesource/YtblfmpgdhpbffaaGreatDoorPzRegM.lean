import Derived.Test.YtblfmpgdhpbffaaGreatDoorPzHeap
import Derived.Test.YtblfmpgdhpbffaaGreatDoorOfPzCell
/- spec.l6Reg. -/
namespace Go.Proofs.YtblfmpgdhpbffaaGreatDoor
open Go.RowKit

theorem reg_short (S : PS) (f : List (List UInt8)) (h : f.length < 4) : regS S f = none := by
  have hv : valS (f.drop 2) = none := by
    unfold valS
    rw [List.length_drop, if_neg (by omega), if_neg (by omega)]
  unfold regS
  split
  · split
    · split
      · rw [hv]; rfl
      · rfl
    · rfl
  · rfl
/-- A register's value is written. -/
theorem MS.setR {w : World} {B g c n : Nat} {S : PS} {sH sP sN sO : Sl} {m : Nat} {bv : List Value} {v : VV} (h : MS w B S sH ⟨some ⟨g, 0, none⟩, m, c⟩ sP sN sO bv) (hn : n < 8) :
    MS (setW w g (n * 6) (vlL v)) B { S with rg := S.rg.set n v } sH ⟨some ⟨g, 0, none⟩, m, c⟩ sP sN sO bv ∧ (B ≤ w.heap.size → Fm tsM B w (setW w g (n * 6) (vlL v))) := by
  have ho : w.ownsRow B 47 6 (.slice (some ⟨g, 0, none⟩) m c) S.rg.length (S.rg.flatMap vlL) := h.R.own 3 _ rfl
  have hm := row_n ho
  subst hm
  obtain ⟨s1, s2⟩ := stored_all (vlL v) w _ (n * 6) ho
  rw [fm_setL vlL 6 (fun _ => rfl) S.rg n v (by rw [h.I.rg]; exact hn)] at s1
  refine ⟨⟨?_, h.L, ⟨h.I.st, h.I.d, h.I.hs, by show (S.rg.set n v).length = 8; rw [List.length_set]; exact h.I.rg, h.I.gv, h.I.ps, h.I.op, h.I.ol, h.I.od⟩⟩, fun hB => Fm.of_grow ho (Nat.le_refl _) s2 hB (by decide)⟩
  have q := h.R.grow (j := 3) (r := ⟨47, 6, .slice (some ⟨g, 0, none⟩) S.rg.length c, S.rg.length, S.rg.flatMap vlL⟩) (r' := ⟨47, 6, .slice (some ⟨g, 0, none⟩) S.rg.length c, (S.rg.set n v).length, (S.rg.set n v).flatMap vlL⟩) rfl s2 (by unfold Rw.own; rw [List.length_set]; exact s1) (.inl rfl)
  exact q
/-- That a register has its line is written. -/
theorem MS.setN {w : World} {B g c n : Nat} {S : PS} {sH sR sP sO : Sl} {m : Nat} {bv : List Value} {v : Bool} (h : MS w B S sH sR sP ⟨some ⟨g, 0, none⟩, m, c⟩ sO bv) :
    MS (w.setCell ⟨g, n, none⟩ (.bool v)) B { S with gv := S.gv.set n v } sH sR sP ⟨some ⟨g, 0, none⟩, m, c⟩ sO bv ∧ (B ≤ w.heap.size → Fm tsM B w (w.setCell ⟨g, n, none⟩ (.bool v))) := by
  have ho : w.ownsRow B 4 1 (.slice (some ⟨g, 0, none⟩) m c) S.gv.length (S.gv.map .bool) := h.R.own 0 _ rfl
  have hm := row_n ho
  subst hm
  obtain ⟨s1, s2⟩ := ho.stored n (.bool v)
  rw [map_set Value.bool] at s1
  refine ⟨⟨?_, h.L, ⟨h.I.st, h.I.d, h.I.hs, h.I.rg, by show (S.gv.set n v).length = 8; rw [List.length_set]; exact h.I.gv, h.I.ps, h.I.op, h.I.ol, h.I.od⟩⟩, fun hB => Fm.of_grow ho (Nat.le_refl _) s2 hB (by decide)⟩
  have q := h.R.grow (j := 0) (r := ⟨4, 1, .slice (some ⟨g, 0, none⟩) S.gv.length c, S.gv.length, S.gv.map .bool⟩) (r' := ⟨4, 1, .slice (some ⟨g, 0, none⟩) S.gv.length c, (S.gv.set n v).length, (S.gv.set n v).map .bool⟩) rfl s2 (by unfold Rw.own; rw [List.length_set]; exact s1) (.inl rfl)
  exact q
theorem MS.namedZ {w : World} {B g c m : Nat} {S : PS} {sH sR sP sO : Sl} {bv : List Value} (h : MS w B S sH sR sP ⟨some ⟨g, 0, none⟩, m, c⟩ sO bv) : (∀ i, w.frozen? ⟨g, i, none⟩ = false) ∧ ∀ n, n < 8 → w.cell? ⟨g, n, none⟩ = some (.bool (S.gv.getD n false)) := by
  have hN : w.ownsRow B 4 1 (.slice (some ⟨g, 0, none⟩) m c) S.gv.length (S.gv.map .bool) := h.R.own 0 _ rfl
  have hm := row_n hN
  subst hm
  refine ⟨fun i => hN.frozenAt i, fun n hn => ?_⟩
  rw [hN.cellAt n (by rw [h.I.gv]; omega), List.getElem?_map, List.getElem?_eq_getElem (by rw [h.I.gv]; omega), List.getD_eq_getElem?_getD, List.getElem?_eq_getElem (by rw [h.I.gv]; omega)]
  rfl
theorem MS.stg {w : World} {B : Nat} {S : PS} {sH sR sP sN sO : Sl} {bv : List Value} (h : MS w B S sH sR sP sN sO bv) (hs : S.st ≤ 2) : MS w B { S with st := 2 } sH sR sP sN sO bv :=
  ⟨h.R, h.L, ⟨by show 2 ≤ 3; omega, h.I.d, h.I.hs, h.I.rg, h.I.gv, fun e => absurd e (by show ¬ 2 = 3; omega), fun _ => h.I.op (by omega), h.I.ol, h.I.od⟩⟩
theorem drop2_fd (f : List (List UInt8)) (k : Nat) : fd (f.drop 2) k = fd f (k + 2) := by
  unfold fd; simp [List.getD_eq_getElem?_getD, Nat.add_comm]
theorem val_long (f : List (List UInt8)) (hp : fd f 2 ≠ [112, 116, 114]) (h4 : f.length ≠ 4) : valS (f.drop 2) = none := by
  unfold valS
  rw [List.length_drop]
  by_cases h2 : f.length - 2 = 2
  · omega
  · rw [if_neg h2, if_neg (fun h => hp (by rw [← h.2, drop2_fd]))]
theorem val_num (f : List (List UInt8)) (h4 : f.length = 4) {m : Int} {s : Bool} (hm : (if fd f 2 = [97, 110, 121] then some (-1) else numW false (fd f 2)) = some m) (hs : secW (fd f 3) = some s) : valS (f.drop 2) = some ⟨0, s, m, 0, 0, 0⟩ := by
  unfold valS
  rw [List.length_drop, if_pos (by omega), drop2_fd, drop2_fd, hm, hs]
theorem val_sec (f : List (List UInt8)) (hp : fd f 2 ≠ [112, 116, 114]) (hs : secW (fd f 3) = none) : valS (f.drop 2) = none := by
  unfold valS
  rw [drop2_fd, drop2_fd, drop2_fd, hs]
  split
  · split <;> first | rfl | simp_all
  · rw [if_neg (fun h => hp h.2)]
theorem val_none (f : List (List UInt8)) (hp : fd f 2 ≠ [112, 116, 114]) (ha : fd f 2 ≠ [97, 110, 121]) (hn : numW false (fd f 2) = none) : valS (f.drop 2) = none := by
  unfold valS
  rw [drop2_fd, if_neg ha, hn]
  split
  · rfl
  · rw [if_neg (fun h => hp h.2)]
theorem MS.regs {w : World} {B : Nat} {S : PS} {sH sR sP sN sO : Sl} {bv : List Value} (h : MS w B S sH sR sP sN sO bv) : ∃ gR gN : Nat, sR.a = some ⟨gR, 0, none⟩ ∧ sR.n = 8 ∧ sN.a = some ⟨gN, 0, none⟩ ∧ sN.n = 8 ∧ (∀ n, n < 8 → w.cell? ⟨gN, n, none⟩ = some (.bool (S.gv.getD n false))) ∧ (∀ i, w.frozen? ⟨gN, i, none⟩ = false) ∧ (∀ i, w.frozen? ⟨gR, i, none⟩ = false) ∧ (∀ i, i < 48 → ∃ v, w.cell? ⟨gR, i, none⟩ = some v) ∧ gR < w.heap.size ∧ gN < w.heap.size := by
  have hR : w.ownsRow B 47 6 (.slice sR.a sR.n sR.c) S.rg.length (S.rg.flatMap vlL) := h.R.own 3 _ rfl
  have hN : w.ownsRow B 4 1 (.slice sN.a sN.n sN.c) S.gv.length (S.gv.map .bool) := h.R.own 0 _ rfl
  rw [h.I.rg] at hR
  rw [h.I.gv] at hN
  obtain ⟨gR, cR, e1, _, l1, _⟩ := row_someZ hR (by omega)
  obtain ⟨gN, cN, e2, _, l2, _⟩ := row_someZ hN (by omega)
  injection e1 with a1 a2 a3
  injection e2 with b1 b2 b3
  rw [a1, a2] at hR
  rw [b1, b2] at hN
  refine ⟨gR, gN, a1, a2, b1, b2, fun n hn => ?_, fun i => hN.frozenAt i, fun i => hR.frozenAt i, fun i hi => ?_, l1, l2⟩
  · rw [hN.cellAt n (by omega), List.getElem?_map, List.getElem?_eq_getElem (by rw [h.I.gv]; omega), List.getD_eq_getElem?_getD, List.getElem?_eq_getElem (by rw [h.I.gv]; omega)]
    rfl
  · rw [hR.cellAt i (by omega), List.getElem?_eq_getElem (by rw [hR.1]; omega)]
    exact ⟨_, rfl⟩

set_option maxRecDepth 20000 in
set_option maxHeartbeats 12800000 in
theorem l6Reg_any (B : Nat) (S : PS) (sH sR sP sN sO : Sl) (bv : List Value) (f : List (List UInt8)) (fb fc : Nat) (w : World) (hB : B ≤ w.heap.size) (hm : MS w B S sH sR sP sN sO bv) (hf : FA w fb f) (hl : ∀ i, ((stB (fd f i)).size : Int) ≤ 200000) (hlf : f.length ≤ 200000) :
    Calls Tryz.prog 24 #[.agg #[.int .i64 S.d, .slice sH.a sH.n sH.c, .slice sR.a sR.n sR.c, .slice sP.a sP.n sP.c, .int .i64 (S.st : Int), .slice sN.a sN.n sN.c, .slice sO.a sO.n sO.c, .bool false], .slice (some ⟨fb, 0, none⟩) f.length fc] w fun e w' => MR B w (regS S f) e w' := by
  have M : Hid (MS w B S sH sR sP sN sO bv) := hm
  have HL : Hid (∀ i, ((stB (fd f i)).size : Int) ≤ 200000) := hl
  have HF : Hid (FA w fb f) := hf
  clear hm hf hl
  go_enter Tryz.func24, Tryz.ntmps24
  go_upto_region 1 with fail
  obtain ⟨u, hu, p0, bu⟩ : ∃ y, ((w.alloc (.cells #[.int .i64 S.d, .slice sH.a sH.n sH.c, .slice sR.a sR.n sR.c, .slice sP.a sP.n sP.c, .int .i64 (S.st : Int), .slice sN.a sN.n sN.c, .slice sO.a sO.n sO.c, .bool false] 45)).alloc (.cells #[.int .i64 0, .slice none 0 0, .slice none 0 0, .slice none 0 0, .int .i64 0, .slice none 0 0, .slice none 0 0, .bool false] 45)) = y ∧ PX w.heap.size (w.heap.size + 1) #[.int .i64 S.d, .slice sH.a sH.n sH.c, .slice sR.a sR.n sR.c, .slice sP.a sP.n sP.c, .int .i64 (S.st : Int), .slice sN.a sN.n sN.c, .slice sO.a sO.n sO.c, .bool false] #[.int .i64 0, .slice none 0 0, .slice none 0 0, .slice none 0 0, .int .i64 0, .slice none 0 0, .slice none 0 0, .bool false] y ∧ Below w.heap.size w y := ⟨_, rfl, px_new w _ _, two_below w _ _⟩
  rw [hu]
  obtain ⟨x, hx⟩ : ∃ y, w.heap.size = y := ⟨_, rfl⟩
  rw [hx] at p0 ⊢
  have HX : Hid (w.heap.size = x) := hx
  have P0 : Hid (PX x (x + 1) #[.int .i64 S.d, .slice sH.a sH.n sH.c, .slice sR.a sR.n sR.c, .slice sP.a sP.n sP.c, .int .i64 (S.st : Int), .slice sN.a sN.n sN.c, .slice sO.a sO.n sO.c, .bool false] #[.int .i64 0, .slice none 0 0, .slice none 0 0, .slice none 0 0, .int .i64 0, .slice none 0 0, .slice none 0 0, .bool false] u) := p0
  have F0 : Hid (Fm tsM B w u) := Fm.of_below bu hB
  have M0 : Hid (MS u B S sH sR sP sN sO bv) := M.out.below bu
  have hBx : B ≤ x := by omega
  have hBu : B ≤ u.heap.size := by have := bu.size; omega
  have A0 : Hid (FA u fb f) := HF.out.below bu
  obtain ⟨c0, c1, c2, c3, c4, c5, c6, c7⟩ := hp8 p0.P
  have f1 := hp_frz p0.R
  clear hu hx p0 bu HF M
  by_cases h0 : S.st < 1
  · have e1 : (S.st : Int) < 1 := by omega
    have HR : Hid (regS S f = none) := (by unfold regS; rw [if_neg (fun h => by omega)] : regS S f = none)
    go_wp2_with fail
    refine (l6Bad_any S.d (S.st : Int) sH sR sP sN sO false u).mono ?_
    rintro e u9 ⟨rfl, hb9⟩
    have P9 := P0.out.below hb9
    have F9 : Hid (Fm tsM B w u9) := F0.out.below hb9 hBu
    obtain ⟨z0, z1, z2, z3, z4, z5, z6, z7⟩ := hp8 P9.R
    have f9 := hp_frz P9.R
    clear hb9
    go_wp2
    refine bodyPost_ret (v := .agg #[.int .i64 S.d, .slice sH.a sH.n sH.c, .slice sR.a sR.n sR.c, .slice sP.a sP.n sP.c, .int .i64 (S.st : Int), .slice sN.a sN.n sN.c, .slice sO.a sO.n sO.c, .bool true]) (by simp [results, Tryz.results24, go_sem, z0, z1, z2, z3, z4, z5, z6, z7]) rfl ?_
    unfold MR
    rw [HR.out]
    exact ⟨F9.out.put8 (by have := HX.out; omega) (by omega) _ _ _ _ _ _ _ _, S.d, (S.st : Int), sH, sR, sP, sN, sO, rfl⟩
  have e1 : ¬ (S.st : Int) < 1 := by omega
  by_cases h1 : 2 < S.st
  · have e2 : (2 : Int) < (S.st : Int) := by omega
    have HR : Hid (regS S f = none) := (by unfold regS; rw [if_neg (fun h => by omega)] : regS S f = none)
    go_wp2_with fail
    refine (l6Bad_any S.d (S.st : Int) sH sR sP sN sO false u).mono ?_
    rintro e u9 ⟨rfl, hb9⟩
    have P9 := P0.out.below hb9
    have F9 : Hid (Fm tsM B w u9) := F0.out.below hb9 hBu
    obtain ⟨z0, z1, z2, z3, z4, z5, z6, z7⟩ := hp8 P9.R
    have f9 := hp_frz P9.R
    clear hb9
    go_wp2
    refine bodyPost_ret (v := .agg #[.int .i64 S.d, .slice sH.a sH.n sH.c, .slice sR.a sR.n sR.c, .slice sP.a sP.n sP.c, .int .i64 (S.st : Int), .slice sN.a sN.n sN.c, .slice sO.a sO.n sO.c, .bool true]) (by simp [results, Tryz.results24, go_sem, z0, z1, z2, z3, z4, z5, z6, z7]) rfl ?_
    unfold MR
    rw [HR.out]
    exact ⟨F9.out.put8 (by have := HX.out; omega) (by omega) _ _ _ _ _ _ _ _, S.d, (S.st : Int), sH, sR, sP, sN, sO, rfl⟩
  have e2 : ¬ (2 : Int) < (S.st : Int) := by omega
  by_cases h2 : f.length < 4
  · have e3 : (f.length : Int) < 4 := by omega
    have HR : Hid (regS S f = none) := (reg_short S f h2 : regS S f = none)
    go_wp2_with fail
    refine (l6Bad_any S.d (S.st : Int) sH sR sP sN sO false u).mono ?_
    rintro e u9 ⟨rfl, hb9⟩
    have P9 := P0.out.below hb9
    have F9 : Hid (Fm tsM B w u9) := F0.out.below hb9 hBu
    obtain ⟨z0, z1, z2, z3, z4, z5, z6, z7⟩ := hp8 P9.R
    have f9 := hp_frz P9.R
    clear hb9
    go_wp2
    refine bodyPost_ret (v := .agg #[.int .i64 S.d, .slice sH.a sH.n sH.c, .slice sR.a sR.n sR.c, .slice sP.a sP.n sP.c, .int .i64 (S.st : Int), .slice sN.a sN.n sN.c, .slice sO.a sO.n sO.c, .bool true]) (by simp [results, Tryz.results24, go_sem, z0, z1, z2, z3, z4, z5, z6, z7]) rfl ?_
    unfold MR
    rw [HR.out]
    exact ⟨F9.out.put8 (by have := HX.out; omega) (by omega) _ _ _ _ _ _ _ _, S.d, (S.st : Int), sH, sR, sP, sN, sO, rfl⟩
  have e3 : ¬ (f.length : Int) < 4 := by omega
  have HC : Hid ((S.st = 1 ∨ S.st = 2) ∧ 2 ≤ f.length) := (⟨by omega, by omega⟩ : (S.st = 1 ∨ S.st = 2) ∧ 2 ≤ f.length)
  have e4 : (1 : Int) < (f.length : Int) := by omega
  have e5 : (2 : Int) < (f.length : Int) := by omega
  have e6 : (3 : Int) < (f.length : Int) := by omega
  obtain ⟨s1, hs1⟩ : ∃ y, stB (fd f 1) = y := ⟨_, rfl⟩
  obtain ⟨s2, hs2⟩ : ∃ y, stB (fd f 2) = y := ⟨_, rfl⟩
  obtain ⟨s3, hs3⟩ : ∃ y, stB (fd f 3) = y := ⟨_, rfl⟩
  have g1 : u.cell? ⟨fb, 1, none⟩ = some (.string s1) := (A0.out.cell 1 (by omega)).trans (by rw [hs1])
  have g2 : u.cell? ⟨fb, 2, none⟩ = some (.string s2) := (A0.out.cell 2 (by omega)).trans (by rw [hs2])
  have g3 : u.cell? ⟨fb, 3, none⟩ = some (.string s3) := (A0.out.cell 3 (by omega)).trans (by rw [hs3])
  have HS2 : Hid (stB (fd f 2) = s2) := hs2
  have HS3 : Hid (stB (fd f 3) = s3) := hs3
  have hz1 : (s1.size : Int) ≤ 200000 := by rw [← hs1]; exact HL.out 1
  have HW : Hid (numW false s1.data.toList = numW false (fd f 1)) := (by rw [← hs1]; simp [stB] : numW false s1.data.toList = numW false (fd f 1))
  clear hs1 hs2 hs3
  go_wp2_with fail
  refine (l6Number_any s1 false u hz1).mono ?_
  rintro e u1 ⟨he, hu1⟩
  rw [hu1]
  clear hu1
  cases hr1 : numW false (fd f 1) with
  | none =>
    rw [HW.out, hr1] at he
    obtain ⟨j, rfl⟩ := he
    have HR : Hid (regS S f = none) := (by unfold regS; rw [if_pos HC.out, hr1] : regS S f = none)
    clear hr1
    go_wp2_with fail
    refine (l6Bad_any S.d (S.st : Int) sH sR sP sN sO false u).mono ?_
    rintro e u9 ⟨rfl, hb9⟩
    have P9 := P0.out.below hb9
    have F9 : Hid (Fm tsM B w u9) := F0.out.below hb9 hBu
    obtain ⟨z0, z1, z2, z3, z4, z5, z6, z7⟩ := hp8 P9.R
    have f9 := hp_frz P9.R
    clear hb9
    go_wp2
    refine bodyPost_ret (v := .agg #[.int .i64 S.d, .slice sH.a sH.n sH.c, .slice sR.a sR.n sR.c, .slice sP.a sP.n sP.c, .int .i64 (S.st : Int), .slice sN.a sN.n sN.c, .slice sO.a sO.n sO.c, .bool true]) (by simp [results, Tryz.results24, go_sem, z0, z1, z2, z3, z4, z5, z6, z7]) rfl ?_
    unfold MR
    rw [HR.out]
    exact ⟨F9.out.put8 (by have := HX.out; omega) (by omega) _ _ _ _ _ _ _ _, S.d, (S.st : Int), sH, sR, sP, sN, sO, rfl⟩
  | some n =>
    rw [HW.out, hr1] at he
    have he' : e = .returned (.tuple #[.bool true, .int .i64 n]) := he
    subst he'
    clear he
    have hn0 : 0 ≤ n := by have := (numW_back hr1).1; simpa using this
    by_cases h7 : 7 < n
    · have HR : Hid (regS S f = none) := (by unfold regS; rw [if_pos HC.out, hr1]; simp only; rw [if_neg (fun h => by omega)] : regS S f = none)
      clear hr1
      go_wp2_with fail
      refine (l6Bad_any S.d (S.st : Int) sH sR sP sN sO false u).mono ?_
      rintro e u9 ⟨rfl, hb9⟩
      have P9 := P0.out.below hb9
      have F9 : Hid (Fm tsM B w u9) := F0.out.below hb9 hBu
      obtain ⟨z0, z1, z2, z3, z4, z5, z6, z7⟩ := hp8 P9.R
      have f9 := hp_frz P9.R
      clear hb9
      go_wp2
      refine bodyPost_ret (v := .agg #[.int .i64 S.d, .slice sH.a sH.n sH.c, .slice sR.a sR.n sR.c, .slice sP.a sP.n sP.c, .int .i64 (S.st : Int), .slice sN.a sN.n sN.c, .slice sO.a sO.n sO.c, .bool true]) (by simp [results, Tryz.results24, go_sem, z0, z1, z2, z3, z4, z5, z6, z7]) rfl ?_
      unfold MR
      rw [HR.out]
      exact ⟨F9.out.put8 (by have := HX.out; omega) (by omega) _ _ _ _ _ _ _ _, S.d, (S.st : Int), sH, sR, sP, sN, sO, rfl⟩
    have HR1 : Hid (numW false (fd f 1) = some n) := hr1
    obtain ⟨k, rfl⟩ : ∃ k : Nat, n = (k : Int) := ⟨n.toNat, by omega⟩
    have hk8 : k < 8 := by omega
    obtain ⟨gR, gN, ra, rn, na, nn, nc, nf, rf, rc, rl, nl⟩ := M0.out.regs
    obtain ⟨aR, nR, cR⟩ := sR
    obtain ⟨aN, nN, cN⟩ := sN
    dsimp only at ra rn na nn M0 c2 c5 P0 ⊢
    subst ra rn na nn
    have ck := nc k hk8
    have ez : (0 : Int) ≤ (k : Int) := by omega
    have ey : (k : Int) < 8 := by omega
    have NL : Hid (∀ i, i < 48 → ∃ v, u.cell? ⟨gR, i, none⟩ = some v) := rc
    have NF : Hid (∀ i, u.frozen? ⟨gN, i, none⟩ = false) := nf
    have RF : Hid (∀ i, u.frozen? ⟨gR, i, none⟩ = false) := rf
    clear nc nf rf rc
    cases hgv : S.gv.getD k false with
    | true =>
      rw [hgv] at ck
      have HR : Hid (regS S f = none) := (by unfold regS; rw [if_pos HC.out, HR1.out]; simp only; rw [if_neg (fun h => by have := h.2; rw [show ((k : Int)).toNat = k by omega, hgv] at this; cases this)] : regS S f = none)
      clear hgv
      go_wp2_with fail
      refine (l6Bad_any S.d (S.st : Int) sH ⟨some ⟨gR, 0, none⟩, 8, cR⟩ sP ⟨some ⟨gN, 0, none⟩, 8, cN⟩ sO false u).mono ?_
      rintro e u9 ⟨rfl, hb9⟩
      have P9 := P0.out.below hb9
      have F9 : Hid (Fm tsM B w u9) := F0.out.below hb9 hBu
      obtain ⟨z0, z1, z2, z3, z4, z5, z6, z7⟩ := hp8 P9.R
      have f9 := hp_frz P9.R
      clear hb9
      go_wp2
      refine bodyPost_ret (v := .agg #[.int .i64 S.d, .slice sH.a sH.n sH.c, .slice (some ⟨gR, 0, none⟩) 8 cR, .slice sP.a sP.n sP.c, .int .i64 (S.st : Int), .slice (some ⟨gN, 0, none⟩) 8 cN, .slice sO.a sO.n sO.c, .bool true]) (by simp [results, Tryz.results24, go_sem, z0, z1, z2, z3, z4, z5, z6, z7]) rfl ?_
      unfold MR
      rw [HR.out]
      exact ⟨F9.out.put8 (by have := HX.out; omega) (by omega) _ _ _ _ _ _ _ _, S.d, (S.st : Int), sH, ⟨some ⟨gR, 0, none⟩, 8, cR⟩, sP, ⟨some ⟨gN, 0, none⟩, 8, cN⟩, sO, rfl⟩
    | false =>
      rw [hgv] at ck
      have HG : Hid (S.gv.getD k false = false) := hgv
      have HRS : Hid (∀ r, valS (f.drop 2) = r → regS S f = r.map fun v => { S with st := 2, rg := S.rg.set k v, gv := S.gv.set k true }) := (fun r hr => by unfold regS; rw [if_pos HC.out, HR1.out]; simp only; rw [if_pos ⟨by omega, by rw [show ((k : Int)).toNat = k by omega]; exact hgv⟩, hr, show ((k : Int)).toNat = k by omega] : ∀ r, valS (f.drop 2) = r → regS S f = r.map fun v => { S with st := 2, rg := S.rg.set k v, gv := S.gv.set k true })
      clear hgv
      go_upto_region 7 with fail
      obtain ⟨u2, hu2, hb2, hv2⟩ : ∃ y, u.alloc (.cells #[.int .i64 0, .bool false, .int .i64 0, .int .i64 0, .int .i64 0, .int .i64 0] 47) = y ∧ Below u.heap.size u y ∧ y.heap[u.heap.size]? = some (.cells #[.int .i64 0, .bool false, .int .i64 0, .int .i64 0, .int .i64 0, .int .i64 0] 47) := ⟨_, rfl, (Below.refl _ _).alloc (Nat.le_refl _) _, heap_alloc_newB _ _⟩
      rw [hu2]
      obtain ⟨vb, hvb⟩ : ∃ y, u.heap.size = y := ⟨_, rfl⟩
      rw [hvb] at hv2 ⊢
      have HVB : Hid (u.heap.size = vb) := hvb
      have B2 : Hid (Below u.heap.size u u2) := hb2
      have P2 : Hid (PX x (x + 1) #[.int .i64 S.d, .slice sH.a sH.n sH.c, .slice (some ⟨gR, 0, none⟩) 8 cR, .slice sP.a sP.n sP.c, .int .i64 (S.st : Int), .slice (some ⟨gN, 0, none⟩) 8 cN, .slice sO.a sO.n sO.c, .bool false] #[.int .i64 0, .slice none 0 0, .slice none 0 0, .slice none 0 0, .int .i64 0, .slice none 0 0, .slice none 0 0, .bool false] u2) := P0.out.below hb2
      have A2 : Hid (FA u2 fb f) := A0.out.below hb2
      have F2 : Hid (Fm tsM B w u2) := F0.out.below hb2 hBu
      have hBu2 : B ≤ u2.heap.size := by have := hb2.size; omega
      have V2 : Hid (u2.heap[vb]? = some (.cells #[.int .i64 0, .bool false, .int .i64 0, .int .i64 0, .int .i64 0, .int .i64 0] 47)) := hv2
      clear hu2 hb2 hv2 hvb ck c0 c1 c2 c3 c4 c5 c6 c7 g1 g2 g3
      obtain ⟨c0, c1, c2, c3, c4, c5, c6, c7⟩ := hp8 P2.out.P
      have g2 : u2.cell? ⟨fb, 2, none⟩ = some (.string s2) := (A2.out.cell 2 (by omega)).trans (by rw [HS2.out])
      have g3 : u2.cell? ⟨fb, 3, none⟩ = some (.string s3) := (A2.out.cell 3 (by omega)).trans (by rw [HS3.out])
      by_cases w2 : fd f 2 = [112, 116, 114]
      · obtain ⟨q1, q2⟩ := beqT HS2.out w2
        by_cases h6 : f.length = 6
        rotate_left
        · have e7 : ((f.length : Int) != 6) = true := by rw [bne_iff_ne]; omega
          have HR : Hid (regS S f = none) := (by
            refine HRS.out none ?_
            have hp : fd (f.drop 2) 0 = [112, 116, 114] := by rw [← w2]; unfold fd; simp [List.getD_eq_getElem?_getD]
            unfold valS
            by_cases h4 : (f.drop 2).length = 2
            · rw [if_pos h4, hp, if_neg (by decide), show numW false [112, 116, 114] = none by decide]
            · rw [if_neg h4, if_neg (fun h => h6 (by have := h.1; rw [List.length_drop] at this; omega))] : regS S f = none)
          clear w2 h6
          go_wp2_with fail
          refine (l6Bad_any S.d (S.st : Int) sH ⟨some ⟨gR, 0, none⟩, 8, cR⟩ sP ⟨some ⟨gN, 0, none⟩, 8, cN⟩ sO false u2).mono ?_
          rintro e u9 ⟨rfl, hb9⟩
          have P9 := P2.out.below hb9
          have F9 : Hid (Fm tsM B w u9) := F2.out.below hb9 hBu2
          obtain ⟨z0, z1, z2, z3, z4, z5, z6, z7⟩ := hp8 P9.R
          have f9 := hp_frz P9.R
          clear hb9
          go_wp2
          refine bodyPost_ret (v := .agg #[.int .i64 S.d, .slice sH.a sH.n sH.c, .slice (some ⟨gR, 0, none⟩) 8 cR, .slice sP.a sP.n sP.c, .int .i64 (S.st : Int), .slice (some ⟨gN, 0, none⟩) 8 cN, .slice sO.a sO.n sO.c, .bool true]) (by simp [results, Tryz.results24, go_sem, z0, z1, z2, z3, z4, z5, z6, z7]) rfl ?_
          unfold MR
          rw [HR.out]
          exact ⟨F9.out.put8 (by have := HX.out; omega) (by omega) _ _ _ _ _ _ _ _, S.d, (S.st : Int), sH, ⟨some ⟨gR, 0, none⟩, 8, cR⟩, sP, ⟨some ⟨gN, 0, none⟩, 8, cN⟩, sO, rfl⟩
        have e7 : ((f.length : Int) != 6) = false := by rw [bne_eq_false_iff_eq]; omega
        have e8 : (4 : Int) < (f.length : Int) := by omega
        have e9 : (5 : Int) < (f.length : Int) := by omega
        obtain ⟨s4, hs4⟩ : ∃ y, stB (fd f 4) = y := ⟨_, rfl⟩
        obtain ⟨s5, hs5⟩ : ∃ y, stB (fd f 5) = y := ⟨_, rfl⟩
        have g4 : u2.cell? ⟨fb, 4, none⟩ = some (.string s4) := (A2.out.cell 4 (by omega)).trans (by rw [hs4])
        have g5 : u2.cell? ⟨fb, 5, none⟩ = some (.string s5) := (A2.out.cell 5 (by omega)).trans (by rw [hs5])
        have hz3 : (s3.size : Int) ≤ 200000 := by rw [← HS3.out]; exact HL.out 3
        have hz4 : (s4.size : Int) ≤ 200000 := by rw [← hs4]; exact HL.out 4
        have hz5 : (s5.size : Int) ≤ 200000 := by rw [← hs5]; exact HL.out 5
        have W3 : Hid (numW false s3.data.toList = numW false (fd f 3)) := (by rw [← HS3.out]; simp [stB] : numW false s3.data.toList = numW false (fd f 3))
        have W4 : Hid (numW true s4.data.toList = numW true (fd f 4)) := (by rw [← hs4]; simp [stB] : numW true s4.data.toList = numW true (fd f 4))
        have W5 : Hid (numW true s5.data.toList = numW true (fd f 5)) := (by rw [← hs5]; simp [stB] : numW true s5.data.toList = numW true (fd f 5))
        have HV : Hid (∀ h lo hi, numW false (fd f 3) = h → numW true (fd f 4) = lo → numW true (fd f 5) = hi → valS (f.drop 2) = match h, lo, hi with | some h, some lo, some hi => some ⟨1, false, 0, h, lo, hi⟩ | _, _, _ => none) := (fun h lo hi k1 k2 k3 => by
          have d0 : fd (f.drop 2) 0 = fd f 2 := by unfold fd; simp [List.getD_eq_getElem?_getD]
          have d1 : fd (f.drop 2) 1 = fd f 3 := by unfold fd; simp [List.getD_eq_getElem?_getD]
          have d2 : fd (f.drop 2) 2 = fd f 4 := by unfold fd; simp [List.getD_eq_getElem?_getD]
          have d3 : fd (f.drop 2) 3 = fd f 5 := by unfold fd; simp [List.getD_eq_getElem?_getD]
          unfold valS
          rw [if_neg (by rw [List.length_drop]; omega), if_pos ⟨by rw [List.length_drop]; omega, by rw [d0]; exact w2⟩, d1, d2, d3, k1, k2, k3]
          cases h <;> cases lo <;> cases hi <;> rfl : ∀ h lo hi, numW false (fd f 3) = h → numW true (fd f 4) = lo → numW true (fd f 5) = hi → valS (f.drop 2) = match h, lo, hi with | some h, some lo, some hi => some ⟨1, false, 0, h, lo, hi⟩ | _, _, _ => none)
        clear hs4 hs5 w2 h6
        go_wp2_with fail
        refine (l6Number_any s3 false u2 hz3).mono ?_
        rintro e u9 ⟨he, hu9⟩
        rw [hu9]
        clear hu9
        obtain ⟨j3, rfl, k3⟩ := he.form
        rw [W3.out] at k3 ⊢
        go_wp2_with fail
        refine (l6Number_any s4 true u2 hz4).mono ?_
        rintro e u9 ⟨he, hu9⟩
        rw [hu9]
        clear hu9
        obtain ⟨j4, rfl, k4⟩ := he.form
        rw [W4.out] at k4 ⊢
        go_wp2_with fail
        refine (l6Number_any s5 true u2 hz5).mono ?_
        rintro e u9 ⟨he, hu9⟩
        rw [hu9]
        clear hu9
        obtain ⟨j5, rfl, k5⟩ := he.form
        rw [W5.out] at k5 ⊢
        cases r3 : numW false (fd f 3) with
        | none =>
          have HR : Hid (regS S f = none) := HRS.out none ((HV.out _ _ _ r3 rfl rfl).trans (by cases numW true (fd f 4) <;> cases numW true (fd f 5) <;> rfl))
          clear k3 k4 k5 r3
          simp only [Option.isSome_none]
          go_wp2_with fail
          refine (l6Bad_any S.d (S.st : Int) sH ⟨some ⟨gR, 0, none⟩, 8, cR⟩ sP ⟨some ⟨gN, 0, none⟩, 8, cN⟩ sO false u2).mono ?_
          rintro e u9 ⟨rfl, hb9⟩
          have P9 := P2.out.below hb9
          have F9 : Hid (Fm tsM B w u9) := F2.out.below hb9 hBu2
          obtain ⟨z0, z1, z2, z3, z4, z5, z6, z7⟩ := hp8 P9.R
          have f9 := hp_frz P9.R
          clear hb9
          go_wp2
          refine bodyPost_ret (v := .agg #[.int .i64 S.d, .slice sH.a sH.n sH.c, .slice (some ⟨gR, 0, none⟩) 8 cR, .slice sP.a sP.n sP.c, .int .i64 (S.st : Int), .slice (some ⟨gN, 0, none⟩) 8 cN, .slice sO.a sO.n sO.c, .bool true]) (by simp [results, Tryz.results24, go_sem, z0, z1, z2, z3, z4, z5, z6, z7]) rfl ?_
          unfold MR
          rw [HR.out]
          exact ⟨F9.out.put8 (by have := HX.out; omega) (by omega) _ _ _ _ _ _ _ _, S.d, (S.st : Int), sH, ⟨some ⟨gR, 0, none⟩, 8, cR⟩, sP, ⟨some ⟨gN, 0, none⟩, 8, cN⟩, sO, rfl⟩
        | some h =>
          obtain rfl := k3 h r3
          simp only [Option.isSome_some]
          cases r4 : numW true (fd f 4) with
          | none =>
            have HR : Hid (regS S f = none) := HRS.out none ((HV.out _ _ _ r3 r4 rfl).trans (by cases numW true (fd f 5) <;> rfl))
            clear k3 k4 k5 r3 r4
            simp only [Option.isSome_none]
            go_wp2_with fail
            refine (l6Bad_any S.d (S.st : Int) sH ⟨some ⟨gR, 0, none⟩, 8, cR⟩ sP ⟨some ⟨gN, 0, none⟩, 8, cN⟩ sO false u2).mono ?_
            rintro e u9 ⟨rfl, hb9⟩
            have P9 := P2.out.below hb9
            have F9 : Hid (Fm tsM B w u9) := F2.out.below hb9 hBu2
            obtain ⟨z0, z1, z2, z3, z4, z5, z6, z7⟩ := hp8 P9.R
            have f9 := hp_frz P9.R
            clear hb9
            go_wp2
            refine bodyPost_ret (v := .agg #[.int .i64 S.d, .slice sH.a sH.n sH.c, .slice (some ⟨gR, 0, none⟩) 8 cR, .slice sP.a sP.n sP.c, .int .i64 (S.st : Int), .slice (some ⟨gN, 0, none⟩) 8 cN, .slice sO.a sO.n sO.c, .bool true]) (by simp [results, Tryz.results24, go_sem, z0, z1, z2, z3, z4, z5, z6, z7]) rfl ?_
            unfold MR
            rw [HR.out]
            exact ⟨F9.out.put8 (by have := HX.out; omega) (by omega) _ _ _ _ _ _ _ _, S.d, (S.st : Int), sH, ⟨some ⟨gR, 0, none⟩, 8, cR⟩, sP, ⟨some ⟨gN, 0, none⟩, 8, cN⟩, sO, rfl⟩
          | some lo =>
            obtain rfl := k4 lo r4
            simp only [Option.isSome_some]
            cases r5 : numW true (fd f 5) with
            | none =>
              have HR : Hid (regS S f = none) := HRS.out none (HV.out _ _ _ r3 r4 r5)
              clear k3 k4 k5 r3 r4 r5
              simp only [Option.isSome_none]
              go_wp2_with fail
              refine (l6Bad_any S.d (S.st : Int) sH ⟨some ⟨gR, 0, none⟩, 8, cR⟩ sP ⟨some ⟨gN, 0, none⟩, 8, cN⟩ sO false u2).mono ?_
              rintro e u9 ⟨rfl, hb9⟩
              have P9 := P2.out.below hb9
              have F9 : Hid (Fm tsM B w u9) := F2.out.below hb9 hBu2
              obtain ⟨z0, z1, z2, z3, z4, z5, z6, z7⟩ := hp8 P9.R
              have f9 := hp_frz P9.R
              clear hb9
              go_wp2
              refine bodyPost_ret (v := .agg #[.int .i64 S.d, .slice sH.a sH.n sH.c, .slice (some ⟨gR, 0, none⟩) 8 cR, .slice sP.a sP.n sP.c, .int .i64 (S.st : Int), .slice (some ⟨gN, 0, none⟩) 8 cN, .slice sO.a sO.n sO.c, .bool true]) (by simp [results, Tryz.results24, go_sem, z0, z1, z2, z3, z4, z5, z6, z7]) rfl ?_
              unfold MR
              rw [HR.out]
              exact ⟨F9.out.put8 (by have := HX.out; omega) (by omega) _ _ _ _ _ _ _ _, S.d, (S.st : Int), sH, ⟨some ⟨gR, 0, none⟩, 8, cR⟩, sP, ⟨some ⟨gN, 0, none⟩, 8, cN⟩, sO, rfl⟩
            | some hi =>
              obtain rfl := k5 hi r5
              simp only [Option.isSome_some]
              have HR : Hid (regS S f = some { S with st := 2, rg := S.rg.set k ⟨1, false, 0, j3, j4, j5⟩, gv := S.gv.set k true }) := HRS.out (some ⟨1, false, 0, j3, j4, j5⟩) (HV.out _ _ _ r3 r4 r5)
              clear k3 k4 k5 r3 r4 r5
              have v0 := hp_cell V2.out 0
              have v1 := hp_cell V2.out 1
              have v2 := hp_cell V2.out 2
              have v3 := hp_cell V2.out 3
              have v4 := hp_cell V2.out 4
              have v5 := hp_cell V2.out 5
              simp only [List.getElem?_toArray, List.getElem?_cons_zero, List.getElem?_cons_succ] at v0 v1 v2 v3 v4 v5
              have vf := hp_frz V2.out
              go_upto_region 25 with fail
              obtain ⟨u3, hu3, hb3, hv3⟩ : ∃ y, setW u2 vb 0 (vlL ⟨1, false, 0, j3, j4, j5⟩) = y ∧ Below u.heap.size u y ∧ y.heap[vb]? = some (.cells #[.int .i64 1, .bool false, .int .i64 0, .int .i64 j3, .int .i64 j4, .int .i64 j5] 47) := ⟨_, rfl, below_setW (by have := HVB.out; omega) _ _ B2.out, heap_setW V2.out⟩
              change Code.wp _ _ _ _ (setW u2 vb 0 (vlL ⟨1, false, 0, j3, j4, j5⟩))
              rw [hu3]
              have M3 : Hid (MS u3 B S sH ⟨some ⟨gR, 0, none⟩, 8, cR⟩ sP ⟨some ⟨gN, 0, none⟩, 8, cN⟩ sO bv) := M0.out.below hb3
              have P3 : Hid (PX x (x + 1) #[.int .i64 S.d, .slice sH.a sH.n sH.c, .slice (some ⟨gR, 0, none⟩) 8 cR, .slice sP.a sP.n sP.c, .int .i64 (S.st : Int), .slice (some ⟨gN, 0, none⟩) 8 cN, .slice sO.a sO.n sO.c, .bool false] #[.int .i64 0, .slice none 0 0, .slice none 0 0, .slice none 0 0, .int .i64 0, .slice none 0 0, .slice none 0 0, .bool false] u3) := P0.out.below hb3
              have F3 : Hid (Fm tsM B w u3) := F0.out.below hb3 hBu
              have hBu3 : B ≤ u3.heap.size := by have := hb3.size; omega
              have rF : ∀ i, u3.frozen? ⟨gR, i, none⟩ = false := fun i => (hb3.frozen (p := ⟨gR, i, none⟩) rl).trans (RF.out i)
              obtain ⟨o0, ho0⟩ : ∃ v, u3.cell? ⟨gR, k * 6, none⟩ = some v := by
                obtain ⟨v, hv⟩ := NL.out (k * 6) (by omega)
                exact ⟨v, (hb3.cell (p := ⟨gR, k * 6, none⟩) rl).trans hv⟩
              obtain ⟨o1, ho1⟩ : ∃ v, u3.cell? ⟨gR, k * 6 + 1, none⟩ = some v := by
                obtain ⟨v, hv⟩ := NL.out (k * 6 + 1) (by omega)
                exact ⟨v, (hb3.cell (p := ⟨gR, k * 6 + 1, none⟩) rl).trans hv⟩
              obtain ⟨o2, ho2⟩ : ∃ v, u3.cell? ⟨gR, k * 6 + 2, none⟩ = some v := by
                obtain ⟨v, hv⟩ := NL.out (k * 6 + 2) (by omega)
                exact ⟨v, (hb3.cell (p := ⟨gR, k * 6 + 2, none⟩) rl).trans hv⟩
              obtain ⟨o3, ho3⟩ : ∃ v, u3.cell? ⟨gR, k * 6 + 3, none⟩ = some v := by
                obtain ⟨v, hv⟩ := NL.out (k * 6 + 3) (by omega)
                exact ⟨v, (hb3.cell (p := ⟨gR, k * 6 + 3, none⟩) rl).trans hv⟩
              obtain ⟨o4, ho4⟩ : ∃ v, u3.cell? ⟨gR, k * 6 + 4, none⟩ = some v := by
                obtain ⟨v, hv⟩ := NL.out (k * 6 + 4) (by omega)
                exact ⟨v, (hb3.cell (p := ⟨gR, k * 6 + 4, none⟩) rl).trans hv⟩
              obtain ⟨o5, ho5⟩ : ∃ v, u3.cell? ⟨gR, k * 6 + 5, none⟩ = some v := by
                obtain ⟨v, hv⟩ := NL.out (k * 6 + 5) (by omega)
                exact ⟨v, (hb3.cell (p := ⟨gR, k * 6 + 5, none⟩) rl).trans hv⟩
              have y0 := hp_cell hv3 0
              have y1 := hp_cell hv3 1
              have y2 := hp_cell hv3 2
              have y3 := hp_cell hv3 3
              have y4 := hp_cell hv3 4
              have y5 := hp_cell hv3 5
              simp only [List.getElem?_toArray, List.getElem?_cons_zero, List.getElem?_cons_succ] at y0 y1 y2 y3 y4 y5
              have c2 := hp_cell P3.out.P 2
              simp only [List.getElem?_toArray, List.getElem?_cons_zero, List.getElem?_cons_succ] at c2
              clear hu3 hb3 hv3
              go_upto_region 26 with fail
              obtain ⟨u4, hu4, m4, f4⟩ : ∃ y, setW u3 gR (k * 6) (vlL ⟨1, false, 0, j3, j4, j5⟩) = y ∧ MS y B { S with rg := S.rg.set k ⟨1, false, 0, j3, j4, j5⟩ } sH ⟨some ⟨gR, 0, none⟩, 8, cR⟩ sP ⟨some ⟨gN, 0, none⟩, 8, cN⟩ sO bv ∧ Fm tsM B u3 y := ⟨_, rfl, (M3.out.setR hk8).1, (M3.out.setR hk8).2 hBu3⟩
              change Code.wp _ _ _ _ (setW u3 gR (k * 6) (vlL ⟨1, false, 0, j3, j4, j5⟩))
              rw [hu4]
              have M4 : Hid (MS u4 B { S with rg := S.rg.set k ⟨1, false, 0, j3, j4, j5⟩ } sH ⟨some ⟨gR, 0, none⟩, 8, cR⟩ sP ⟨some ⟨gN, 0, none⟩, 8, cN⟩ sO bv) := m4
              have P4 : Hid (PX x (x + 1) #[.int .i64 S.d, .slice sH.a sH.n sH.c, .slice (some ⟨gR, 0, none⟩) 8 cR, .slice sP.a sP.n sP.c, .int .i64 (S.st : Int), .slice (some ⟨gN, 0, none⟩) 8 cN, .slice sO.a sO.n sO.c, .bool false] #[.int .i64 0, .slice none 0 0, .slice none 0 0, .slice none 0 0, .int .i64 0, .slice none 0 0, .slice none 0 0, .bool false] u4) := P3.out.fm f4
              have F4 : Hid (Fm tsM B w u4) := F3.out.trans f4
              have hBu4 : B ≤ u4.heap.size := by have := f4.b.size; omega
              obtain ⟨nF, nC⟩ := m4.namedZ
              have nc4 := nC k hk8
              have nf4 := nF k
              have c5 := hp_cell P4.out.P 5
              simp only [List.getElem?_toArray, List.getElem?_cons_zero, List.getElem?_cons_succ] at c5
              clear hu4 m4 f4 nF nC rF ho0 ho1 ho2 ho3 ho4 ho5 y0 y1 y2 y3 y4 y5 c2 M3 P3 F3
              go_upto_region 27 with fail
              have M5 : Hid (MS (u4.setCell ⟨gN, k, none⟩ (.bool true)) B { S with rg := S.rg.set k ⟨1, false, 0, j3, j4, j5⟩, gv := S.gv.set k true } sH ⟨some ⟨gR, 0, none⟩, 8, cR⟩ sP ⟨some ⟨gN, 0, none⟩, 8, cN⟩ sO bv) := (MS.setN (n := k) (v := true) M4.out).1
              have g5 := (MS.setN (n := k) (v := true) M4.out).2 hBu4
              have P5 : Hid (PX x (x + 1) #[.int .i64 S.d, .slice sH.a sH.n sH.c, .slice (some ⟨gR, 0, none⟩) 8 cR, .slice sP.a sP.n sP.c, .int .i64 (S.st : Int), .slice (some ⟨gN, 0, none⟩) 8 cN, .slice sO.a sO.n sO.c, .bool false] #[.int .i64 0, .slice none 0 0, .slice none 0 0, .slice none 0 0, .int .i64 0, .slice none 0 0, .slice none 0 0, .bool false] (u4.setCell ⟨gN, k, none⟩ (.bool true))) := P4.out.fm g5
              have F5 : Hid (Fm tsM B w (u4.setCell ⟨gN, k, none⟩ (.bool true))) := F4.out.trans g5
              clear g5 nc4 nf4 c5 M4 P4 F4
              generalize u4.setCell ⟨gN, k, none⟩ (.bool true) = u5 at M5 P5 F5 ⊢
              have c4 := hp_cell P5.out.P 4
              simp only [List.getElem?_toArray, List.getElem?_cons_zero, List.getElem?_cons_succ] at c4
              have qf := hp_frz P5.out.P
              go_upto_region 28 with fail
              have M6 : Hid (MS (u5.setCell ⟨x, 4, none⟩ (.int .i64 2)) B { S with st := 2, rg := S.rg.set k ⟨1, false, 0, j3, j4, j5⟩, gv := S.gv.set k true } sH ⟨some ⟨gR, 0, none⟩, 8, cR⟩ sP ⟨some ⟨gN, 0, none⟩, 8, cN⟩ sO bv) := (M5.out.setP P5.out 4 _).stg (show S.st ≤ 2 by omega)
              have P6 : Hid (PX x (x + 1) #[.int .i64 S.d, .slice sH.a sH.n sH.c, .slice (some ⟨gR, 0, none⟩) 8 cR, .slice sP.a sP.n sP.c, .int .i64 2, .slice (some ⟨gN, 0, none⟩) 8 cN, .slice sO.a sO.n sO.c, .bool false] #[.int .i64 0, .slice none 0 0, .slice none 0 0, .slice none 0 0, .int .i64 0, .slice none 0 0, .slice none 0 0, .bool false] (u5.setCell ⟨x, 4, none⟩ (.int .i64 2))) := P5.out.setP 4 _
              have F6 : Hid (Fm tsM B w (u5.setCell ⟨x, 4, none⟩ (.int .i64 2))) := F5.out.setNew (a := ⟨x, 4, none⟩) (by have := HX.out; show _ ≤ x; omega) hBx _
              clear c4 qf M5 P5 F5
              generalize u5.setCell ⟨x, 4, none⟩ (.int .i64 2) = u6 at M6 P6 F6 ⊢
              obtain ⟨y0, y1, y2, y3, y4, y5, y6, y7⟩ := hp8 P6.out.P
              obtain ⟨z0, z1, z2, z3, z4, z5, z6, z7⟩ := hp8 P6.out.R
              have f9 := hp_frz P6.out.R
              go_wp2
              refine bodyPost_ret (v := .agg #[.int .i64 S.d, .slice sH.a sH.n sH.c, .slice (some ⟨gR, 0, none⟩) 8 cR, .slice sP.a sP.n sP.c, .int .i64 2, .slice (some ⟨gN, 0, none⟩) 8 cN, .slice sO.a sO.n sO.c, .bool false]) (by simp [results, Tryz.results24, go_sem, z0, z1, z2, z3, z4, z5, z6, z7]) rfl ?_
              unfold MR
              rw [HR.out]
              exact ⟨F6.out.put8 (by have := HX.out; omega) (by omega) _ _ _ _ _ _ _ _, sH, ⟨some ⟨gR, 0, none⟩, 8, cR⟩, sP, ⟨some ⟨gN, 0, none⟩, 8, cN⟩, sO, bv, rfl, M6.out.put8 P6.out _ _ _ _ _ _ _ _⟩
      · obtain ⟨q1, q2⟩ := beqF HS2.out w2
        have W2 : Hid (fd f 2 ≠ [112, 116, 114]) := w2
        clear w2
        have v0 := hp_cell V2.out 0
        have v1 := hp_cell V2.out 1
        have v2 := hp_cell V2.out 2
        have v3 := hp_cell V2.out 3
        have v4 := hp_cell V2.out 4
        have v5 := hp_cell V2.out 5
        simp only [List.getElem?_toArray, List.getElem?_cons_zero, List.getElem?_cons_succ] at v0 v1 v2 v3 v4 v5
        have vf := hp_frz V2.out
        go_upto_region 17 with fail
        obtain ⟨ua, hua, hba, hva⟩ : ∃ y, u2.setCell ⟨vb, 2, none⟩ (.int .i64 (-1)) = y ∧ Below u.heap.size u y ∧ y.heap[vb]? = some (.cells #[.int .i64 0, .bool false, .int .i64 (-1), .int .i64 0, .int .i64 0, .int .i64 0] 47) := ⟨_, rfl, B2.out.setCell (by have := HVB.out; show _ ≤ vb; omega) _, heap_setZ V2.out 2 _⟩
        rw [hua]
        have BA : Hid (Below u.heap.size u ua) := hba
        have VA : Hid (ua.heap[vb]? = some (.cells #[.int .i64 0, .bool false, .int .i64 (-1), .int .i64 0, .int .i64 0, .int .i64 0] 47)) := hva
        have PA : Hid (PX x (x + 1) #[.int .i64 S.d, .slice sH.a sH.n sH.c, .slice (some ⟨gR, 0, none⟩) 8 cR, .slice sP.a sP.n sP.c, .int .i64 (S.st : Int), .slice (some ⟨gN, 0, none⟩) 8 cN, .slice sO.a sO.n sO.c, .bool false] #[.int .i64 0, .slice none 0 0, .slice none 0 0, .slice none 0 0, .int .i64 0, .slice none 0 0, .slice none 0 0, .bool false] ua) := P0.out.below hba
        have FA' : Hid (Fm tsM B w ua) := F0.out.below hba hBu
        have AA : Hid (FA ua fb f) := A0.out.below hba
        have hBa : B ≤ ua.heap.size := by have := hba.size; omega
        clear hua hba hva v0 v1 v2 v3 v4 v5 vf c0 c1 c2 c3 c4 c5 c6 c7 g2 g3 B2 P2 A2 F2 V2
        have g2 : ua.cell? ⟨fb, 2, none⟩ = some (.string s2) := (AA.out.cell 2 (by omega)).trans (by rw [HS2.out])
        by_cases wa : fd f 2 = [97, 110, 121]
        · obtain ⟨q3, q4⟩ := beqT HS2.out wa
          have KV : Hid ((if fd f 2 = [97, 110, 121] then some (-1) else numW false (fd f 2)) = some (-1)) := (by rw [if_pos wa] : (if fd f 2 = [97, 110, 121] then some (-1) else numW false (fd f 2)) = some (-1))
          clear wa
          obtain ⟨c0, c1, c2, c3, c4, c5, c6, c7⟩ := hp8 PA.out.P
          have g3 : ua.cell? ⟨fb, 3, none⟩ = some (.string s3) := (AA.out.cell 3 (by omega)).trans (by rw [HS3.out])
          have v0 := hp_cell VA.out 0
          have v1 := hp_cell VA.out 1
          have v2 := hp_cell VA.out 2
          have v3 := hp_cell VA.out 3
          have v4 := hp_cell VA.out 4
          have v5 := hp_cell VA.out 5
          simp only [List.getElem?_toArray, List.getElem?_cons_zero, List.getElem?_cons_succ] at v0 v1 v2 v3 v4 v5
          have vf := hp_frz VA.out
          by_cases h4 : f.length = 4
          rotate_left
          · have e7 : ((f.length : Int) != 4) = true := by rw [bne_iff_ne]; omega
            have HR : Hid (regS S f = none) := HRS.out none (val_long f W2.out h4)
            clear h4
            go_wp2_with fail
            refine (l6Bad_any S.d (S.st : Int) sH ⟨some ⟨gR, 0, none⟩, 8, cR⟩ sP ⟨some ⟨gN, 0, none⟩, 8, cN⟩ sO false ua).mono ?_
            rintro e u9 ⟨rfl, hb9⟩
            have P9 := PA.out.below hb9
            have F9 : Hid (Fm tsM B w u9) := FA'.out.below hb9 hBa
            obtain ⟨z0, z1, z2, z3, z4, z5, z6, z7⟩ := hp8 P9.R
            have f9 := hp_frz P9.R
            clear hb9
            go_wp2
            refine bodyPost_ret (v := .agg #[.int .i64 S.d, .slice sH.a sH.n sH.c, .slice (some ⟨gR, 0, none⟩) 8 cR, .slice sP.a sP.n sP.c, .int .i64 (S.st : Int), .slice (some ⟨gN, 0, none⟩) 8 cN, .slice sO.a sO.n sO.c, .bool true]) (by simp [results, Tryz.results24, go_sem, z0, z1, z2, z3, z4, z5, z6, z7]) rfl ?_
            unfold MR
            rw [HR.out]
            exact ⟨F9.out.put8 (by have := HX.out; omega) (by omega) _ _ _ _ _ _ _ _, S.d, (S.st : Int), sH, ⟨some ⟨gR, 0, none⟩, 8, cR⟩, sP, ⟨some ⟨gN, 0, none⟩, 8, cN⟩, sO, rfl⟩
          have e7 : ((f.length : Int) != 4) = false := by rw [bne_eq_false_iff_eq]; omega
          have H4 : Hid (f.length = 4) := h4
          clear h4
          rcases secW_cases (fd f 3) with ⟨w3, k3⟩ | ⟨w3, k3⟩ | ⟨w3, w3', k3⟩
          · obtain ⟨q5, q6⟩ := beqT HS3.out w3
            obtain ⟨q7, q8⟩ := beqF (a := [115, 101, 99, 114, 101, 116]) HS3.out (by rw [w3]; decide)
            have HR : Hid (regS S f = some { S with st := 2, rg := S.rg.set k ⟨0, false, -1, 0, 0, 0⟩, gv := S.gv.set k true }) := HRS.out (some ⟨0, false, -1, 0, 0, 0⟩) (val_num f H4.out KV.out k3)
            clear w3 k3
            go_upto_region 25 with fail
            obtain ⟨u3, hu3, hb3, hv3⟩ : ∃ y, ua.setCell ⟨vb, 1, none⟩ (.bool false) = y ∧ Below u.heap.size u y ∧ y.heap[vb]? = some (.cells #[.int .i64 0, .bool false, .int .i64 (-1), .int .i64 0, .int .i64 0, .int .i64 0] 47) := ⟨_, rfl, BA.out.setCell (by have := HVB.out; show _ ≤ vb; omega) _, heap_setZ VA.out 1 _⟩
            change Code.wp _ _ _ _ (ua.setCell ⟨vb, 1, none⟩ (.bool false))
            rw [hu3]
            have M3 : Hid (MS u3 B S sH ⟨some ⟨gR, 0, none⟩, 8, cR⟩ sP ⟨some ⟨gN, 0, none⟩, 8, cN⟩ sO bv) := M0.out.below hb3
            have P3 : Hid (PX x (x + 1) #[.int .i64 S.d, .slice sH.a sH.n sH.c, .slice (some ⟨gR, 0, none⟩) 8 cR, .slice sP.a sP.n sP.c, .int .i64 (S.st : Int), .slice (some ⟨gN, 0, none⟩) 8 cN, .slice sO.a sO.n sO.c, .bool false] #[.int .i64 0, .slice none 0 0, .slice none 0 0, .slice none 0 0, .int .i64 0, .slice none 0 0, .slice none 0 0, .bool false] u3) := P0.out.below hb3
            have F3 : Hid (Fm tsM B w u3) := F0.out.below hb3 hBu
            have hBu3 : B ≤ u3.heap.size := by have := hb3.size; omega
            have rF : ∀ i, u3.frozen? ⟨gR, i, none⟩ = false := fun i => (hb3.frozen (p := ⟨gR, i, none⟩) rl).trans (RF.out i)
            obtain ⟨o0, ho0⟩ : ∃ v, u3.cell? ⟨gR, k * 6, none⟩ = some v := by
              obtain ⟨v, hv⟩ := NL.out (k * 6) (by omega)
              exact ⟨v, (hb3.cell (p := ⟨gR, k * 6, none⟩) rl).trans hv⟩
            obtain ⟨o1, ho1⟩ : ∃ v, u3.cell? ⟨gR, k * 6 + 1, none⟩ = some v := by
              obtain ⟨v, hv⟩ := NL.out (k * 6 + 1) (by omega)
              exact ⟨v, (hb3.cell (p := ⟨gR, k * 6 + 1, none⟩) rl).trans hv⟩
            obtain ⟨o2, ho2⟩ : ∃ v, u3.cell? ⟨gR, k * 6 + 2, none⟩ = some v := by
              obtain ⟨v, hv⟩ := NL.out (k * 6 + 2) (by omega)
              exact ⟨v, (hb3.cell (p := ⟨gR, k * 6 + 2, none⟩) rl).trans hv⟩
            obtain ⟨o3, ho3⟩ : ∃ v, u3.cell? ⟨gR, k * 6 + 3, none⟩ = some v := by
              obtain ⟨v, hv⟩ := NL.out (k * 6 + 3) (by omega)
              exact ⟨v, (hb3.cell (p := ⟨gR, k * 6 + 3, none⟩) rl).trans hv⟩
            obtain ⟨o4, ho4⟩ : ∃ v, u3.cell? ⟨gR, k * 6 + 4, none⟩ = some v := by
              obtain ⟨v, hv⟩ := NL.out (k * 6 + 4) (by omega)
              exact ⟨v, (hb3.cell (p := ⟨gR, k * 6 + 4, none⟩) rl).trans hv⟩
            obtain ⟨o5, ho5⟩ : ∃ v, u3.cell? ⟨gR, k * 6 + 5, none⟩ = some v := by
              obtain ⟨v, hv⟩ := NL.out (k * 6 + 5) (by omega)
              exact ⟨v, (hb3.cell (p := ⟨gR, k * 6 + 5, none⟩) rl).trans hv⟩
            have y0 := hp_cell hv3 0
            have y1 := hp_cell hv3 1
            have y2 := hp_cell hv3 2
            have y3 := hp_cell hv3 3
            have y4 := hp_cell hv3 4
            have y5 := hp_cell hv3 5
            simp only [List.getElem?_toArray, List.getElem?_cons_zero, List.getElem?_cons_succ] at y0 y1 y2 y3 y4 y5
            have c2 := hp_cell P3.out.P 2
            simp only [List.getElem?_toArray, List.getElem?_cons_zero, List.getElem?_cons_succ] at c2
            clear hu3 hb3 hv3
            go_upto_region 26 with fail
            obtain ⟨u4, hu4, m4, f4⟩ : ∃ y, setW u3 gR (k * 6) (vlL ⟨0, false, -1, 0, 0, 0⟩) = y ∧ MS y B { S with rg := S.rg.set k ⟨0, false, -1, 0, 0, 0⟩ } sH ⟨some ⟨gR, 0, none⟩, 8, cR⟩ sP ⟨some ⟨gN, 0, none⟩, 8, cN⟩ sO bv ∧ Fm tsM B u3 y := ⟨_, rfl, (M3.out.setR hk8).1, (M3.out.setR hk8).2 hBu3⟩
            change Code.wp _ _ _ _ (setW u3 gR (k * 6) (vlL ⟨0, false, -1, 0, 0, 0⟩))
            rw [hu4]
            have M4 : Hid (MS u4 B { S with rg := S.rg.set k ⟨0, false, -1, 0, 0, 0⟩ } sH ⟨some ⟨gR, 0, none⟩, 8, cR⟩ sP ⟨some ⟨gN, 0, none⟩, 8, cN⟩ sO bv) := m4
            have P4 : Hid (PX x (x + 1) #[.int .i64 S.d, .slice sH.a sH.n sH.c, .slice (some ⟨gR, 0, none⟩) 8 cR, .slice sP.a sP.n sP.c, .int .i64 (S.st : Int), .slice (some ⟨gN, 0, none⟩) 8 cN, .slice sO.a sO.n sO.c, .bool false] #[.int .i64 0, .slice none 0 0, .slice none 0 0, .slice none 0 0, .int .i64 0, .slice none 0 0, .slice none 0 0, .bool false] u4) := P3.out.fm f4
            have F4 : Hid (Fm tsM B w u4) := F3.out.trans f4
            have hBu4 : B ≤ u4.heap.size := by have := f4.b.size; omega
            obtain ⟨nF, nC⟩ := m4.namedZ
            have nc4 := nC k hk8
            have nf4 := nF k
            have c5 := hp_cell P4.out.P 5
            simp only [List.getElem?_toArray, List.getElem?_cons_zero, List.getElem?_cons_succ] at c5
            clear hu4 m4 f4 nF nC rF ho0 ho1 ho2 ho3 ho4 ho5 y0 y1 y2 y3 y4 y5 c2 M3 P3 F3
            go_upto_region 27 with fail
            have M5 : Hid (MS (u4.setCell ⟨gN, k, none⟩ (.bool true)) B { S with rg := S.rg.set k ⟨0, false, -1, 0, 0, 0⟩, gv := S.gv.set k true } sH ⟨some ⟨gR, 0, none⟩, 8, cR⟩ sP ⟨some ⟨gN, 0, none⟩, 8, cN⟩ sO bv) := (MS.setN (n := k) (v := true) M4.out).1
            have g5 := (MS.setN (n := k) (v := true) M4.out).2 hBu4
            have P5 : Hid (PX x (x + 1) #[.int .i64 S.d, .slice sH.a sH.n sH.c, .slice (some ⟨gR, 0, none⟩) 8 cR, .slice sP.a sP.n sP.c, .int .i64 (S.st : Int), .slice (some ⟨gN, 0, none⟩) 8 cN, .slice sO.a sO.n sO.c, .bool false] #[.int .i64 0, .slice none 0 0, .slice none 0 0, .slice none 0 0, .int .i64 0, .slice none 0 0, .slice none 0 0, .bool false] (u4.setCell ⟨gN, k, none⟩ (.bool true))) := P4.out.fm g5
            have F5 : Hid (Fm tsM B w (u4.setCell ⟨gN, k, none⟩ (.bool true))) := F4.out.trans g5
            clear g5 nc4 nf4 c5 M4 P4 F4
            generalize u4.setCell ⟨gN, k, none⟩ (.bool true) = u5 at M5 P5 F5 ⊢
            have c4 := hp_cell P5.out.P 4
            simp only [List.getElem?_toArray, List.getElem?_cons_zero, List.getElem?_cons_succ] at c4
            have qf := hp_frz P5.out.P
            go_upto_region 28 with fail
            have M6 : Hid (MS (u5.setCell ⟨x, 4, none⟩ (.int .i64 2)) B { S with st := 2, rg := S.rg.set k ⟨0, false, -1, 0, 0, 0⟩, gv := S.gv.set k true } sH ⟨some ⟨gR, 0, none⟩, 8, cR⟩ sP ⟨some ⟨gN, 0, none⟩, 8, cN⟩ sO bv) := (M5.out.setP P5.out 4 _).stg (show S.st ≤ 2 by omega)
            have P6 : Hid (PX x (x + 1) #[.int .i64 S.d, .slice sH.a sH.n sH.c, .slice (some ⟨gR, 0, none⟩) 8 cR, .slice sP.a sP.n sP.c, .int .i64 2, .slice (some ⟨gN, 0, none⟩) 8 cN, .slice sO.a sO.n sO.c, .bool false] #[.int .i64 0, .slice none 0 0, .slice none 0 0, .slice none 0 0, .int .i64 0, .slice none 0 0, .slice none 0 0, .bool false] (u5.setCell ⟨x, 4, none⟩ (.int .i64 2))) := P5.out.setP 4 _
            have F6 : Hid (Fm tsM B w (u5.setCell ⟨x, 4, none⟩ (.int .i64 2))) := F5.out.setNew (a := ⟨x, 4, none⟩) (by have := HX.out; show _ ≤ x; omega) hBx _
            clear c4 qf M5 P5 F5
            generalize u5.setCell ⟨x, 4, none⟩ (.int .i64 2) = u6 at M6 P6 F6 ⊢
            obtain ⟨y0, y1, y2, y3, y4, y5, y6, y7⟩ := hp8 P6.out.P
            obtain ⟨z0, z1, z2, z3, z4, z5, z6, z7⟩ := hp8 P6.out.R
            have f9 := hp_frz P6.out.R
            go_wp2
            refine bodyPost_ret (v := .agg #[.int .i64 S.d, .slice sH.a sH.n sH.c, .slice (some ⟨gR, 0, none⟩) 8 cR, .slice sP.a sP.n sP.c, .int .i64 2, .slice (some ⟨gN, 0, none⟩) 8 cN, .slice sO.a sO.n sO.c, .bool false]) (by simp [results, Tryz.results24, go_sem, z0, z1, z2, z3, z4, z5, z6, z7]) rfl ?_
            unfold MR
            rw [HR.out]
            exact ⟨F6.out.put8 (by have := HX.out; omega) (by omega) _ _ _ _ _ _ _ _, sH, ⟨some ⟨gR, 0, none⟩, 8, cR⟩, sP, ⟨some ⟨gN, 0, none⟩, 8, cN⟩, sO, bv, rfl, M6.out.put8 P6.out _ _ _ _ _ _ _ _⟩
          · obtain ⟨q5, q6⟩ := beqT HS3.out w3
            obtain ⟨q7, q8⟩ := beqF (a := [112, 117, 98, 108, 105, 99]) HS3.out (by rw [w3]; decide)
            have HR : Hid (regS S f = some { S with st := 2, rg := S.rg.set k ⟨0, true, -1, 0, 0, 0⟩, gv := S.gv.set k true }) := HRS.out (some ⟨0, true, -1, 0, 0, 0⟩) (val_num f H4.out KV.out k3)
            clear w3 k3
            go_upto_region 25 with fail
            obtain ⟨u3, hu3, hb3, hv3⟩ : ∃ y, ua.setCell ⟨vb, 1, none⟩ (.bool true) = y ∧ Below u.heap.size u y ∧ y.heap[vb]? = some (.cells #[.int .i64 0, .bool true, .int .i64 (-1), .int .i64 0, .int .i64 0, .int .i64 0] 47) := ⟨_, rfl, BA.out.setCell (by have := HVB.out; show _ ≤ vb; omega) _, heap_setZ VA.out 1 _⟩
            change Code.wp _ _ _ _ (ua.setCell ⟨vb, 1, none⟩ (.bool true))
            rw [hu3]
            have M3 : Hid (MS u3 B S sH ⟨some ⟨gR, 0, none⟩, 8, cR⟩ sP ⟨some ⟨gN, 0, none⟩, 8, cN⟩ sO bv) := M0.out.below hb3
            have P3 : Hid (PX x (x + 1) #[.int .i64 S.d, .slice sH.a sH.n sH.c, .slice (some ⟨gR, 0, none⟩) 8 cR, .slice sP.a sP.n sP.c, .int .i64 (S.st : Int), .slice (some ⟨gN, 0, none⟩) 8 cN, .slice sO.a sO.n sO.c, .bool false] #[.int .i64 0, .slice none 0 0, .slice none 0 0, .slice none 0 0, .int .i64 0, .slice none 0 0, .slice none 0 0, .bool false] u3) := P0.out.below hb3
            have F3 : Hid (Fm tsM B w u3) := F0.out.below hb3 hBu
            have hBu3 : B ≤ u3.heap.size := by have := hb3.size; omega
            have rF : ∀ i, u3.frozen? ⟨gR, i, none⟩ = false := fun i => (hb3.frozen (p := ⟨gR, i, none⟩) rl).trans (RF.out i)
            obtain ⟨o0, ho0⟩ : ∃ v, u3.cell? ⟨gR, k * 6, none⟩ = some v := by
              obtain ⟨v, hv⟩ := NL.out (k * 6) (by omega)
              exact ⟨v, (hb3.cell (p := ⟨gR, k * 6, none⟩) rl).trans hv⟩
            obtain ⟨o1, ho1⟩ : ∃ v, u3.cell? ⟨gR, k * 6 + 1, none⟩ = some v := by
              obtain ⟨v, hv⟩ := NL.out (k * 6 + 1) (by omega)
              exact ⟨v, (hb3.cell (p := ⟨gR, k * 6 + 1, none⟩) rl).trans hv⟩
            obtain ⟨o2, ho2⟩ : ∃ v, u3.cell? ⟨gR, k * 6 + 2, none⟩ = some v := by
              obtain ⟨v, hv⟩ := NL.out (k * 6 + 2) (by omega)
              exact ⟨v, (hb3.cell (p := ⟨gR, k * 6 + 2, none⟩) rl).trans hv⟩
            obtain ⟨o3, ho3⟩ : ∃ v, u3.cell? ⟨gR, k * 6 + 3, none⟩ = some v := by
              obtain ⟨v, hv⟩ := NL.out (k * 6 + 3) (by omega)
              exact ⟨v, (hb3.cell (p := ⟨gR, k * 6 + 3, none⟩) rl).trans hv⟩
            obtain ⟨o4, ho4⟩ : ∃ v, u3.cell? ⟨gR, k * 6 + 4, none⟩ = some v := by
              obtain ⟨v, hv⟩ := NL.out (k * 6 + 4) (by omega)
              exact ⟨v, (hb3.cell (p := ⟨gR, k * 6 + 4, none⟩) rl).trans hv⟩
            obtain ⟨o5, ho5⟩ : ∃ v, u3.cell? ⟨gR, k * 6 + 5, none⟩ = some v := by
              obtain ⟨v, hv⟩ := NL.out (k * 6 + 5) (by omega)
              exact ⟨v, (hb3.cell (p := ⟨gR, k * 6 + 5, none⟩) rl).trans hv⟩
            have y0 := hp_cell hv3 0
            have y1 := hp_cell hv3 1
            have y2 := hp_cell hv3 2
            have y3 := hp_cell hv3 3
            have y4 := hp_cell hv3 4
            have y5 := hp_cell hv3 5
            simp only [List.getElem?_toArray, List.getElem?_cons_zero, List.getElem?_cons_succ] at y0 y1 y2 y3 y4 y5
            have c2 := hp_cell P3.out.P 2
            simp only [List.getElem?_toArray, List.getElem?_cons_zero, List.getElem?_cons_succ] at c2
            clear hu3 hb3 hv3
            go_upto_region 26 with fail
            obtain ⟨u4, hu4, m4, f4⟩ : ∃ y, setW u3 gR (k * 6) (vlL ⟨0, true, -1, 0, 0, 0⟩) = y ∧ MS y B { S with rg := S.rg.set k ⟨0, true, -1, 0, 0, 0⟩ } sH ⟨some ⟨gR, 0, none⟩, 8, cR⟩ sP ⟨some ⟨gN, 0, none⟩, 8, cN⟩ sO bv ∧ Fm tsM B u3 y := ⟨_, rfl, (M3.out.setR hk8).1, (M3.out.setR hk8).2 hBu3⟩
            change Code.wp _ _ _ _ (setW u3 gR (k * 6) (vlL ⟨0, true, -1, 0, 0, 0⟩))
            rw [hu4]
            have M4 : Hid (MS u4 B { S with rg := S.rg.set k ⟨0, true, -1, 0, 0, 0⟩ } sH ⟨some ⟨gR, 0, none⟩, 8, cR⟩ sP ⟨some ⟨gN, 0, none⟩, 8, cN⟩ sO bv) := m4
            have P4 : Hid (PX x (x + 1) #[.int .i64 S.d, .slice sH.a sH.n sH.c, .slice (some ⟨gR, 0, none⟩) 8 cR, .slice sP.a sP.n sP.c, .int .i64 (S.st : Int), .slice (some ⟨gN, 0, none⟩) 8 cN, .slice sO.a sO.n sO.c, .bool false] #[.int .i64 0, .slice none 0 0, .slice none 0 0, .slice none 0 0, .int .i64 0, .slice none 0 0, .slice none 0 0, .bool false] u4) := P3.out.fm f4
            have F4 : Hid (Fm tsM B w u4) := F3.out.trans f4
            have hBu4 : B ≤ u4.heap.size := by have := f4.b.size; omega
            obtain ⟨nF, nC⟩ := m4.namedZ
            have nc4 := nC k hk8
            have nf4 := nF k
            have c5 := hp_cell P4.out.P 5
            simp only [List.getElem?_toArray, List.getElem?_cons_zero, List.getElem?_cons_succ] at c5
            clear hu4 m4 f4 nF nC rF ho0 ho1 ho2 ho3 ho4 ho5 y0 y1 y2 y3 y4 y5 c2 M3 P3 F3
            go_upto_region 27 with fail
            have M5 : Hid (MS (u4.setCell ⟨gN, k, none⟩ (.bool true)) B { S with rg := S.rg.set k ⟨0, true, -1, 0, 0, 0⟩, gv := S.gv.set k true } sH ⟨some ⟨gR, 0, none⟩, 8, cR⟩ sP ⟨some ⟨gN, 0, none⟩, 8, cN⟩ sO bv) := (MS.setN (n := k) (v := true) M4.out).1
            have g5 := (MS.setN (n := k) (v := true) M4.out).2 hBu4
            have P5 : Hid (PX x (x + 1) #[.int .i64 S.d, .slice sH.a sH.n sH.c, .slice (some ⟨gR, 0, none⟩) 8 cR, .slice sP.a sP.n sP.c, .int .i64 (S.st : Int), .slice (some ⟨gN, 0, none⟩) 8 cN, .slice sO.a sO.n sO.c, .bool false] #[.int .i64 0, .slice none 0 0, .slice none 0 0, .slice none 0 0, .int .i64 0, .slice none 0 0, .slice none 0 0, .bool false] (u4.setCell ⟨gN, k, none⟩ (.bool true))) := P4.out.fm g5
            have F5 : Hid (Fm tsM B w (u4.setCell ⟨gN, k, none⟩ (.bool true))) := F4.out.trans g5
            clear g5 nc4 nf4 c5 M4 P4 F4
            generalize u4.setCell ⟨gN, k, none⟩ (.bool true) = u5 at M5 P5 F5 ⊢
            have c4 := hp_cell P5.out.P 4
            simp only [List.getElem?_toArray, List.getElem?_cons_zero, List.getElem?_cons_succ] at c4
            have qf := hp_frz P5.out.P
            go_upto_region 28 with fail
            have M6 : Hid (MS (u5.setCell ⟨x, 4, none⟩ (.int .i64 2)) B { S with st := 2, rg := S.rg.set k ⟨0, true, -1, 0, 0, 0⟩, gv := S.gv.set k true } sH ⟨some ⟨gR, 0, none⟩, 8, cR⟩ sP ⟨some ⟨gN, 0, none⟩, 8, cN⟩ sO bv) := (M5.out.setP P5.out 4 _).stg (show S.st ≤ 2 by omega)
            have P6 : Hid (PX x (x + 1) #[.int .i64 S.d, .slice sH.a sH.n sH.c, .slice (some ⟨gR, 0, none⟩) 8 cR, .slice sP.a sP.n sP.c, .int .i64 2, .slice (some ⟨gN, 0, none⟩) 8 cN, .slice sO.a sO.n sO.c, .bool false] #[.int .i64 0, .slice none 0 0, .slice none 0 0, .slice none 0 0, .int .i64 0, .slice none 0 0, .slice none 0 0, .bool false] (u5.setCell ⟨x, 4, none⟩ (.int .i64 2))) := P5.out.setP 4 _
            have F6 : Hid (Fm tsM B w (u5.setCell ⟨x, 4, none⟩ (.int .i64 2))) := F5.out.setNew (a := ⟨x, 4, none⟩) (by have := HX.out; show _ ≤ x; omega) hBx _
            clear c4 qf M5 P5 F5
            generalize u5.setCell ⟨x, 4, none⟩ (.int .i64 2) = u6 at M6 P6 F6 ⊢
            obtain ⟨y0, y1, y2, y3, y4, y5, y6, y7⟩ := hp8 P6.out.P
            obtain ⟨z0, z1, z2, z3, z4, z5, z6, z7⟩ := hp8 P6.out.R
            have f9 := hp_frz P6.out.R
            go_wp2
            refine bodyPost_ret (v := .agg #[.int .i64 S.d, .slice sH.a sH.n sH.c, .slice (some ⟨gR, 0, none⟩) 8 cR, .slice sP.a sP.n sP.c, .int .i64 2, .slice (some ⟨gN, 0, none⟩) 8 cN, .slice sO.a sO.n sO.c, .bool false]) (by simp [results, Tryz.results24, go_sem, z0, z1, z2, z3, z4, z5, z6, z7]) rfl ?_
            unfold MR
            rw [HR.out]
            exact ⟨F6.out.put8 (by have := HX.out; omega) (by omega) _ _ _ _ _ _ _ _, sH, ⟨some ⟨gR, 0, none⟩, 8, cR⟩, sP, ⟨some ⟨gN, 0, none⟩, 8, cN⟩, sO, bv, rfl, M6.out.put8 P6.out _ _ _ _ _ _ _ _⟩
          · obtain ⟨q5, q6⟩ := beqF HS3.out w3
            obtain ⟨q7, q8⟩ := beqF HS3.out w3'
            have HR : Hid (regS S f = none) := HRS.out none (val_sec f W2.out k3)
            clear w3 w3' k3
            go_wp2_with fail
            refine (l6Bad_any S.d (S.st : Int) sH ⟨some ⟨gR, 0, none⟩, 8, cR⟩ sP ⟨some ⟨gN, 0, none⟩, 8, cN⟩ sO false ua).mono ?_
            rintro e u9 ⟨rfl, hb9⟩
            have P9 := PA.out.below hb9
            have F9 : Hid (Fm tsM B w u9) := FA'.out.below hb9 hBa
            obtain ⟨z0, z1, z2, z3, z4, z5, z6, z7⟩ := hp8 P9.R
            have f9 := hp_frz P9.R
            clear hb9
            go_wp2
            refine bodyPost_ret (v := .agg #[.int .i64 S.d, .slice sH.a sH.n sH.c, .slice (some ⟨gR, 0, none⟩) 8 cR, .slice sP.a sP.n sP.c, .int .i64 (S.st : Int), .slice (some ⟨gN, 0, none⟩) 8 cN, .slice sO.a sO.n sO.c, .bool true]) (by simp [results, Tryz.results24, go_sem, z0, z1, z2, z3, z4, z5, z6, z7]) rfl ?_
            unfold MR
            rw [HR.out]
            exact ⟨F9.out.put8 (by have := HX.out; omega) (by omega) _ _ _ _ _ _ _ _, S.d, (S.st : Int), sH, ⟨some ⟨gR, 0, none⟩, 8, cR⟩, sP, ⟨some ⟨gN, 0, none⟩, 8, cN⟩, sO, rfl⟩
        · obtain ⟨q3, q4⟩ := beqF HS2.out wa
          have hz2 : (s2.size : Int) ≤ 200000 := by rw [← HS2.out]; exact HL.out 2
          have W2n : Hid (numW false s2.data.toList = numW false (fd f 2)) := (by rw [← HS2.out]; simp [stB] : numW false s2.data.toList = numW false (fd f 2))
          have HWA : Hid (fd f 2 ≠ [97, 110, 121]) := wa
          clear wa
          go_wp2_with fail
          refine (l6Number_any s2 false ua hz2).mono ?_
          rintro e u9 ⟨he, hu9⟩
          rw [hu9]
          clear hu9
          obtain ⟨j2, rfl, k2⟩ := he.form
          rw [W2n.out] at k2 ⊢
          cases r2 : numW false (fd f 2) with
          | none =>
            have HR : Hid (regS S f = none) := HRS.out none (val_none f W2.out HWA.out r2)
            clear k2 r2
            simp only [Option.isSome_none]
            obtain ⟨c0, c1, c2, c3, c4, c5, c6, c7⟩ := hp8 PA.out.P
            go_wp2_with fail
            refine (l6Bad_any S.d (S.st : Int) sH ⟨some ⟨gR, 0, none⟩, 8, cR⟩ sP ⟨some ⟨gN, 0, none⟩, 8, cN⟩ sO false ua).mono ?_
            rintro e u9 ⟨rfl, hb9⟩
            have P9 := PA.out.below hb9
            have F9 : Hid (Fm tsM B w u9) := FA'.out.below hb9 hBa
            obtain ⟨z0, z1, z2, z3, z4, z5, z6, z7⟩ := hp8 P9.R
            have f9 := hp_frz P9.R
            clear hb9
            go_wp2
            refine bodyPost_ret (v := .agg #[.int .i64 S.d, .slice sH.a sH.n sH.c, .slice (some ⟨gR, 0, none⟩) 8 cR, .slice sP.a sP.n sP.c, .int .i64 (S.st : Int), .slice (some ⟨gN, 0, none⟩) 8 cN, .slice sO.a sO.n sO.c, .bool true]) (by simp [results, Tryz.results24, go_sem, z0, z1, z2, z3, z4, z5, z6, z7]) rfl ?_
            unfold MR
            rw [HR.out]
            exact ⟨F9.out.put8 (by have := HX.out; omega) (by omega) _ _ _ _ _ _ _ _, S.d, (S.st : Int), sH, ⟨some ⟨gR, 0, none⟩, 8, cR⟩, sP, ⟨some ⟨gN, 0, none⟩, 8, cN⟩, sO, rfl⟩
          | some m =>
            obtain rfl := k2 m r2
            simp only [Option.isSome_some]
            have KV : Hid ((if fd f 2 = [97, 110, 121] then some (-1) else numW false (fd f 2)) = some j2) := (by rw [if_neg HWA.out, r2] : (if fd f 2 = [97, 110, 121] then some (-1) else numW false (fd f 2)) = some j2)
            clear k2 r2
            have v2 := hp_cell VA.out 2
            simp only [List.getElem?_toArray, List.getElem?_cons_zero, List.getElem?_cons_succ] at v2
            have vf := hp_frz VA.out
            go_upto_region 22 with fail
            obtain ⟨ub, hub, hbb, hvb2⟩ : ∃ y, ua.setCell ⟨vb, 2, none⟩ (.int .i64 j2) = y ∧ Below u.heap.size u y ∧ y.heap[vb]? = some (.cells #[.int .i64 0, .bool false, .int .i64 j2, .int .i64 0, .int .i64 0, .int .i64 0] 47) := ⟨_, rfl, BA.out.setCell (by have := HVB.out; show _ ≤ vb; omega) _, heap_setZ VA.out 2 _⟩
            rw [hub]
            have BB : Hid (Below u.heap.size u ub) := hbb
            have VB : Hid (ub.heap[vb]? = some (.cells #[.int .i64 0, .bool false, .int .i64 j2, .int .i64 0, .int .i64 0, .int .i64 0] 47)) := hvb2
            have PB : Hid (PX x (x + 1) #[.int .i64 S.d, .slice sH.a sH.n sH.c, .slice (some ⟨gR, 0, none⟩) 8 cR, .slice sP.a sP.n sP.c, .int .i64 (S.st : Int), .slice (some ⟨gN, 0, none⟩) 8 cN, .slice sO.a sO.n sO.c, .bool false] #[.int .i64 0, .slice none 0 0, .slice none 0 0, .slice none 0 0, .int .i64 0, .slice none 0 0, .slice none 0 0, .bool false] ub) := P0.out.below hbb
            have FB : Hid (Fm tsM B w ub) := F0.out.below hbb hBu
            have AB : Hid (FA ub fb f) := A0.out.below hbb
            have hBb : B ≤ ub.heap.size := by have := hbb.size; omega
            clear hub hbb hvb2 g2 v2 vf BA VA PA FA' AA
            obtain ⟨c0, c1, c2, c3, c4, c5, c6, c7⟩ := hp8 PB.out.P
            have g3 : ub.cell? ⟨fb, 3, none⟩ = some (.string s3) := (AB.out.cell 3 (by omega)).trans (by rw [HS3.out])
            have v0 := hp_cell VB.out 0
            have v1 := hp_cell VB.out 1
            have v2 := hp_cell VB.out 2
            have v3 := hp_cell VB.out 3
            have v4 := hp_cell VB.out 4
            have v5 := hp_cell VB.out 5
            simp only [List.getElem?_toArray, List.getElem?_cons_zero, List.getElem?_cons_succ] at v0 v1 v2 v3 v4 v5
            have vf := hp_frz VB.out
            by_cases h4 : f.length = 4
            rotate_left
            · have e7 : ((f.length : Int) != 4) = true := by rw [bne_iff_ne]; omega
              have HR : Hid (regS S f = none) := HRS.out none (val_long f W2.out h4)
              clear h4
              go_wp2_with fail
              refine (l6Bad_any S.d (S.st : Int) sH ⟨some ⟨gR, 0, none⟩, 8, cR⟩ sP ⟨some ⟨gN, 0, none⟩, 8, cN⟩ sO false ub).mono ?_
              rintro e u9 ⟨rfl, hb9⟩
              have P9 := PB.out.below hb9
              have F9 : Hid (Fm tsM B w u9) := FB.out.below hb9 hBb
              obtain ⟨z0, z1, z2, z3, z4, z5, z6, z7⟩ := hp8 P9.R
              have f9 := hp_frz P9.R
              clear hb9
              go_wp2
              refine bodyPost_ret (v := .agg #[.int .i64 S.d, .slice sH.a sH.n sH.c, .slice (some ⟨gR, 0, none⟩) 8 cR, .slice sP.a sP.n sP.c, .int .i64 (S.st : Int), .slice (some ⟨gN, 0, none⟩) 8 cN, .slice sO.a sO.n sO.c, .bool true]) (by simp [results, Tryz.results24, go_sem, z0, z1, z2, z3, z4, z5, z6, z7]) rfl ?_
              unfold MR
              rw [HR.out]
              exact ⟨F9.out.put8 (by have := HX.out; omega) (by omega) _ _ _ _ _ _ _ _, S.d, (S.st : Int), sH, ⟨some ⟨gR, 0, none⟩, 8, cR⟩, sP, ⟨some ⟨gN, 0, none⟩, 8, cN⟩, sO, rfl⟩
            have e7 : ((f.length : Int) != 4) = false := by rw [bne_eq_false_iff_eq]; omega
            have H4 : Hid (f.length = 4) := h4
            clear h4
            rcases secW_cases (fd f 3) with ⟨w3, k3⟩ | ⟨w3, k3⟩ | ⟨w3, w3', k3⟩
            · obtain ⟨q5, q6⟩ := beqT HS3.out w3
              obtain ⟨q7, q8⟩ := beqF (a := [115, 101, 99, 114, 101, 116]) HS3.out (by rw [w3]; decide)
              have HR : Hid (regS S f = some { S with st := 2, rg := S.rg.set k ⟨0, false, j2, 0, 0, 0⟩, gv := S.gv.set k true }) := HRS.out (some ⟨0, false, j2, 0, 0, 0⟩) (val_num f H4.out KV.out k3)
              clear w3 k3
              go_upto_region 25 with fail
              obtain ⟨u3, hu3, hb3, hv3⟩ : ∃ y, ub.setCell ⟨vb, 1, none⟩ (.bool false) = y ∧ Below u.heap.size u y ∧ y.heap[vb]? = some (.cells #[.int .i64 0, .bool false, .int .i64 j2, .int .i64 0, .int .i64 0, .int .i64 0] 47) := ⟨_, rfl, BB.out.setCell (by have := HVB.out; show _ ≤ vb; omega) _, heap_setZ VB.out 1 _⟩
              change Code.wp _ _ _ _ (ub.setCell ⟨vb, 1, none⟩ (.bool false))
              rw [hu3]
              have M3 : Hid (MS u3 B S sH ⟨some ⟨gR, 0, none⟩, 8, cR⟩ sP ⟨some ⟨gN, 0, none⟩, 8, cN⟩ sO bv) := M0.out.below hb3
              have P3 : Hid (PX x (x + 1) #[.int .i64 S.d, .slice sH.a sH.n sH.c, .slice (some ⟨gR, 0, none⟩) 8 cR, .slice sP.a sP.n sP.c, .int .i64 (S.st : Int), .slice (some ⟨gN, 0, none⟩) 8 cN, .slice sO.a sO.n sO.c, .bool false] #[.int .i64 0, .slice none 0 0, .slice none 0 0, .slice none 0 0, .int .i64 0, .slice none 0 0, .slice none 0 0, .bool false] u3) := P0.out.below hb3
              have F3 : Hid (Fm tsM B w u3) := F0.out.below hb3 hBu
              have hBu3 : B ≤ u3.heap.size := by have := hb3.size; omega
              have rF : ∀ i, u3.frozen? ⟨gR, i, none⟩ = false := fun i => (hb3.frozen (p := ⟨gR, i, none⟩) rl).trans (RF.out i)
              obtain ⟨o0, ho0⟩ : ∃ v, u3.cell? ⟨gR, k * 6, none⟩ = some v := by
                obtain ⟨v, hv⟩ := NL.out (k * 6) (by omega)
                exact ⟨v, (hb3.cell (p := ⟨gR, k * 6, none⟩) rl).trans hv⟩
              obtain ⟨o1, ho1⟩ : ∃ v, u3.cell? ⟨gR, k * 6 + 1, none⟩ = some v := by
                obtain ⟨v, hv⟩ := NL.out (k * 6 + 1) (by omega)
                exact ⟨v, (hb3.cell (p := ⟨gR, k * 6 + 1, none⟩) rl).trans hv⟩
              obtain ⟨o2, ho2⟩ : ∃ v, u3.cell? ⟨gR, k * 6 + 2, none⟩ = some v := by
                obtain ⟨v, hv⟩ := NL.out (k * 6 + 2) (by omega)
                exact ⟨v, (hb3.cell (p := ⟨gR, k * 6 + 2, none⟩) rl).trans hv⟩
              obtain ⟨o3, ho3⟩ : ∃ v, u3.cell? ⟨gR, k * 6 + 3, none⟩ = some v := by
                obtain ⟨v, hv⟩ := NL.out (k * 6 + 3) (by omega)
                exact ⟨v, (hb3.cell (p := ⟨gR, k * 6 + 3, none⟩) rl).trans hv⟩
              obtain ⟨o4, ho4⟩ : ∃ v, u3.cell? ⟨gR, k * 6 + 4, none⟩ = some v := by
                obtain ⟨v, hv⟩ := NL.out (k * 6 + 4) (by omega)
                exact ⟨v, (hb3.cell (p := ⟨gR, k * 6 + 4, none⟩) rl).trans hv⟩
              obtain ⟨o5, ho5⟩ : ∃ v, u3.cell? ⟨gR, k * 6 + 5, none⟩ = some v := by
                obtain ⟨v, hv⟩ := NL.out (k * 6 + 5) (by omega)
                exact ⟨v, (hb3.cell (p := ⟨gR, k * 6 + 5, none⟩) rl).trans hv⟩
              have y0 := hp_cell hv3 0
              have y1 := hp_cell hv3 1
              have y2 := hp_cell hv3 2
              have y3 := hp_cell hv3 3
              have y4 := hp_cell hv3 4
              have y5 := hp_cell hv3 5
              simp only [List.getElem?_toArray, List.getElem?_cons_zero, List.getElem?_cons_succ] at y0 y1 y2 y3 y4 y5
              have c2 := hp_cell P3.out.P 2
              simp only [List.getElem?_toArray, List.getElem?_cons_zero, List.getElem?_cons_succ] at c2
              clear hu3 hb3 hv3
              go_upto_region 26 with fail
              obtain ⟨u4, hu4, m4, f4⟩ : ∃ y, setW u3 gR (k * 6) (vlL ⟨0, false, j2, 0, 0, 0⟩) = y ∧ MS y B { S with rg := S.rg.set k ⟨0, false, j2, 0, 0, 0⟩ } sH ⟨some ⟨gR, 0, none⟩, 8, cR⟩ sP ⟨some ⟨gN, 0, none⟩, 8, cN⟩ sO bv ∧ Fm tsM B u3 y := ⟨_, rfl, (M3.out.setR hk8).1, (M3.out.setR hk8).2 hBu3⟩
              change Code.wp _ _ _ _ (setW u3 gR (k * 6) (vlL ⟨0, false, j2, 0, 0, 0⟩))
              rw [hu4]
              have M4 : Hid (MS u4 B { S with rg := S.rg.set k ⟨0, false, j2, 0, 0, 0⟩ } sH ⟨some ⟨gR, 0, none⟩, 8, cR⟩ sP ⟨some ⟨gN, 0, none⟩, 8, cN⟩ sO bv) := m4
              have P4 : Hid (PX x (x + 1) #[.int .i64 S.d, .slice sH.a sH.n sH.c, .slice (some ⟨gR, 0, none⟩) 8 cR, .slice sP.a sP.n sP.c, .int .i64 (S.st : Int), .slice (some ⟨gN, 0, none⟩) 8 cN, .slice sO.a sO.n sO.c, .bool false] #[.int .i64 0, .slice none 0 0, .slice none 0 0, .slice none 0 0, .int .i64 0, .slice none 0 0, .slice none 0 0, .bool false] u4) := P3.out.fm f4
              have F4 : Hid (Fm tsM B w u4) := F3.out.trans f4
              have hBu4 : B ≤ u4.heap.size := by have := f4.b.size; omega
              obtain ⟨nF, nC⟩ := m4.namedZ
              have nc4 := nC k hk8
              have nf4 := nF k
              have c5 := hp_cell P4.out.P 5
              simp only [List.getElem?_toArray, List.getElem?_cons_zero, List.getElem?_cons_succ] at c5
              clear hu4 m4 f4 nF nC rF ho0 ho1 ho2 ho3 ho4 ho5 y0 y1 y2 y3 y4 y5 c2 M3 P3 F3
              go_upto_region 27 with fail
              have M5 : Hid (MS (u4.setCell ⟨gN, k, none⟩ (.bool true)) B { S with rg := S.rg.set k ⟨0, false, j2, 0, 0, 0⟩, gv := S.gv.set k true } sH ⟨some ⟨gR, 0, none⟩, 8, cR⟩ sP ⟨some ⟨gN, 0, none⟩, 8, cN⟩ sO bv) := (MS.setN (n := k) (v := true) M4.out).1
              have g5 := (MS.setN (n := k) (v := true) M4.out).2 hBu4
              have P5 : Hid (PX x (x + 1) #[.int .i64 S.d, .slice sH.a sH.n sH.c, .slice (some ⟨gR, 0, none⟩) 8 cR, .slice sP.a sP.n sP.c, .int .i64 (S.st : Int), .slice (some ⟨gN, 0, none⟩) 8 cN, .slice sO.a sO.n sO.c, .bool false] #[.int .i64 0, .slice none 0 0, .slice none 0 0, .slice none 0 0, .int .i64 0, .slice none 0 0, .slice none 0 0, .bool false] (u4.setCell ⟨gN, k, none⟩ (.bool true))) := P4.out.fm g5
              have F5 : Hid (Fm tsM B w (u4.setCell ⟨gN, k, none⟩ (.bool true))) := F4.out.trans g5
              clear g5 nc4 nf4 c5 M4 P4 F4
              generalize u4.setCell ⟨gN, k, none⟩ (.bool true) = u5 at M5 P5 F5 ⊢
              have c4 := hp_cell P5.out.P 4
              simp only [List.getElem?_toArray, List.getElem?_cons_zero, List.getElem?_cons_succ] at c4
              have qf := hp_frz P5.out.P
              go_upto_region 28 with fail
              have M6 : Hid (MS (u5.setCell ⟨x, 4, none⟩ (.int .i64 2)) B { S with st := 2, rg := S.rg.set k ⟨0, false, j2, 0, 0, 0⟩, gv := S.gv.set k true } sH ⟨some ⟨gR, 0, none⟩, 8, cR⟩ sP ⟨some ⟨gN, 0, none⟩, 8, cN⟩ sO bv) := (M5.out.setP P5.out 4 _).stg (show S.st ≤ 2 by omega)
              have P6 : Hid (PX x (x + 1) #[.int .i64 S.d, .slice sH.a sH.n sH.c, .slice (some ⟨gR, 0, none⟩) 8 cR, .slice sP.a sP.n sP.c, .int .i64 2, .slice (some ⟨gN, 0, none⟩) 8 cN, .slice sO.a sO.n sO.c, .bool false] #[.int .i64 0, .slice none 0 0, .slice none 0 0, .slice none 0 0, .int .i64 0, .slice none 0 0, .slice none 0 0, .bool false] (u5.setCell ⟨x, 4, none⟩ (.int .i64 2))) := P5.out.setP 4 _
              have F6 : Hid (Fm tsM B w (u5.setCell ⟨x, 4, none⟩ (.int .i64 2))) := F5.out.setNew (a := ⟨x, 4, none⟩) (by have := HX.out; show _ ≤ x; omega) hBx _
              clear c4 qf M5 P5 F5
              generalize u5.setCell ⟨x, 4, none⟩ (.int .i64 2) = u6 at M6 P6 F6 ⊢
              obtain ⟨y0, y1, y2, y3, y4, y5, y6, y7⟩ := hp8 P6.out.P
              obtain ⟨z0, z1, z2, z3, z4, z5, z6, z7⟩ := hp8 P6.out.R
              have f9 := hp_frz P6.out.R
              go_wp2
              refine bodyPost_ret (v := .agg #[.int .i64 S.d, .slice sH.a sH.n sH.c, .slice (some ⟨gR, 0, none⟩) 8 cR, .slice sP.a sP.n sP.c, .int .i64 2, .slice (some ⟨gN, 0, none⟩) 8 cN, .slice sO.a sO.n sO.c, .bool false]) (by simp [results, Tryz.results24, go_sem, z0, z1, z2, z3, z4, z5, z6, z7]) rfl ?_
              unfold MR
              rw [HR.out]
              exact ⟨F6.out.put8 (by have := HX.out; omega) (by omega) _ _ _ _ _ _ _ _, sH, ⟨some ⟨gR, 0, none⟩, 8, cR⟩, sP, ⟨some ⟨gN, 0, none⟩, 8, cN⟩, sO, bv, rfl, M6.out.put8 P6.out _ _ _ _ _ _ _ _⟩
            · obtain ⟨q5, q6⟩ := beqT HS3.out w3
              obtain ⟨q7, q8⟩ := beqF (a := [112, 117, 98, 108, 105, 99]) HS3.out (by rw [w3]; decide)
              have HR : Hid (regS S f = some { S with st := 2, rg := S.rg.set k ⟨0, true, j2, 0, 0, 0⟩, gv := S.gv.set k true }) := HRS.out (some ⟨0, true, j2, 0, 0, 0⟩) (val_num f H4.out KV.out k3)
              clear w3 k3
              go_upto_region 25 with fail
              obtain ⟨u3, hu3, hb3, hv3⟩ : ∃ y, ub.setCell ⟨vb, 1, none⟩ (.bool true) = y ∧ Below u.heap.size u y ∧ y.heap[vb]? = some (.cells #[.int .i64 0, .bool true, .int .i64 j2, .int .i64 0, .int .i64 0, .int .i64 0] 47) := ⟨_, rfl, BB.out.setCell (by have := HVB.out; show _ ≤ vb; omega) _, heap_setZ VB.out 1 _⟩
              change Code.wp _ _ _ _ (ub.setCell ⟨vb, 1, none⟩ (.bool true))
              rw [hu3]
              have M3 : Hid (MS u3 B S sH ⟨some ⟨gR, 0, none⟩, 8, cR⟩ sP ⟨some ⟨gN, 0, none⟩, 8, cN⟩ sO bv) := M0.out.below hb3
              have P3 : Hid (PX x (x + 1) #[.int .i64 S.d, .slice sH.a sH.n sH.c, .slice (some ⟨gR, 0, none⟩) 8 cR, .slice sP.a sP.n sP.c, .int .i64 (S.st : Int), .slice (some ⟨gN, 0, none⟩) 8 cN, .slice sO.a sO.n sO.c, .bool false] #[.int .i64 0, .slice none 0 0, .slice none 0 0, .slice none 0 0, .int .i64 0, .slice none 0 0, .slice none 0 0, .bool false] u3) := P0.out.below hb3
              have F3 : Hid (Fm tsM B w u3) := F0.out.below hb3 hBu
              have hBu3 : B ≤ u3.heap.size := by have := hb3.size; omega
              have rF : ∀ i, u3.frozen? ⟨gR, i, none⟩ = false := fun i => (hb3.frozen (p := ⟨gR, i, none⟩) rl).trans (RF.out i)
              obtain ⟨o0, ho0⟩ : ∃ v, u3.cell? ⟨gR, k * 6, none⟩ = some v := by
                obtain ⟨v, hv⟩ := NL.out (k * 6) (by omega)
                exact ⟨v, (hb3.cell (p := ⟨gR, k * 6, none⟩) rl).trans hv⟩
              obtain ⟨o1, ho1⟩ : ∃ v, u3.cell? ⟨gR, k * 6 + 1, none⟩ = some v := by
                obtain ⟨v, hv⟩ := NL.out (k * 6 + 1) (by omega)
                exact ⟨v, (hb3.cell (p := ⟨gR, k * 6 + 1, none⟩) rl).trans hv⟩
              obtain ⟨o2, ho2⟩ : ∃ v, u3.cell? ⟨gR, k * 6 + 2, none⟩ = some v := by
                obtain ⟨v, hv⟩ := NL.out (k * 6 + 2) (by omega)
                exact ⟨v, (hb3.cell (p := ⟨gR, k * 6 + 2, none⟩) rl).trans hv⟩
              obtain ⟨o3, ho3⟩ : ∃ v, u3.cell? ⟨gR, k * 6 + 3, none⟩ = some v := by
                obtain ⟨v, hv⟩ := NL.out (k * 6 + 3) (by omega)
                exact ⟨v, (hb3.cell (p := ⟨gR, k * 6 + 3, none⟩) rl).trans hv⟩
              obtain ⟨o4, ho4⟩ : ∃ v, u3.cell? ⟨gR, k * 6 + 4, none⟩ = some v := by
                obtain ⟨v, hv⟩ := NL.out (k * 6 + 4) (by omega)
                exact ⟨v, (hb3.cell (p := ⟨gR, k * 6 + 4, none⟩) rl).trans hv⟩
              obtain ⟨o5, ho5⟩ : ∃ v, u3.cell? ⟨gR, k * 6 + 5, none⟩ = some v := by
                obtain ⟨v, hv⟩ := NL.out (k * 6 + 5) (by omega)
                exact ⟨v, (hb3.cell (p := ⟨gR, k * 6 + 5, none⟩) rl).trans hv⟩
              have y0 := hp_cell hv3 0
              have y1 := hp_cell hv3 1
              have y2 := hp_cell hv3 2
              have y3 := hp_cell hv3 3
              have y4 := hp_cell hv3 4
              have y5 := hp_cell hv3 5
              simp only [List.getElem?_toArray, List.getElem?_cons_zero, List.getElem?_cons_succ] at y0 y1 y2 y3 y4 y5
              have c2 := hp_cell P3.out.P 2
              simp only [List.getElem?_toArray, List.getElem?_cons_zero, List.getElem?_cons_succ] at c2
              clear hu3 hb3 hv3
              go_upto_region 26 with fail
              obtain ⟨u4, hu4, m4, f4⟩ : ∃ y, setW u3 gR (k * 6) (vlL ⟨0, true, j2, 0, 0, 0⟩) = y ∧ MS y B { S with rg := S.rg.set k ⟨0, true, j2, 0, 0, 0⟩ } sH ⟨some ⟨gR, 0, none⟩, 8, cR⟩ sP ⟨some ⟨gN, 0, none⟩, 8, cN⟩ sO bv ∧ Fm tsM B u3 y := ⟨_, rfl, (M3.out.setR hk8).1, (M3.out.setR hk8).2 hBu3⟩
              change Code.wp _ _ _ _ (setW u3 gR (k * 6) (vlL ⟨0, true, j2, 0, 0, 0⟩))
              rw [hu4]
              have M4 : Hid (MS u4 B { S with rg := S.rg.set k ⟨0, true, j2, 0, 0, 0⟩ } sH ⟨some ⟨gR, 0, none⟩, 8, cR⟩ sP ⟨some ⟨gN, 0, none⟩, 8, cN⟩ sO bv) := m4
              have P4 : Hid (PX x (x + 1) #[.int .i64 S.d, .slice sH.a sH.n sH.c, .slice (some ⟨gR, 0, none⟩) 8 cR, .slice sP.a sP.n sP.c, .int .i64 (S.st : Int), .slice (some ⟨gN, 0, none⟩) 8 cN, .slice sO.a sO.n sO.c, .bool false] #[.int .i64 0, .slice none 0 0, .slice none 0 0, .slice none 0 0, .int .i64 0, .slice none 0 0, .slice none 0 0, .bool false] u4) := P3.out.fm f4
              have F4 : Hid (Fm tsM B w u4) := F3.out.trans f4
              have hBu4 : B ≤ u4.heap.size := by have := f4.b.size; omega
              obtain ⟨nF, nC⟩ := m4.namedZ
              have nc4 := nC k hk8
              have nf4 := nF k
              have c5 := hp_cell P4.out.P 5
              simp only [List.getElem?_toArray, List.getElem?_cons_zero, List.getElem?_cons_succ] at c5
              clear hu4 m4 f4 nF nC rF ho0 ho1 ho2 ho3 ho4 ho5 y0 y1 y2 y3 y4 y5 c2 M3 P3 F3
              go_upto_region 27 with fail
              have M5 : Hid (MS (u4.setCell ⟨gN, k, none⟩ (.bool true)) B { S with rg := S.rg.set k ⟨0, true, j2, 0, 0, 0⟩, gv := S.gv.set k true } sH ⟨some ⟨gR, 0, none⟩, 8, cR⟩ sP ⟨some ⟨gN, 0, none⟩, 8, cN⟩ sO bv) := (MS.setN (n := k) (v := true) M4.out).1
              have g5 := (MS.setN (n := k) (v := true) M4.out).2 hBu4
              have P5 : Hid (PX x (x + 1) #[.int .i64 S.d, .slice sH.a sH.n sH.c, .slice (some ⟨gR, 0, none⟩) 8 cR, .slice sP.a sP.n sP.c, .int .i64 (S.st : Int), .slice (some ⟨gN, 0, none⟩) 8 cN, .slice sO.a sO.n sO.c, .bool false] #[.int .i64 0, .slice none 0 0, .slice none 0 0, .slice none 0 0, .int .i64 0, .slice none 0 0, .slice none 0 0, .bool false] (u4.setCell ⟨gN, k, none⟩ (.bool true))) := P4.out.fm g5
              have F5 : Hid (Fm tsM B w (u4.setCell ⟨gN, k, none⟩ (.bool true))) := F4.out.trans g5
              clear g5 nc4 nf4 c5 M4 P4 F4
              generalize u4.setCell ⟨gN, k, none⟩ (.bool true) = u5 at M5 P5 F5 ⊢
              have c4 := hp_cell P5.out.P 4
              simp only [List.getElem?_toArray, List.getElem?_cons_zero, List.getElem?_cons_succ] at c4
              have qf := hp_frz P5.out.P
              go_upto_region 28 with fail
              have M6 : Hid (MS (u5.setCell ⟨x, 4, none⟩ (.int .i64 2)) B { S with st := 2, rg := S.rg.set k ⟨0, true, j2, 0, 0, 0⟩, gv := S.gv.set k true } sH ⟨some ⟨gR, 0, none⟩, 8, cR⟩ sP ⟨some ⟨gN, 0, none⟩, 8, cN⟩ sO bv) := (M5.out.setP P5.out 4 _).stg (show S.st ≤ 2 by omega)
              have P6 : Hid (PX x (x + 1) #[.int .i64 S.d, .slice sH.a sH.n sH.c, .slice (some ⟨gR, 0, none⟩) 8 cR, .slice sP.a sP.n sP.c, .int .i64 2, .slice (some ⟨gN, 0, none⟩) 8 cN, .slice sO.a sO.n sO.c, .bool false] #[.int .i64 0, .slice none 0 0, .slice none 0 0, .slice none 0 0, .int .i64 0, .slice none 0 0, .slice none 0 0, .bool false] (u5.setCell ⟨x, 4, none⟩ (.int .i64 2))) := P5.out.setP 4 _
              have F6 : Hid (Fm tsM B w (u5.setCell ⟨x, 4, none⟩ (.int .i64 2))) := F5.out.setNew (a := ⟨x, 4, none⟩) (by have := HX.out; show _ ≤ x; omega) hBx _
              clear c4 qf M5 P5 F5
              generalize u5.setCell ⟨x, 4, none⟩ (.int .i64 2) = u6 at M6 P6 F6 ⊢
              obtain ⟨y0, y1, y2, y3, y4, y5, y6, y7⟩ := hp8 P6.out.P
              obtain ⟨z0, z1, z2, z3, z4, z5, z6, z7⟩ := hp8 P6.out.R
              have f9 := hp_frz P6.out.R
              go_wp2
              refine bodyPost_ret (v := .agg #[.int .i64 S.d, .slice sH.a sH.n sH.c, .slice (some ⟨gR, 0, none⟩) 8 cR, .slice sP.a sP.n sP.c, .int .i64 2, .slice (some ⟨gN, 0, none⟩) 8 cN, .slice sO.a sO.n sO.c, .bool false]) (by simp [results, Tryz.results24, go_sem, z0, z1, z2, z3, z4, z5, z6, z7]) rfl ?_
              unfold MR
              rw [HR.out]
              exact ⟨F6.out.put8 (by have := HX.out; omega) (by omega) _ _ _ _ _ _ _ _, sH, ⟨some ⟨gR, 0, none⟩, 8, cR⟩, sP, ⟨some ⟨gN, 0, none⟩, 8, cN⟩, sO, bv, rfl, M6.out.put8 P6.out _ _ _ _ _ _ _ _⟩
            · obtain ⟨q5, q6⟩ := beqF HS3.out w3
              obtain ⟨q7, q8⟩ := beqF HS3.out w3'
              have HR : Hid (regS S f = none) := HRS.out none (val_sec f W2.out k3)
              clear w3 w3' k3
              go_wp2_with fail
              refine (l6Bad_any S.d (S.st : Int) sH ⟨some ⟨gR, 0, none⟩, 8, cR⟩ sP ⟨some ⟨gN, 0, none⟩, 8, cN⟩ sO false ub).mono ?_
              rintro e u9 ⟨rfl, hb9⟩
              have P9 := PB.out.below hb9
              have F9 : Hid (Fm tsM B w u9) := FB.out.below hb9 hBb
              obtain ⟨z0, z1, z2, z3, z4, z5, z6, z7⟩ := hp8 P9.R
              have f9 := hp_frz P9.R
              clear hb9
              go_wp2
              refine bodyPost_ret (v := .agg #[.int .i64 S.d, .slice sH.a sH.n sH.c, .slice (some ⟨gR, 0, none⟩) 8 cR, .slice sP.a sP.n sP.c, .int .i64 (S.st : Int), .slice (some ⟨gN, 0, none⟩) 8 cN, .slice sO.a sO.n sO.c, .bool true]) (by simp [results, Tryz.results24, go_sem, z0, z1, z2, z3, z4, z5, z6, z7]) rfl ?_
              unfold MR
              rw [HR.out]
              exact ⟨F9.out.put8 (by have := HX.out; omega) (by omega) _ _ _ _ _ _ _ _, S.d, (S.st : Int), sH, ⟨some ⟨gR, 0, none⟩, 8, cR⟩, sP, ⟨some ⟨gN, 0, none⟩, 8, cN⟩, sO, rfl⟩
end Go.Proofs.YtblfmpgdhpbffaaGreatDoor
