import Derived.Test.YtlkjdanoejdgbaaGreatOfEvBlock
import Derived.Test.YtlkjdanoejdgbaaGreatOfMachImpl
/- Eval of the program. -/
namespace Go.Proofs.YtlkjdanoejdgbaaGreat
open Go.RowKit
set_option maxRecDepth 20000 in
set_option maxHeartbeats 8000000 in
theorem implEval_any (b n cap : Nat) (L : Nat → SV) (bR nR : Nat) (R : Nat → Int) (z c hz hc : Bool) (bH nH : Nat) (Hp : Nat → HeapV) (blk : Nat → Nat) (pc st : Int) (bO nO : Nat) (K V : Nat → Int) (fu : Int) (w : World) (ln : n ≤ 1048576) (hA : Arr w b (n * 11) (stF L)) (hs : Small nR nH Hp nO) (hr : InRange R nH Hp) (hm : MachCp w bR nR R bH nH Hp blk bO nO K V) :
    Calls Tryz.prog 9 #[.slice (some ⟨b, 0, none⟩) n cap, .agg #[.slice (some ⟨bR, 0, none⟩) nR nR, .bool z, .bool c, .bool hz, .bool hc, .slice (some ⟨bH, 0, none⟩) nH nH, .int .i64 pc, .int .i64 st, .slice (some ⟨bO, 0, none⟩) nO nO], .int .i64 fu] w fun e w' => ∃ v x, e = .returned v ∧ Below w.heap.size w w' ∧ ER L n nR (⟨R, z, c, hz, hc, nH, Hp, pc, st, nO, K, V⟩ : MV) fu x ∧ AnsE w' w.heap.size v x := by
  have HA : Hid (Arr w b (n * 11) (stF L)) := hA
  have HS : Hid (Small nR nH Hp nO) := hs
  have HR : Hid (InRange R nH Hp) := hr
  have HM : Hid (MachCp w bR nR R bH nH Hp blk bO nO K V) := hm
  have lb := hA.lt
  have lo := hs.obs
  clear hA hs hr hm
  go_enter Tryz.func9, Tryz.ntmps9
  go_upto_region 1 with fail
  obtain ⟨u0, hu0, x0, x1, x2⟩ : ∃ y, (w.alloc (.cells #[.slice (some ⟨bR, 0, none⟩) nR nR, .bool z, .bool c, .bool hz, .bool hc, .slice (some ⟨bH, 0, none⟩) nH nH, .int .i64 pc, .int .i64 st, .slice (some ⟨bO, 0, none⟩) nO nO] 33)).alloc (.cells #[.bool false, .bool false, .int .i64 0, .slice none 0 0, .bool false, .bool false, .bool false, .bool false, .slice none 0 0, .int .i64 0, .int .i64 0, .slice none 0 0] 35) = y ∧ Below w.heap.size w y ∧ y.heap[w.heap.size]? = some (.cells #[.slice (some ⟨bR, 0, none⟩) nR nR, .bool z, .bool c, .bool hz, .bool hc, .slice (some ⟨bH, 0, none⟩) nH nH, .int .i64 pc, .int .i64 st, .slice (some ⟨bO, 0, none⟩) nO nO] 33) ∧ y.heap[w.heap.size + 1]? = some (.cells eZ 35) :=
    ⟨_, rfl, ((Below.refl _ _).alloc (Nat.le_refl _) _).alloc (by simp) _, (Below.heap_alloc _ _ _ (by simp)).trans (eq_new _ _), by have := eq_new (w.alloc (.cells #[.slice (some ⟨bR, 0, none⟩) nR nR, .bool z, .bool c, .bool hz, .bool hc, .slice (some ⟨bH, 0, none⟩) nH nH, .int .i64 pc, .int .i64 st, .slice (some ⟨bO, 0, none⟩) nO nO] 33)) (.cells eZ 35); rw [World.size_alloc] at this; exact this⟩
  rw [hu0]
  have BB : Hid (Below w.heap.size w u0) := x0
  have QQ : Hid (u0.heap[w.heap.size]? = some (.cells #[.slice (some ⟨bR, 0, none⟩) nR nR, .bool z, .bool c, .bool hz, .bool hc, .slice (some ⟨bH, 0, none⟩) nH nH, .int .i64 pc, .int .i64 st, .slice (some ⟨bO, 0, none⟩) nO nO] 33)) := x1
  have ZZ : Hid (u0.heap[w.heap.size + 1]? = some (.cells eZ 35)) := x2
  clear hu0 x0 x1 x2
  by_cases hfu : 0 ≤ fu ∧ fu ≤ 40000
  rotate_left
  · have HW : Hid (¬ (0 ≤ fu ∧ fu ≤ 40000)) := hfu
    by_cases h1 : fu < 0
    · clear hfu
      go_wp2_with (refine wpList_store_at rfl 35 (.tmp 6) (.tmp 32) rfl (w.heap.size + 1) _ eZ 35 rfl rfl ZZ.out ?_ ?_ ?_ ?_; exact (Nat.le_refl 12); exact ev_info; exact eZ_one; intro u9 hq f z)
      unfold Hid
      rw [put_ez] at hq
      have X9 : Hid _ := hq
      have B9 : Hid (Below w.heap.size w u9) := below_ft BB.out f BB.out.size (by omega)
      clear hq f z
      go_wp2
      refine bodyPost_ret (v := .agg eZ) (results_one rfl _ _ (w.heap.size + 1) _ rfl (load_at X9.out 35 _ Tryz.underlying35 rfl ev_info)) rfl ⟨.agg eZ, none, rfl, B9.out, (fun h => HW.out ⟨h.2.2.2.1, h.2.2.2.2.1⟩), rfl⟩
    · have h2 : 40000 < fu := by omega
      clear hfu
      go_wp2_with (refine wpList_store_at rfl 35 (.tmp 6) (.tmp 32) rfl (w.heap.size + 1) _ eZ 35 rfl rfl ZZ.out ?_ ?_ ?_ ?_; exact (Nat.le_refl 12); exact ev_info; exact eZ_one; intro u9 hq f z)
      unfold Hid
      rw [put_ez] at hq
      have X9 : Hid _ := hq
      have B9 : Hid (Below w.heap.size w u9) := below_ft BB.out f BB.out.size (by omega)
      clear hq f z
      go_wp2
      refine bodyPost_ret (v := .agg eZ) (results_one rfl _ _ (w.heap.size + 1) _ rfl (load_at X9.out 35 _ Tryz.underlying35 rfl ev_info)) rfl ⟨.agg eZ, none, rfl, B9.out, (fun h => HW.out ⟨h.2.2.2.1, h.2.2.2.2.1⟩), rfl⟩
  obtain ⟨hf0, hf1⟩ := hfu
  have q1 : ¬ fu < 0 := by omega
  have q2 : ¬ 40000 < fu := by omega
  obtain ⟨m0, m1, m2, m3, m4, m5, m6, m7, m8⟩ := e9 QQ.out
  have mq := (Array.getElem?_eq_some_iff.1 QQ.out).1
  by_cases ho : 100000 < nO
  · have e2 : (100000 : Int) < (nO : Int) := by omega
    have HW : Hid (¬ nO ≤ 100000) := (by omega : ¬ nO ≤ 100000)
    go_wp2_with (refine wpList_store_at rfl 35 (.tmp 6) (.tmp 32) rfl (w.heap.size + 1) _ eZ 35 rfl rfl ZZ.out ?_ ?_ ?_ ?_; exact (Nat.le_refl 12); exact ev_info; exact eZ_one; intro u9 hq f z)
    unfold Hid
    rw [put_ez] at hq
    have X9 : Hid _ := hq
    have B9 : Hid (Below w.heap.size w u9) := below_ft BB.out f BB.out.size (by omega)
    clear hq f z
    go_wp2
    refine bodyPost_ret (v := .agg eZ) (results_one rfl _ _ (w.heap.size + 1) _ rfl (load_at X9.out 35 _ Tryz.underlying35 rfl ev_info)) rfl ⟨.agg eZ, none, rfl, B9.out, (fun h => HW.out h.2.2.2.2.2), rfl⟩
  have e2 : ¬ (100000 : Int) < (nO : Int) := by omega
  by_cases hst : st = 0
  rotate_left
  · have e1 : (st != 0) = true := by simp [hst]
    have HW : Hid (st ≠ 0) := hst
    clear hst
    go_wp2_with (refine wpList_store_at rfl 35 (.tmp 6) (.tmp 32) rfl (w.heap.size + 1) _ eZ 35 rfl rfl ZZ.out ?_ ?_ ?_ ?_; exact (Nat.le_refl 12); exact ev_info; exact eZ_one; intro u9 hq f z)
    unfold Hid
    rw [put_ez] at hq
    have X9 : Hid _ := hq
    have B9 : Hid (Below w.heap.size w u9) := below_ft BB.out f BB.out.size (by omega)
    clear hq f z
    go_wp2
    refine bodyPost_ret (v := .agg eZ) (results_one rfl _ _ (w.heap.size + 1) _ rfl (load_at X9.out 35 _ Tryz.underlying35 rfl ev_info)) rfl ⟨.agg eZ, none, rfl, B9.out, (fun h => HW.out h.2.2.1), rfl⟩
  have e1 : (st != 0) = false := by simp [hst]
  have HST : Hid (st = 0) := hst
  clear hst
  go_wp2_with fail
  refine (implMach_any bR nR R z c hz hc bH nH Hp blk pc st bO nO K V u0 HS.out (fun i hi => (HR.out.base i hi).1) (HM.out.below BB.out (Nat.le_refl _))).mono ?_
  rintro e u1 ⟨rfl, b1⟩
  clear m0 m1 m2 m3 m4 m5 m6 m7 m8 mq
  have BB' : Hid (Below w.heap.size w u1) := BB.out.trans (b1.mono BB.out.size)
  have QQ' : Hid (u1.heap[w.heap.size]? = some (.cells #[.slice (some ⟨bR, 0, none⟩) nR nR, .bool z, .bool c, .bool hz, .bool hc, .slice (some ⟨bH, 0, none⟩) nH nH, .int .i64 pc, .int .i64 st, .slice (some ⟨bO, 0, none⟩) nO nO] 33)) := (b1.block _ (Array.getElem?_eq_some_iff.1 QQ.out).1).trans QQ.out
  have ZZ' : Hid (u1.heap[w.heap.size + 1]? = some (.cells eZ 35)) := (b1.block _ (Array.getElem?_eq_some_iff.1 ZZ.out).1).trans ZZ.out
  clear BB QQ ZZ
  have BB := BB'
  have QQ := QQ'
  have ZZ := ZZ'
  clear BB' QQ' ZZ' b1
  obtain ⟨ok, hok⟩ : ∃ x, machOK nR z c hz hc nH Hp pc st nO K = x := ⟨_, rfl⟩
  rw [hok]
  have HOK : Hid (machOK nR z c hz hc nH Hp pc st nO K = ok) := hok
  clear hok
  cases ok with
  | false =>
    go_wp2_with (refine wpList_store_at rfl 35 (.tmp 6) (.tmp 32) rfl (w.heap.size + 1) _ eZ 35 rfl rfl ZZ.out ?_ ?_ ?_ ?_; exact (Nat.le_refl 12); exact ev_info; exact eZ_one; intro u9 hq f z)
    unfold Hid
    rw [put_ez] at hq
    have X9 : Hid _ := hq
    have B9 : Hid (Below w.heap.size w u9) := below_ft BB.out f BB.out.size (by omega)
    clear hq f z
    go_wp2
    refine bodyPost_ret (v := .agg eZ) (results_one rfl _ _ (w.heap.size + 1) _ rfl (load_at X9.out 35 _ Tryz.underlying35 rfl ev_info)) rfl ⟨.agg eZ, none, rfl, B9.out, (fun h => by have q := h.2.1; rw [show machOK nR z c hz hc nH Hp pc st nO K = false from HOK.out] at q; cases q), rfl⟩
  | true =>
    go_wp2_with fail
    refine (runTree_any b n cap L u1 ln (HA.out.below BB.out lb)).mono ?_
    rintro e u2 ⟨at', kt, ct, rfl, b2, ht⟩
    have HT : Hid (runB L n → RepN L (n + 1) u2 (fun q => u1.heap.size ≤ q) (.slice at' kt ct) 0 n) := ht
    clear ht
    have BB' : Hid (Below w.heap.size w u2) := BB.out.trans (b2.mono BB.out.size)
    have QQ' : Hid (u2.heap[w.heap.size]? = some (.cells #[.slice (some ⟨bR, 0, none⟩) nR nR, .bool z, .bool c, .bool hz, .bool hc, .slice (some ⟨bH, 0, none⟩) nH nH, .int .i64 pc, .int .i64 st, .slice (some ⟨bO, 0, none⟩) nO nO] 33)) := (b2.block _ (Array.getElem?_eq_some_iff.1 QQ.out).1).trans QQ.out
    have ZZ' : Hid (u2.heap[w.heap.size + 1]? = some (.cells eZ 35)) := (b2.block _ (Array.getElem?_eq_some_iff.1 ZZ.out).1).trans ZZ.out
    clear BB QQ ZZ
    have BB := BB'
    have QQ := QQ'
    have ZZ := ZZ'
    clear BB' QQ' ZZ' b2
    by_cases hrun : runB L n
    rotate_left
    · rw [decide_eq_false hrun]
      have HW : Hid (¬ runB L n) := hrun
      clear hrun
      go_wp2_with (refine wpList_store_at rfl 35 (.tmp 6) (.tmp 40) rfl (w.heap.size + 1) _ eZ 35 rfl rfl ZZ.out ?_ ?_ ?_ ?_; exact (Nat.le_refl 12); exact ev_info; exact eZ_one; intro u9 hq f z)
      unfold Hid
      rw [put_ez] at hq
      have X9 : Hid _ := hq
      have B9 : Hid (Below w.heap.size w u9) := below_ft BB.out f BB.out.size (by omega)
      clear hq f z
      go_wp2
      refine bodyPost_ret (v := .agg eZ) (results_one rfl _ _ (w.heap.size + 1) _ rfl (load_at X9.out 35 _ Tryz.underlying35 rfl ev_info)) rfl ⟨.agg eZ, none, rfl, B9.out, (fun h => HW.out h.1), rfl⟩
    rw [decide_eq_true hrun]
    have HRUN : Hid (runB L n) := hrun
    clear hrun
    obtain ⟨m0, m1, m2, m3, m4, m5, m6, m7, m8⟩ := e9 QQ.out
    have mq := (Array.getElem?_eq_some_iff.1 QQ.out).1
    go_wp2_with fail
    obtain ⟨y1, y2, y3, y4, y5⟩ := mach_facts HOK.out
    obtain rfl := y1
    refine (newCore_any bR 8 R z c hz hc bH nH Hp blk pc st bO nO K V u2 rfl y2 (by omega) (fun i hi => ⟨(y3 i hi).1, (y3 i hi).2.1⟩) (HM.out.below BB.out (Nat.le_refl _))).mono ?_
    rintro e u3 ⟨bC, p3, tab, rfl, b3, C3⟩
    have MK : Hid (MV.Ok (⟨R, z, c, hz, hc, nH, Hp, pc, st, nO, K, V⟩ : MV)) := mach_ok (V := V) HOK.out HR.out
    have HC3 : Hid (Core u3 u2.heap.size bC p3 0 tab (⟨R, z, c, hz, hc, nH, Hp, pc, st, nO, K, V⟩ : MV)) := C3
    have HB3 : Hid (Below u2.heap.size u2 u3) := b3
    have HB2 : Hid (Below w.heap.size w u2) := BB.out
    have lz2 := BB.out.size
    have lz3 := b3.size
    have lzq := (Array.getElem?_eq_some_iff.1 ZZ.out).1
    clear m0 m1 m2 m3 m4 m5 m6 m7 m8 mq
    clear C3 y2 y3 y4 y5
    have BB' : Hid (Below w.heap.size w u3) := BB.out.trans (b3.mono BB.out.size)
    have QQ' : Hid (u3.heap[w.heap.size]? = some (.cells #[.slice (some ⟨bR, 0, none⟩) 8 8, .bool z, .bool c, .bool hz, .bool hc, .slice (some ⟨bH, 0, none⟩) nH nH, .int .i64 pc, .int .i64 st, .slice (some ⟨bO, 0, none⟩) nO nO] 33)) := (b3.block _ (Array.getElem?_eq_some_iff.1 QQ.out).1).trans QQ.out
    have ZZ' : Hid (u3.heap[w.heap.size + 1]? = some (.cells eZ 35)) := (b3.block _ (Array.getElem?_eq_some_iff.1 ZZ.out).1).trans ZZ.out
    clear BB QQ ZZ
    have BB := BB'
    have QQ := QQ'
    have ZZ := ZZ'
    clear BB' QQ' ZZ' b3
    go_upto_region 7 with fail
    obtain ⟨u4, hu4, b4, x4⟩ : ∃ y, u3.alloc (.cells #[.pointer (some ⟨bC, 0, none⟩), .int .i64 fu, .int .i64 0] 77) = y ∧ Below u3.heap.size u3 y ∧ y.heap[u3.heap.size]? = some (.cells (dA bC fu 0) 77) := ⟨_, rfl, (Below.refl _ _).alloc (Nat.le_refl _) _, eq_new _ _⟩
    rw [hu4]
    have D4 : Hid (Dg u2 u2.heap.size u3.heap.size bC tab fu u4 ⟨(⟨R, z, c, hz, hc, nH, Hp, pc, st, nO, K, V⟩ : MV), 0, false⟩) := ⟨HB3.out.trans (b4.mono lz3), x4, ⟨p3, 0, pc, HC3.out.below b4⟩, lz3⟩
    obtain ⟨bD, hbD⟩ : ∃ y, u3.heap.size = y := ⟨_, rfl⟩
    rw [hbD] at D4 ⊢
    clear hu4 x4 HC3 HB3
    have BB' : Hid (Below w.heap.size w u4) := BB.out.trans (b4.mono BB.out.size)
    have QQ' : Hid (u4.heap[w.heap.size]? = some (.cells #[.slice (some ⟨bR, 0, none⟩) 8 8, .bool z, .bool c, .bool hz, .bool hc, .slice (some ⟨bH, 0, none⟩) nH nH, .int .i64 pc, .int .i64 st, .slice (some ⟨bO, 0, none⟩) nO nO] 33)) := (b4.block _ (Array.getElem?_eq_some_iff.1 QQ.out).1).trans QQ.out
    have ZZ' : Hid (u4.heap[w.heap.size + 1]? = some (.cells eZ 35)) := (b4.block _ (Array.getElem?_eq_some_iff.1 ZZ.out).1).trans ZZ.out
    clear BB QQ ZZ
    have BB := BB'
    have QQ := QQ'
    have ZZ := ZZ'
    clear BB' QQ' ZZ' b4
    clear hbD lz3
    have hbk := blk_any u2 u2.heap.size bD bC tab fu nO L (fun q => u1.heap.size ≤ q) hf1 (by omega) (Nat.le_refl _) (n + 1) 0 n 0 (.slice at' kt ct) (HT.out HRUN.out) (by omega) HRUN.out.1 HRUN.out.2.1
    have HBK : Hid _ := hbk
    clear hbk
    go_cut [48] (fun sv wx => ∃ (r5 : RV) (p5 : Pl) (nx5 x5 : Int), sv = .bool (decide r5.go) ∧ (Ev L fu 0 n ⟨(⟨R, z, c, hz, hc, nH, Hp, pc, st, nO, K, V⟩ : MV), 0, false⟩ r5 ∧ RGood fu nO r5) ∧ Core wx u2.heap.size bC p5 nx5 tab (r5.M.at x5) ∧ wx.heap[bD]? = some (.cells (dA bC fu r5.used) 77) ∧ wx.heap[w.heap.size + 1]? = some (.cells eZ 35) ∧ Below w.heap.size w wx)
    case first =>
      go_wp2_with fail
      have hb2 := HBK.out
      unfold BlkE at hb2
      refine (hb2 u4 ⟨(⟨R, z, c, hz, hc, nH, Hp, pc, st, nO, K, V⟩ : MV), 0, false⟩ D4.out ⟨MK.out, Int.le_refl _, hf0, by simp⟩ ⟨rfl, HST.out⟩).mono ?_
      rintro e u5 ⟨r5, rfl, v5, g5, k5, d5⟩
      obtain ⟨p5, nx5, x5, c5⟩ := d5.C
      have HH : Hid (Ev L fu 0 n ⟨(⟨R, z, c, hz, hc, nH, Hp, pc, st, nO, K, V⟩ : MV), 0, false⟩ r5 ∧ RGood fu nO r5) := ⟨v5, g5⟩
      have H2 : Hid (Core u5 u2.heap.size bC p5 nx5 tab (r5.M.at x5) ∧ u5.heap[bD]? = some (.cells (dA bC fu r5.used) 77) ∧ u5.heap[w.heap.size + 1]? = some (.cells eZ 35) ∧ Below w.heap.size w u5) := ⟨c5, d5.D, k5 _ _ _ _ ZZ.out (by unfold tyOK; decide) (by decide) (by decide), HB2.out.trans (d5.B.mono lz2)⟩
      clear hb2 v5 g5 k5 d5 c5
      go_wp2
      go_meet
      exact ⟨r5, p5, nx5, x5, rfl, HH.out, H2.out⟩
    case rest =>
    obtain ⟨r5, p5, nx5, x5, rfl, hE, hC, hD, hZ, hW⟩ := hcut
    have HE : Hid (Ev L fu 0 n ⟨(⟨R, z, c, hz, hc, nH, Hp, pc, st, nO, K, V⟩ : MV), 0, false⟩ r5 ∧ RGood fu nO r5) := hE
    have C5 : Hid (Core wc u2.heap.size bC p5 nx5 tab (r5.M.at x5)) := hC
    have D5 : Hid (wc.heap[bD]? = some (.cells (dA bC fu r5.used) 77)) := hD
    have Z5 : Hid (wc.heap[w.heap.size + 1]? = some (.cells eZ 35)) := hZ
    have B5 : Hid (Below w.heap.size w wc) := hW
    clear hE hC hD hZ hW D4 HBK ZZ BB QQ
    go_upto_if 48 with fail
    go_cut [48] (fun sv wx => ∃ (r5 : RV) (p5 : Pl) (nx5 x5 : Int), sv = .bool (decide r5.go) ∧ (Ev L fu 0 n ⟨(⟨R, z, c, hz, hc, nH, Hp, pc, st, nO, K, V⟩ : MV), 0, false⟩ r5 ∧ RGood fu nO r5) ∧ Core wx u2.heap.size bC p5 nx5 tab ({ r5.M.at x5 with st := (FM r5).st }) ∧ wx.heap[bD]? = some (.cells (dA bC fu r5.used) 77) ∧ wx.heap[w.heap.size + 1]? = some (.cells eZ 35) ∧ Below w.heap.size w wx)
    case first =>
      have d0 : wc.cell? ⟨bD, 0, none⟩ = some (.pointer (some ⟨bC, 0, none⟩)) := eq_cell D5.out 0
      have lD := (Array.getElem?_eq_some_iff.1 D5.out).1
      have lC := C5.out.lt
      obtain ⟨lC1, lC2⟩ := lC
      have cf := C5.out.free
      have g7 := C5.out.c7
      have hne := dA_ne C5.out D5.out
      have hnz : bC ≠ w.heap.size + 1 := by
        intro e
        have h1 := Z5.out
        rw [← e] at h1
        exact row_not C5.out.core h1 (by decide) rfl
      by_cases hg : r5.go
      · rw [decide_eq_true hg]
        have HFM : Hid ((FM r5).st = 1 ∧ r5.go) := ⟨if_pos hg, hg⟩
        clear hg
        go_wp2
        go_meet
        exact ⟨r5, p5, nx5, x5, by rw [decide_eq_true HFM.out.2], HE.out, by rw [HFM.out.1]; exact C5.out.setSt 1, (Below.heap_setCell _ _ _ _ hne).trans D5.out, (Below.heap_setCell _ _ _ _ (Ne.symm hnz)).trans Z5.out, B5.out.setCell (Nat.le_trans lz2 lC1) _⟩
      · rw [decide_eq_false hg]
        have HFM : Hid ((FM r5).st = r5.M.st ∧ ¬ r5.go) := ⟨if_neg hg, hg⟩
        clear hg
        go_wp2
        go_meet
        exact ⟨r5, p5, nx5, x5, by rw [decide_eq_false HFM.out.2], HE.out, by rw [HFM.out.1]; exact C5.out, D5.out, Z5.out, B5.out⟩
    case rest =>
    clear HE C5 D5 Z5 B5 p5 nx5 x5 r5
    obtain ⟨r5, p5, nx5, x5, rfl, hE, hC, hD, hZ, hW⟩ := hcut
    have HE : Hid (Ev L fu 0 n ⟨(⟨R, z, c, hz, hc, nH, Hp, pc, st, nO, K, V⟩ : MV), 0, false⟩ r5 ∧ RGood fu nO r5) := hE
    have C5 : Hid (Core wc u2.heap.size bC p5 nx5 tab ({ r5.M.at x5 with st := (FM r5).st })) := hC
    have D5 : Hid (wc.heap[bD]? = some (.cells (dA bC fu r5.used) 77)) := hD
    have Z5 : Hid (wc.heap[w.heap.size + 1]? = some (.cells eZ 35)) := hZ
    have B5 : Hid (Below w.heap.size w wc) := hW
    clear hE hC hD hZ hW
    have CN : Hid (Cnd L n 8 (⟨R, z, c, hz, hc, nH, Hp, pc, st, nO, K, V⟩ : MV) fu) := ⟨HRUN.out, HOK.out, HST.out, hf0, hf1, by show nO ≤ 100000; omega⟩
    have d0 : wc.cell? ⟨bD, 0, none⟩ = some (.pointer (some ⟨bC, 0, none⟩)) := eq_cell D5.out 0
    have lD := (Array.getElem?_eq_some_iff.1 D5.out).1
    have lC := C5.out.lt
    obtain ⟨lC1, lC2⟩ := lC
    have cf := C5.out.free
    have g6 := C5.out.c6
    have hne := dA_ne C5.out D5.out
    have hnz : bC ≠ w.heap.size + 1 := by
      intro e
      have h1 := Z5.out
      rw [← e] at h1
      exact row_not C5.out.core h1 (by decide) rfl
    go_upto_region 10 with fail
    obtain ⟨v, hv, C6, D6, Z6, B6⟩ : ∃ y, wc.setCell ⟨bC, 6, none⟩ (.int .i64 0) = y ∧ Hid (Core y u2.heap.size bC p5 nx5 tab (FM r5)) ∧ Hid (y.heap[bD]? = some (.cells (dA bC fu r5.used) 77)) ∧ Hid (y.heap[w.heap.size + 1]? = some (.cells eZ 35)) ∧ Hid (Below w.heap.size w y) := ⟨_, rfl, C5.out.setPc 0, (Below.heap_setCell _ _ _ _ hne).trans D5.out, (Below.heap_setCell _ _ _ _ (Ne.symm hnz)).trans Z5.out, B5.out.setCell (Nat.le_trans lz2 lC1) _⟩
    rw [hv]
    clear hv C5 D5 Z5 B5 d0 lD cf g6 hne hnz lC1 lC2
    have lD := (Array.getElem?_eq_some_iff.1 D6.out).1
    have lC := C6.out.lt.2
    have lZ := (Array.getElem?_eq_some_iff.1 Z6.out).1
    have r0 : ∀ w', Below v.heap.size v w' → w'.cell? ⟨bD, 0, none⟩ = some (.pointer (some ⟨bC, 0, none⟩)) := fun w' h => (h.cell (p := ⟨bD, 0, none⟩) lD).trans (eq_cell D6.out 0)
    have r2 : ∀ w', Below v.heap.size v w' → w'.cell? ⟨bD, 2, none⟩ = some (.int .i64 r5.used) := fun w' h => (h.cell (p := ⟨bD, 2, none⟩) lD).trans (eq_cell D6.out 2)
    have q0 : ∀ w', Below v.heap.size v w' → w'.cell? ⟨bC, 0, none⟩ = some (.slice (some ⟨p5.bR, 0, none⟩) 8 p5.cR) := fun w' h => (h.cell (p := ⟨bC, 0, none⟩) lC).trans C6.out.c0
    have q1' : ∀ w', Below v.heap.size v w' → w'.cell? ⟨bC, 1, none⟩ = some (.bool (FM r5).z) := fun w' h => (h.cell (p := ⟨bC, 1, none⟩) lC).trans C6.out.c1
    have q2' : ∀ w', Below v.heap.size v w' → w'.cell? ⟨bC, 2, none⟩ = some (.bool (FM r5).c) := fun w' h => (h.cell (p := ⟨bC, 2, none⟩) lC).trans C6.out.c2
    have q3 : ∀ w', Below v.heap.size v w' → w'.cell? ⟨bC, 3, none⟩ = some (.bool (FM r5).hz) := fun w' h => (h.cell (p := ⟨bC, 3, none⟩) lC).trans C6.out.c3
    have q4 : ∀ w', Below v.heap.size v w' → w'.cell? ⟨bC, 4, none⟩ = some (.bool (FM r5).hc) := fun w' h => (h.cell (p := ⟨bC, 4, none⟩) lC).trans C6.out.c4
    have q5 : ∀ w', Below v.heap.size v w' → w'.cell? ⟨bC, 5, none⟩ = some (.slice p5.aH (FM r5).nH p5.cH) := fun w' h => (h.cell (p := ⟨bC, 5, none⟩) lC).trans C6.out.c5
    have q6 : ∀ w', Below v.heap.size v w' → w'.cell? ⟨bC, 6, none⟩ = some (.int .i64 (FM r5).pc) := fun w' h => (h.cell (p := ⟨bC, 6, none⟩) lC).trans C6.out.c6
    have q7 : ∀ w', Below v.heap.size v w' → w'.cell? ⟨bC, 7, none⟩ = some (.int .i64 (FM r5).st) := fun w' h => (h.cell (p := ⟨bC, 7, none⟩) lC).trans C6.out.c7
    have q8 : ∀ w', Below v.heap.size v w' → w'.cell? ⟨bC, 8, none⟩ = some (.slice p5.aO (FM r5).nO p5.cO) := fun w' h => (h.cell (p := ⟨bC, 8, none⟩) lC).trans C6.out.c8
    have hS : Below v.heap.size v v.drew := (Below.refl _ _).drew
    refine wp_region_L (T := fun w' => Below v.heap.size v w') (s := 21) (by kernel_rfl) hS (fun _ => ?_)
    refine wpAnyL_taT 0 rfl ?_
    refine wpAnyL_taT 1 rfl ?_
    refine wpAnyL_taT 2 rfl ?_
    refine wpAnyL_taT 3 rfl ?_
    refine wpAnyL_taT 4 rfl ?_
    refine wpAnyL_taT 5 rfl ?_
    refine wpAnyL_taT 6 rfl ?_
    refine wpAnyL_taT 7 rfl ?_
    refine wpAnyL_taT 8 rfl ?_
    refine wpAnyL_taT 9 rfl ?_
    refine wpAnyL_taT 10 rfl ?_
    refine wpAnyL_taT 11 rfl ?_
    refine wpAnyL_taT 12 rfl ?_
    refine wpAnyL_taT 13 rfl ?_
    refine wpAnyL_taT 14 rfl ?_
    refine wpAnyL_taT 15 rfl ?_
    refine wpAnyL_taT 16 rfl ?_
    refine wpAnyL_taT 17 rfl ?_
    refine wpAnyL_taT 18 rfl ?_
    refine wpAnyL_taT 19 rfl ?_
    refine wpAnyL_taT 20 rfl ?_
    refine wpAnyL_store rfl (by kernel_rfl) (by kernel_rfl) (fun KK hK => ?_)
    rw [if_pos (by kernel_rfl)]
    refine wpL_store_at 35 (.tmp 6) (.tmp 83) rfl (w.heap.size + 1) eZ (evA p5 (FM r5) ((FM r5).st != 0) r5.used) 35 rfl rfl ?_ ?_ ?_ ?_ ?_
    · exact (hS.block _ lZ).trans Z6.out
    · exact (Nat.le_refl 12)
    · exact ev_info
    · exact evA_one _ _ _ _
    intro u9 hq f zz
    rw [put_ea] at hq
    have X9 : Hid _ := hq
    have B9 : Hid (Below w.heap.size w u9) := below_ft (B6.out.trans (hS.mono B6.out.size)) f (Nat.le_trans B6.out.size hS.size) (by omega)
    have M9 : Hid (Mem u9 u2.heap.size p5 (FM r5)) := (C6.out.mem.below hS).off f ((hS.block _ lZ).trans Z6.out) (by decide) (by decide) (by decide) (by decide)
    refine hK.out _ _ ?_
    clear hK KK hq f zz hS r0 r2 q0 q1' q2' q3 q4 q5 q6 q7 q8 C6 D6 Z6 B6
    go_wp2
    refine bodyPost_ret (v := .agg (evA p5 (FM r5) ((FM r5).st != 0) r5.used)) (results_one rfl _ _ (w.heap.size + 1) _ rfl (load_at X9.out 35 _ Tryz.underlying35 rfl ev_info)) rfl ⟨_, some (FM r5, !r5.out, r5.used), rfl, B9.out, ⟨CN.out, r5, HE.out.1, HE.out.2, rfl⟩, p5, by rw [FM_done (HE.out.1.outs fun h => by cases h)], M9.out.mono lz2⟩
end Go.Proofs.YtlkjdanoejdgbaaGreat
