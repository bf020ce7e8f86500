import Derived.Test.YtlkjdanoejdgbaaGreatOfEvSpec
import Derived.Test.YtlkjdanoejdgbaaGreatOfEvAns
import Derived.Test.YtlkjdanoejdgbaaGreatSpecCopy
import Derived.Test.YtlkjdanoejdgbaaGreatMachSpec
/- Eval of the model. -/
namespace Go.Proofs.YtlkjdanoejdgbaaGreat
open Go.RowKit
theorem l3Eval_any (L : Nat → SV) (fu : Int) (Bd b n : Nat) (hf : fu ≤ 40000) (hB : Bd ≤ 200000) (ln : n ≤ 2000) : ∀ (m i te : Nat) (depth : Int), te - i ≤ m → i ≤ te → te ≤ n → (chk L 0 0 321 i te depth).1 = 0 → EvC L fu Bd b n i te := by
  intro m
  induction m with
  | zero =>
    intro i te depth hm hit hte hck
    exact l3Eval_go L fu Bd b n i te depth hf hB hit hte ln hck (fun i' te' d h1 h2 h3 h4 => by omega)
  | succ m ih =>
    intro i te depth hm hit hte hck
    exact l3Eval_go L fu Bd b n i te depth hf hB hit hte ln hck (fun i' te' d h1 h2 h3 h4 h5 => ih i' te' d (by omega) h2 (by omega) h5)
theorem r12 {u : World} {q : Nat} {fu : Int} {p : Pl} {r : RV} (h : u.heap[q]? = some (.cells (rA p fu r) 54)) : u.cell? ⟨q, 0, none⟩ = some (.slice (some ⟨p.bR, 0, none⟩) 8 p.cR) ∧ u.cell? ⟨q, 1, none⟩ = some (.bool r.M.z) ∧ u.cell? ⟨q, 2, none⟩ = some (.bool r.M.c) ∧ u.cell? ⟨q, 3, none⟩ = some (.bool r.M.hz) ∧ u.cell? ⟨q, 4, none⟩ = some (.bool r.M.hc) ∧ u.cell? ⟨q, 5, none⟩ = some (.slice p.aH r.M.nH p.cH) ∧ u.cell? ⟨q, 6, none⟩ = some (.int .i64 r.M.pc) ∧ u.cell? ⟨q, 7, none⟩ = some (.int .i64 r.M.st) ∧ u.cell? ⟨q, 8, none⟩ = some (.slice p.aO r.M.nO p.cO) ∧ u.cell? ⟨q, 9, none⟩ = some (.int .i64 r.used) ∧ u.cell? ⟨q, 10, none⟩ = some (.int .i64 fu) ∧ u.cell? ⟨q, 11, none⟩ = some (.bool r.out) :=
  ⟨eq_cell h 0, eq_cell h 1, eq_cell h 2, eq_cell h 3, eq_cell h 4, eq_cell h 5, eq_cell h 6, eq_cell h 7, eq_cell h 8, eq_cell h 9, eq_cell h 10, eq_cell h 11⟩
theorem set_pc (p : Pl) (fu : Int) (r : RV) (v : Int) : (rA p fu r).setIfInBounds 6 (.int .i64 v) = rA p fu ⟨{ r.M with pc := v }, r.used, r.out⟩ := by simp [rA]
theorem set_st (p : Pl) (fu : Int) (r : RV) (v : Int) : (rA p fu r).setIfInBounds 7 (.int .i64 v) = rA p fu ⟨{ r.M with st := v }, r.used, r.out⟩ := by simp [rA]
set_option maxRecDepth 20000 in
set_option maxHeartbeats 8000000 in
theorem specEval_any (b n cap : Nat) (L : Nat → SV) (bR nR : Nat) (R : Nat → Int) (z c hz hc : Bool) (bH nH : Nat) (Hp : Nat → HeapV) (blk : Nat → Nat) (pc st : Int) (bO nO : Nat) (K V : Nat → Int) (fu : Int) (w : World) (ln : n ≤ 1048576) (hcap : n ≤ cap) (hA : Arr w b (n * 11) (stF L)) (hs : Small nR nH Hp nO) (hr : InRange R nH Hp) (hm : MachCp w bR nR R bH nH Hp blk bO nO K V) :
    Calls Tryz.prog 6 #[.slice (some ⟨b, 0, none⟩) n cap, .agg #[.slice (some ⟨bR, 0, none⟩) nR nR, .bool z, .bool c, .bool hz, .bool hc, .slice (some ⟨bH, 0, none⟩) nH nH, .int .i64 pc, .int .i64 st, .slice (some ⟨bO, 0, none⟩) nO nO], .int .i64 fu] w fun e w' => ∃ v x, e = .returned v ∧ Below w.heap.size w w' ∧ ER L n nR (⟨R, z, c, hz, hc, nH, Hp, pc, st, nO, K, V⟩ : MV) fu x ∧ AnsE w' w.heap.size v x := by
  have HA : Hid (Arr w b (n * 11) (stF L)) := hA
  have HS : Hid (Small nR nH Hp nO) := hs
  have HR : Hid (InRange R nH Hp) := hr
  have HM : Hid (MachCp w bR nR R bH nH Hp blk bO nO K V) := hm
  have lb := hA.lt
  clear hA hs hr hm
  go_enter Tryz.func6, Tryz.ntmps6
  go_upto_region 1 with fail
  obtain ⟨u0, hu0, x0, x1, x2⟩ : ∃ y, (w.alloc (.cells #[.slice (some ⟨bR, 0, none⟩) nR nR, .bool z, .bool c, .bool hz, .bool hc, .slice (some ⟨bH, 0, none⟩) nH nH, .int .i64 pc, .int .i64 st, .slice (some ⟨bO, 0, none⟩) nO nO] 33)).alloc (.cells #[.bool false, .bool false, .int .i64 0, .slice none 0 0, .bool false, .bool false, .bool false, .bool false, .slice none 0 0, .int .i64 0, .int .i64 0, .slice none 0 0] 35) = y ∧ Below w.heap.size w y ∧ y.heap[w.heap.size]? = some (.cells #[.slice (some ⟨bR, 0, none⟩) nR nR, .bool z, .bool c, .bool hz, .bool hc, .slice (some ⟨bH, 0, none⟩) nH nH, .int .i64 pc, .int .i64 st, .slice (some ⟨bO, 0, none⟩) nO nO] 33) ∧ y.heap[w.heap.size + 1]? = some (.cells eZ 35) :=
    ⟨_, rfl, ((Below.refl _ _).alloc (Nat.le_refl _) _).alloc (by simp) _, (Below.heap_alloc _ _ _ (by simp)).trans (eq_new _ _), by have := eq_new (w.alloc (.cells #[.slice (some ⟨bR, 0, none⟩) nR nR, .bool z, .bool c, .bool hz, .bool hc, .slice (some ⟨bH, 0, none⟩) nH nH, .int .i64 pc, .int .i64 st, .slice (some ⟨bO, 0, none⟩) nO nO] 33)) (.cells eZ 35); rw [World.size_alloc] at this; exact this⟩
  rw [hu0]
  have BB : Hid (Below w.heap.size w u0) := x0
  have QQ : Hid (u0.heap[w.heap.size]? = some (.cells #[.slice (some ⟨bR, 0, none⟩) nR nR, .bool z, .bool c, .bool hz, .bool hc, .slice (some ⟨bH, 0, none⟩) nH nH, .int .i64 pc, .int .i64 st, .slice (some ⟨bO, 0, none⟩) nO nO] 33)) := x1
  have ZZ : Hid (u0.heap[w.heap.size + 1]? = some (.cells eZ 35)) := x2
  clear hu0 x0 x1 x2
  go_wp2_with fail
  refine (l3Runnable_any b n cap L u0 ln (HA.out.below BB.out lb)).mono ?_
  rintro e u1 ⟨rfl, b1⟩
  have BB' : Hid (Below w.heap.size w u1) := BB.out.trans (b1.mono BB.out.size)
  have QQ' : Hid (u1.heap[w.heap.size]? = some (.cells #[.slice (some ⟨bR, 0, none⟩) nR nR, .bool z, .bool c, .bool hz, .bool hc, .slice (some ⟨bH, 0, none⟩) nH nH, .int .i64 pc, .int .i64 st, .slice (some ⟨bO, 0, none⟩) nO nO] 33)) := (b1.block _ (Array.getElem?_eq_some_iff.1 QQ.out).1).trans QQ.out
  have ZZ' : Hid (u1.heap[w.heap.size + 1]? = some (.cells eZ 35)) := (b1.block _ (Array.getElem?_eq_some_iff.1 ZZ.out).1).trans ZZ.out
  clear BB QQ ZZ
  have BB := BB'
  have QQ := QQ'
  have ZZ := ZZ'
  clear BB' QQ' ZZ' b1
  by_cases hrun : runB L n
  rotate_left
  · rw [decide_eq_false hrun]
    have HW : Hid (¬ runB L n) := hrun
    clear hrun
    go_wp2_with (refine wpList_store_at rfl 35 (.tmp 6) (.tmp 32) rfl (w.heap.size + 1) _ eZ 35 rfl rfl ZZ.out ?_ ?_ ?_ ?_; exact (Nat.le_refl 12); exact ev_info; exact eZ_one; intro u9 hq f z)
    unfold Hid
    rw [put_ez] at hq
    have X9 : Hid _ := hq
    have B9 : Hid (Below w.heap.size w u9) := below_ft BB.out f BB.out.size (by omega)
    clear hq f z
    go_wp2
    refine bodyPost_ret (v := .agg eZ) (results_one rfl _ _ (w.heap.size + 1) _ rfl (load_at X9.out 35 _ Tryz.underlying35 rfl ev_info)) rfl ⟨.agg eZ, none, rfl, B9.out, (fun h => HW.out h.1), rfl⟩
  rw [decide_eq_true hrun]
  have HRUN : Hid (runB L n) := hrun
  clear hrun
  obtain ⟨m0, m1, m2, m3, m4, m5, m6, m7, m8⟩ := e9 QQ.out
  have mq := (Array.getElem?_eq_some_iff.1 QQ.out).1
  go_wp2_with fail
  refine (specMach_any bR nR z c hz hc R bH nH Hp blk pc st bO nO K V u1 HS.out HR.out.base (HM.out.below BB.out (Nat.le_refl _))).mono ?_
  rintro e u2 ⟨rfl, b2⟩
  clear m0 m1 m2 m3 m4 m5 m6 m7 m8 mq
  have BB' : Hid (Below w.heap.size w u2) := BB.out.trans (b2.mono BB.out.size)
  have QQ' : Hid (u2.heap[w.heap.size]? = some (.cells #[.slice (some ⟨bR, 0, none⟩) nR nR, .bool z, .bool c, .bool hz, .bool hc, .slice (some ⟨bH, 0, none⟩) nH nH, .int .i64 pc, .int .i64 st, .slice (some ⟨bO, 0, none⟩) nO nO] 33)) := (b2.block _ (Array.getElem?_eq_some_iff.1 QQ.out).1).trans QQ.out
  have ZZ' : Hid (u2.heap[w.heap.size + 1]? = some (.cells eZ 35)) := (b2.block _ (Array.getElem?_eq_some_iff.1 ZZ.out).1).trans ZZ.out
  clear BB QQ ZZ
  have BB := BB'
  have QQ := QQ'
  have ZZ := ZZ'
  clear BB' QQ' ZZ' b2
  obtain ⟨ok, hok⟩ : ∃ x, machOK nR z c hz hc nH Hp pc st nO K = x := ⟨_, rfl⟩
  rw [hok]
  have HOK : Hid (machOK nR z c hz hc nH Hp pc st nO K = ok) := hok
  clear hok
  cases ok with
  | false =>
    go_wp2_with (refine wpList_store_at rfl 35 (.tmp 6) (.tmp 32) rfl (w.heap.size + 1) _ eZ 35 rfl rfl ZZ.out ?_ ?_ ?_ ?_; exact (Nat.le_refl 12); exact ev_info; exact eZ_one; intro u9 hq f z)
    unfold Hid
    rw [put_ez] at hq
    have X9 : Hid _ := hq
    have B9 : Hid (Below w.heap.size w u9) := below_ft BB.out f BB.out.size (by omega)
    clear hq f z
    go_wp2
    refine bodyPost_ret (v := .agg eZ) (results_one rfl _ _ (w.heap.size + 1) _ rfl (load_at X9.out 35 _ Tryz.underlying35 rfl ev_info)) rfl ⟨.agg eZ, none, rfl, B9.out, (fun h => by have q := h.2.1; rw [show machOK nR z c hz hc nH Hp pc st nO K = false from HOK.out] at q; cases q), rfl⟩
  | true =>
    obtain ⟨m0, m1, m2, m3, m4, m5, m6, m7, m8⟩ := e9 QQ.out
    have mq := (Array.getElem?_eq_some_iff.1 QQ.out).1
    by_cases hst : st = 0
    rotate_left
    · have e1 : (st != 0) = true := by simp [hst]
      have HW : Hid (st ≠ 0) := hst
      clear hst
      go_wp2_with (refine wpList_store_at rfl 35 (.tmp 6) (.tmp 32) rfl (w.heap.size + 1) _ eZ 35 rfl rfl ZZ.out ?_ ?_ ?_ ?_; exact (Nat.le_refl 12); exact ev_info; exact eZ_one; intro u9 hq f z)
      unfold Hid
      rw [put_ez] at hq
      have X9 : Hid _ := hq
      have B9 : Hid (Below w.heap.size w u9) := below_ft BB.out f BB.out.size (by omega)
      clear hq f z
      go_wp2
      refine bodyPost_ret (v := .agg eZ) (results_one rfl _ _ (w.heap.size + 1) _ rfl (load_at X9.out 35 _ Tryz.underlying35 rfl ev_info)) rfl ⟨.agg eZ, none, rfl, B9.out, (fun h => HW.out h.2.2.1), rfl⟩
    have e1 : (st != 0) = false := by simp [hst]
    have HST : Hid (st = 0) := hst
    clear hst
    go_wp2_with fail
    refine (in_any fu 0 40000 u2).mono ?_
    rintro e u3 ⟨rfl, hw3⟩
    rw [hw3]
    clear hw3 u3
    by_cases hfu : 0 ≤ fu ∧ fu ≤ 40000
    rotate_left
    · rw [show inB fu 0 40000 = false by simp [inB]; omega]
      have HW : Hid (¬ (0 ≤ fu ∧ fu ≤ 40000)) := hfu
      clear hfu
      go_wp2_with (refine wpList_store_at rfl 35 (.tmp 6) (.tmp 32) rfl (w.heap.size + 1) _ eZ 35 rfl rfl ZZ.out ?_ ?_ ?_ ?_; exact (Nat.le_refl 12); exact ev_info; exact eZ_one; intro u9 hq f z)
      unfold Hid
      rw [put_ez] at hq
      have X9 : Hid _ := hq
      have B9 : Hid (Below w.heap.size w u9) := below_ft BB.out f BB.out.size (by omega)
      clear hq f z
      go_wp2
      refine bodyPost_ret (v := .agg eZ) (results_one rfl _ _ (w.heap.size + 1) _ rfl (load_at X9.out 35 _ Tryz.underlying35 rfl ev_info)) rfl ⟨.agg eZ, none, rfl, B9.out, (fun h => HW.out ⟨h.2.2.2.1, h.2.2.2.2.1⟩), rfl⟩
    rw [show inB fu 0 40000 = true by simp [inB]; omega]
    by_cases ho : 100000 < nO
    · have e2 : (100000 : Int) < (nO : Int) := by omega
      have HW : Hid (¬ nO ≤ 100000) := (by omega : ¬ nO ≤ 100000)
      go_wp2_with (refine wpList_store_at rfl 35 (.tmp 6) (.tmp 32) rfl (w.heap.size + 1) _ eZ 35 rfl rfl ZZ.out ?_ ?_ ?_ ?_; exact (Nat.le_refl 12); exact ev_info; exact eZ_one; intro u9 hq f z)
      unfold Hid
      rw [put_ez] at hq
      have X9 : Hid _ := hq
      have B9 : Hid (Below w.heap.size w u9) := below_ft BB.out f BB.out.size (by omega)
      clear hq f z
      go_wp2
      refine bodyPost_ret (v := .agg eZ) (results_one rfl _ _ (w.heap.size + 1) _ rfl (load_at X9.out 35 _ Tryz.underlying35 rfl ev_info)) rfl ⟨.agg eZ, none, rfl, B9.out, (fun h => HW.out h.2.2.2.2.2), rfl⟩
    have e2 : ¬ (100000 : Int) < (nO : Int) := by omega
    obtain ⟨hf0, hf1⟩ := hfu
    go_wp2_with fail
    obtain ⟨q1, q2, q3, q4, q5⟩ := mach_facts HOK.out
    obtain rfl := q1
    refine (l1Copy_any bR 8 R z c hz hc bH nH Hp blk pc st bO nO K V u2 rfl q2 (by omega) (fun i hi => ⟨(q3 i hi).1, (q3 i hi).2.1⟩) (HM.out.below BB.out (Nat.le_refl _))).mono ?_
    rintro e u3 ⟨p3, rfl, b3, M3⟩
    have MK : Hid (MV.Ok (⟨R, z, c, hz, hc, nH, Hp, pc, st, nO, K, V⟩ : MV)) := mach_ok (V := V) HOK.out HR.out
    have HM3 : Hid (Mem u3 u2.heap.size p3 (⟨R, z, c, hz, hc, nH, Hp, pc, st, nO, K, V⟩ : MV)) := M3
    have lz2 := BB.out.size
    have lzq := (Array.getElem?_eq_some_iff.1 ZZ.out).1
    have lz3 := b3.size
    have HB3 : Hid (Below u2.heap.size u2 u3) := b3
    clear m0 m1 m2 m3 m4 m5 m6 m7 m8 mq
    clear M3 q2 q3 q4 q5
    have BB' : Hid (Below w.heap.size w u3) := BB.out.trans (b3.mono BB.out.size)
    have QQ' : Hid (u3.heap[w.heap.size]? = some (.cells #[.slice (some ⟨bR, 0, none⟩) 8 8, .bool z, .bool c, .bool hz, .bool hc, .slice (some ⟨bH, 0, none⟩) nH nH, .int .i64 pc, .int .i64 st, .slice (some ⟨bO, 0, none⟩) nO nO] 33)) := (b3.block _ (Array.getElem?_eq_some_iff.1 QQ.out).1).trans QQ.out
    have ZZ' : Hid (u3.heap[w.heap.size + 1]? = some (.cells eZ 35)) := (b3.block _ (Array.getElem?_eq_some_iff.1 ZZ.out).1).trans ZZ.out
    clear BB QQ ZZ
    have BB := BB'
    have QQ := QQ'
    have ZZ := ZZ'
    clear BB' QQ' ZZ' b3
    go_wp2_with fail
    have hcl := l3Eval_any L fu nO b n hf1 (by omega) HRUN.out.1 n 0 n 0 (by omega) (by omega) (by omega) HRUN.out.2.1
    unfold EvC at hcl
    have AU : Hid (Arr u3 b (n * 11) (stF L)) := HA.out.below BB.out lb
    have hc2 := hcl 0 n cap u2.heap.size p3 ⟨(⟨R, z, c, hz, hc, nH, Hp, pc, st, nO, K, V⟩ : MV), 0, false⟩ u3 (by omega) (by omega) hcap AU.out (by omega) (by omega) HM3.out ⟨MK.out, Int.le_refl _, hf0, by simp⟩
    refine hc2.mono ?_
    rintro e u4 ⟨p4, r4, rfl, ⟨v4, g4⟩, m4, b4, k4⟩
    have HE : Hid (Ev L fu 0 n ⟨(⟨R, z, c, hz, hc, nH, Hp, pc, st, nO, K, V⟩ : MV), 0, false⟩ r4 ∧ RGood fu nO r4) := ⟨v4, g4⟩
    have HM4 : Hid (Mem u4 u2.heap.size p4 r4.M) := m4
    have ZZ' : Hid (u4.heap[w.heap.size + 1]? = some (.cells eZ 35)) := (b4.block _ (by omega)).trans ZZ.out
    have BB' : Hid (Below w.heap.size w u4) := BB.out.trans (b4.mono lz2)
    have lz4 := b4.size
    clear ZZ BB QQ HM3 HB3 hcl hc2 v4 g4 m4 b4 k4 AU
    have BB := BB'
    have ZZ := ZZ'
    clear BB' ZZ'
    unfold rA
    go_upto_region 4 with fail
    obtain ⟨u5, hu5, b5, x5⟩ : ∃ y, u4.alloc (.cells #[.slice (some ⟨p4.bR, 0, none⟩) 8 p4.cR, .bool r4.M.z, .bool r4.M.c, .bool r4.M.hz, .bool r4.M.hc, .slice p4.aH r4.M.nH p4.cH, .int .i64 r4.M.pc, .int .i64 r4.M.st, .slice p4.aO r4.M.nO p4.cO, .int .i64 r4.used, .int .i64 fu, .bool r4.out] 54) = y ∧ Below u4.heap.size u4 y ∧ y.heap[u4.heap.size]? = some (.cells (rA p4 fu r4) 54) := ⟨_, rfl, (Below.refl _ _).alloc (Nat.le_refl _) _, eq_new _ _⟩
    rw [hu5]
    have M5 : Hid (Mem u5 u2.heap.size p4 r4.M) := HM4.out.below b5
    have Z5 : Hid (u5.heap[w.heap.size + 1]? = some (.cells eZ 35)) := (b5.block _ (Array.getElem?_eq_some_iff.1 ZZ.out).1).trans ZZ.out
    have B5 : Hid (Below w.heap.size w u5) := BB.out.trans (b5.mono BB.out.size)
    have zq := (Array.getElem?_eq_some_iff.1 ZZ.out).1
    have bq := BB.out.size
    obtain ⟨q7, hq7⟩ : ∃ y, u4.heap.size = y := ⟨_, rfl⟩
    rw [hq7] at x5 zq bq ⊢
    have X5 : Hid (u5.heap[q7]? = some (.cells (rA p4 fu r4) 54)) := x5
    clear hu5 b5 x5 hq7 HM4 ZZ BB
    have c6 := eq_cell X5.out 6
    rw [show (rA p4 fu r4)[6]? = some (.int .i64 r4.M.pc) from rfl] at c6
    have cf := fun j => eq_free X5.out j
    have cz := (Array.getElem?_eq_some_iff.1 X5.out).1
    go_upto_region 5 with fail
    obtain ⟨u6, hu6, f6, x6⟩ : ∃ y, u5.setCell ⟨q7, 6, none⟩ (.int .i64 0) = y ∧ Ft q7 u5 y ∧ y.heap[q7]? = some (.cells (rA p4 fu ⟨{ r4.M with pc := 0 }, r4.used, r4.out⟩) 54) := ⟨_, rfl, Ft.set (Ft.refl _ _) _ _, by rw [← set_pc]; exact eq_set X5.out 6 _⟩
    rw [hu6]
    have M6 : Hid (Mem u6 u2.heap.size p4 r4.M) := M5.out.off f6 X5.out (by decide) (by decide) (by decide) (by decide)
    have Z6 : Hid (u6.heap[w.heap.size + 1]? = some (.cells eZ 35)) := (f6.block _ (Array.getElem?_eq_some_iff.1 Z5.out).1 (by omega)).trans Z5.out
    have B6 : Hid (Below w.heap.size w u6) := below_ft B5.out f6 B5.out.size (by omega)
    have X6 : Hid (u6.heap[q7]? = some (.cells (rA p4 fu ⟨{ r4.M with pc := 0 }, r4.used, r4.out⟩) 54)) := x6
    clear hu6 f6 x6 c6 cf cz M5 Z5 B5 X5
    obtain ⟨e0, e1, e2, e3, e4, e5, e6, e7, e8, e9', e10, e11⟩ := r12 X6.out
    have eq := (Array.getElem?_eq_some_iff.1 X6.out).1
    dsimp only at e0 e1 e2 e3 e4 e5 e6 e7 e8 e9' e10 e11
    go_wp2_with fail
    refine (l3Going_any p4 fu ⟨{ r4.M with pc := 0 }, r4.used, r4.out⟩ u6).mono ?_
    rintro e u7 ⟨rfl, b7⟩
    rw [show decide (RV.go ⟨{ r4.M with pc := 0 }, r4.used, r4.out⟩) = decide r4.go from rfl]
    have M7 : Hid (Mem u7 u2.heap.size p4 r4.M) := M6.out.below b7
    have Z7 : Hid (u7.heap[w.heap.size + 1]? = some (.cells eZ 35)) := (b7.block _ (Array.getElem?_eq_some_iff.1 Z6.out).1).trans Z6.out
    have B7 : Hid (Below w.heap.size w u7) := B6.out.trans (b7.mono B6.out.size)
    have X7 : Hid (u7.heap[q7]? = some (.cells (rA p4 fu ⟨{ r4.M with pc := 0 }, r4.used, r4.out⟩) 54)) := (b7.block _ (Array.getElem?_eq_some_iff.1 X6.out).1).trans X6.out
    clear b7 M6 Z6 B6 X6
    clear e0 e1 e2 e3 e4 e5 e6 e7 e8 e9' e10 e11 eq
    have CN : Hid (Cnd L n 8 (⟨R, z, c, hz, hc, nH, Hp, pc, st, nO, K, V⟩ : MV) fu) := ⟨HRUN.out, HOK.out, HST.out, hf0, hf1, by show nO ≤ 100000; omega⟩
    by_cases hg : r4.go
    · rw [decide_eq_true hg]
      have HFM : Hid (FM r4 = { r4.M with pc := 0, st := 1 }) := (by unfold FM; rw [if_pos hg] : FM r4 = { r4.M with pc := 0, st := 1 })
      clear hg
      have c7 := eq_cell X7.out 7
      rw [show (rA p4 fu ⟨{ r4.M with pc := 0 }, r4.used, r4.out⟩)[7]? = some (.int .i64 r4.M.st) from rfl] at c7
      have cf := fun j => eq_free X7.out j
      have cz := (Array.getElem?_eq_some_iff.1 X7.out).1
      go_upto_region 7 with fail
      obtain ⟨u8, hu8, f8, x8⟩ : ∃ y, u7.setCell ⟨q7, 7, none⟩ (.int .i64 1) = y ∧ Ft q7 u7 y ∧ y.heap[q7]? = some (.cells (rA p4 fu ⟨{ r4.M with pc := 0, st := 1 }, r4.used, r4.out⟩) 54) := ⟨_, rfl, Ft.set (Ft.refl _ _) _ _, (eq_set X7.out 7 _).trans (by rw [set_st])⟩
      rw [hu8]
      have M8 : Hid (Mem u8 u2.heap.size p4 r4.M) := M7.out.off f8 X7.out (by decide) (by decide) (by decide) (by decide)
      have Z8 : Hid (u8.heap[w.heap.size + 1]? = some (.cells eZ 35)) := (f8.block _ (Array.getElem?_eq_some_iff.1 Z7.out).1 (by omega)).trans Z7.out
      have B8 : Hid (Below w.heap.size w u8) := below_ft B7.out f8 B7.out.size (by omega)
      have X8 : Hid (u8.heap[q7]? = some (.cells (rA p4 fu ⟨{ r4.M with pc := 0, st := 1 }, r4.used, r4.out⟩) 54)) := x8
      clear hu8 f8 x8 c7 cf cz M7 Z7 B7 X7
      obtain ⟨e0, e1, e2, e3, e4, e5, e6, e7, e8, e9', e10, e11⟩ := r12 X8.out
      have eq := (Array.getElem?_eq_some_iff.1 X8.out).1
      dsimp only at e0 e1 e2 e3 e4 e5 e6 e7 e8 e9' e10 e11
      go_wp2_with (refine wpList_store_at rfl 35 (.tmp 6) (.tmp 52) rfl (w.heap.size + 1) _ (evA p4 { r4.M with pc := 0, st := 1 } (!r4.out) r4.used) 35 rfl rfl Z8.out ?_ ?_ ?_ ?_; exact (Nat.le_refl 12); exact ev_info; exact evA_one _ _ _ _; intro u9 hq f z)
      unfold Hid
      rw [put_ea] at hq
      have X9 : Hid _ := hq
      have B9 : Hid (Below w.heap.size w u9) := below_ft B8.out f B8.out.size (by omega)
      have M9 : Hid (Mem u9 u2.heap.size p4 r4.M) := M8.out.off f Z8.out (by decide) (by decide) (by decide) (by decide)
      clear hq f z
      clear e0 e1 e2 e3 e4 e5 e6 e7 e8 e9' e10 e11 eq
      go_wp2
      refine bodyPost_ret (v := .agg (evA p4 { r4.M with pc := 0, st := 1 } (!r4.out) r4.used)) (results_one rfl _ _ (w.heap.size + 1) _ rfl (load_at X9.out 35 _ Tryz.underlying35 rfl ev_info)) rfl ⟨_, some (FM r4, !r4.out, r4.used), rfl, B9.out, ⟨CN.out, r4, HE.out.1, HE.out.2, rfl⟩, p4, by rw [HFM.out], M9.out.fm.mono (by omega)⟩
    · rw [decide_eq_false hg]
      have HFM : Hid (FM r4 = { r4.M with pc := 0 }) := (by unfold FM; rw [if_neg hg] : FM r4 = { r4.M with pc := 0 })
      clear hg
      obtain ⟨e0, e1, e2, e3, e4, e5, e6, e7, e8, e9', e10, e11⟩ := r12 X7.out
      have eq := (Array.getElem?_eq_some_iff.1 X7.out).1
      dsimp only at e0 e1 e2 e3 e4 e5 e6 e7 e8 e9' e10 e11
      go_wp2_with (refine wpList_store_at rfl 35 (.tmp 6) (.tmp 52) rfl (w.heap.size + 1) _ (evA p4 { r4.M with pc := 0 } (!r4.out) r4.used) 35 rfl rfl Z7.out ?_ ?_ ?_ ?_; exact (Nat.le_refl 12); exact ev_info; exact evA_one _ _ _ _; intro u9 hq f z)
      unfold Hid
      rw [put_ea] at hq
      have X9 : Hid _ := hq
      have B9 : Hid (Below w.heap.size w u9) := below_ft B7.out f B7.out.size (by omega)
      have M9 : Hid (Mem u9 u2.heap.size p4 r4.M) := M7.out.off f Z7.out (by decide) (by decide) (by decide) (by decide)
      clear hq f z
      clear e0 e1 e2 e3 e4 e5 e6 e7 e8 e9' e10 e11 eq
      go_wp2
      refine bodyPost_ret (v := .agg (evA p4 { r4.M with pc := 0 } (!r4.out) r4.used)) (results_one rfl _ _ (w.heap.size + 1) _ rfl (load_at X9.out 35 _ Tryz.underlying35 rfl ev_info)) rfl ⟨_, some (FM r4, !r4.out, r4.used), rfl, B9.out, ⟨CN.out, r4, HE.out.1, HE.out.2, rfl⟩, p4, by rw [HFM.out], M9.out.fm.mono (by omega)⟩
end Go.Proofs.YtlkjdanoejdgbaaGreat
