import Derived.Test.YtjnooklalbcamaaOfTransOpsE
import Derived.Test.YtjnooklalbcamaaOfTransFacts
/- What an instruction works on: the program's word. -/
namespace Go.Proofs.Ytjnooklalbcamaa
open Go.RowKit
set_option maxRecDepth 20000 in
set_option maxHeartbeats 8000000 in
theorem operandsOf_TTd (V : Nat → VV) (z c : Int) (FA : Array Value) (hF : FA = facA V z c) (op d imm h : Int) (ia : Nat) (ha : ia < 8) (ib : Nat) (hb : ib < 8) (eA : (bits .and .i64 (fieldsI op) 2 != 0) = true) (eB : (bits .and .i64 (fieldsI op) 4 != 0) = true) (e1 : (op == 19) = false) (e2 : (op == 15) = false) (e3 : (op == 20) = true) (w : World) :
    Calls Try.prog 117 #[.agg FA, .agg #[.int .i64 op, .int .i64 d, .int .i64 (ia : Int), .int .i64 (ib : Int), .int .i64 imm, .int .i64 h]] w fun e w' => e = .returned (.agg (oL (V ia) (V ib) c ((V ia).s || (V ib).s || decide (c = 2))).toArray) ∧ Below w.heap.size w w' := by
  have HF : Hid (FA = facA V z c) := hF
  clear hF
  go_enter Try.func117, Try.ntmps117
  go_upto_region 2 with fail
  obtain ⟨u, hu, pu⟩ := oo_pre w V z c FA HF.out (op := op) (d := d) (ra := (ia : Int)) (rb := (ib : Int)) (imm := imm) (h := h)
  rw [hu]
  have P0 : Hid (OoP w u V z c op d (ia : Int) (ib : Int) imm h zV zV 1 false) := pu
  clear hu pu HF
  obtain ⟨i0, i1, i2, i3, i4, i5⟩ := ins_cells P0.out.I
  obtain ⟨o0, o1, o2, o3, o4, o5, o6, o7, o8, o9, o10, o11, o12, o13⟩ := P0.out.O.cells
  have of := P0.out.O.2.1
  have ol := P0.out.O.1
  go_wp2_with fail
  refine (fields_any op _).mono ?_
  rintro e w' ⟨rfl, hw⟩
  rw [hw]
  clear hw
  have f0 : u.cell? ⟨w.heap.size, ia * 6, none⟩ = some (.int .i64 (V ia).k) := (P0.out.F.cell (i := ia * 6 + 0) (by omega)).trans (congrArg some (fF_val V z c ia 0 (by omega) (by omega)))
  have f1 : u.cell? ⟨w.heap.size, ia * 6 + 1, none⟩ = some (.bool (V ia).s) := (P0.out.F.cell (i := ia * 6 + 1) (by omega)).trans (congrArg some (fF_val V z c ia 1 (by omega) (by omega)))
  have f2 : u.cell? ⟨w.heap.size, ia * 6 + 2, none⟩ = some (.int .i64 (V ia).m) := (P0.out.F.cell (i := ia * 6 + 2) (by omega)).trans (congrArg some (fF_val V z c ia 2 (by omega) (by omega)))
  have f3 : u.cell? ⟨w.heap.size, ia * 6 + 3, none⟩ = some (.int .i64 (V ia).h) := (P0.out.F.cell (i := ia * 6 + 3) (by omega)).trans (congrArg some (fF_val V z c ia 3 (by omega) (by omega)))
  have f4 : u.cell? ⟨w.heap.size, ia * 6 + 4, none⟩ = some (.int .i64 (V ia).lo) := (P0.out.F.cell (i := ia * 6 + 4) (by omega)).trans (congrArg some (fF_val V z c ia 4 (by omega) (by omega)))
  have f5 : u.cell? ⟨w.heap.size, ia * 6 + 5, none⟩ = some (.int .i64 (V ia).hi) := (P0.out.F.cell (i := ia * 6 + 5) (by omega)).trans (congrArg some (fF_val V z c ia 5 (by omega) (by omega)))
  go_upto_region 5 with fail
  clear f0 f1 f2 f3 f4 f5
  clear i0 i1 i2 i3 i4 i5 of ol o0 o1 o2 o3 o4 o5 o6 o7 o8 o9 o10 o11 o12 o13
  change Code.wp _ _ _ _ (putV u (w.heap.size + 1 + 1 + 1) (V ia))
  obtain ⟨u1, hu, hbu, vo⟩ : ∃ v, putV u (w.heap.size + 1 + 1 + 1) (V ia) = v ∧ Below (w.heap.size + 1 + 1 + 1) u v ∧ Ob v (w.heap.size + 1 + 1 + 1) (V ia) zV 1 false := ⟨_, rfl, below_putV (Below.refl _ _) (Nat.le_refl _) _, P0.out.O.setA _⟩
  rw [hu]
  have P1 : Hid (OoP w u1 V z c op d (ia : Int) (ib : Int) imm h (V ia) zV 1 false) := P0.out.upd hbu vo
  clear hu hbu vo P0
  obtain ⟨i0, i1, i2, i3, i4, i5⟩ := ins_cells P1.out.I
  obtain ⟨o0, o1, o2, o3, o4, o5, o6, o7, o8, o9, o10, o11, o12, o13⟩ := P1.out.O.cells
  have of := P1.out.O.2.1
  have ol := P1.out.O.1
  have f0 : u1.cell? ⟨w.heap.size, ib * 6, none⟩ = some (.int .i64 (V ib).k) := (P1.out.F.cell (i := ib * 6 + 0) (by omega)).trans (congrArg some (fF_val V z c ib 0 (by omega) (by omega)))
  have f1 : u1.cell? ⟨w.heap.size, ib * 6 + 1, none⟩ = some (.bool (V ib).s) := (P1.out.F.cell (i := ib * 6 + 1) (by omega)).trans (congrArg some (fF_val V z c ib 1 (by omega) (by omega)))
  have f2 : u1.cell? ⟨w.heap.size, ib * 6 + 2, none⟩ = some (.int .i64 (V ib).m) := (P1.out.F.cell (i := ib * 6 + 2) (by omega)).trans (congrArg some (fF_val V z c ib 2 (by omega) (by omega)))
  have f3 : u1.cell? ⟨w.heap.size, ib * 6 + 3, none⟩ = some (.int .i64 (V ib).h) := (P1.out.F.cell (i := ib * 6 + 3) (by omega)).trans (congrArg some (fF_val V z c ib 3 (by omega) (by omega)))
  have f4 : u1.cell? ⟨w.heap.size, ib * 6 + 4, none⟩ = some (.int .i64 (V ib).lo) := (P1.out.F.cell (i := ib * 6 + 4) (by omega)).trans (congrArg some (fF_val V z c ib 4 (by omega) (by omega)))
  have f5 : u1.cell? ⟨w.heap.size, ib * 6 + 5, none⟩ = some (.int .i64 (V ib).hi) := (P1.out.F.cell (i := ib * 6 + 5) (by omega)).trans (congrArg some (fF_val V z c ib 5 (by omega) (by omega)))
  go_upto_region 7 with fail
  clear f0 f1 f2 f3 f4 f5
  clear i0 i1 i2 i3 i4 i5 of ol o0 o1 o2 o3 o4 o5 o6 o7 o8 o9 o10 o11 o12 o13
  change Code.wp _ _ _ _ (putB u1 (w.heap.size + 1 + 1 + 1) (V ib))
  obtain ⟨u2, hu, hbu, vo⟩ : ∃ v, putB u1 (w.heap.size + 1 + 1 + 1) (V ib) = v ∧ Below (w.heap.size + 1 + 1 + 1) u1 v ∧ Ob v (w.heap.size + 1 + 1 + 1) (V ia) (V ib) 1 false := ⟨_, rfl, below_putB (Below.refl _ _) (Nat.le_refl _) _, P1.out.O.setB _⟩
  rw [hu]
  have P2 : Hid (OoP w u2 V z c op d (ia : Int) (ib : Int) imm h (V ia) (V ib) 1 false) := P1.out.upd hbu vo
  clear hu hbu vo P1
  obtain ⟨i0, i1, i2, i3, i4, i5⟩ := ins_cells P2.out.I
  obtain ⟨o0, o1, o2, o3, o4, o5, o6, o7, o8, o9, o10, o11, o12, o13⟩ := P2.out.O.cells
  have of := P2.out.O.2.1
  have ol := P2.out.O.1
  have f0 : u2.cell? ⟨w.heap.size, 49, none⟩ = some (.int .i64 c) := P2.out.F.cell (i := 49) (by omega)
  go_upto_region 13 with fail
  clear f0
  clear i0 i1 i2 i3 i4 i5 of ol o0 o1 o2 o3 o4 o5 o6 o7 o8 o9 o10 o11 o12 o13
  obtain ⟨u3, hu, hbu, vo⟩ : ∃ v, u2.setCell ⟨w.heap.size + 1 + 1 + 1, 12, none⟩ (.int .i64 c) = v ∧ Below (w.heap.size + 1 + 1 + 1) u2 v ∧ Ob v (w.heap.size + 1 + 1 + 1) (V ia) (V ib) c false := ⟨_, rfl, (Below.refl _ _).setCell (p := ⟨w.heap.size + 1 + 1 + 1, 12, none⟩) (Nat.le_refl _) _, P2.out.O.setF _⟩
  rw [hu]
  have P3 : Hid (OoP w u3 V z c op d (ia : Int) (ib : Int) imm h (V ia) (V ib) c false) := P2.out.upd hbu vo
  clear hu hbu vo P2
  obtain ⟨i0, i1, i2, i3, i4, i5⟩ := ins_cells P3.out.I
  obtain ⟨o0, o1, o2, o3, o4, o5, o6, o7, o8, o9, o10, o11, o12, o13⟩ := P3.out.O.cells
  have of := P3.out.O.2.1
  have ol := P3.out.O.1
  obtain ⟨r0, r1, r2, r3, r4, r5, r6, r7, r8, r9, r10, r11, r12, r13⟩ := P3.out.R.cells
  have rf := P3.out.R.2.1
  have rl := P3.out.R.1
  try dsimp only [zV] at r0
  try dsimp only [zV] at r1
  try dsimp only [zV] at r2
  try dsimp only [zV] at r3
  try dsimp only [zV] at r4
  try dsimp only [zV] at r5
  try dsimp only [zV] at r6
  try dsimp only [zV] at r7
  try dsimp only [zV] at r8
  try dsimp only [zV] at r9
  try dsimp only [zV] at r10
  try dsimp only [zV] at r11
  try dsimp only [zV] at r12
  try dsimp only [zV] at r13
  cases hsa : (V ia).s with
  | true =>
    rw [hsa] at o1
    go_wp2
    exact bodyPost_ret (v := .agg (oL (V ia) (V ib) c true).toArray) (by simp [results, Try.results117, go_sem, oL, *]) rfl ⟨congrArg (fun q => Ending.returned (.agg (oL (V ia) (V ib) c q).toArray)) (by simp [*]), by (iterate 14 refine Below.setCell ?_ (show w.heap.size ≤ w.heap.size + 1 + 1 by omega) _); refine Below.setCell ?_ (show w.heap.size ≤ w.heap.size + 1 + 1 + 1 by omega) _; exact P3.out.bel⟩
  | false =>
    rw [hsa] at o1
    cases hsb : (V ib).s with
    | true =>
      rw [hsb] at o7
      go_wp2
      exact bodyPost_ret (v := .agg (oL (V ia) (V ib) c true).toArray) (by simp [results, Try.results117, go_sem, oL, *]) rfl ⟨congrArg (fun q => Ending.returned (.agg (oL (V ia) (V ib) c q).toArray)) (by simp [*]), by (iterate 14 refine Below.setCell ?_ (show w.heap.size ≤ w.heap.size + 1 + 1 by omega) _); refine Below.setCell ?_ (show w.heap.size ≤ w.heap.size + 1 + 1 + 1 by omega) _; exact P3.out.bel⟩
    | false =>
      rw [hsb] at o7
      by_cases ez : c = 2
      · have ez2 : (c == 2) = true := by simp [ez]
        have ez3 : decide (c = 2) = true := by simp [ez]
        clear ez
        go_wp2
        exact bodyPost_ret (v := .agg (oL (V ia) (V ib) c true).toArray) (by simp [results, Try.results117, go_sem, oL, *]) rfl ⟨congrArg (fun q => Ending.returned (.agg (oL (V ia) (V ib) c q).toArray)) (by simp [*]), by (iterate 14 refine Below.setCell ?_ (show w.heap.size ≤ w.heap.size + 1 + 1 by omega) _); refine Below.setCell ?_ (show w.heap.size ≤ w.heap.size + 1 + 1 + 1 by omega) _; exact P3.out.bel⟩
      · have ez2 : (c == 2) = false := by simp [ez]
        have ez3 : decide (c = 2) = false := by simp [ez]
        clear ez
        go_wp2
        exact bodyPost_ret (v := .agg (oL (V ia) (V ib) c false).toArray) (by simp [results, Try.results117, go_sem, oL, *]) rfl ⟨congrArg (fun q => Ending.returned (.agg (oL (V ia) (V ib) c q).toArray)) (by simp [*]), by (iterate 14 refine Below.setCell ?_ (show w.heap.size ≤ w.heap.size + 1 + 1 by omega) _); refine Below.setCell ?_ (show w.heap.size ≤ w.heap.size + 1 + 1 + 1 by omega) _; exact P3.out.bel⟩
end Go.Proofs.Ytjnooklalbcamaa
/- What an instruction gives: impl.resultOf. -/
namespace Go.Proofs.Ytjnooklalbcamaa
open Go.RowKit
set_option maxRecDepth 20000 in
set_option maxHeartbeats 8000000 in
theorem resultOf_3 (d ra rb imm h : Int) (a b : VV) (fl : Int) (sec : Bool) (hv : Value) (w : World) (ha : Bd a) (hb : Bd b) :
    Calls Try.prog 120 #[.agg #[.int .i64 3, .int .i64 d, .int .i64 ra, .int .i64 rb, .int .i64 imm, .int .i64 h], .agg #[.int .i64 a.k, .bool a.s, .int .i64 a.m, .int .i64 a.h, .int .i64 a.lo, .int .i64 a.hi, .int .i64 b.k, .bool b.s, .int .i64 b.m, .int .i64 b.h, .int .i64 b.lo, .int .i64 b.hi, .int .i64 fl, .bool sec], hv] w fun e w' => e = .returned (addV a b sec).v ∧ Below w.heap.size w w' := by
  obtain ⟨res, hres⟩ : ∃ r, (addV a b sec) = r := ⟨_, rfl⟩
  rw [hres]
  have HR : Hid ((addV a b sec) = res) := hres
  have HA : Hid (Bd a) := ha
  have HB : Hid (Bd b) := hb
  clear hres ha hb
  go_enter Try.func120, Try.ntmps120
  go_upto_region 1 with fail
  obtain ⟨u, hu, pu⟩ := ro_pre w (op := 3) (d := d) (ra := ra) (rb := rb) (imm := imm) (h := h) a b fl sec
  rw [hu]
  have P0 : Hid (RoP w u 3 d ra rb imm h a b fl sec) := pu
  clear hu pu
  have t0 : ∀ w', Below u.heap.size u w' → w'.cell? ⟨w.heap.size + 1, 0, none⟩ = some (.int .i64 a.k) := fun w' h => (P0.out.O.below h).2 0 (by simp)
  have t1 : ∀ w', Below u.heap.size u w' → w'.cell? ⟨w.heap.size + 1, 1, none⟩ = some (.bool a.s) := fun w' h => (P0.out.O.below h).2 1 (by simp)
  have t2 : ∀ w', Below u.heap.size u w' → w'.cell? ⟨w.heap.size + 1, 2, none⟩ = some (.int .i64 a.m) := fun w' h => (P0.out.O.below h).2 2 (by simp)
  have t3 : ∀ w', Below u.heap.size u w' → w'.cell? ⟨w.heap.size + 1, 3, none⟩ = some (.int .i64 a.h) := fun w' h => (P0.out.O.below h).2 3 (by simp)
  have t4 : ∀ w', Below u.heap.size u w' → w'.cell? ⟨w.heap.size + 1, 4, none⟩ = some (.int .i64 a.lo) := fun w' h => (P0.out.O.below h).2 4 (by simp)
  have t5 : ∀ w', Below u.heap.size u w' → w'.cell? ⟨w.heap.size + 1, 5, none⟩ = some (.int .i64 a.hi) := fun w' h => (P0.out.O.below h).2 5 (by simp)
  have t6 : ∀ w', Below u.heap.size u w' → w'.cell? ⟨w.heap.size + 1, 6, none⟩ = some (.int .i64 b.k) := fun w' h => (P0.out.O.below h).2 6 (by simp)
  have t7 : ∀ w', Below u.heap.size u w' → w'.cell? ⟨w.heap.size + 1, 7, none⟩ = some (.bool b.s) := fun w' h => (P0.out.O.below h).2 7 (by simp)
  have t8 : ∀ w', Below u.heap.size u w' → w'.cell? ⟨w.heap.size + 1, 8, none⟩ = some (.int .i64 b.m) := fun w' h => (P0.out.O.below h).2 8 (by simp)
  have t9 : ∀ w', Below u.heap.size u w' → w'.cell? ⟨w.heap.size + 1, 9, none⟩ = some (.int .i64 b.h) := fun w' h => (P0.out.O.below h).2 9 (by simp)
  have t10 : ∀ w', Below u.heap.size u w' → w'.cell? ⟨w.heap.size + 1, 10, none⟩ = some (.int .i64 b.lo) := fun w' h => (P0.out.O.below h).2 10 (by simp)
  have t11 : ∀ w', Below u.heap.size u w' → w'.cell? ⟨w.heap.size + 1, 11, none⟩ = some (.int .i64 b.hi) := fun w' h => (P0.out.O.below h).2 11 (by simp)
  refine wp_region_held_drew (S := fun w' => Below u.heap.size u w') (by kernel_rfl) (Below.refl _ _).drew (fun hHeld => ?_)
  refine wpAnyH_tk 0 ?k1v rfl ?k1y ?k1r
  case k1y => (intro w hSw; (try dsimp only at hSw); go_simp; try with_reducible rfl)
  try go_frame
  refine wpAnyH_tk 1 ?k2v rfl ?k2y ?k2r
  case k2y => (intro w hSw; (try dsimp only at hSw); go_simp; try with_reducible rfl)
  try go_frame
  refine wpAnyH_tk 3 ?k3v rfl ?k3y ?k3r
  case k3y => (intro w hSw; (try dsimp only at hSw); go_simp; try with_reducible rfl)
  try go_frame
  refine wpAnyH_tk 4 ?k4v rfl ?k4y ?k4r
  case k4y => (intro w hSw; (try dsimp only at hSw); go_simp; try with_reducible rfl)
  try go_frame
  clear t0 t1 t2 t3 t4 t5 t6 t7 t8 t9 t10 t11
  refine wpAnyH_ready (rs := [2]) (by kernel_rfl) (by simp) ?_
  refine AllReadyH.cons rfl (fun KK hK => ?_) AllReadyH.nil
  go_simp
  refine (maxOf_any a.k a.s a.m a.h a.lo a.hi _).mono ?_
  rintro e v1 ⟨rfl, hb⟩
  have hv1 : Below u.heap.size u v1 := (Below.refl _ _).drew.trans hb
  clear hb hHeld
  obtain ⟨ma, hm⟩ : ∃ m, maxV a = m := ⟨_, rfl⟩
  rw [show maxV ⟨a.k, a.s, a.m, a.h, a.lo, a.hi⟩ = ma from hm]
  have HMA : Hid (maxV a = ma) := hm
  clear hm
  go_wp2_with fail
  refine hK.out _ _ hv1 (fun _ => ?_)
  clear hK KK
  try go_frame
  refine wpAnyH_ready (rs := [5]) (by kernel_rfl) (by simp) ?_
  refine AllReadyH.cons rfl (fun KK hK => ?_) AllReadyH.nil
  go_simp
  refine (maxOf_any b.k b.s b.m b.h b.lo b.hi _).mono ?_
  rintro e v2 ⟨rfl, hb⟩
  have hv2 : Below u.heap.size u v2 := hv1.trans (hb.mono hv1.size)
  clear hb
  obtain ⟨mb, hm⟩ : ∃ m, maxV b = m := ⟨_, rfl⟩
  rw [show maxV ⟨b.k, b.s, b.m, b.h, b.lo, b.hi⟩ = mb from hm]
  have HMB : Hid (maxV b = mb) := hm
  clear hm
  go_wp2_with fail
  refine hK.out _ _ hv2 (fun _ => ?_)
  clear hK KK
  try go_frame
  refine wpAnyH_tk 6 ?k5v rfl ?k5y ?k5r
  case k5y => (intro w hSw; (try dsimp only at hSw); go_simp; try with_reducible rfl)
  try go_frame
  refine wpAnyH_tk 7 ?k6v rfl ?k6y ?k6r
  case k6y => (intro w hSw; (try dsimp only at hSw); go_simp; try with_reducible rfl)
  try go_frame
  refine wpAnyH_done (by kernel_rfl) ?_ _
  have P1 : Hid (RoP w v2 3 d ra rb imm h a b fl sec) := P0.out.below hv2
  clear P0 hv1 hv2
  obtain ⟨i0, i1, i2, i3, i4, i5⟩ := ins_cells P1.out.I
  obtain ⟨o0, o1, o2, o3, o4, o5, o6, o7, o8, o9, o10, o11, o12, o13⟩ := ro_ops P1.out.O
  obtain ⟨r0, r1, r2, r3, r4, r5⟩ := P1.out.R.cells
  have rf := P1.out.R.free
  have rl := P1.out.R.lt
  have q := added_any a b fl sec
  rw [show (if ppB a b then { a with hi := a.hi + b.m } else if ppB b a then { b with hi := b.hi + a.m } else numV sec (sumI (maxV a) (maxV b))) = res from HR.out] at q
  have HQ : Hid (∀ w, Bd a → Bd b → _) := q
  clear q
  go_wp2_with fail
  refine (HQ.out _ HA.out HB.out).mono ?_
  rintro e y1 ⟨rfl, hb⟩
  have P2 : Hid (RoP w y1 3 d ra rb imm h a b fl sec) := P1.out.below hb
  clear hb
  clear i0 i1 i2 i3 i4 i5 o0 o1 o2 o3 o4 o5 o6 o7 o8 o9 o10 o11 o12 o13 r0 r1 r2 r3 r4 r5 rf rl
  obtain ⟨i0, i1, i2, i3, i4, i5⟩ := ins_cells P2.out.I
  obtain ⟨o0, o1, o2, o3, o4, o5, o6, o7, o8, o9, o10, o11, o12, o13⟩ := ro_ops P2.out.O
  obtain ⟨r0, r1, r2, r3, r4, r5⟩ := P2.out.R.cells
  have rf := P2.out.R.free
  have rl := P2.out.R.lt
  simp only [VV.v]
  go_wp2
  exact bodyPost_ret (v := VV.v res) (by simp [results, Try.results120, go_sem, VV.v, *]) rfl ⟨congrArg (fun q => Ending.returned (VV.v q)) (rfl), below_putV P2.out.bel P2.out.oR _⟩
set_option maxRecDepth 20000 in
set_option maxHeartbeats 8000000 in
theorem resultOf_14 (d ra rb imm h : Int) (a b : VV) (fl : Int) (sec : Bool) (hv : Value) (w : World) (ha : Bd a) (hb : Bd b) :
    Calls Try.prog 120 #[.agg #[.int .i64 14, .int .i64 d, .int .i64 ra, .int .i64 rb, .int .i64 imm, .int .i64 h], .agg #[.int .i64 a.k, .bool a.s, .int .i64 a.m, .int .i64 a.h, .int .i64 a.lo, .int .i64 a.hi, .int .i64 b.k, .bool b.s, .int .i64 b.m, .int .i64 b.h, .int .i64 b.lo, .int .i64 b.hi, .int .i64 fl, .bool sec], hv] w fun e w' => e = .returned (addV a b sec).v ∧ Below w.heap.size w w' := by
  obtain ⟨res, hres⟩ : ∃ r, (addV a b sec) = r := ⟨_, rfl⟩
  rw [hres]
  have HR : Hid ((addV a b sec) = res) := hres
  have HA : Hid (Bd a) := ha
  have HB : Hid (Bd b) := hb
  clear hres ha hb
  go_enter Try.func120, Try.ntmps120
  go_upto_region 1 with fail
  obtain ⟨u, hu, pu⟩ := ro_pre w (op := 14) (d := d) (ra := ra) (rb := rb) (imm := imm) (h := h) a b fl sec
  rw [hu]
  have P0 : Hid (RoP w u 14 d ra rb imm h a b fl sec) := pu
  clear hu pu
  have t0 : ∀ w', Below u.heap.size u w' → w'.cell? ⟨w.heap.size + 1, 0, none⟩ = some (.int .i64 a.k) := fun w' h => (P0.out.O.below h).2 0 (by simp)
  have t1 : ∀ w', Below u.heap.size u w' → w'.cell? ⟨w.heap.size + 1, 1, none⟩ = some (.bool a.s) := fun w' h => (P0.out.O.below h).2 1 (by simp)
  have t2 : ∀ w', Below u.heap.size u w' → w'.cell? ⟨w.heap.size + 1, 2, none⟩ = some (.int .i64 a.m) := fun w' h => (P0.out.O.below h).2 2 (by simp)
  have t3 : ∀ w', Below u.heap.size u w' → w'.cell? ⟨w.heap.size + 1, 3, none⟩ = some (.int .i64 a.h) := fun w' h => (P0.out.O.below h).2 3 (by simp)
  have t4 : ∀ w', Below u.heap.size u w' → w'.cell? ⟨w.heap.size + 1, 4, none⟩ = some (.int .i64 a.lo) := fun w' h => (P0.out.O.below h).2 4 (by simp)
  have t5 : ∀ w', Below u.heap.size u w' → w'.cell? ⟨w.heap.size + 1, 5, none⟩ = some (.int .i64 a.hi) := fun w' h => (P0.out.O.below h).2 5 (by simp)
  have t6 : ∀ w', Below u.heap.size u w' → w'.cell? ⟨w.heap.size + 1, 6, none⟩ = some (.int .i64 b.k) := fun w' h => (P0.out.O.below h).2 6 (by simp)
  have t7 : ∀ w', Below u.heap.size u w' → w'.cell? ⟨w.heap.size + 1, 7, none⟩ = some (.bool b.s) := fun w' h => (P0.out.O.below h).2 7 (by simp)
  have t8 : ∀ w', Below u.heap.size u w' → w'.cell? ⟨w.heap.size + 1, 8, none⟩ = some (.int .i64 b.m) := fun w' h => (P0.out.O.below h).2 8 (by simp)
  have t9 : ∀ w', Below u.heap.size u w' → w'.cell? ⟨w.heap.size + 1, 9, none⟩ = some (.int .i64 b.h) := fun w' h => (P0.out.O.below h).2 9 (by simp)
  have t10 : ∀ w', Below u.heap.size u w' → w'.cell? ⟨w.heap.size + 1, 10, none⟩ = some (.int .i64 b.lo) := fun w' h => (P0.out.O.below h).2 10 (by simp)
  have t11 : ∀ w', Below u.heap.size u w' → w'.cell? ⟨w.heap.size + 1, 11, none⟩ = some (.int .i64 b.hi) := fun w' h => (P0.out.O.below h).2 11 (by simp)
  refine wp_region_held_drew (S := fun w' => Below u.heap.size u w') (by kernel_rfl) (Below.refl _ _).drew (fun hHeld => ?_)
  refine wpAnyH_tk 0 ?k7v rfl ?k7y ?k7r
  case k7y => (intro w hSw; (try dsimp only at hSw); go_simp; try with_reducible rfl)
  try go_frame
  refine wpAnyH_tk 1 ?k8v rfl ?k8y ?k8r
  case k8y => (intro w hSw; (try dsimp only at hSw); go_simp; try with_reducible rfl)
  try go_frame
  refine wpAnyH_tk 3 ?k9v rfl ?k9y ?k9r
  case k9y => (intro w hSw; (try dsimp only at hSw); go_simp; try with_reducible rfl)
  try go_frame
  refine wpAnyH_tk 4 ?k10v rfl ?k10y ?k10r
  case k10y => (intro w hSw; (try dsimp only at hSw); go_simp; try with_reducible rfl)
  try go_frame
  clear t0 t1 t2 t3 t4 t5 t6 t7 t8 t9 t10 t11
  refine wpAnyH_ready (rs := [2]) (by kernel_rfl) (by simp) ?_
  refine AllReadyH.cons rfl (fun KK hK => ?_) AllReadyH.nil
  go_simp
  refine (maxOf_any a.k a.s a.m a.h a.lo a.hi _).mono ?_
  rintro e v1 ⟨rfl, hb⟩
  have hv1 : Below u.heap.size u v1 := (Below.refl _ _).drew.trans hb
  clear hb hHeld
  obtain ⟨ma, hm⟩ : ∃ m, maxV a = m := ⟨_, rfl⟩
  rw [show maxV ⟨a.k, a.s, a.m, a.h, a.lo, a.hi⟩ = ma from hm]
  have HMA : Hid (maxV a = ma) := hm
  clear hm
  go_wp2_with fail
  refine hK.out _ _ hv1 (fun _ => ?_)
  clear hK KK
  try go_frame
  refine wpAnyH_ready (rs := [5]) (by kernel_rfl) (by simp) ?_
  refine AllReadyH.cons rfl (fun KK hK => ?_) AllReadyH.nil
  go_simp
  refine (maxOf_any b.k b.s b.m b.h b.lo b.hi _).mono ?_
  rintro e v2 ⟨rfl, hb⟩
  have hv2 : Below u.heap.size u v2 := hv1.trans (hb.mono hv1.size)
  clear hb
  obtain ⟨mb, hm⟩ : ∃ m, maxV b = m := ⟨_, rfl⟩
  rw [show maxV ⟨b.k, b.s, b.m, b.h, b.lo, b.hi⟩ = mb from hm]
  have HMB : Hid (maxV b = mb) := hm
  clear hm
  go_wp2_with fail
  refine hK.out _ _ hv2 (fun _ => ?_)
  clear hK KK
  try go_frame
  refine wpAnyH_tk 6 ?k11v rfl ?k11y ?k11r
  case k11y => (intro w hSw; (try dsimp only at hSw); go_simp; try with_reducible rfl)
  try go_frame
  refine wpAnyH_tk 7 ?k12v rfl ?k12y ?k12r
  case k12y => (intro w hSw; (try dsimp only at hSw); go_simp; try with_reducible rfl)
  try go_frame
  refine wpAnyH_done (by kernel_rfl) ?_ _
  have P1 : Hid (RoP w v2 14 d ra rb imm h a b fl sec) := P0.out.below hv2
  clear P0 hv1 hv2
  obtain ⟨i0, i1, i2, i3, i4, i5⟩ := ins_cells P1.out.I
  obtain ⟨o0, o1, o2, o3, o4, o5, o6, o7, o8, o9, o10, o11, o12, o13⟩ := ro_ops P1.out.O
  obtain ⟨r0, r1, r2, r3, r4, r5⟩ := P1.out.R.cells
  have rf := P1.out.R.free
  have rl := P1.out.R.lt
  have q := added_any a b fl sec
  rw [show (if ppB a b then { a with hi := a.hi + b.m } else if ppB b a then { b with hi := b.hi + a.m } else numV sec (sumI (maxV a) (maxV b))) = res from HR.out] at q
  have HQ : Hid (∀ w, Bd a → Bd b → _) := q
  clear q
  go_wp2_with fail
  refine (HQ.out _ HA.out HB.out).mono ?_
  rintro e y1 ⟨rfl, hb⟩
  have P2 : Hid (RoP w y1 14 d ra rb imm h a b fl sec) := P1.out.below hb
  clear hb
  clear i0 i1 i2 i3 i4 i5 o0 o1 o2 o3 o4 o5 o6 o7 o8 o9 o10 o11 o12 o13 r0 r1 r2 r3 r4 r5 rf rl
  obtain ⟨i0, i1, i2, i3, i4, i5⟩ := ins_cells P2.out.I
  obtain ⟨o0, o1, o2, o3, o4, o5, o6, o7, o8, o9, o10, o11, o12, o13⟩ := ro_ops P2.out.O
  obtain ⟨r0, r1, r2, r3, r4, r5⟩ := P2.out.R.cells
  have rf := P2.out.R.free
  have rl := P2.out.R.lt
  simp only [VV.v]
  go_wp2
  exact bodyPost_ret (v := VV.v res) (by simp [results, Try.results120, go_sem, VV.v, *]) rfl ⟨congrArg (fun q => Ending.returned (VV.v q)) (rfl), below_putV P2.out.bel P2.out.oR _⟩
end Go.Proofs.Ytjnooklalbcamaa
