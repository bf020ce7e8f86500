import Derived.Test.YtjnooklalbcamaaOfTransFacts
import Derived.Test.YtjnooklalbcamaaOfTransSum
import Derived.Test.YtjnooklalbcamaaOfValGood
/- What an instruction gives: impl.resultOf. -/
namespace Go.Proofs.Ytjnooklalbcamaa
open Go.RowKit
set_option maxRecDepth 20000 in
set_option maxHeartbeats 8000000 in
theorem resultOf_21 (d ra rb imm : Int) (a b : VV) (fl : Int) (sec : Bool) (w : World) (ha : Bd a) (hb : Bd b) (bH cH nH q : Nat) (S : Nat → HS) (_lH : nH ≤ 1048576) (hq : q < nH) (hh : Arr w bH (nH * 3) (hsF S)) :
    Calls Try.prog 120 #[.agg #[.int .i64 21, .int .i64 d, .int .i64 ra, .int .i64 rb, .int .i64 imm, .int .i64 (q : Int)], .agg #[.int .i64 a.k, .bool a.s, .int .i64 a.m, .int .i64 a.h, .int .i64 a.lo, .int .i64 a.hi, .int .i64 b.k, .bool b.s, .int .i64 b.m, .int .i64 b.h, .int .i64 b.lo, .int .i64 b.hi, .int .i64 fl, .bool sec], .slice (some ⟨bH, 0, none⟩) nH cH] w fun e w' => e = .returned (numV (S q).s 255).v ∧ Below w.heap.size w w' := by
  obtain ⟨res, hres⟩ : ∃ r, (numV (S q).s 255) = r := ⟨_, rfl⟩
  rw [hres]
  have HR : Hid ((numV (S q).s 255) = res) := hres
  have HA : Hid (Bd a) := ha
  have HB : Hid (Bd b) := hb
  clear hres ha hb
  have HH : Hid (Arr w bH (nH * 3) (hsF S)) := hh
  clear hh
  go_enter Try.func120, Try.ntmps120
  go_upto_region 1 with fail
  obtain ⟨u, hu, pu⟩ := ro_pre w (op := 21) (d := d) (ra := ra) (rb := rb) (imm := imm) (h := (q : Int)) a b fl sec
  rw [hu]
  have P0 : Hid (RoP w u 21 d ra rb imm (q : Int) a b fl sec) := pu
  clear hu pu
  have t0 : ∀ w', Below u.heap.size u w' → w'.cell? ⟨w.heap.size + 1, 0, none⟩ = some (.int .i64 a.k) := fun w' h => (P0.out.O.below h).2 0 (by simp)
  have t1 : ∀ w', Below u.heap.size u w' → w'.cell? ⟨w.heap.size + 1, 1, none⟩ = some (.bool a.s) := fun w' h => (P0.out.O.below h).2 1 (by simp)
  have t2 : ∀ w', Below u.heap.size u w' → w'.cell? ⟨w.heap.size + 1, 2, none⟩ = some (.int .i64 a.m) := fun w' h => (P0.out.O.below h).2 2 (by simp)
  have t3 : ∀ w', Below u.heap.size u w' → w'.cell? ⟨w.heap.size + 1, 3, none⟩ = some (.int .i64 a.h) := fun w' h => (P0.out.O.below h).2 3 (by simp)
  have t4 : ∀ w', Below u.heap.size u w' → w'.cell? ⟨w.heap.size + 1, 4, none⟩ = some (.int .i64 a.lo) := fun w' h => (P0.out.O.below h).2 4 (by simp)
  have t5 : ∀ w', Below u.heap.size u w' → w'.cell? ⟨w.heap.size + 1, 5, none⟩ = some (.int .i64 a.hi) := fun w' h => (P0.out.O.below h).2 5 (by simp)
  have t6 : ∀ w', Below u.heap.size u w' → w'.cell? ⟨w.heap.size + 1, 6, none⟩ = some (.int .i64 b.k) := fun w' h => (P0.out.O.below h).2 6 (by simp)
  have t7 : ∀ w', Below u.heap.size u w' → w'.cell? ⟨w.heap.size + 1, 7, none⟩ = some (.bool b.s) := fun w' h => (P0.out.O.below h).2 7 (by simp)
  have t8 : ∀ w', Below u.heap.size u w' → w'.cell? ⟨w.heap.size + 1, 8, none⟩ = some (.int .i64 b.m) := fun w' h => (P0.out.O.below h).2 8 (by simp)
  have t9 : ∀ w', Below u.heap.size u w' → w'.cell? ⟨w.heap.size + 1, 9, none⟩ = some (.int .i64 b.h) := fun w' h => (P0.out.O.below h).2 9 (by simp)
  have t10 : ∀ w', Below u.heap.size u w' → w'.cell? ⟨w.heap.size + 1, 10, none⟩ = some (.int .i64 b.lo) := fun w' h => (P0.out.O.below h).2 10 (by simp)
  have t11 : ∀ w', Below u.heap.size u w' → w'.cell? ⟨w.heap.size + 1, 11, none⟩ = some (.int .i64 b.hi) := fun w' h => (P0.out.O.below h).2 11 (by simp)
  refine wp_region_held_drew (S := fun w' => Below u.heap.size u w') (by kernel_rfl) (Below.refl _ _).drew (fun hHeld => ?_)
  refine wpAnyH_tk 0 ?k1v rfl ?k1y ?k1r
  case k1y => (intro w hSw; (try dsimp only at hSw); go_simp; try with_reducible rfl)
  try go_frame
  refine wpAnyH_tk 1 ?k2v rfl ?k2y ?k2r
  case k2y => (intro w hSw; (try dsimp only at hSw); go_simp; try with_reducible rfl)
  try go_frame
  refine wpAnyH_tk 3 ?k3v rfl ?k3y ?k3r
  case k3y => (intro w hSw; (try dsimp only at hSw); go_simp; try with_reducible rfl)
  try go_frame
  refine wpAnyH_tk 4 ?k4v rfl ?k4y ?k4r
  case k4y => (intro w hSw; (try dsimp only at hSw); go_simp; try with_reducible rfl)
  try go_frame
  clear t0 t1 t2 t3 t4 t5 t6 t7 t8 t9 t10 t11
  refine wpAnyH_ready (rs := [2]) (by kernel_rfl) (by simp) ?_
  refine AllReadyH.cons rfl (fun KK hK => ?_) AllReadyH.nil
  go_simp
  refine (maxOf_any a.k a.s a.m a.h a.lo a.hi _).mono ?_
  rintro e v1 ⟨rfl, hb⟩
  have hv1 : Below u.heap.size u v1 := (Below.refl _ _).drew.trans hb
  clear hb hHeld
  obtain ⟨ma, hm⟩ : ∃ m, maxV a = m := ⟨_, rfl⟩
  rw [show maxV ⟨a.k, a.s, a.m, a.h, a.lo, a.hi⟩ = ma from hm]
  have HMA : Hid (maxV a = ma) := hm
  clear hm
  go_wp2_with fail
  refine hK.out _ _ hv1 (fun _ => ?_)
  clear hK KK
  try go_frame
  refine wpAnyH_ready (rs := [5]) (by kernel_rfl) (by simp) ?_
  refine AllReadyH.cons rfl (fun KK hK => ?_) AllReadyH.nil
  go_simp
  refine (maxOf_any b.k b.s b.m b.h b.lo b.hi _).mono ?_
  rintro e v2 ⟨rfl, hb⟩
  have hv2 : Below u.heap.size u v2 := hv1.trans (hb.mono hv1.size)
  clear hb
  obtain ⟨mb, hm⟩ : ∃ m, maxV b = m := ⟨_, rfl⟩
  rw [show maxV ⟨b.k, b.s, b.m, b.h, b.lo, b.hi⟩ = mb from hm]
  have HMB : Hid (maxV b = mb) := hm
  clear hm
  go_wp2_with fail
  refine hK.out _ _ hv2 (fun _ => ?_)
  clear hK KK
  try go_frame
  refine wpAnyH_tk 6 ?k5v rfl ?k5y ?k5r
  case k5y => (intro w hSw; (try dsimp only at hSw); go_simp; try with_reducible rfl)
  try go_frame
  refine wpAnyH_tk 7 ?k6v rfl ?k6y ?k6r
  case k6y => (intro w hSw; (try dsimp only at hSw); go_simp; try with_reducible rfl)
  try go_frame
  refine wpAnyH_done (by kernel_rfl) ?_ _
  have P1 : Hid (RoP w v2 21 d ra rb imm (q : Int) a b fl sec) := P0.out.below hv2
  clear P0 hv1 hv2
  obtain ⟨i0, i1, i2, i3, i4, i5⟩ := ins_cells P1.out.I
  obtain ⟨o0, o1, o2, o3, o4, o5, o6, o7, o8, o9, o10, o11, o12, o13⟩ := ro_ops P1.out.O
  obtain ⟨r0, r1, r2, r3, r4, r5⟩ := P1.out.R.cells
  have rf := P1.out.R.free
  have rl := P1.out.R.lt
  have c0 : v2.cell? ⟨bH, q * 3 + 1, none⟩ = some (.bool (S q).s) := by
    rw [(HH.out.below P1.out.bel HH.out.lt).cell (by omega), hsF_at S q 1 (by omega)]
    rfl
  go_wp2_with fail
  refine (number_any (S q).s 255 _).mono ?_
  rintro e y1 ⟨rfl, hb⟩
  have P2 : Hid (RoP w y1 21 d ra rb imm (q : Int) a b fl sec) := P1.out.below hb
  clear hb
  clear i0 i1 i2 i3 i4 i5 o0 o1 o2 o3 o4 o5 o6 o7 o8 o9 o10 o11 o12 o13 r0 r1 r2 r3 r4 r5 rf rl
  obtain ⟨i0, i1, i2, i3, i4, i5⟩ := ins_cells P2.out.I
  obtain ⟨o0, o1, o2, o3, o4, o5, o6, o7, o8, o9, o10, o11, o12, o13⟩ := ro_ops P2.out.O
  obtain ⟨r0, r1, r2, r3, r4, r5⟩ := P2.out.R.cells
  have rf := P2.out.R.free
  have rl := P2.out.R.lt
  simp only [VV.v]
  go_wp2
  exact bodyPost_ret (v := VV.v (numV (S q).s 255)) (by simp [results, Try.results120, go_sem, VV.v, *]) rfl ⟨congrArg (fun q => Ending.returned (VV.v q)) (by rw [← HR.out]), below_putV P2.out.bel P2.out.oR _⟩
set_option maxRecDepth 20000 in
set_option maxHeartbeats 8000000 in
theorem resultOf_22 (d ra rb imm : Int) (a b : VV) (fl : Int) (sec : Bool) (w : World) (ha : Bd a) (hb : Bd b) (bH cH nH q : Nat) (S : Nat → HS) (_lH : nH ≤ 1048576) (hq : q < nH) (hh : Arr w bH (nH * 3) (hsF S)) :
    Calls Try.prog 120 #[.agg #[.int .i64 22, .int .i64 d, .int .i64 ra, .int .i64 rb, .int .i64 imm, .int .i64 (q : Int)], .agg #[.int .i64 a.k, .bool a.s, .int .i64 a.m, .int .i64 a.h, .int .i64 a.lo, .int .i64 a.hi, .int .i64 b.k, .bool b.s, .int .i64 b.m, .int .i64 b.h, .int .i64 b.lo, .int .i64 b.hi, .int .i64 fl, .bool sec], .slice (some ⟨bH, 0, none⟩) nH cH] w fun e w' => e = .returned (numV (S q).s (-1)).v ∧ Below w.heap.size w w' := by
  obtain ⟨res, hres⟩ : ∃ r, (numV (S q).s (-1)) = r := ⟨_, rfl⟩
  rw [hres]
  have HR : Hid ((numV (S q).s (-1)) = res) := hres
  have HA : Hid (Bd a) := ha
  have HB : Hid (Bd b) := hb
  clear hres ha hb
  have HH : Hid (Arr w bH (nH * 3) (hsF S)) := hh
  clear hh
  go_enter Try.func120, Try.ntmps120
  go_upto_region 1 with fail
  obtain ⟨u, hu, pu⟩ := ro_pre w (op := 22) (d := d) (ra := ra) (rb := rb) (imm := imm) (h := (q : Int)) a b fl sec
  rw [hu]
  have P0 : Hid (RoP w u 22 d ra rb imm (q : Int) a b fl sec) := pu
  clear hu pu
  have t0 : ∀ w', Below u.heap.size u w' → w'.cell? ⟨w.heap.size + 1, 0, none⟩ = some (.int .i64 a.k) := fun w' h => (P0.out.O.below h).2 0 (by simp)
  have t1 : ∀ w', Below u.heap.size u w' → w'.cell? ⟨w.heap.size + 1, 1, none⟩ = some (.bool a.s) := fun w' h => (P0.out.O.below h).2 1 (by simp)
  have t2 : ∀ w', Below u.heap.size u w' → w'.cell? ⟨w.heap.size + 1, 2, none⟩ = some (.int .i64 a.m) := fun w' h => (P0.out.O.below h).2 2 (by simp)
  have t3 : ∀ w', Below u.heap.size u w' → w'.cell? ⟨w.heap.size + 1, 3, none⟩ = some (.int .i64 a.h) := fun w' h => (P0.out.O.below h).2 3 (by simp)
  have t4 : ∀ w', Below u.heap.size u w' → w'.cell? ⟨w.heap.size + 1, 4, none⟩ = some (.int .i64 a.lo) := fun w' h => (P0.out.O.below h).2 4 (by simp)
  have t5 : ∀ w', Below u.heap.size u w' → w'.cell? ⟨w.heap.size + 1, 5, none⟩ = some (.int .i64 a.hi) := fun w' h => (P0.out.O.below h).2 5 (by simp)
  have t6 : ∀ w', Below u.heap.size u w' → w'.cell? ⟨w.heap.size + 1, 6, none⟩ = some (.int .i64 b.k) := fun w' h => (P0.out.O.below h).2 6 (by simp)
  have t7 : ∀ w', Below u.heap.size u w' → w'.cell? ⟨w.heap.size + 1, 7, none⟩ = some (.bool b.s) := fun w' h => (P0.out.O.below h).2 7 (by simp)
  have t8 : ∀ w', Below u.heap.size u w' → w'.cell? ⟨w.heap.size + 1, 8, none⟩ = some (.int .i64 b.m) := fun w' h => (P0.out.O.below h).2 8 (by simp)
  have t9 : ∀ w', Below u.heap.size u w' → w'.cell? ⟨w.heap.size + 1, 9, none⟩ = some (.int .i64 b.h) := fun w' h => (P0.out.O.below h).2 9 (by simp)
  have t10 : ∀ w', Below u.heap.size u w' → w'.cell? ⟨w.heap.size + 1, 10, none⟩ = some (.int .i64 b.lo) := fun w' h => (P0.out.O.below h).2 10 (by simp)
  have t11 : ∀ w', Below u.heap.size u w' → w'.cell? ⟨w.heap.size + 1, 11, none⟩ = some (.int .i64 b.hi) := fun w' h => (P0.out.O.below h).2 11 (by simp)
  refine wp_region_held_drew (S := fun w' => Below u.heap.size u w') (by kernel_rfl) (Below.refl _ _).drew (fun hHeld => ?_)
  refine wpAnyH_tk 0 ?k7v rfl ?k7y ?k7r
  case k7y => (intro w hSw; (try dsimp only at hSw); go_simp; try with_reducible rfl)
  try go_frame
  refine wpAnyH_tk 1 ?k8v rfl ?k8y ?k8r
  case k8y => (intro w hSw; (try dsimp only at hSw); go_simp; try with_reducible rfl)
  try go_frame
  refine wpAnyH_tk 3 ?k9v rfl ?k9y ?k9r
  case k9y => (intro w hSw; (try dsimp only at hSw); go_simp; try with_reducible rfl)
  try go_frame
  refine wpAnyH_tk 4 ?k10v rfl ?k10y ?k10r
  case k10y => (intro w hSw; (try dsimp only at hSw); go_simp; try with_reducible rfl)
  try go_frame
  clear t0 t1 t2 t3 t4 t5 t6 t7 t8 t9 t10 t11
  refine wpAnyH_ready (rs := [2]) (by kernel_rfl) (by simp) ?_
  refine AllReadyH.cons rfl (fun KK hK => ?_) AllReadyH.nil
  go_simp
  refine (maxOf_any a.k a.s a.m a.h a.lo a.hi _).mono ?_
  rintro e v1 ⟨rfl, hb⟩
  have hv1 : Below u.heap.size u v1 := (Below.refl _ _).drew.trans hb
  clear hb hHeld
  obtain ⟨ma, hm⟩ : ∃ m, maxV a = m := ⟨_, rfl⟩
  rw [show maxV ⟨a.k, a.s, a.m, a.h, a.lo, a.hi⟩ = ma from hm]
  have HMA : Hid (maxV a = ma) := hm
  clear hm
  go_wp2_with fail
  refine hK.out _ _ hv1 (fun _ => ?_)
  clear hK KK
  try go_frame
  refine wpAnyH_ready (rs := [5]) (by kernel_rfl) (by simp) ?_
  refine AllReadyH.cons rfl (fun KK hK => ?_) AllReadyH.nil
  go_simp
  refine (maxOf_any b.k b.s b.m b.h b.lo b.hi _).mono ?_
  rintro e v2 ⟨rfl, hb⟩
  have hv2 : Below u.heap.size u v2 := hv1.trans (hb.mono hv1.size)
  clear hb
  obtain ⟨mb, hm⟩ : ∃ m, maxV b = m := ⟨_, rfl⟩
  rw [show maxV ⟨b.k, b.s, b.m, b.h, b.lo, b.hi⟩ = mb from hm]
  have HMB : Hid (maxV b = mb) := hm
  clear hm
  go_wp2_with fail
  refine hK.out _ _ hv2 (fun _ => ?_)
  clear hK KK
  try go_frame
  refine wpAnyH_tk 6 ?k11v rfl ?k11y ?k11r
  case k11y => (intro w hSw; (try dsimp only at hSw); go_simp; try with_reducible rfl)
  try go_frame
  refine wpAnyH_tk 7 ?k12v rfl ?k12y ?k12r
  case k12y => (intro w hSw; (try dsimp only at hSw); go_simp; try with_reducible rfl)
  try go_frame
  refine wpAnyH_done (by kernel_rfl) ?_ _
  have P1 : Hid (RoP w v2 22 d ra rb imm (q : Int) a b fl sec) := P0.out.below hv2
  clear P0 hv1 hv2
  obtain ⟨i0, i1, i2, i3, i4, i5⟩ := ins_cells P1.out.I
  obtain ⟨o0, o1, o2, o3, o4, o5, o6, o7, o8, o9, o10, o11, o12, o13⟩ := ro_ops P1.out.O
  obtain ⟨r0, r1, r2, r3, r4, r5⟩ := P1.out.R.cells
  have rf := P1.out.R.free
  have rl := P1.out.R.lt
  have c0 : v2.cell? ⟨bH, q * 3 + 1, none⟩ = some (.bool (S q).s) := by
    rw [(HH.out.below P1.out.bel HH.out.lt).cell (by omega), hsF_at S q 1 (by omega)]
    rfl
  go_wp2_with fail
  refine (number_any (S q).s (-1) _).mono ?_
  rintro e y1 ⟨rfl, hb⟩
  have P2 : Hid (RoP w y1 22 d ra rb imm (q : Int) a b fl sec) := P1.out.below hb
  clear hb
  clear i0 i1 i2 i3 i4 i5 o0 o1 o2 o3 o4 o5 o6 o7 o8 o9 o10 o11 o12 o13 r0 r1 r2 r3 r4 r5 rf rl
  obtain ⟨i0, i1, i2, i3, i4, i5⟩ := ins_cells P2.out.I
  obtain ⟨o0, o1, o2, o3, o4, o5, o6, o7, o8, o9, o10, o11, o12, o13⟩ := ro_ops P2.out.O
  obtain ⟨r0, r1, r2, r3, r4, r5⟩ := P2.out.R.cells
  have rf := P2.out.R.free
  have rl := P2.out.R.lt
  simp only [VV.v]
  go_wp2
  exact bodyPost_ret (v := VV.v (numV (S q).s (-1))) (by simp [results, Try.results120, go_sem, VV.v, *]) rfl ⟨congrArg (fun q => Ending.returned (VV.v q)) (by rw [← HR.out]), below_putV P2.out.bel P2.out.oR _⟩
set_option maxRecDepth 20000 in
set_option maxHeartbeats 8000000 in
theorem resultOf_25 (d ra rb imm : Int) (a b : VV) (fl : Int) (sec : Bool) (w : World) (ha : Bd a) (hb : Bd b) (bH cH nH q : Nat) (S : Nat → HS) (_lH : nH ≤ 1048576) (hq : q < nH) (hh : Arr w bH (nH * 3) (hsF S)) :
    Calls Try.prog 120 #[.agg #[.int .i64 25, .int .i64 d, .int .i64 ra, .int .i64 rb, .int .i64 imm, .int .i64 (q : Int)], .agg #[.int .i64 a.k, .bool a.s, .int .i64 a.m, .int .i64 a.h, .int .i64 a.lo, .int .i64 a.hi, .int .i64 b.k, .bool b.s, .int .i64 b.m, .int .i64 b.h, .int .i64 b.lo, .int .i64 b.hi, .int .i64 fl, .bool sec], .slice (some ⟨bH, 0, none⟩) nH cH] w fun e w' => e = .returned (numV (S q).s 255).v ∧ Below w.heap.size w w' := by
  obtain ⟨res, hres⟩ : ∃ r, (numV (S q).s 255) = r := ⟨_, rfl⟩
  rw [hres]
  have HR : Hid ((numV (S q).s 255) = res) := hres
  have HA : Hid (Bd a) := ha
  have HB : Hid (Bd b) := hb
  clear hres ha hb
  have HH : Hid (Arr w bH (nH * 3) (hsF S)) := hh
  clear hh
  go_enter Try.func120, Try.ntmps120
  go_upto_region 1 with fail
  obtain ⟨u, hu, pu⟩ := ro_pre w (op := 25) (d := d) (ra := ra) (rb := rb) (imm := imm) (h := (q : Int)) a b fl sec
  rw [hu]
  have P0 : Hid (RoP w u 25 d ra rb imm (q : Int) a b fl sec) := pu
  clear hu pu
  have t0 : ∀ w', Below u.heap.size u w' → w'.cell? ⟨w.heap.size + 1, 0, none⟩ = some (.int .i64 a.k) := fun w' h => (P0.out.O.below h).2 0 (by simp)
  have t1 : ∀ w', Below u.heap.size u w' → w'.cell? ⟨w.heap.size + 1, 1, none⟩ = some (.bool a.s) := fun w' h => (P0.out.O.below h).2 1 (by simp)
  have t2 : ∀ w', Below u.heap.size u w' → w'.cell? ⟨w.heap.size + 1, 2, none⟩ = some (.int .i64 a.m) := fun w' h => (P0.out.O.below h).2 2 (by simp)
  have t3 : ∀ w', Below u.heap.size u w' → w'.cell? ⟨w.heap.size + 1, 3, none⟩ = some (.int .i64 a.h) := fun w' h => (P0.out.O.below h).2 3 (by simp)
  have t4 : ∀ w', Below u.heap.size u w' → w'.cell? ⟨w.heap.size + 1, 4, none⟩ = some (.int .i64 a.lo) := fun w' h => (P0.out.O.below h).2 4 (by simp)
  have t5 : ∀ w', Below u.heap.size u w' → w'.cell? ⟨w.heap.size + 1, 5, none⟩ = some (.int .i64 a.hi) := fun w' h => (P0.out.O.below h).2 5 (by simp)
  have t6 : ∀ w', Below u.heap.size u w' → w'.cell? ⟨w.heap.size + 1, 6, none⟩ = some (.int .i64 b.k) := fun w' h => (P0.out.O.below h).2 6 (by simp)
  have t7 : ∀ w', Below u.heap.size u w' → w'.cell? ⟨w.heap.size + 1, 7, none⟩ = some (.bool b.s) := fun w' h => (P0.out.O.below h).2 7 (by simp)
  have t8 : ∀ w', Below u.heap.size u w' → w'.cell? ⟨w.heap.size + 1, 8, none⟩ = some (.int .i64 b.m) := fun w' h => (P0.out.O.below h).2 8 (by simp)
  have t9 : ∀ w', Below u.heap.size u w' → w'.cell? ⟨w.heap.size + 1, 9, none⟩ = some (.int .i64 b.h) := fun w' h => (P0.out.O.below h).2 9 (by simp)
  have t10 : ∀ w', Below u.heap.size u w' → w'.cell? ⟨w.heap.size + 1, 10, none⟩ = some (.int .i64 b.lo) := fun w' h => (P0.out.O.below h).2 10 (by simp)
  have t11 : ∀ w', Below u.heap.size u w' → w'.cell? ⟨w.heap.size + 1, 11, none⟩ = some (.int .i64 b.hi) := fun w' h => (P0.out.O.below h).2 11 (by simp)
  refine wp_region_held_drew (S := fun w' => Below u.heap.size u w') (by kernel_rfl) (Below.refl _ _).drew (fun hHeld => ?_)
  refine wpAnyH_tk 0 ?k13v rfl ?k13y ?k13r
  case k13y => (intro w hSw; (try dsimp only at hSw); go_simp; try with_reducible rfl)
  try go_frame
  refine wpAnyH_tk 1 ?k14v rfl ?k14y ?k14r
  case k14y => (intro w hSw; (try dsimp only at hSw); go_simp; try with_reducible rfl)
  try go_frame
  refine wpAnyH_tk 3 ?k15v rfl ?k15y ?k15r
  case k15y => (intro w hSw; (try dsimp only at hSw); go_simp; try with_reducible rfl)
  try go_frame
  refine wpAnyH_tk 4 ?k16v rfl ?k16y ?k16r
  case k16y => (intro w hSw; (try dsimp only at hSw); go_simp; try with_reducible rfl)
  try go_frame
  clear t0 t1 t2 t3 t4 t5 t6 t7 t8 t9 t10 t11
  refine wpAnyH_ready (rs := [2]) (by kernel_rfl) (by simp) ?_
  refine AllReadyH.cons rfl (fun KK hK => ?_) AllReadyH.nil
  go_simp
  refine (maxOf_any a.k a.s a.m a.h a.lo a.hi _).mono ?_
  rintro e v1 ⟨rfl, hb⟩
  have hv1 : Below u.heap.size u v1 := (Below.refl _ _).drew.trans hb
  clear hb hHeld
  obtain ⟨ma, hm⟩ : ∃ m, maxV a = m := ⟨_, rfl⟩
  rw [show maxV ⟨a.k, a.s, a.m, a.h, a.lo, a.hi⟩ = ma from hm]
  have HMA : Hid (maxV a = ma) := hm
  clear hm
  go_wp2_with fail
  refine hK.out _ _ hv1 (fun _ => ?_)
  clear hK KK
  try go_frame
  refine wpAnyH_ready (rs := [5]) (by kernel_rfl) (by simp) ?_
  refine AllReadyH.cons rfl (fun KK hK => ?_) AllReadyH.nil
  go_simp
  refine (maxOf_any b.k b.s b.m b.h b.lo b.hi _).mono ?_
  rintro e v2 ⟨rfl, hb⟩
  have hv2 : Below u.heap.size u v2 := hv1.trans (hb.mono hv1.size)
  clear hb
  obtain ⟨mb, hm⟩ : ∃ m, maxV b = m := ⟨_, rfl⟩
  rw [show maxV ⟨b.k, b.s, b.m, b.h, b.lo, b.hi⟩ = mb from hm]
  have HMB : Hid (maxV b = mb) := hm
  clear hm
  go_wp2_with fail
  refine hK.out _ _ hv2 (fun _ => ?_)
  clear hK KK
  try go_frame
  refine wpAnyH_tk 6 ?k17v rfl ?k17y ?k17r
  case k17y => (intro w hSw; (try dsimp only at hSw); go_simp; try with_reducible rfl)
  try go_frame
  refine wpAnyH_tk 7 ?k18v rfl ?k18y ?k18r
  case k18y => (intro w hSw; (try dsimp only at hSw); go_simp; try with_reducible rfl)
  try go_frame
  refine wpAnyH_done (by kernel_rfl) ?_ _
  have P1 : Hid (RoP w v2 25 d ra rb imm (q : Int) a b fl sec) := P0.out.below hv2
  clear P0 hv1 hv2
  obtain ⟨i0, i1, i2, i3, i4, i5⟩ := ins_cells P1.out.I
  obtain ⟨o0, o1, o2, o3, o4, o5, o6, o7, o8, o9, o10, o11, o12, o13⟩ := ro_ops P1.out.O
  obtain ⟨r0, r1, r2, r3, r4, r5⟩ := P1.out.R.cells
  have rf := P1.out.R.free
  have rl := P1.out.R.lt
  have c0 : v2.cell? ⟨bH, q * 3 + 1, none⟩ = some (.bool (S q).s) := by
    rw [(HH.out.below P1.out.bel HH.out.lt).cell (by omega), hsF_at S q 1 (by omega)]
    rfl
  go_wp2_with fail
  refine (number_any (S q).s 255 _).mono ?_
  rintro e y1 ⟨rfl, hb⟩
  have P2 : Hid (RoP w y1 25 d ra rb imm (q : Int) a b fl sec) := P1.out.below hb
  clear hb
  clear i0 i1 i2 i3 i4 i5 o0 o1 o2 o3 o4 o5 o6 o7 o8 o9 o10 o11 o12 o13 r0 r1 r2 r3 r4 r5 rf rl
  obtain ⟨i0, i1, i2, i3, i4, i5⟩ := ins_cells P2.out.I
  obtain ⟨o0, o1, o2, o3, o4, o5, o6, o7, o8, o9, o10, o11, o12, o13⟩ := ro_ops P2.out.O
  obtain ⟨r0, r1, r2, r3, r4, r5⟩ := P2.out.R.cells
  have rf := P2.out.R.free
  have rl := P2.out.R.lt
  simp only [VV.v]
  go_wp2
  exact bodyPost_ret (v := VV.v (numV (S q).s 255)) (by simp [results, Try.results120, go_sem, VV.v, *]) rfl ⟨congrArg (fun q => Ending.returned (VV.v q)) (by rw [← HR.out]), below_putV P2.out.bel P2.out.oR _⟩
set_option maxRecDepth 20000 in
set_option maxHeartbeats 8000000 in
theorem resultOf_26 (d ra rb imm : Int) (a b : VV) (fl : Int) (sec : Bool) (w : World) (ha : Bd a) (hb : Bd b) (bH cH nH q : Nat) (S : Nat → HS) (_lH : nH ≤ 1048576) (hq : q < nH) (hh : Arr w bH (nH * 3) (hsF S)) :
    Calls Try.prog 120 #[.agg #[.int .i64 26, .int .i64 d, .int .i64 ra, .int .i64 rb, .int .i64 imm, .int .i64 (q : Int)], .agg #[.int .i64 a.k, .bool a.s, .int .i64 a.m, .int .i64 a.h, .int .i64 a.lo, .int .i64 a.hi, .int .i64 b.k, .bool b.s, .int .i64 b.m, .int .i64 b.h, .int .i64 b.lo, .int .i64 b.hi, .int .i64 fl, .bool sec], .slice (some ⟨bH, 0, none⟩) nH cH] w fun e w' => e = .returned (numV (S q).s (-1)).v ∧ Below w.heap.size w w' := by
  obtain ⟨res, hres⟩ : ∃ r, (numV (S q).s (-1)) = r := ⟨_, rfl⟩
  rw [hres]
  have HR : Hid ((numV (S q).s (-1)) = res) := hres
  have HA : Hid (Bd a) := ha
  have HB : Hid (Bd b) := hb
  clear hres ha hb
  have HH : Hid (Arr w bH (nH * 3) (hsF S)) := hh
  clear hh
  go_enter Try.func120, Try.ntmps120
  go_upto_region 1 with fail
  obtain ⟨u, hu, pu⟩ := ro_pre w (op := 26) (d := d) (ra := ra) (rb := rb) (imm := imm) (h := (q : Int)) a b fl sec
  rw [hu]
  have P0 : Hid (RoP w u 26 d ra rb imm (q : Int) a b fl sec) := pu
  clear hu pu
  have t0 : ∀ w', Below u.heap.size u w' → w'.cell? ⟨w.heap.size + 1, 0, none⟩ = some (.int .i64 a.k) := fun w' h => (P0.out.O.below h).2 0 (by simp)
  have t1 : ∀ w', Below u.heap.size u w' → w'.cell? ⟨w.heap.size + 1, 1, none⟩ = some (.bool a.s) := fun w' h => (P0.out.O.below h).2 1 (by simp)
  have t2 : ∀ w', Below u.heap.size u w' → w'.cell? ⟨w.heap.size + 1, 2, none⟩ = some (.int .i64 a.m) := fun w' h => (P0.out.O.below h).2 2 (by simp)
  have t3 : ∀ w', Below u.heap.size u w' → w'.cell? ⟨w.heap.size + 1, 3, none⟩ = some (.int .i64 a.h) := fun w' h => (P0.out.O.below h).2 3 (by simp)
  have t4 : ∀ w', Below u.heap.size u w' → w'.cell? ⟨w.heap.size + 1, 4, none⟩ = some (.int .i64 a.lo) := fun w' h => (P0.out.O.below h).2 4 (by simp)
  have t5 : ∀ w', Below u.heap.size u w' → w'.cell? ⟨w.heap.size + 1, 5, none⟩ = some (.int .i64 a.hi) := fun w' h => (P0.out.O.below h).2 5 (by simp)
  have t6 : ∀ w', Below u.heap.size u w' → w'.cell? ⟨w.heap.size + 1, 6, none⟩ = some (.int .i64 b.k) := fun w' h => (P0.out.O.below h).2 6 (by simp)
  have t7 : ∀ w', Below u.heap.size u w' → w'.cell? ⟨w.heap.size + 1, 7, none⟩ = some (.bool b.s) := fun w' h => (P0.out.O.below h).2 7 (by simp)
  have t8 : ∀ w', Below u.heap.size u w' → w'.cell? ⟨w.heap.size + 1, 8, none⟩ = some (.int .i64 b.m) := fun w' h => (P0.out.O.below h).2 8 (by simp)
  have t9 : ∀ w', Below u.heap.size u w' → w'.cell? ⟨w.heap.size + 1, 9, none⟩ = some (.int .i64 b.h) := fun w' h => (P0.out.O.below h).2 9 (by simp)
  have t10 : ∀ w', Below u.heap.size u w' → w'.cell? ⟨w.heap.size + 1, 10, none⟩ = some (.int .i64 b.lo) := fun w' h => (P0.out.O.below h).2 10 (by simp)
  have t11 : ∀ w', Below u.heap.size u w' → w'.cell? ⟨w.heap.size + 1, 11, none⟩ = some (.int .i64 b.hi) := fun w' h => (P0.out.O.below h).2 11 (by simp)
  refine wp_region_held_drew (S := fun w' => Below u.heap.size u w') (by kernel_rfl) (Below.refl _ _).drew (fun hHeld => ?_)
  refine wpAnyH_tk 0 ?k19v rfl ?k19y ?k19r
  case k19y => (intro w hSw; (try dsimp only at hSw); go_simp; try with_reducible rfl)
  try go_frame
  refine wpAnyH_tk 1 ?k20v rfl ?k20y ?k20r
  case k20y => (intro w hSw; (try dsimp only at hSw); go_simp; try with_reducible rfl)
  try go_frame
  refine wpAnyH_tk 3 ?k21v rfl ?k21y ?k21r
  case k21y => (intro w hSw; (try dsimp only at hSw); go_simp; try with_reducible rfl)
  try go_frame
  refine wpAnyH_tk 4 ?k22v rfl ?k22y ?k22r
  case k22y => (intro w hSw; (try dsimp only at hSw); go_simp; try with_reducible rfl)
  try go_frame
  clear t0 t1 t2 t3 t4 t5 t6 t7 t8 t9 t10 t11
  refine wpAnyH_ready (rs := [2]) (by kernel_rfl) (by simp) ?_
  refine AllReadyH.cons rfl (fun KK hK => ?_) AllReadyH.nil
  go_simp
  refine (maxOf_any a.k a.s a.m a.h a.lo a.hi _).mono ?_
  rintro e v1 ⟨rfl, hb⟩
  have hv1 : Below u.heap.size u v1 := (Below.refl _ _).drew.trans hb
  clear hb hHeld
  obtain ⟨ma, hm⟩ : ∃ m, maxV a = m := ⟨_, rfl⟩
  rw [show maxV ⟨a.k, a.s, a.m, a.h, a.lo, a.hi⟩ = ma from hm]
  have HMA : Hid (maxV a = ma) := hm
  clear hm
  go_wp2_with fail
  refine hK.out _ _ hv1 (fun _ => ?_)
  clear hK KK
  try go_frame
  refine wpAnyH_ready (rs := [5]) (by kernel_rfl) (by simp) ?_
  refine AllReadyH.cons rfl (fun KK hK => ?_) AllReadyH.nil
  go_simp
  refine (maxOf_any b.k b.s b.m b.h b.lo b.hi _).mono ?_
  rintro e v2 ⟨rfl, hb⟩
  have hv2 : Below u.heap.size u v2 := hv1.trans (hb.mono hv1.size)
  clear hb
  obtain ⟨mb, hm⟩ : ∃ m, maxV b = m := ⟨_, rfl⟩
  rw [show maxV ⟨b.k, b.s, b.m, b.h, b.lo, b.hi⟩ = mb from hm]
  have HMB : Hid (maxV b = mb) := hm
  clear hm
  go_wp2_with fail
  refine hK.out _ _ hv2 (fun _ => ?_)
  clear hK KK
  try go_frame
  refine wpAnyH_tk 6 ?k23v rfl ?k23y ?k23r
  case k23y => (intro w hSw; (try dsimp only at hSw); go_simp; try with_reducible rfl)
  try go_frame
  refine wpAnyH_tk 7 ?k24v rfl ?k24y ?k24r
  case k24y => (intro w hSw; (try dsimp only at hSw); go_simp; try with_reducible rfl)
  try go_frame
  refine wpAnyH_done (by kernel_rfl) ?_ _
  have P1 : Hid (RoP w v2 26 d ra rb imm (q : Int) a b fl sec) := P0.out.below hv2
  clear P0 hv1 hv2
  obtain ⟨i0, i1, i2, i3, i4, i5⟩ := ins_cells P1.out.I
  obtain ⟨o0, o1, o2, o3, o4, o5, o6, o7, o8, o9, o10, o11, o12, o13⟩ := ro_ops P1.out.O
  obtain ⟨r0, r1, r2, r3, r4, r5⟩ := P1.out.R.cells
  have rf := P1.out.R.free
  have rl := P1.out.R.lt
  have c0 : v2.cell? ⟨bH, q * 3 + 1, none⟩ = some (.bool (S q).s) := by
    rw [(HH.out.below P1.out.bel HH.out.lt).cell (by omega), hsF_at S q 1 (by omega)]
    rfl
  go_wp2_with fail
  refine (number_any (S q).s (-1) _).mono ?_
  rintro e y1 ⟨rfl, hb⟩
  have P2 : Hid (RoP w y1 26 d ra rb imm (q : Int) a b fl sec) := P1.out.below hb
  clear hb
  clear i0 i1 i2 i3 i4 i5 o0 o1 o2 o3 o4 o5 o6 o7 o8 o9 o10 o11 o12 o13 r0 r1 r2 r3 r4 r5 rf rl
  obtain ⟨i0, i1, i2, i3, i4, i5⟩ := ins_cells P2.out.I
  obtain ⟨o0, o1, o2, o3, o4, o5, o6, o7, o8, o9, o10, o11, o12, o13⟩ := ro_ops P2.out.O
  obtain ⟨r0, r1, r2, r3, r4, r5⟩ := P2.out.R.cells
  have rf := P2.out.R.free
  have rl := P2.out.R.lt
  simp only [VV.v]
  go_wp2
  exact bodyPost_ret (v := VV.v (numV (S q).s (-1))) (by simp [results, Try.results120, go_sem, VV.v, *]) rfl ⟨congrArg (fun q => Ending.returned (VV.v q)) (by rw [← HR.out]), below_putV P2.out.bel P2.out.oR _⟩
end Go.Proofs.Ytjnooklalbcamaa
/- The program's mathematics of a result and the model's are one. -/
namespace Go.Proofs.Ytjnooklalbcamaa
open Go.RowKit
theorem bd_of_good {v : VV} {n : Int} (h : goodB v n = true) : Bd v := by
  unfold goodB at h
  split at h
  · rename_i hk
    have q := of_decide_eq_true h
    exact ⟨q.1, q.2.1, by omega, by omega, by omega, by omega, Or.inl hk⟩
  · have q := of_decide_eq_true h
    exact ⟨by omega, by omega, by omega, by omega, by omega, by omega, Or.inr q.1⟩
theorem pub_of_good {v : VV} {n : Int} (h : goodB v n = true) (hk : v.k = 1) : v.s = false := by
  unfold goodB at h
  rw [if_neg (by omega)] at h
  exact (of_decide_eq_true h).2.1
theorem heap_of_good {v : VV} {n : Int} (h : goodB v n = true) (hk : v.k = 1) : 0 ≤ v.h ∧ v.h < n := by
  unfold goodB at h
  rw [if_neg (by omega)] at h
  have q := of_decide_eq_true h
  omega
theorem bd_zV : Bd zV := ⟨by simp [zV], by simp [zV], by simp [zV], by simp [zV], by simp [zV], by simp [zV], Or.inl rfl⟩
theorem maxV_pos {v : VV} (h : 0 ≤ maxV v) : v.k ≠ 1 ∧ maxV v = v.m := by
  unfold maxV at *
  split at h
  · omega
  · rename_i hk
    exact ⟨hk, if_neg hk⟩
theorem numV_no {s : Bool} {m : Int} (h : m < 0 ∨ 1099511627776 < m) : numV s m = numV s (-1) := by simp [numV, h]
theorem sumI_no {a b : Int} (h : a < 0 ∨ b < 0) : sumI a b = -1 := if_pos h
theorem sumI_yes {a b : Int} (h : ¬ (a < 0 ∨ b < 0)) : sumI a b = a + b := if_neg h
theorem same_add (a b : VV) : addV a b (a.s || b.s) = sumV a b := by
  unfold addV sumV sumP
  by_cases hb : b.k = 1
  · have mb : maxV b = -1 := by simp [maxV, hb]
    rw [if_pos hb, if_neg (c := ppB a b = true) (fun q => by have := (ppB_ok q).2.2.1; omega), sumI_no (by omega)]
    by_cases h1 : ppOK b a
    · rw [if_pos (ppB_yes h1), if_pos ⟨h1.1, h1.2.2.1, h1.2.1, h1.2.2.2⟩]
    · rw [if_neg (ppB_nt h1), if_neg (c := b.k = 1 ∧ 0 ≤ maxV a ∧ a.s = false ∧ b.hi + a.m ≤ 1099511627776) (fun q => h1 ⟨q.1, q.2.2.1, q.2.1, q.2.2.2⟩), if_neg (by omega), Bool.or_comm]
  · rw [if_neg hb, if_neg (c := ppB b a = true) (fun q => hb (ppB_ok q).1)]
    by_cases h1 : ppOK a b
    · rw [if_pos (ppB_yes h1), if_pos ⟨h1.1, h1.2.2.1, h1.2.1, h1.2.2.2⟩]
    · rw [if_neg (ppB_nt h1), if_neg (c := a.k = 1 ∧ 0 ≤ maxV b ∧ b.s = false ∧ a.hi + b.m ≤ 1099511627776) (fun q => h1 ⟨q.1, q.2.2.1, q.2.1, q.2.2.2⟩)]
      by_cases h2 : 0 ≤ maxV a ∧ 0 ≤ maxV b
      · have ma := (maxV_pos h2.1).2
        have mb := (maxV_pos h2.2).2
        rw [if_pos h2, sumI_yes (by omega), ma, mb]
      · rw [if_neg h2, sumI_no (by omega)]
theorem mul_div_lt {a b : Int} (ha : 0 < a) (hb : 0 < b) : (1099511627776 / a < b) ↔ (1099511627776 / b < a) := by
  rw [Int.ediv_lt_iff_lt_mul ha, Int.ediv_lt_iff_lt_mul hb, Int.mul_comm]
theorem same_mul {i : Int} (a b : VV) (s : Bool) : numV s (prodI (maxV a) (maxV b)) = resV 5 i a b s := by
  simp only [resV, Int.reduceEq, if_false, if_true, or_self]
  by_cases h : 0 ≤ maxV a ∧ 0 ≤ maxV b
  · have ka : a.k ≠ 1 := (maxV_pos (by omega)).1
    have kb : b.k ≠ 1 := (maxV_pos (by omega)).1
    have ma : maxV a = a.m := by simp [maxV, ka]
    have mb : maxV b = b.m := by simp [maxV, kb]
    rw [if_pos h, ma, mb]
    rw [ma, mb] at h
    unfold prodI timesI
    by_cases h0 : a.m = 0 ∨ b.m = 0
    · rw [if_pos h0]
      rcases h0 with h0 | h0
      · rw [h0]
        by_cases h1 : 0 < b.m
        · have : (0 : Int) ≤ 1099511627776 / b.m := Int.ediv_nonneg (by decide) (by omega)
          rw [if_neg (by omega), Int.zero_mul]
        · rw [if_neg (by omega), Int.zero_mul]
      · rw [h0, if_neg (by omega), Int.mul_zero]
    · rw [if_neg h0]
      have pa : 0 < a.m := by omega
      have pb : 0 < b.m := by omega
      by_cases h1 : 1099511627776 / a.m < b.m
      · rw [if_pos h1, if_pos (Or.inr (Or.inr ⟨pb, (mul_div_lt pa pb).1 h1⟩)), numV_no (m := 1099511627777) (by omega)]
      · have h2 := mt (mul_div_lt pa pb).2 h1
        rw [if_neg h1, if_neg (by omega)]
  · rw [if_neg h]
    unfold prodI
    rw [if_pos (by omega)]
theorem same_and {i : Int} (a b : VV) (s : Bool) : numV s (smallI (maxV a) (maxV b)) = resV 6 i a b s := by
  simp only [resV, Int.reduceEq, if_false, if_true, or_self]
  congr 1
  unfold smallI leastI
  (repeat' split) <;> omega
theorem same_or {i : Int} (a b : VV) (s : Bool) (op : Int) (h : op = 7 ∨ op = 8) : numV s (orI (maxV a) (maxV b)) = resV op i a b s := by
  have e : resV op i a b s = resV 7 i a b s := by rcases h with rfl | rfl <;> rfl
  rw [e]
  simp only [resV, Int.reduceEq, if_false, if_true, or_self, true_or]
  unfold orI
  by_cases h : 0 ≤ maxV a ∧ 0 ≤ maxV b
  · have ka : a.k ≠ 1 := (maxV_pos (by omega)).1
    have kb : b.k ≠ 1 := (maxV_pos (by omega)).1
    have ma : maxV a = a.m := by simp [maxV, ka]
    have mb : maxV b = b.m := by simp [maxV, kb]
    rw [if_pos h, if_neg (by omega), ma, mb]
  · rw [if_neg h, if_pos (by omega)]
theorem same_mov {i : Int} (a b : VV) (s : Bool) (h : a.k = 1 → s = false) : movV a s i = resV 10 i a b s := by
  simp only [resV, Int.reduceEq, if_false, if_true, or_self]
  unfold movV sumI
  by_cases ka : a.k = 1
  · have ma : maxV a = -1 := by simp [maxV, ka]
    rw [if_pos ka, h ka, ma]
    by_cases h1 : a.lo + i < -1099511627776 ∨ 1099511627776 < a.hi + i
    · rw [if_pos h1, if_neg (by omega), if_neg (by omega)]
    · rw [if_neg h1, if_pos (by omega)]
  · have ma : maxV a = a.m := by simp [maxV, ka]
    rw [if_neg ka, ma, if_neg (c := a.k = 1 ∧ _) (fun q => ka q.1)]
    by_cases h1 : 0 ≤ a.m ∧ 0 ≤ i
    · rw [if_pos h1, if_neg (by omega)]
    · rw [if_neg h1, if_pos (by omega)]
theorem same_andi {i : Int} (a b : VV) (s : Bool) : numV s (smallI (maxV a) i) = resV 11 i a b s := by
  simp only [resV, Int.reduceEq, if_false, if_true, or_self]
  unfold smallI leastI
  by_cases h1 : maxV a < 0
  · by_cases h2 : i < 0
    · rw [if_pos h1, if_pos (Or.inl h2), numV_no (Or.inl h1), numV_no (Or.inl h2)]
    · rw [if_pos h1, if_neg (by omega)]
  · rw [if_neg h1]
    congr 1
    (repeat' split) <;> omega
theorem same_shl {i : Int} (a b : VV) (s : Bool) (_i0 : 0 ≤ i) : numV s (leftI (maxV a) i.toNat) = resV 12 i a b s := by
  simp only [resV, Int.reduceEq, if_false, if_true, or_self]
  have hp : ((2 ^ i.toNat : Nat) : Int) = (2 : Int) ^ i.toNat := by simp
  have pp : (0 : Int) < 2 ^ i.toNat := Int.pow_pos (by decide)
  unfold leftI
  by_cases h0 : maxV a = 0
  · have : (0 : Int) ≤ 1099511627776 / 2 ^ i.toNat := Int.ediv_nonneg (by decide) (by omega)
    rw [if_pos h0, h0, if_neg (by omega), Int.zero_mul]
  · rw [if_neg h0]
    by_cases h1 : maxV a < 0
    · rw [if_pos (Or.inl h1), if_neg (by omega)]
    · have ka : a.k ≠ 1 := (maxV_pos (by omega)).1
      have ma : maxV a = a.m := by simp [maxV, ka]
      rw [ma] at h0 h1 ⊢
      by_cases h2 : i ≤ 40
      · rw [if_pos (c := 0 < a.m ∧ i ≤ 40) ⟨by omega, h2⟩, hp]
        unfold timesI
        generalize hq : (2 : Int) ^ i.toNat = p at *
        rw [if_neg (c := a.m = 0 ∨ p = 0) (by omega)]
        by_cases h3 : 1099511627776 / a.m < p
        · rw [if_pos h3, if_pos (c := a.m < 0 ∨ 1099511627776 / p < a.m) (Or.inr ((mul_div_lt (by omega) pp).1 h3)), numV_no (m := 1099511627777) (by omega)]
        · have h4 := mt (mul_div_lt (a := a.m) (by omega) pp).2 h3
          rw [if_neg h3, if_neg (c := a.m < 0 ∨ 1099511627776 / p < a.m) (by omega)]
      · have h41 : 2 ^ 41 ≤ 2 ^ i.toNat := Nat.pow_le_pow_right (by decide) (by omega)
        have h42 : 2199023255552 ≤ (2 : Int) ^ i.toNat := by rw [← hp]; exact Int.ofNat_le.2 h41
        have h43 : (1099511627776 : Int) / 2 ^ i.toNat = 0 := Int.ediv_eq_zero_of_lt (by decide) (by omega)
        rw [if_neg (c := 0 < a.m ∧ i ≤ 40) (by omega), if_pos (c := a.m < 0 ∨ 1099511627776 / 2 ^ i.toNat < a.m) (Or.inr (by rw [h43]; omega))]
theorem same_shr {i : Int} (a b : VV) (s : Bool) (i0 : 0 ≤ i) (i1 : i ≤ 63) : numV s (rightI (maxV a) i.toNat) = resV 13 i a b s := by
  simp only [resV, Int.reduceEq, if_false, if_true, or_self]
  unfold rightI
  by_cases h1 : 0 ≤ maxV a
  · have ka : a.k ≠ 1 := (maxV_pos (by omega)).1
    have ma : maxV a = a.m := by simp [maxV, ka]
    rw [if_pos h1, if_pos h1, ma]
    simp
  · rw [if_neg h1, if_neg h1]
    by_cases h2 : 24 ≤ i
    · rw [if_pos h2, if_pos (by omega), show (64 - i).toNat = 64 - i.toNat by omega]
      simp
    · rw [if_neg h2, if_neg (by omega)]
theorem same_adc {i : Int} (a b : VV) (s : Bool) : numV s (sumI (sumI (maxV a) (maxV b)) 1) = resV 15 i a b s := by
  simp only [resV, Int.reduceEq, if_false, if_true, or_self]
  unfold sumI
  by_cases h : 0 ≤ maxV a ∧ 0 ≤ maxV b
  · have ka : a.k ≠ 1 := (maxV_pos (by omega)).1
    have kb : b.k ≠ 1 := (maxV_pos (by omega)).1
    have ma : maxV a = a.m := by simp [maxV, ka]
    have mb : maxV b = b.m := by simp [maxV, kb]
    rw [if_pos h, ma, mb]
    rw [ma, mb] at h
    rw [if_neg (c := a.m < 0 ∨ b.m < 0) (by omega), if_neg (by omega)]
  · rw [if_neg h, if_pos (c := maxV a < 0 ∨ maxV b < 0) (by omega), if_pos (by omega)]
/-- The model's word of a Val that a flag chose. -/
def pickV (a b : VV) (f : Int) : VV := { (if f = 2 ∧ (joinV a b).k = 1 then numV true (-1) else joinV a b) with s := (if f = 2 ∧ (joinV a b).k = 1 then numV true (-1) else joinV a b).s || decide (f = 2) }
theorem same_sel (a b : VV) (f : Int) (pa : a.k = 1 → a.s = false) (pb : b.k = 1 → b.s = false) : selV a b (a.s || b.s || decide (f = 2)) = pickV a b f := by
  unfold selV pickV
  by_cases hj : a.k = 1 ∧ b.k = 1 ∧ a.h = b.h
  · have sa := pa hj.1
    have sb := pb hj.2.1
    have hk : (joinV a b).k = 1 := by simp [joinV, hj]
    have hs : (joinV a b).s = false := by simp [joinV, hj]
    by_cases hf : f = 2
    · simp [hf, hk, numV]
    · simp [hf, hk, hs, sa, sb]
  · have hk : (joinV a b).k = 0 := by simp only [joinV, if_neg hj]; split <;> rfl
    have hs : (joinV a b).s = (a.s || b.s) := by simp only [joinV, if_neg hj]; split <;> rfl
    simp [hk, hs]
end Go.Proofs.Ytjnooklalbcamaa
