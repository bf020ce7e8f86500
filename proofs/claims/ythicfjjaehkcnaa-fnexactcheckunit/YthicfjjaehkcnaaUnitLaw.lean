/- FnExactCheckUnit: proved. -/
import Derived.Test.YthicfjjaehkcnaaUnitImpl
import Derived.Test.YthicfjjaehkcnaaOpenProc
import Derived.ChangeOld
import Derived.Below
namespace Go.Proofs.Ythicfjjaehkcnaa
open Go.ChangeShapes Go.WideShapes Go.ChangeAt Go.RowKit Go.Deep
theorem unit_own : ownKnob Try.prog.godebug = none := by kernel_rfl
theorem unit_laidOut : laidOutB Try.prog = true := by kernel_rfl

set_option maxRecDepth 20000 in
set_option maxHeartbeats 8000000 in
theorem lawUnit_walk (ao : Option Addr) (np cap : Nat) (Q : Nat → PI) (w : World) (hm : np ≤ maxLen) (hin : InRow w ao np (piF Q)) (hi : ∀ i, i < np → (Q i).len ≤ maxLen ∧ InRow w (Q i).ao ((Q i).len * 11) (stF (Q i).L)) :
    Calls Try.prog 3 #[.slice ao np cap] w fun e w' => e = .returned (.bool true) ∧ Below w.heap.size w w' := by
  have HI : Hid (InRow w ao np (piF Q)) := hin
  have HQ : Hid (∀ i, i < np → (Q i).len ≤ maxLen ∧ InRow w (Q i).ao ((Q i).len * 11) (stF (Q i).L)) := hi
  clear hin hi
  unfold maxLen at hm
  go_enter Try.func3, Try.ntmps3
  go_wp2_with fail
  refine (szProcS_any ao np cap Q 1048576 w (by omega) (by omega) hm HI.out (fun i h => by have := (HQ.out i h).1; unfold maxLen at this; exact this)).mono ?_
  rintro e w0 ⟨r, rfl, hr, hb0⟩
  rcases hr with rfl | ⟨r0, r1, hs, hl⟩
  · go_wp2
    go_ret
    exact ⟨rfl, hb0⟩
  have LB : Hid (∀ i, i < np → ((Q i).pv).n ≤ 1048576) := hl
  have IN : Hid (∀ i, i < np → (Q i).len ≤ 1048576 ∧ InRow w (Q i).ao ((Q i).len * 11) (stF (Q i).L)) := fun i h => ⟨hl i h, (HQ.out i h).2⟩
  have B0 : Hid (Below w.heap.size w w0) := hb0
  clear hl hb0 HQ
  have hr' : ¬ r < 0 := by omega
  go_wp2_with fail
  refine (toProcS_in ao np cap Q w0 hs (HI.out.below B0.out (Nat.le_refl _)) (fun i h => ⟨(IN.out i h).1, (IN.out i h).2.below B0.out (Nat.le_refl _)⟩)).mono ?_
  rintro e w1 ⟨rfl, hb1, blk1, hp1, _⟩
  have B1 : Hid (Below w.heap.size w w1) := B0.out.trans (hb1.mono B0.out.size)
  have C1 : Hid (PCp w1 w0.heap.size np (fun i => (Q i).pv) blk1) := hp1
  clear hb1 hp1
  go_wp2_with fail
  refine (specUnit_any w0.heap.size np np (fun i => (Q i).pv) blk1 w1 hs LB.out C1.out).mono ?_
  rintro e w2 ⟨rfl, hb2⟩
  have B2 : Hid (Below w.heap.size w w2) := B1.out.trans (hb2.mono B1.out.size)
  obtain ⟨res, hres⟩ : ∃ x, unitR (fun i => (Q i).pv) np = x := ⟨_, rfl⟩
  rw [hres]
  have HR : Hid (unitR (fun i => (Q i).pv) np = res) := hres
  clear hb2 hres C1
  obtain ⟨x, y, z⟩ := res
  go_wp2_with fail
  obtain ⟨u2, hu2, B3, K2⟩ : ∃ v, w2.alloc (.cells #[.int .i64 x, .int .i64 y, .int .i64 z] 25) = v ∧ Hid (Below w.heap.size w v) ∧ Hid (Cl v w2.heap.size [.int .i64 x, .int .i64 y, .int .i64 z]) := ⟨_, rfl, B2.out.alloc B2.out.size _, Cl.new⟩
  rw [hu2]
  clear hu2
  have lk := K2.out.1
  generalize w2.heap.size = rb at *
  refine (toProcS_in ao np cap Q u2 hs (HI.out.below B3.out (Nat.le_refl _)) (fun i h => ⟨(IN.out i h).1, (IN.out i h).2.below B3.out (Nat.le_refl _)⟩)).mono ?_
  rintro e w3 ⟨rfl, hb3, blk3, hp3, _⟩
  have B4 : Hid (Below w.heap.size w w3) := B3.out.trans (hb3.mono B3.out.size)
  have K3 : Hid (Cl w3 rb [.int .i64 x, .int .i64 y, .int .i64 z]) := K2.out.below hb3
  have C3 : Hid (PCp w3 u2.heap.size np (fun i => (Q i).pv) blk3) := hp3
  clear hb3 hp3 B2 B3 K2
  generalize u2.heap.size = xb at *
  go_wp2_with fail
  refine (implUnit_any xb np np (fun i => (Q i).pv) blk3 w3 hs LB.out C3.out).mono ?_
  rintro e w4 ⟨rfl, hb4⟩
  rw [HR.out]
  have B5 : Hid (Below w.heap.size w w4) := B4.out.trans (hb4.mono B4.out.size)
  have K4 : Hid (Cl w4 rb [.int .i64 x, .int .i64 y, .int .i64 z]) := K3.out.below hb4
  have C4 : Hid (PCp w4 xb np (fun i => (Q i).pv) blk3) := C3.out.below hb4
  clear hb4 B4 K3 C3
  have k0 : w4.cell? ⟨rb, 0, none⟩ = some (.int .i64 x) := K4.out.2 0 (by simp)
  have k1 : w4.cell? ⟨rb, 1, none⟩ = some (.int .i64 y) := K4.out.2 1 (by simp)
  have k2 : w4.cell? ⟨rb, 2, none⟩ = some (.int .i64 z) := K4.out.2 2 (by simp)
  have kl := K4.out.1
  go_wp2_with fail
  refine (eqUnitRes_same x y z _).mono ?_
  rintro e w5 ⟨rfl, hb5⟩
  have B6 : Hid (Below w.heap.size w w5) := (B5.out.alloc B5.out.size _).trans (hb5.mono (by simp; have := B5.out.size; omega))
  have C5 : Hid (PCp w5 xb np (fun i => (Q i).pv) blk3) := (C4.out.below ((Below.refl _ _).alloc (Nat.le_refl _) _)).below hb5
  clear hb5 B5 C4 k0 k1 k2 kl K4
  go_wp2_with fail
  refine (toProcS_in ao np cap Q w5 hs (HI.out.below B6.out (Nat.le_refl _)) (fun i h => ⟨(IN.out i h).1, (IN.out i h).2.below B6.out (Nat.le_refl _)⟩)).mono ?_
  rintro e w6 ⟨rfl, hb6, blk6, hp6, _⟩
  have B7 : Hid (Below w.heap.size w w6) := B6.out.trans (hb6.mono B6.out.size)
  have C6 : Hid (PCp w6 xb np (fun i => (Q i).pv) blk3) := C5.out.below hb6
  have D6 : Hid (PCp w6 w5.heap.size np (fun i => (Q i).pv) blk6) := hp6
  clear hb6 hp6 B6 C5
  go_wp2_with fail
  refine (eqProcS_same np np xb w5.heap.size np (fun i => (Q i).pv) blk3 blk6 w6 hs LB.out C6.out D6.out).mono ?_
  rintro e w7 ⟨rfl, hb7⟩
  go_wp2
  go_ret
  exact ⟨rfl, B7.out.trans (hb7.mono B7.out.size)⟩

set_option maxRecDepth 100000 in
theorem lawUnit_lifted (os : Os) (started : os.Started) (H : Type) (enc : TypeId × Value → H) :
    ReturnsInHanded {} Try.checked os 3 .any (Rows.fnExactCheckUnitSpec.pre6 enc Try.prog Try.f3 Rows.fnExactCheckUnitRow.domain false) (Rows.fnExactCheckUnitSpec.post enc Try.prog Try.f3 false true false false) := by
  refine returnsInHanded_of_change (C := Try.checked) unit_own started (by kernel_rfl) Try.func3
    (ChangeSpec.witness6 (enc := enc) (C := Try.checked) false ⟨#[], #[.slice none 0 0], []⟩ 8 (by kernel_rfl) (by kernel_rfl) (by kernel_rfl) (by kernel_rfl)) ?_
  intro W base args ds gs before hval0 hW _ _
  have hval : ∀ (j : Nat) t v, Try.f3.params[j]? = some t → args[j]? = some v → Value.okWide Try.prog W .any base t v := hval0
  have hW' := hW
  obtain ⟨p, q, hA0, hV, rfl, _, _⟩ := hW
  have hA : DataW.TrodAll enc Try.prog W 0 (fun _ => true) true Try.f3.params.toList args.toList ds p := hA0
  rw [Try.params3] at hA hval
  obtain ⟨v0, d0, rfl, rfl, h0⟩ := trodAll_one hA
  obtain ⟨rfl, rfl⟩ := trodVars_none hV
  obtain ⟨ao, len, cap, rfl⟩ := okWide_slice Try.underlying22 (hval 0 22 v0 rfl rfl)
  have k0 := h0
  have lt0 : ∀ x ∈ p, x.block < W.heap.size := by obtain ⟨m, hm⟩ := k0; exact DataW.trod_lt m _ _ _ hm
  obtain ⟨fuel, hf⟩ := h0
  obtain ⟨hm, Q, hin, hq⟩ := open_procS (by simpa [Value.cells] using hf)
  clear hA0 hval0
  refine (lawUnit_walk ao len cap Q W hm hin hq).mono ?_
  rintro e W' ⟨he, bel⟩
  subst he
  exact ⟨_, rfl, _, _, _, [], _, [], hW', trodAll_mk1 (shut_bool Try.underlying4 _), trodAll_mk1 (Below.trod unit_laidOut (by kernel_rfl) (of_decide_eq_true (by kernel_rfl)) k0 bel lt0), rfl, bel.frame _, fun h => by cases h⟩

theorem checkUnit_holds : Rows.FnExactCheckUnitSaid :=
  OpenClaim.holds_of_wide 3 Try.f3 rfl rfl rfl rfl rfl rfl rfl ⟨rfl, rfl, rfl, rfl, rfl⟩ rfl rfl rfl rfl rfl (by kernel_rfl) Try.func3 (by kernel_rfl)
    (of_decide_eq_true (by kernel_rfl)) (by unfold Func.isWrapper; first | (rw [if_pos (by decide +kernel)]; kernel_rfl) | (rw [if_neg (by decide +kernel)]; exact ⟨rfl, rfl⟩))
    (fun os started H enc _ => lawUnit_lifted os started H enc)
end Go.Proofs.Ythicfjjaehkcnaa
