/- FnExactValidMach: proved. -/
import Derived.Test.YtfbofiheacgcdaaMachSpec
import Derived.Test.YtfbofiheacgcdaaOpenMach
import Derived.Deep.RegionHeld3
import Derived.OpenShut
import Derived.ChangeOld
import Derived.Below
namespace Go.Proofs.Ytfbofiheacgcdaa
open Go.ChangeShapes Go.WideShapes Go.ChangeAt Go.RowKit Go.Deep

theorem mach_own : ownKnob Try.prog.godebug = none := by kernel_rfl
theorem mach_laidOut : laidOutB Try.prog = true := by kernel_rfl

set_option maxHeartbeats 1000000 in
theorem lawMach_walk (aoR : Option Addr) (nR capR : Nat) (R : Nat → Int) (z c hz hc : Bool) (aoH : Option Addr) (nH capH : Nat) (Hp : Nat → HeapV) (pc st : Int) (aoO : Option Addr) (nO capO : Nat) (K V : Nat → Int) (w : World)
    (mR : nR ≤ 9223372036854775807) (mH : nH ≤ 9223372036854775807) (mD : ∀ i, i < nH → (Hp i).len ≤ 9223372036854775807) (mO : nO ≤ 9223372036854775807) (hbase : ∀ i, i < nH → 0 ≤ (Hp i).base ∧ (Hp i).base ≤ 18446744073709551615) (hin : MachIn w aoR nR R aoH nH Hp aoO nO K V) :
    Calls Try.prog 5 #[.agg #[.slice aoR nR capR, .bool z, .bool c, .bool hz, .bool hc, .slice aoH nH capH, .int .i64 pc, .int .i64 st, .slice aoO nO capO]] w fun e w' => e = .returned (.bool true) ∧ Below w.heap.size w w' := by
  have HI : Hid (MachIn w aoR nR R aoH nH Hp aoO nO K V) := hin
  have HD : Hid (∀ i, i < nH → (Hp i).len ≤ 9223372036854775807) := mD
  have HZ : Hid (∀ i, i < nH → 0 ≤ (Hp i).base ∧ (Hp i).base ≤ 18446744073709551615) := hbase
  clear hin mD hbase
  have hne : (machOK nR z c hz hc nH Hp pc st nO K != machOK nR z c hz hc nH Hp pc st nO K) = false := by simp
  have b0 := (Below.refl w.heap.size w).alloc (Nat.le_refl _) (.cells #[.slice aoR nR capR, .bool z, .bool c, .bool hz, .bool hc, .slice aoH nH capH, .int .i64 pc, .int .i64 st, .slice aoO nO capO] 39)
  have HB0 : Hid (Below w.heap.size w (w.alloc (.cells #[.slice aoR nR capR, .bool z, .bool c, .bool hz, .bool hc, .slice aoH nH capH, .int .i64 pc, .int .i64 st, .slice aoO nO capO] 39))) := b0
  clear b0
  go_enter Try.func5, Try.ntmps5
  go_wp2_with fail
  refine (szMach_any _ _ _ _ _ _ _ _ _ _ Hp _ _ _ _ _ _ _ (by omega) (by omega) mR mH HD.out mO ?h1).mono ?_
  case h1 => exact HI.out.heaps.below HB0.out (Nat.le_refl _)
  rintro e w1 ⟨r, rfl, hl, hb1⟩
  have b1 := HB0.out.trans (hb1.mono (by simp))
  have HB1 : Hid (Below w.heap.size w w1) := b1
  obtain ⟨hc1, _⟩ := bcell hb1
  have hz1 : w.heap.size < w1.heap.size := by have := hb1.size; simp at this; omega
  clear b1 hb1
  rcases hl with rfl | ⟨hr0, hr1, hs⟩
  · go_wp2
    go_ret
    exact ⟨rfl, HB1.out⟩
  · have HS : Hid (Small nR nH Hp nO) := hs
    clear hs
    go_wp2_with fail
    refine (toMach_any _ _ _ R _ _ _ _ _ _ _ Hp _ _ _ _ _ K V _ HS.out (HI.out.below HB1.out (Nat.le_refl _))).mono ?_
    rintro e w2 ⟨bR, bH, blk, bO, hbR, rfl, hb2, hm2⟩
    have H2 : Hid _ := hm2
    have HB2 : Hid (Below w.heap.size w w2) := HB1.out.trans (hb2.mono HB1.out.size)
    obtain ⟨hc2, _⟩ := bcell hb2
    have hz2 : w.heap.size < w2.heap.size := Nat.lt_of_lt_of_le hz1 hb2.size
    clear hm2 hb2
    go_wp2_with fail
    refine (specMach_any _ _ _ _ _ _ R _ _ Hp blk _ _ _ _ K V _ HS.out HZ.out H2.out).mono ?_
    rintro e w3 ⟨rfl, hb3⟩
    have HB3 : Hid (Below w.heap.size w w3) := HB2.out.trans (hb3.mono HB2.out.size)
    obtain ⟨hc3, _⟩ := bcell hb3
    have hz3 : w.heap.size < w3.heap.size := Nat.lt_of_lt_of_le hz2 hb3.size
    clear hb3 H2
    go_wp2_with fail
    refine (toMach_any _ _ _ R _ _ _ _ _ _ _ Hp _ _ _ _ _ K V _ HS.out (HI.out.below HB3.out (Nat.le_refl _))).mono ?_
    rintro e w4 ⟨bR4, bH4, blk4, bO4, hbR4, rfl, hb4, hm4⟩
    have H4 : Hid _ := hm4
    have HB4 : Hid (Below w.heap.size w w4) := HB3.out.trans (hb4.mono HB3.out.size)
    obtain ⟨hc4, _⟩ := bcell hb4
    have hz4 : w.heap.size < w4.heap.size := Nat.lt_of_lt_of_le hz3 hb4.size
    clear hm4 hb4
    go_wp2_with fail
    have HB4a : Hid (Below w4.heap.size w4 (w4.alloc (.cells #[.slice (some ⟨bR4, 0, none⟩) nR nR, .bool z, .bool c, .bool hz, .bool hc, .slice (some ⟨bH4, 0, none⟩) nH nH, .int .i64 pc, .int .i64 st, .slice (some ⟨bO4, 0, none⟩) nO nO] 45))) := (Below.refl _ _).alloc (Nat.le_refl _) _
    refine (implMach_any _ _ R _ _ _ _ _ _ Hp blk4 _ _ _ _ K V _ HS.out (fun i hi => (HZ.out i hi).1) (H4.out.below HB4a.out (Nat.le_refl _))).mono ?_
    rintro e w5 ⟨rfl, hb5⟩
    have b5 : Below w4.heap.size w4 w5 := HB4a.out.trans (hb5.mono (by simp))
    have HB5 : Hid (Below w.heap.size w w5) := HB4.out.trans (b5.mono HB4.out.size)
    have H5 : Hid (MachCp w5 bR4 nR R bH4 nH Hp blk4 bO4 nO K V) := H4.out.below b5 (Nat.le_refl _)
    have hz5 : w.heap.size < w5.heap.size := Nat.lt_of_lt_of_le hz4 b5.size
    have hy5 : w4.heap.size < w5.heap.size := by have := hb5.size; simp at this; omega
    have a0 : w5.cell? ⟨w.heap.size, 0, none⟩ = some (.slice aoR nR capR) := (b5.cell (p := ⟨w.heap.size, 0, none⟩) hz4).trans (by simp [go_sem, hc4, hc3, hc2, hc1, hz1, hz2, hz3])
    have a1 : w5.cell? ⟨w.heap.size, 1, none⟩ = some (.bool z) := (b5.cell (p := ⟨w.heap.size, 1, none⟩) hz4).trans (by simp [go_sem, hc4, hc3, hc2, hc1, hz1, hz2, hz3])
    have a2 : w5.cell? ⟨w.heap.size, 2, none⟩ = some (.bool c) := (b5.cell (p := ⟨w.heap.size, 2, none⟩) hz4).trans (by simp [go_sem, hc4, hc3, hc2, hc1, hz1, hz2, hz3])
    have a3 : w5.cell? ⟨w.heap.size, 3, none⟩ = some (.bool hz) := (b5.cell (p := ⟨w.heap.size, 3, none⟩) hz4).trans (by simp [go_sem, hc4, hc3, hc2, hc1, hz1, hz2, hz3])
    have a4 : w5.cell? ⟨w.heap.size, 4, none⟩ = some (.bool hc) := (b5.cell (p := ⟨w.heap.size, 4, none⟩) hz4).trans (by simp [go_sem, hc4, hc3, hc2, hc1, hz1, hz2, hz3])
    have a5 : w5.cell? ⟨w.heap.size, 5, none⟩ = some (.slice aoH nH capH) := (b5.cell (p := ⟨w.heap.size, 5, none⟩) hz4).trans (by simp [go_sem, hc4, hc3, hc2, hc1, hz1, hz2, hz3])
    have a6 : w5.cell? ⟨w.heap.size, 6, none⟩ = some (.int .i64 pc) := (b5.cell (p := ⟨w.heap.size, 6, none⟩) hz4).trans (by simp [go_sem, hc4, hc3, hc2, hc1, hz1, hz2, hz3])
    have a7 : w5.cell? ⟨w.heap.size, 7, none⟩ = some (.int .i64 st) := (b5.cell (p := ⟨w.heap.size, 7, none⟩) hz4).trans (by simp [go_sem, hc4, hc3, hc2, hc1, hz1, hz2, hz3])
    have a8 : w5.cell? ⟨w.heap.size, 8, none⟩ = some (.slice aoO nO capO) := (b5.cell (p := ⟨w.heap.size, 8, none⟩) hz4).trans (by simp [go_sem, hc4, hc3, hc2, hc1, hz1, hz2, hz3])
    have x0 : w5.cell? ⟨w4.heap.size, 0, none⟩ = some (.slice (some ⟨bR4, 0, none⟩) nR nR) := (hb5.cell (p := ⟨w4.heap.size, 0, none⟩) (by simp)).trans (by simp [go_sem])
    have x1 : w5.cell? ⟨w4.heap.size, 1, none⟩ = some (.bool z) := (hb5.cell (p := ⟨w4.heap.size, 1, none⟩) (by simp)).trans (by simp [go_sem])
    have x2 : w5.cell? ⟨w4.heap.size, 2, none⟩ = some (.bool c) := (hb5.cell (p := ⟨w4.heap.size, 2, none⟩) (by simp)).trans (by simp [go_sem])
    have x3 : w5.cell? ⟨w4.heap.size, 3, none⟩ = some (.bool hz) := (hb5.cell (p := ⟨w4.heap.size, 3, none⟩) (by simp)).trans (by simp [go_sem])
    have x4 : w5.cell? ⟨w4.heap.size, 4, none⟩ = some (.bool hc) := (hb5.cell (p := ⟨w4.heap.size, 4, none⟩) (by simp)).trans (by simp [go_sem])
    have x5 : w5.cell? ⟨w4.heap.size, 5, none⟩ = some (.slice (some ⟨bH4, 0, none⟩) nH nH) := (hb5.cell (p := ⟨w4.heap.size, 5, none⟩) (by simp)).trans (by simp [go_sem])
    have x6 : w5.cell? ⟨w4.heap.size, 6, none⟩ = some (.int .i64 pc) := (hb5.cell (p := ⟨w4.heap.size, 6, none⟩) (by simp)).trans (by simp [go_sem])
    have x7 : w5.cell? ⟨w4.heap.size, 7, none⟩ = some (.int .i64 st) := (hb5.cell (p := ⟨w4.heap.size, 7, none⟩) (by simp)).trans (by simp [go_sem])
    have x8 : w5.cell? ⟨w4.heap.size, 8, none⟩ = some (.slice (some ⟨bO4, 0, none⟩) nO nO) := (hb5.cell (p := ⟨w4.heap.size, 8, none⟩) (by simp)).trans (by simp [go_sem])
    clear b5 hb5 hc1 hc2 hc3 hc4 H4 HB4a
    go_upto_region 10 with fail
    have A0 : ∀ w', Below w5.heap.size w5 w' → w'.cell? ⟨w.heap.size, 0, none⟩ = some (.slice aoR nR capR) := fun w' h => (h.cell (p := ⟨w.heap.size, 0, none⟩) hz5).trans a0
    have A1 : ∀ w', Below w5.heap.size w5 w' → w'.cell? ⟨w.heap.size, 1, none⟩ = some (.bool z) := fun w' h => (h.cell (p := ⟨w.heap.size, 1, none⟩) hz5).trans a1
    have A2 : ∀ w', Below w5.heap.size w5 w' → w'.cell? ⟨w.heap.size, 2, none⟩ = some (.bool c) := fun w' h => (h.cell (p := ⟨w.heap.size, 2, none⟩) hz5).trans a2
    have A3 : ∀ w', Below w5.heap.size w5 w' → w'.cell? ⟨w.heap.size, 3, none⟩ = some (.bool hz) := fun w' h => (h.cell (p := ⟨w.heap.size, 3, none⟩) hz5).trans a3
    have A4 : ∀ w', Below w5.heap.size w5 w' → w'.cell? ⟨w.heap.size, 4, none⟩ = some (.bool hc) := fun w' h => (h.cell (p := ⟨w.heap.size, 4, none⟩) hz5).trans a4
    have A5 : ∀ w', Below w5.heap.size w5 w' → w'.cell? ⟨w.heap.size, 5, none⟩ = some (.slice aoH nH capH) := fun w' h => (h.cell (p := ⟨w.heap.size, 5, none⟩) hz5).trans a5
    have A6 : ∀ w', Below w5.heap.size w5 w' → w'.cell? ⟨w.heap.size, 6, none⟩ = some (.int .i64 pc) := fun w' h => (h.cell (p := ⟨w.heap.size, 6, none⟩) hz5).trans a6
    have A7 : ∀ w', Below w5.heap.size w5 w' → w'.cell? ⟨w.heap.size, 7, none⟩ = some (.int .i64 st) := fun w' h => (h.cell (p := ⟨w.heap.size, 7, none⟩) hz5).trans a7
    have A8 : ∀ w', Below w5.heap.size w5 w' → w'.cell? ⟨w.heap.size, 8, none⟩ = some (.slice aoO nO capO) := fun w' h => (h.cell (p := ⟨w.heap.size, 8, none⟩) hz5).trans a8
    have X0 : ∀ w', Below w5.heap.size w5 w' → w'.cell? ⟨w4.heap.size, 0, none⟩ = some (.slice (some ⟨bR4, 0, none⟩) nR nR) := fun w' h => (h.cell (p := ⟨w4.heap.size, 0, none⟩) hy5).trans x0
    have X1 : ∀ w', Below w5.heap.size w5 w' → w'.cell? ⟨w4.heap.size, 1, none⟩ = some (.bool z) := fun w' h => (h.cell (p := ⟨w4.heap.size, 1, none⟩) hy5).trans x1
    have X2 : ∀ w', Below w5.heap.size w5 w' → w'.cell? ⟨w4.heap.size, 2, none⟩ = some (.bool c) := fun w' h => (h.cell (p := ⟨w4.heap.size, 2, none⟩) hy5).trans x2
    have X3 : ∀ w', Below w5.heap.size w5 w' → w'.cell? ⟨w4.heap.size, 3, none⟩ = some (.bool hz) := fun w' h => (h.cell (p := ⟨w4.heap.size, 3, none⟩) hy5).trans x3
    have X4 : ∀ w', Below w5.heap.size w5 w' → w'.cell? ⟨w4.heap.size, 4, none⟩ = some (.bool hc) := fun w' h => (h.cell (p := ⟨w4.heap.size, 4, none⟩) hy5).trans x4
    have X5 : ∀ w', Below w5.heap.size w5 w' → w'.cell? ⟨w4.heap.size, 5, none⟩ = some (.slice (some ⟨bH4, 0, none⟩) nH nH) := fun w' h => (h.cell (p := ⟨w4.heap.size, 5, none⟩) hy5).trans x5
    have X6 : ∀ w', Below w5.heap.size w5 w' → w'.cell? ⟨w4.heap.size, 6, none⟩ = some (.int .i64 pc) := fun w' h => (h.cell (p := ⟨w4.heap.size, 6, none⟩) hy5).trans x6
    have X7 : ∀ w', Below w5.heap.size w5 w' → w'.cell? ⟨w4.heap.size, 7, none⟩ = some (.int .i64 st) := fun w' h => (h.cell (p := ⟨w4.heap.size, 7, none⟩) hy5).trans x7
    have X8 : ∀ w', Below w5.heap.size w5 w' → w'.cell? ⟨w4.heap.size, 8, none⟩ = some (.slice (some ⟨bO4, 0, none⟩) nO nO) := fun w' h => (h.cell (p := ⟨w4.heap.size, 8, none⟩) hy5).trans x8
    clear a0 a1 a2 a3 a4 a5 a6 a7 a8 x0 x1 x2 x3 x4 x5 x6 x7 x8
    go_region_held3 (fun w' => Below w5.heap.size w5 w') (first | exact (Below.refl _ _).drew | exact Below.trans (by assumption) (hb2.mono (Below.size (B := w5.heap.size) (w := w5) (by assumption)))) (first | (go_at_call 16; refine (toMach_any _ _ _ R _ _ _ _ _ _ _ Hp _ _ _ _ _ K V _ HS.out (HI.out.below (HB5.out.trans (Below.mono (by assumption : Below w5.heap.size w5 _) HB5.out.size)) (Nat.le_refl _))).mono ?_; rintro e w' ⟨bR6, bH6, blk6, bO6, h6, rfl, hb2, hm6⟩) | (go_at_call 18; refine (eqMach_same _ _ R _ _ _ _ _ _ Hp blk4 _ _ _ _ K V _ _ blk6 _ _ HS.out (H5.out.below (by assumption : Below w5.heap.size w5 _) (Nat.le_refl _)) hm6).mono ?_; rintro e w' ⟨rfl, hb2⟩))
    all_goals
      go_wp2
      go_ret
      exact ⟨rfl, HB5.out.trans (Below.mono (by assumption : Below w5.heap.size w5 _) HB5.out.size)⟩

set_option maxRecDepth 100000 in
theorem lawMach_lifted (os : Os) (started : os.Started) (H : Type) (enc : TypeId × Value → H) :
    ReturnsInHanded {} Try.checked os 5 .any (Rows.fnExactValidMachSpec.pre6 enc Try.prog Try.f5 Rows.fnExactValidMachRow.domain false) (Rows.fnExactValidMachSpec.post enc Try.prog Try.f5 false true false false) := by
  refine returnsInHanded_of_change (C := Try.checked) mach_own started (by kernel_rfl) Try.func5
    (ChangeSpec.witness6 (enc := enc) (C := Try.checked) false ⟨#[], #[.agg #[.slice none 0 0, .bool false, .bool false, .bool false, .bool false, .slice none 0 0, .int .i64 0, .int .i64 0, .slice none 0 0]], []⟩ 8 (by kernel_rfl) (by kernel_rfl) (by kernel_rfl) (by kernel_rfl)) ?_
  intro W base args ds gs before hval0 hW _ _
  have hval : ∀ (j : Nat) t v, Try.f5.params[j]? = some t → args[j]? = some v → Value.okWide Try.prog W .any base t v := hval0
  have hW' := hW
  obtain ⟨p, q, hA0, hV, rfl, _, _⟩ := hW
  have hA : DataW.TrodAll enc Try.prog W 0 (fun _ => true) true Try.f5.params.toList args.toList ds p := hA0
  rw [Try.params5] at hA hval
  obtain ⟨v0, d0, rfl, rfl, h0⟩ := trodAll_one hA
  obtain ⟨rfl, rfl⟩ := trodVars_none hV
  obtain ⟨cs, rfl, _⟩ := okWide_struct Try.underlying39 (hval 0 39 v0 rfl rfl)
  have k0 := h0
  have lt0 : ∀ x ∈ p, x.block < W.heap.size := by obtain ⟨m, hm⟩ := k0; exact DataW.trod_lt m _ _ _ hm
  obtain ⟨fuel, hf⟩ := h0
  obtain ⟨aoR, nR, capR, R, z, c, hz, hc, aoH, nH, capH, Hp, pc, st, aoO, nO, capO, K, V, hcs, mR, mH, mD, mO, hb, hin⟩ := open_mach hf
  have : cs = #[.slice aoR nR capR, .bool z, .bool c, .bool hz, .bool hc, .slice aoH nH capH, .int .i64 pc, .int .i64 st, .slice aoO nO capO] := by
    cases cs; simpa [Value.cells] using hcs
  subst this
  clear hA0 hval0
  refine (lawMach_walk aoR nR capR R z c hz hc aoH nH capH Hp pc st aoO nO capO K V W mR mH mD mO hb hin).mono fun e W' ⟨he, bel⟩ => ?_
  subst he
  exact ⟨_, rfl, _, _, _, [], _, [], hW', trodAll_mk1 (shut_bool Try.underlying4 _), trodAll_mk1 (Below.trod mach_laidOut (by kernel_rfl) (of_decide_eq_true (by kernel_rfl)) k0 bel lt0), rfl, bel.frame _, fun h => by cases h⟩

theorem validMach_holds : Rows.FnExactValidMachSaid :=
  OpenClaim.holds_of_wide 5 Try.f5 rfl rfl rfl rfl rfl rfl rfl ⟨rfl, rfl, rfl, rfl, rfl⟩ rfl rfl rfl rfl rfl (by kernel_rfl) Try.func5 (by kernel_rfl)
    (of_decide_eq_true (by kernel_rfl)) (by unfold Func.isWrapper; first | (rw [if_pos (by decide +kernel)]; kernel_rfl) | (rw [if_neg (by decide +kernel)]; exact ⟨rfl, rfl⟩))
    (fun os started H enc _ => lawMach_lifted os started H enc)
end Go.Proofs.Ytfbofiheacgcdaa
