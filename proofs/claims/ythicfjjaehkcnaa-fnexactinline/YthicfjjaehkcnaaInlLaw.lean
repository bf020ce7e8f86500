/- FnExactInline: proved. -/
import Derived.Test.YthicfjjaehkcnaaInlImpl
import Derived.Test.YthicfjjaehkcnaaUnitMark
import Derived.Test.YthicfjjaehkcnaaOpenProc
import Derived.ChangeOld
import Derived.Below
namespace Go.Proofs.Ythicfjjaehkcnaa
open Go.ChangeShapes Go.WideShapes Go.ChangeAt Go.RowKit Go.Deep
theorem inl_own : ownKnob Try.prog.godebug = none := by kernel_rfl
theorem inl_laidOut : laidOutB Try.prog = true := by kernel_rfl

set_option maxRecDepth 20000 in
set_option maxHeartbeats 16000000 in
theorem lawInline_walk (ao : Option Addr) (np cap : Nat) (Q : Nat → PI) (w : World) (hm : np ≤ maxLen) (hin : InRow w ao np (piF Q)) (hi : ∀ i, i < np → (Q i).len ≤ maxLen ∧ InRow w (Q i).ao ((Q i).len * 11) (stF (Q i).L)) :
    Calls Try.prog 4 #[.slice ao np cap] w fun e w' => e = .returned (.bool true) ∧ Below w.heap.size w w' := by
  have HI : Hid (InRow w ao np (piF Q)) := hin
  have HQ : Hid (∀ i, i < np → (Q i).len ≤ maxLen ∧ InRow w (Q i).ao ((Q i).len * 11) (stF (Q i).L)) := hi
  clear hin hi
  unfold maxLen at hm
  obtain ⟨Pv, hPv⟩ : ∃ x : Nat → PV, (fun i => (Q i).pv) = x := ⟨_, rfl⟩
  obtain ⟨out, hout⟩ : ∃ x, inlR Pv np = x := ⟨_, rfl⟩
  have hlo : out.length ≤ 2000 := by rw [← hout]; exact inlR_len Pv np
  have HO : Hid (inlR Pv np = out) := hout
  have HP : Hid ((fun i => (Q i).pv) = Pv) := hPv
  have TO : Hid (np ≤ 1048576 → (∀ i, i < np → (Q i).len ≤ 1048576) → ∀ u, Below w.heap.size w u → Calls Try.prog 7 #[.slice ao np cap] u fun e w' => e = .returned (.slice (some ⟨u.heap.size, 0, none⟩) np np) ∧ Below u.heap.size u w' ∧ ∃ blk, PCp w' u.heap.size np Pv blk ∧ Pord u.heap.size np blk) := (fun hs hl u hu => by
    have h := toProcS_in ao np cap Q u hs (HI.out.below hu (Nat.le_refl _)) (fun i h => ⟨hl i h, (HQ.out i h).2.below hu (Nat.le_refl _)⟩)
    rw [HP.out] at h
    exact h : np ≤ 1048576 → (∀ i, i < np → (Q i).len ≤ 1048576) → ∀ u, Below w.heap.size w u → Calls Try.prog 7 #[.slice ao np cap] u fun e w' => e = .returned (.slice (some ⟨u.heap.size, 0, none⟩) np np) ∧ Below u.heap.size u w' ∧ ∃ blk, PCp w' u.heap.size np Pv blk ∧ Pord u.heap.size np blk)
  clear hout hPv
  go_enter Try.func4, Try.ntmps4
  go_wp2_with fail
  refine (szProcS_any ao np cap Q 1048576 w (by omega) (by omega) hm HI.out (fun i h => by have := (HQ.out i h).1; unfold maxLen at this; exact this)).mono ?_
  rintro e wa ⟨r, rfl, hr, hb0⟩
  rcases hr with rfl | ⟨r0, r1, hs, hl⟩
  · go_wp2
    go_ret
    exact ⟨rfl, hb0⟩
  have LQ : Hid (∀ i, i < np → (Q i).len ≤ 1048576) := hl
  have LB : Hid (∀ i, i < np → (Pv i).n ≤ 1048576) := (by rw [← HP.out]; exact hl : ∀ i, i < np → (Pv i).n ≤ 1048576)
  have B0 : Hid (Below w.heap.size w wa) := hb0
  clear hl hb0 HQ
  have hr' : ¬ r < 0 := by omega
  go_wp2_with fail
  refine (TO.out hs LQ.out wa B0.out).mono ?_
  rintro e w1 ⟨rfl, hb1, blk1, hp1, _⟩
  have B1 : Hid (Below w.heap.size w w1) := B0.out.trans (hb1.mono B0.out.size)
  have C1 : Hid (PCp w1 wa.heap.size np Pv blk1) := hp1
  clear hb1 hp1
  go_wp2_with fail
  refine (specInline_any wa.heap.size np np Pv blk1 w1 hs LB.out C1.out).mono ?_
  rintro e w2 ⟨gs, cS, rfl, ho2, hb2⟩
  rw [HO.out] at ho2 ⊢
  have B2 : Hid (Below w.heap.size w w2) := B1.out.trans (hb2.mono B1.out.size)
  have S2 : Hid (w2.ownsRow w1.heap.size 62 11 (.slice (some ⟨gs, 0, none⟩) out.length cS) out.length (cs out)) := ho2
  have gs2 : gs < w2.heap.size := (ho2.lt gs rfl).2
  clear hb2 ho2 C1
  go_wp2_with fail
  refine (TO.out hs LQ.out w2 B2.out).mono ?_
  rintro e w3 ⟨rfl, hb3, blk3, hp3, hq3⟩
  have B3 : Hid (Below w.heap.size w w3) := B2.out.trans (hb3.mono B2.out.size)
  have S3 : Hid (w3.ownsRow w1.heap.size 62 11 (.slice (some ⟨gs, 0, none⟩) out.length cS) out.length (cs out)) := row_belowU S2.out hb3
  have C3 : Hid (PCp w3 w2.heap.size np Pv blk3) := hp3
  have P3 : Hid (Pord w2.heap.size np blk3) := hq3
  have HH3 : Hid (∀ i, i < np → blk3 i < w3.heap.size) := fun i hi => (hp3.b i hi).lt
  have z23 := hb3.size
  have lw2 := B2.out.size
  clear hb3 hp3 hq3 S2
  go_wp2_with fail
  refine (implInline_any w2.heap.size np np Pv blk3 w3 hs LB.out C3.out).mono ?_
  rintro e w4 ⟨gv, rfl, ho4, hb4⟩
  rw [HO.out] at ho4
  obtain ⟨aog, kg, cg, hgv⟩ := row_slice ho4
  subst hgv
  have B4 : Hid (Below w.heap.size w w4) := B3.out.trans (hb4.mono B3.out.size)
  have S4 : Hid (w4.ownsRow w1.heap.size 62 11 (.slice (some ⟨gs, 0, none⟩) out.length cS) out.length (cs out)) := row_belowU S3.out hb4
  have C4 : Hid (PCp w4 w2.heap.size np Pv blk3) := C3.out.below hb4
  have G4 : Hid (w4.ownsRow w3.heap.size 62 11 (.slice aog kg cg) out.length (cs out)) := ho4
  have z37 : w3.heap.size ≤ w4.heap.size := hb4.size
  clear hb4 ho4 S3 C3
  go_wp2_with fail
  refine (eqStmtS_rows out w4 (by omega) G4.out S4.out).mono ?_
  rintro e w5 ⟨rfl, hb5⟩
  have B5 : Hid (Below w.heap.size w w5) := B4.out.trans (hb5.mono B4.out.size)
  have S5 : Hid (w5.ownsRow w1.heap.size 62 11 (.slice (some ⟨gs, 0, none⟩) out.length cS) out.length (cs out)) := row_belowU S4.out hb5
  have C5 : Hid (PCp w5 w2.heap.size np Pv blk3) := C4.out.below hb5
  have G5 : Hid (w5.ownsRow w3.heap.size 62 11 (.slice aog kg cg) out.length (cs out)) := row_belowU G4.out hb5
  have z37 : w3.heap.size ≤ w5.heap.size := Nat.le_trans z37 hb5.size
  clear hb5 S4 C4 G4
  go_wp2_with fail
  refine (TO.out hs LQ.out w5 B5.out).mono ?_
  rintro e w6 ⟨rfl, hb6, blk6, hp6, _⟩
  have B6 : Hid (Below w.heap.size w w6) := B5.out.trans (hb6.mono B5.out.size)
  have S6 : Hid (w6.ownsRow w1.heap.size 62 11 (.slice (some ⟨gs, 0, none⟩) out.length cS) out.length (cs out)) := row_belowU S5.out hb6
  have C6 : Hid (PCp w6 w2.heap.size np Pv blk3) := C5.out.below hb6
  have D6 : Hid (PCp w6 w5.heap.size np Pv blk6) := hp6
  have G6 : Hid (w6.ownsRow w3.heap.size 62 11 (.slice aog kg cg) out.length (cs out)) := row_belowU G5.out hb6
  have z37 : w3.heap.size ≤ w6.heap.size := Nat.le_trans z37 hb6.size
  clear hb6 hp6 S5 C5 G5
  go_wp2_with fail
  refine (eqProcS_same np np w2.heap.size w5.heap.size np Pv blk3 blk6 w6 hs LB.out C6.out D6.out).mono ?_
  rintro e w7 ⟨rfl, hb7⟩
  have B7 : Hid (Below w.heap.size w w7) := B6.out.trans (hb7.mono B6.out.size)
  have S7 : Hid (w7.ownsRow w1.heap.size 62 11 (.slice (some ⟨gs, 0, none⟩) out.length cS) out.length (cs out)) := row_belowU S6.out hb7
  have C7 : Hid (PCp w7 w2.heap.size np Pv blk3) := C6.out.below hb7
  have G7 : Hid (w7.ownsRow w3.heap.size 62 11 (.slice aog kg cg) out.length (cs out)) := row_belowU G6.out hb7
  have z37 : w3.heap.size ≤ w7.heap.size := Nat.le_trans z37 hb7.size
  clear hb7 S6 C6 G6 D6
  have z7 : w2.heap.size < w7.heap.size := C7.out.r.lt
  go_wp2_with fail
  refine (markProcS_any w2.heap.size np np w2.heap.size w3.heap.size Pv blk3 1 w7 hs LB.out (by omega) (by omega) C7.out P3.out (Nat.le_refl _) HH3.out).mono ?_
  rintro e w8 ⟨rm, rfl, rm0, hf8⟩
  have B8 : Hid (Below w.heap.size w w8) := B7.out.trans ((hf8.below (by omega)).mono lw2)
  have S8 : Hid (w8.ownsRow w1.heap.size 62 11 (.slice (some ⟨gs, 0, none⟩) out.length cS) out.length (cs out)) := hf8.row S7.out (fun k hk => .inl (by have : gs = k := Option.some.inj hk; omega))
  have G8 : Hid (w8.ownsRow w3.heap.size 62 11 (.slice aog kg cg) out.length (cs out)) := hf8.row G7.out (fun k hk => .inr (G7.out.lt k hk).1)
  have z8 : w3.heap.size ≤ w8.heap.size := Nat.le_trans z37 hf8.size
  clear hf8 S7 C7 G7
  have rm' : ¬ rm < 0 := by omega
  go_wp2_with fail
  refine (eqStmtS_rows out w8 (by omega) G8.out S8.out).mono ?_
  rintro e w9 ⟨rfl, hb9⟩
  have B9 : Hid (Below w.heap.size w w9) := B8.out.trans (hb9.mono B8.out.size)
  have S9 : Hid (w9.ownsRow w1.heap.size 62 11 (.slice (some ⟨gs, 0, none⟩) out.length cS) out.length (cs out)) := row_belowU S8.out hb9
  have G9 : Hid (w9.ownsRow w3.heap.size 62 11 (.slice aog kg cg) out.length (cs out)) := row_belowU G8.out hb9
  have z9 : w3.heap.size ≤ w9.heap.size := Nat.le_trans z8 hb9.size
  clear hb9 S8 G8
  go_wp2_with fail
  refine (markStmtS_row out 1 w9 (by omega) (by omega) (by omega) z9 G9.out).mono ?_
  rintro e w10 ⟨rfl, hb10, hm10⟩
  have lw3 : w.heap.size ≤ w3.heap.size := B3.out.size
  have B10 : Hid (Below w.heap.size w w10) := B9.out.trans (hb10.mono lw3)
  have S10 : Hid (w10.ownsRow w1.heap.size 62 11 (.slice (some ⟨gs, 0, none⟩) out.length cS) out.length (cs out)) := (by
    refine ⟨S9.out.1, ?_⟩
    rcases S9.out.2 with h' | ⟨g', cap', cur, h', h1, h2, h3⟩
    · exact .inl h'
    · have hg : g' = gs := by have := (Value.slice.inj h').1; simp at this; exact this.symm
      exact .inr ⟨g', cap', cur, h', h1, (hb10.block g' (by omega)).trans h2, h3⟩ : w10.ownsRow w1.heap.size 62 11 (.slice (some ⟨gs, 0, none⟩) out.length cS) out.length (cs out))
  have M10 : Hid (out.length = 0 ∨ ∃ g c, Value.slice aog kg cg = .slice (some ⟨g, 0, none⟩) out.length c ∧ Arr w10 g (out.length * 11) (markF 1)) := hm10
  obtain ⟨nl, hnl⟩ : ∃ y : Int, 1 + 11 * (out.length : Int) = y := ⟨_, rfl⟩
  have HNL : Hid (1 + 11 * (out.length : Int) = nl) := hnl
  rw [hnl]
  have nl0 : ¬ nl < 0 := by omega
  clear hb10 hm10 hnl S9
  go_wp2_with fail
  refine (heldStmtS_row out 1 w10 w9 (by omega) (by omega) (by omega) G9.out M10.out).mono ?_
  rintro e w10' ⟨rfl, hw⟩
  rw [hw, HNL.out]
  clear hw M10 G9
  go_wp2_with fail
  refine (TO.out hs LQ.out w10 B10.out).mono ?_
  rintro e w11 ⟨rfl, hb11, blk11, hp11, _⟩
  have B11 : Hid (Below w.heap.size w w11) := B10.out.trans (hb11.mono B10.out.size)
  have S11 : Hid (w11.ownsRow w1.heap.size 62 11 (.slice (some ⟨gs, 0, none⟩) out.length cS) out.length (cs out)) := row_belowU S10.out hb11
  have C11 : Hid (PCp w11 w10.heap.size np Pv blk11) := hp11
  clear hb11 hp11 S10
  go_wp2_with fail
  refine (implInline_any w10.heap.size np np Pv blk11 w11 hs LB.out C11.out).mono ?_
  rintro e w12 ⟨hv, rfl, ho12, hb12⟩
  rw [HO.out] at ho12
  obtain ⟨aoh, kh, ch, hhv⟩ := row_slice ho12
  subst hhv
  have B12 : Hid (Below w.heap.size w w12) := B11.out.trans (hb12.mono B11.out.size)
  have S12 : Hid (w12.ownsRow w1.heap.size 62 11 (.slice (some ⟨gs, 0, none⟩) out.length cS) out.length (cs out)) := row_belowU S11.out hb12
  have G12 : Hid (w12.ownsRow w11.heap.size 62 11 (.slice aoh kh ch) out.length (cs out)) := ho12
  clear hb12 ho12 S11 C11
  go_wp2_with fail
  refine (eqStmtS_rows out w12 (by omega) G12.out S12.out).mono ?_
  rintro e w13 ⟨rfl, hb13⟩
  go_wp2
  go_ret
  exact ⟨rfl, B12.out.trans (hb13.mono B12.out.size)⟩

set_option maxRecDepth 100000 in
theorem lawInline_lifted (os : Os) (started : os.Started) (H : Type) (enc : TypeId × Value → H) :
    ReturnsInHanded {} Try.checked os 4 .any (Rows.fnExactInlineSpec.pre6 enc Try.prog Try.f4 Rows.fnExactInlineRow.domain false) (Rows.fnExactInlineSpec.post enc Try.prog Try.f4 false true false false) := by
  refine returnsInHanded_of_change (C := Try.checked) inl_own started (by kernel_rfl) Try.func4
    (ChangeSpec.witness6 (enc := enc) (C := Try.checked) false ⟨#[], #[.slice none 0 0], []⟩ 8 (by kernel_rfl) (by kernel_rfl) (by kernel_rfl) (by kernel_rfl)) ?_
  intro W base args ds gs before hval0 hW _ _
  have hval : ∀ (j : Nat) t v, Try.f4.params[j]? = some t → args[j]? = some v → Value.okWide Try.prog W .any base t v := hval0
  have hW' := hW
  obtain ⟨p, q, hA0, hV, rfl, _, _⟩ := hW
  have hA : DataW.TrodAll enc Try.prog W 0 (fun _ => true) true Try.f4.params.toList args.toList ds p := hA0
  rw [Try.params4] at hA hval
  obtain ⟨v0, d0, rfl, rfl, h0⟩ := trodAll_one hA
  obtain ⟨rfl, rfl⟩ := trodVars_none hV
  obtain ⟨ao, len, cap, rfl⟩ := okWide_slice Try.underlying22 (hval 0 22 v0 rfl rfl)
  have k0 := h0
  have lt0 : ∀ x ∈ p, x.block < W.heap.size := by obtain ⟨m, hm⟩ := k0; exact DataW.trod_lt m _ _ _ hm
  obtain ⟨fuel, hf⟩ := h0
  obtain ⟨hm, Q, hin, hq⟩ := open_procS (by simpa [Value.cells] using hf)
  clear hA0 hval0
  refine (lawInline_walk ao len cap Q W hm hin hq).mono ?_
  rintro e W' ⟨he, bel⟩
  subst he
  exact ⟨_, rfl, _, _, _, [], _, [], hW', trodAll_mk1 (shut_bool Try.underlying4 _), trodAll_mk1 (Below.trod inl_laidOut (by kernel_rfl) (of_decide_eq_true (by kernel_rfl)) k0 bel lt0), rfl, bel.frame _, fun h => by cases h⟩

theorem inline_holds : Rows.FnExactInlineSaid :=
  OpenClaim.holds_of_wide 4 Try.f4 rfl rfl rfl rfl rfl rfl rfl ⟨rfl, rfl, rfl, rfl, rfl⟩ rfl rfl rfl rfl rfl (by kernel_rfl) Try.func4 (by kernel_rfl)
    (of_decide_eq_true (by kernel_rfl)) (by unfold Func.isWrapper; first | (rw [if_pos (by decide +kernel)]; kernel_rfl) | (rw [if_neg (by decide +kernel)]; exact ⟨rfl, rfl⟩))
    (fun os started H enc _ => lawInline_lifted os started H enc)
end Go.Proofs.Ythicfjjaehkcnaa
