/- FnExactPrintAsm: proved. -/
import Derived.Test.YtojbdeapcaebnaaDoorAsmImpl
import Derived.Test.YtojbdeapcaebnaaDoorAsmMark
import Derived.Test.YtojbdeapcaebnaaDoorFlatAny
import Derived.Test.YtojbdeapcaebnaaDoorOpenIns
import Derived.Test.YtojbdeapcaebnaaDoorCards
import Derived.Test.YtojbdeapcaebnaaDoorTie
import Derived.OpenShut
import Derived.ChangeOld
import Derived.Below
import Derived.ProofKit
import Derived.LaidMore
import Derived.Lay
import Derived.SevenTiedAt
import Derived.Stop.Joined
namespace Go.Proofs.YtojbdeapcaebnaaDoor
open Go.ChangeShapes Go.WideShapes Go.ChangeAt Go.RowKit Go.Deep

theorem prt_own : ownKnob Tryd.prog.godebug = none := by kernel_rfl
theorem prt_laidOut : laidOutB Tryd.prog = true := by kernel_rfl

set_option maxHeartbeats 400000 in
theorem lawPrint_great (ao : Option Addr) (len cap : Nat) (d : Int) (w : World) (h : 1048576 < len) (hm : len ≤ maxLen) :
    Calls Tryd.prog 3 #[.slice ao len cap, .int .i64 d] w fun e w' => e = .returned (.bool true) ∧ Below w.heap.size w w' := by
  unfold maxLen at hm
  go_enter Tryd.func3, Tryd.ntmps3
  go_wp2_with fail
  refine (szInsS_no _ _ _ _ _ (by omega) (by omega) hm).mono ?_
  rintro e w1 ⟨rfl, rfl⟩
  go_wp2
  go_ret
  exact ⟨rfl, Below.refl _ _⟩

theorem Fr.under {S : Nat → Prop} {B : Nat} {w w' : World} (h : Fr S w w') (hB : B ≤ w.heap.size) (hs : ∀ k, k < B → ¬ S k) : Below B w w' := ⟨h.os, h.tape, h.output, h.size, fun k hk => h.block k (by omega) (hs k hk)⟩

set_option maxRecDepth 20000 in
set_option maxHeartbeats 4000000 in
theorem lawPrint_walk (ao : Option Addr) (len cap : Nat) (F : Nat → Nat → Int) (d : Int) (w : World) (hlen : len ≤ 1048576) (hin : InRow w ao (len * 6) (insF F))
    (ht1 : Lib.TabIs Tryd.prog w "internal/strconv.uint64pow10" .u64 Lib.pow10Tab) (ht2 : Lib.TabIs Tryd.prog w "strings.asciiSpace" .u8 Lib.asciiSpaceTab) :
    Calls Tryd.prog 3 #[.slice ao len cap, .int .i64 d] w fun e w' => e = .returned (.bool true) ∧ Below w.heap.size w w' := by
  have HI : Hid (InRow w ao (len * 6) (insF F)) := hin
  have T1 : Hid (Lib.TabBelow Tryd.prog w.heap.size w "internal/strconv.uint64pow10" .u64 Lib.pow10Tab) := Lib.tabBelow_of_tabIs ht1
  have T2 : Hid (Lib.TabBelow Tryd.prog w.heap.size w "strings.asciiSpace" .u8 Lib.asciiSpaceTab) := Lib.tabBelow_of_tabIs ht2
  clear hin ht1 ht2
  have hlen' : (len : Int) ≤ 1048576 := by omega
  obtain ⟨t, ht⟩ : ∃ x, prT d len F = x := ⟨_, rfl⟩
  have HT : Hid (prT d len F = t) := ht
  clear ht
  go_enter Tryd.func3, Tryd.ntmps3
  go_wp2_with fail
  refine (szInsS_ok _ _ _ _ _ (by omega) (by omega)).mono ?_
  rintro e w0 ⟨rfl, hw0⟩
  rw [hw0]
  clear hw0
  go_wp2_with fail
  refine (toInsS_in _ _ _ F _ hlen HI.out).mono ?_
  rintro e w1 ⟨rfl, hb1, ha1⟩
  have H1 : Hid (Arr w1 _ (len * 6) (insF F)) := ha1
  have B1 : Hid (Below w.heap.size w w1) := hb1
  clear ha1 hb1
  go_wp2_with fail
  refine (specPrint_any _ _ _ _ F d _ hlen H1.out.at).mono ?_
  rintro e w2 ⟨vs, ns, rfl, ho2, hb2⟩
  rw [HT.out] at ho2
  obtain ⟨_, aos, cs, hvs, hs2, hbs⟩ := row_wr ho2
  subst hvs
  have B2 : Hid (Below w.heap.size w w2) := B1.out.trans (hb2.mono B1.out.size)
  have S2 : Hid (WrR w2 aos t.length (numF .u8 (bF t))) := hs2
  have KS : Hid (∀ q, Blk aos t.length q → w1.heap.size ≤ q ∧ q < w2.heap.size) := hbs
  clear ho2 hb2 hs2 hbs H1
  go_wp2_with fail
  refine (toInsS_in _ _ _ F _ hlen (HI.out.below B2.out (Nat.le_refl _))).mono ?_
  rintro e w3 ⟨rfl, hb3, ha3⟩
  have B3 : Hid (Below w.heap.size w w3) := B2.out.trans (hb3.mono B2.out.size)
  have S3 : Hid (WrR w3 aos t.length (numF .u8 (bF t))) := S2.out.below hb3
  have A3 : Hid (Arr w3 w2.heap.size (len * 6) (insF F)) := ha3
  have z23 : w2.heap.size < w3.heap.size := ha3.lt
  have lw2 := B2.out.size
  have lw3 := B3.out.size
  clear hb3 ha3 S2
  go_wp2_with fail
  refine (implPrint_any _ _ _ _ F d _ hlen A3.out.at (T1.out _ B3.out) (T2.out _ B3.out)).mono ?_
  rintro e w4 ⟨vg, ng, rfl, ho4, hng, hb4⟩
  rw [HT.out] at ho4
  obtain ⟨hnl, aog, cg, hvg, hg4, hbg⟩ := row_wr ho4
  subst hvg
  have hl : (t.length : Int) ≤ 1099511627776 := by omega
  have B4 : Hid (Below w.heap.size w w4) := B3.out.trans (hb4.mono B3.out.size)
  have S4 : Hid (WrR w4 aos t.length (numF .u8 (bF t))) := S3.out.below hb4
  have A4 : Hid (Arr w4 w2.heap.size (len * 6) (insF F)) := A3.out.below hb4 A3.out.lt
  have G4 : Hid (WrR w4 aog t.length (numF .u8 (bF t))) := hg4
  have KG : Hid (∀ q, Blk aog t.length q → w3.heap.size ≤ q) := fun q hq => (hbg q hq).1
  have z34 := hb4.size
  clear hb4 ho4 hg4 hbg hng hnl S3 A3
  go_wp2_with fail
  refine (eqByteS_in _ _ _ _ _ (bF t) _ hl G4.out S4.out).mono ?_
  rintro e w5 ⟨rfl, hb5⟩
  have B5 : Hid (Below w.heap.size w w5) := B4.out.trans (hb5.mono B4.out.size)
  have S5 : Hid (WrR w5 aos t.length (numF .u8 (bF t))) := S4.out.below hb5
  have A5 : Hid (Arr w5 w2.heap.size (len * 6) (insF F)) := A4.out.below hb5 A4.out.lt
  have G5 : Hid (WrR w5 aog t.length (numF .u8 (bF t))) := G4.out.below hb5
  have z45 := hb5.size
  clear hb5 S4 A4 G4
  go_wp2_with fail
  refine (toInsS_in _ _ _ F _ hlen (HI.out.below B5.out (Nat.le_refl _))).mono ?_
  rintro e w6 ⟨rfl, hb6, ha6⟩
  have B6 : Hid (Below w.heap.size w w6) := B5.out.trans (hb6.mono B5.out.size)
  have S6 : Hid (WrR w6 aos t.length (numF .u8 (bF t))) := S5.out.below hb6
  have A6 : Hid (Arr w6 w2.heap.size (len * 6) (insF F)) := A5.out.below hb6 A5.out.lt
  have D6 : Hid (Arr w6 w5.heap.size (len * 6) (insF F)) := ha6
  have G6 : Hid (WrR w6 aog t.length (numF .u8 (bF t))) := G5.out.below hb6
  have z56 := hb6.size
  clear hb6 ha6 S5 A5 G5
  go_wp2_with fail
  refine (eqInsS_same _ _ _ _ _ _ _ F _ hlen A6.out.at D6.out.at).mono ?_
  rintro e w7 ⟨rfl, hb7⟩
  have B7 : Hid (Below w.heap.size w w7) := B6.out.trans (hb7.mono B6.out.size)
  have S7 : Hid (WrR w7 aos t.length (numF .u8 (bF t))) := S6.out.below hb7
  have A7 : Hid (Arr w7 w2.heap.size (len * 6) (insF F)) := A6.out.below hb7 A6.out.lt
  have G7 : Hid (WrR w7 aog t.length (numF .u8 (bF t))) := G6.out.below hb7
  have z67 := hb7.size
  clear hb7 S6 A6 G6 D6
  go_wp2_with fail
  refine (markIns_at _ _ _ _ 1 _ hlen (by omega) (by omega) A7.out).mono ?_
  rintro e w8 ⟨rfl, hf8⟩
  have B8 : Hid (Below w.heap.size w w8) := B7.out.trans (hf8.under (by omega) fun k hk hs => by omega)
  have S8 : Hid (WrR w8 aos t.length (numF .u8 (bF t))) := S7.out.fr hf8 fun q hq hs => by have := KS.out q hq; omega
  have G8 : Hid (WrR w8 aog t.length (numF .u8 (bF t))) := G7.out.fr hf8 fun q hq hs => by have := KG.out q hq; omega
  have z78 := hf8.size
  have nk : ¬ ((1 : Int) + 6 * (len : Int) < 0) := by omega
  clear hf8 S7 A7 G7
  go_wp2_with fail
  refine (eqByteS_in _ _ _ _ _ (bF t) _ hl G8.out S8.out).mono ?_
  rintro e w9 ⟨rfl, hb9⟩
  have B9 : Hid (Below w.heap.size w w9) := B8.out.trans (hb9.mono B8.out.size)
  have S9 : Hid (WrR w9 aos t.length (numF .u8 (bF t))) := S8.out.below hb9
  have G9 : Hid (WrR w9 aog t.length (numF .u8 (bF t))) := G8.out.below hb9
  have z89 := hb9.size
  clear hb9 S8 G8
  go_wp2_with fail
  refine (markB_in _ _ _ _ 1 _ hl (by omega) (by omega) G9.out).mono ?_
  rintro e w10 ⟨rfl, hf10, hg10⟩
  have B10 : Hid (Below w.heap.size w w10) := B9.out.trans (hf10.under (by omega) fun k hk hs => by have := KG.out k hs; omega)
  have S10 : Hid (WrR w10 aos t.length (numF .u8 (bF t))) := S9.out.fr hf10 fun q hq hs => by have := KS.out q hq; have := KG.out q hs; omega
  have G10 : Hid (InRow w10 aog t.length (numF .u8 fun i => ((1 : Int) + i) % 256)) := hg10.inRow
  clear hf10 hg10 S9 G9
  obtain ⟨nl, hnl⟩ : ∃ y : Int, 1 + (t.length : Int) = y := ⟨_, rfl⟩
  have HNL : Hid (1 + (t.length : Int) = nl) := hnl
  rw [hnl]
  have nl0 : ¬ nl < 0 := by omega
  clear hnl
  go_wp2_with fail
  refine (heldB_in _ _ _ 1 _ hl (by omega) (by omega) G10.out).mono ?_
  rintro e w10' ⟨rfl, hw⟩
  rw [hw, HNL.out]
  clear hw G10
  go_wp2_with fail
  refine (toInsS_in _ _ _ F _ hlen (HI.out.below B10.out (Nat.le_refl _))).mono ?_
  rintro e w11 ⟨rfl, hb11, ha11⟩
  have B11 : Hid (Below w.heap.size w w11) := B10.out.trans (hb11.mono B10.out.size)
  have S11 : Hid (WrR w11 aos t.length (numF .u8 (bF t))) := S10.out.below hb11
  have A11 : Hid (Arr w11 _ (len * 6) (insF F)) := ha11
  clear hb11 ha11 S10
  go_wp2_with fail
  refine (implPrint_any _ _ _ _ F d _ hlen A11.out.at (T1.out _ B11.out) (T2.out _ B11.out)).mono ?_
  rintro e w12 ⟨vh, nh, rfl, ho12, _, hb12⟩
  rw [HT.out] at ho12
  obtain ⟨_, aoh, ch, hvh, hg12, _⟩ := row_wr ho12
  subst hvh
  have B12 : Hid (Below w.heap.size w w12) := B11.out.trans (hb12.mono B11.out.size)
  have S12 : Hid (WrR w12 aos t.length (numF .u8 (bF t))) := S11.out.below hb12
  have G12 : Hid (WrR w12 aoh t.length (numF .u8 (bF t))) := hg12
  clear hb12 ho12 hg12 S11 A11
  go_wp2_with fail
  refine (eqByteS_in _ _ _ _ _ (bF t) _ hl G12.out S12.out).mono ?_
  rintro e w13 ⟨rfl, hb13⟩
  go_wp2
  go_ret
  exact ⟨rfl, B12.out.trans (hb13.mono B12.out.size)⟩

theorem tab_laid {name : String} {k : IntKind} {zs : List Int} {dd : DataW Unit} (hd : dd = Lib.tabData k zs) {W : World} (h : laidMetH Tryd.prog Rows.fnExactPrintAsmRow.laid W) (hx : (Rows.fnExactPrintAsmRow.laid.filter fun x => x.1 == name) = [(name, dd)]) {g : Nat} {t e : TypeId} {n : Nat}
    (hg : Tryd.prog.globalNamed name = some g) (hty : (Tryd.prog.globals[g]?).map (·.type) = some t) (ht : Tryd.prog.underlying t = some (.array n e)) (he : Tryd.prog.underlying e = some (.int k)) (hce : Tryd.prog.cellsOf e = 1) (hct : Tryd.prog.cellsOf t = n) :
    Lib.TabIs Tryd.prog W name k zs := by
  rw [MakeChecks.laidMetH_plain _ _ _ (by kernel_rfl)] at h
  have h1 := laidMet.filter (fun x => x.1 == name) h
  rw [hx, hd] at h1
  exact Lib.tabIs_of_head hg hty ht he hce hct h1

set_option maxRecDepth 100000 in
theorem lawPrint_lifted (os : Os) (started : os.Started) (H : Type) (enc : TypeId × Value → H) :
    ReturnsInHanded {} Tryd.checked os 3 .any (fun w args => (Rows.fnExactPrintAsmSpec.pre enc Tryd.prog Tryd.f3 Rows.fnExactPrintAsmRow.domain false w args ∧ laidMetH Tryd.prog Rows.fnExactPrintAsmRow.laid w) ∧ sizedMet enc Tryd.prog Tryd.f3 (OpenSpec.ofChange Rows.fnExactPrintAsmSpec) false w args)
      (Rows.fnExactPrintAsmSpec.post enc Tryd.prog Tryd.f3 false true false false) := by
  refine returnsInHanded_of_change_and (C := Tryd.checked) (X := fun w _ => laidMetH Tryd.prog Rows.fnExactPrintAsmRow.laid w) (fun _ _ _ hh h => h.of_heap hh) prt_own started (by kernel_rfl) Tryd.func3
    (ChangeSpec.witness_shaped (enc := enc) (C := Tryd.checked) (os := os) (X := fun w _ => laidMetH Tryd.prog Rows.fnExactPrintAsmRow.laid w) false (World.laidAll Tryd.prog os Rows.fnExactPrintAsmRow.laid) #[.slice none 0 0, .int .i64 0] 8 (World.laidAll_os _ _ _)
      (World.shaped_of_ZipB (by kernel_rfl) (by kernel_rfl)) (by kernel_rfl) (by kernel_rfl) (by kernel_rfl)
      (by rw [MakeChecks.laidMetH_plain _ _ _ (by kernel_rfl)]; exact laidMet_laidAll _ (by kernel_rfl) (by kernel_rfl))) ?_
  intro W base args ds gs before hval0 hW hc _ hL _
  have hval : ∀ (j : Nat) t v, Tryd.f3.params[j]? = some t → args[j]? = some v → Value.okWide Tryd.prog W .any base t v := hval0
  have hW' := hW
  obtain ⟨p, q, hA0, hV, rfl, _, _⟩ := hW
  have hA : DataW.TrodAll enc Tryd.prog W 0 (fun _ => true) true Tryd.f3.params.toList args.toList ds p := hA0
  rw [Tryd.params3] at hA hval
  obtain ⟨v0, v1, d0, d1, p0, p1, rfl, rfl, rfl, h0, h1⟩ := trodAll_two hA
  obtain ⟨rfl, rfl⟩ := trodVars_none hV
  obtain ⟨ao, len, cap, rfl⟩ := okWide_slice Tryd.underlying22 (hval 0 22 v0 rfl rfl)
  have k0 := h0
  have k1 := h1
  have lt0 : ∀ x ∈ p0, x.block < W.heap.size := by obtain ⟨m, hm⟩ := k0; exact DataW.trod_lt m _ _ _ hm
  have lt1 : ∀ x ∈ p1, x.block < W.heap.size := by obtain ⟨m, hm⟩ := k1; exact DataW.trod_lt m _ _ _ hm
  obtain ⟨x, rfl, rfl, rfl, wx⟩ := open_int Tryd.underlying2 (hval 1 2 v1 rfl rfl) h1
  obtain ⟨fuel, hf⟩ := h0
  obtain ⟨hm, F, hin⟩ := open_insS (by simpa [Value.cells] using hf)
  clear hA0 hval0
  have t1 : Lib.TabIs Tryd.prog W "internal/strconv.uint64pow10" .u64 Lib.pow10Tab := tab_laid (by rfl) hL (by kernel_rfl) (g := 2) (t := 106) (e := 93) (n := 20) (by kernel_rfl) (by kernel_rfl) (by kernel_rfl) (by kernel_rfl) (by kernel_rfl) (by kernel_rfl)
  have t2 : Lib.TabIs Tryd.prog W "strings.asciiSpace" .u8 Lib.asciiSpaceTab := tab_laid (by rfl) hL (by kernel_rfl) (g := 0) (t := 65) (e := 5) (n := 256) (by kernel_rfl) (by kernel_rfl) (by kernel_rfl) (by kernel_rfl) (by kernel_rfl) (by kernel_rfl)
  have fin : ∀ (e : Ending) (W' : World), e = .returned (.bool true) ∧ Below W.heap.size W W' → ∃ v, e = .returned v ∧ Rows.fnExactPrintAsmSpec.post enc Tryd.prog Tryd.f3 false true false false W #[.slice ao len cap, .int .i64 x] v W' := by
    rintro e W' ⟨he, bel⟩
    subst he
    exact ⟨_, rfl, _, _, _, [], _, [], hW', trodAll_mk1 (shut_bool Tryd.underlying4 _), trodAll_mk2 (Below.trod prt_laidOut (by kernel_rfl) (of_decide_eq_true (by kernel_rfl)) k0 bel lt0) (Below.trod prt_laidOut (by kernel_rfl) (of_decide_eq_true (by kernel_rfl)) k1 bel lt1), rfl, bel.frame _, fun h => by cases h⟩
  by_cases hl : len ≤ 1048576
  · exact (lawPrint_walk ao len cap F x W hl hin t1 t2).mono fin
  · exact (lawPrint_great ao len cap x W (by omega) hm).mono fin

theorem printRow_holds : Rows.FnExactPrintAsmSaid :=
  OpenClaim.holds_of_wide 3 Tryd.f3 rfl rfl rfl rfl rfl rfl rfl ⟨rfl, rfl, rfl, rfl, rfl⟩ rfl rfl rfl rfl rfl (by kernel_rfl) Tryd.func3 (by kernel_rfl)
    (of_decide_eq_true (by kernel_rfl)) (by unfold Func.isWrapper; first | (rw [if_pos (by decide +kernel)]; kernel_rfl) | (rw [if_neg (by decide +kernel)]; exact ⟨rfl, rfl⟩))
    (fun os started H enc _ => lawPrint_lifted os started H enc)
theorem printAsm_holds : Rows.FnExactPrintAsmCardSaid :=
  Claim7.holds_tied_plain_at .later [] [.data, .data, .data, .listed, .data] true (true, "1cccedbb3c3ef5132ea9a3b95c34e34cdd9f9a4e3bfcade917f4d5894a3c04b1") false printRow_holds (fun _ h => by cases h) (by kernel_rfl) (fun _ h => by cases h) fnExactPrintAsm_row_tie rfl ⟨rfl, rfl⟩ (by kernel_rfl) rfl
    (fun f fn hf hfn => by
      obtain rfl : f = 3 := Option.some.inj ((show Tryd.prog.funcNamed "loop.example/s01319/laws.FnExactPrintAsm" = some 3 by kernel_rfl).symm.trans hf) |>.symm
      obtain rfl : fn = Tryd.f3 := (Option.some.inj (Tryd.func3.symm.trans hfn)).symm
      exact ⟨by kernel_rfl, fun j t ht => by
        rw [Tryd.params3] at ht
        have hm : t ∈ [22, 2] := by simpa using Array.mem_of_getElem? ht
        have hall : ([22, 2].all fun u => !Tryd.prog.wantsStandIn u) = true := by kernel_rfl
        exact (show Tryd.prog.wantsStandIn t = false by simpa using List.all_eq_true.1 hall t hm)⟩)
    (by kernel_rfl)
end Go.Proofs.YtojbdeapcaebnaaDoor
