import Derived.Test.YtjnooklalbcamaaOfValGood
import Derived.Test.YtjnooklalbcamaaOfOpenVals
/- Signatures: measured, copied, compared; ValidSig, the specification's and the program's. -/
namespace Go.Proofs.Ytjnooklalbcamaa
open Go.RowKit

/-- A signature that came in. -/
structure SigIn (w : World) (aoH : Option Addr) (nH : Nat) (S : Nat → HS) (aoR : Option Addr) (nR : Nat) (V : Nat → VV) : Prop where
  h : InRow w aoH (nH * 3) (hsF S)
  r : InRow w aoR (nR * 6) (vF V)
/-- A signature that was copied. -/
structure SigCp (w : World) (bH nH : Nat) (S : Nat → HS) (bR nR : Nat) (V : Nat → VV) : Prop where
  h : Arr w bH (nH * 3) (hsF S)
  r : Arr w bR (nR * 6) (vF V)
theorem SigIn.below {w w' : World} {B : Nat} {aoH : Option Addr} {nH : Nat} {S : Nat → HS} {aoR : Option Addr} {nR : Nat} {V : Nat → VV} (x : SigIn w aoH nH S aoR nR V) (hb : Below B w w') (hB : w.heap.size ≤ B) : SigIn w' aoH nH S aoR nR V :=
  ⟨x.h.below hb hB, x.r.below hb hB⟩
theorem SigCp.below {w w' : World} {bH nH : Nat} {S : Nat → HS} {bR nR : Nat} {V : Nat → VV} (x : SigCp w bH nH S bR nR V) (hb : Below w.heap.size w w') : SigCp w' bH nH S bR nR V :=
  ⟨x.h.below hb x.h.lt, x.r.below hb x.r.lt⟩

set_option maxHeartbeats 400000 in
theorem szSig_ok (aoH : Option Addr) (nH cH : Nat) (aoR : Option Addr) (nR cR : Nat) (left : Int) (w : World) (h0 : 0 ≤ left) (h1 : (nH : Int) + nR ≤ left) (h2 : left ≤ 1048576) :
    Calls Try.prog 15 #[.agg #[.slice aoH nH cH, .slice aoR nR cR], .int .i64 left] w fun e w' => e = .returned (.int .i64 (left - nH - nR)) ∧ Below w.heap.size w w' := by
  go_enter Try.func15, Try.ntmps15
  go_wp2
  go_ret
  exact ⟨rfl, (Below.refl _ _).alloc (Nat.le_refl _) _⟩
set_option maxHeartbeats 400000 in
theorem szSig_no (aoH : Option Addr) (nH cH : Nat) (aoR : Option Addr) (nR cR : Nat) (left : Int) (w : World) (h0 : 0 ≤ left) (h1 : left < (nH : Int) + nR) (h2 : left ≤ 1048576) (mH : nH ≤ maxLen) (mR : nR ≤ maxLen) :
    Calls Try.prog 15 #[.agg #[.slice aoH nH cH, .slice aoR nR cR], .int .i64 left] w fun e w' => e = .returned (.int .i64 (-1)) ∧ Below w.heap.size w w' := by
  unfold maxLen at mH mR
  by_cases g : left < nH
  · go_enter Try.func15, Try.ntmps15
    go_wp2
    go_ret
    exact ⟨rfl, (Below.refl _ _).alloc (Nat.le_refl _) _⟩
  · go_enter Try.func15, Try.ntmps15
    go_wp2
    go_ret
    exact ⟨rfl, (Below.refl _ _).alloc (Nat.le_refl _) _⟩

set_option maxHeartbeats 1000000 in
theorem toSig_in (aoH : Option Addr) (nH cH : Nat) (S : Nat → HS) (aoR : Option Addr) (nR cR : Nat) (V : Nat → VV) (w : World) (lH : nH ≤ 1048576) (lR : nR ≤ 1048576) (hin : SigIn w aoH nH S aoR nR V) :
    Calls Try.prog 17 #[.agg #[.slice aoH nH cH, .slice aoR nR cR]] w fun e w' => ∃ bH bR, w.heap.size ≤ bH ∧ w.heap.size ≤ bR ∧ e = .returned (.agg #[.slice (some ⟨bH, 0, none⟩) nH nH, .slice (some ⟨bR, 0, none⟩) nR nR]) ∧ Below w.heap.size w w' ∧ SigCp w' bH nH S bR nR V := by
  have HI : Hid (SigIn w aoH nH S aoR nR V) := hin
  clear hin
  go_enter Try.func17, Try.ntmps17
  go_wp2_with fail
  have b0 := (((Below.refl w.heap.size w).alloc (Nat.le_refl _) (.cells #[.slice aoH nH cH, .slice aoR nR cR] 42)).alloc (by simp) (.cells #[.slice none 0 0, .slice none 0 0] 48)).alloc (by simp; omega) (.cells #[.slice none 0 0, .slice none 0 0] 48)
  refine (toHeapSigS_in _ _ _ S _ lH ?h1).mono ?_
  case h1 => exact HI.out.h.below b0 (Nat.le_refl _)
  rintro e w1 ⟨rfl, hb1, ha1⟩
  have b1 := b0.trans (hb1.mono (by simp; omega))
  have HB1 : Hid (Below w.heap.size w w1) := b1
  have t1 : Arr w1 (w.heap.size + 1 + 1 + 1) (nH * 3) (hsF S) := by simp only [World.size_alloc] at ha1; exact ha1
  have HA1 : Hid (Arr w1 (w.heap.size + 1 + 1 + 1) (nH * 3) (hsF S)) := t1
  clear b0 b1 ha1 t1
  obtain ⟨hc1, hf1⟩ := bcell hb1
  have hz1 : w.heap.size + 2 < w1.heap.size := by have := hb1.size; simp at this; omega
  have hz2 : w.heap.size + 1 < w1.heap.size := by omega
  have hz3 : w.heap.size < w1.heap.size := by omega
  clear hb1
  go_wp2_with fail
  have s1 := HB1.out.setCell (p := ⟨w.heap.size + 1 + 1, 0, none⟩) (by simp; omega) (.slice (some ⟨w.heap.size + 1 + 1 + 1, 0, none⟩) nH nH)
  refine (toValS_in _ _ _ V _ lR ?h2).mono ?_
  case h2 => exact HI.out.r.below s1 (Nat.le_refl _)
  rintro e w2 ⟨rfl, hb2, ha2⟩
  have t2 : Below w.heap.size w w2 := s1.trans (hb2.mono (by simp; omega))
  have HB2 : Hid (Below w.heap.size w w2) := t2
  have t3 : Arr w2 w1.heap.size (nR * 6) (vF V) := by simp only [World.size_setCell] at ha2; exact ha2
  have HA2 : Hid (Arr w2 w1.heap.size (nR * 6) (vF V)) := t3
  have t4 : Arr w2 (w.heap.size + 1 + 1 + 1) (nH * 3) (hsF S) := (HA1.out.other (a := ⟨w.heap.size + 1 + 1, 0, none⟩) (by simp) (.slice (some ⟨w.heap.size + 1 + 1 + 1, 0, none⟩) nH nH)).below hb2 (by simp; exact HA1.out.lt)
  have HA3 : Hid (Arr w2 (w.heap.size + 1 + 1 + 1) (nH * 3) (hsF S)) := t4
  clear s1 t2 t3 t4 ha2
  obtain ⟨hc2, hf2⟩ := bcell hb2
  have hy : w1.heap.size ≤ w2.heap.size := by have := hb2.size; simpa using this
  have hy1 : w.heap.size + 2 < w2.heap.size := by omega
  have hy2 : w.heap.size + 1 < w2.heap.size := by omega
  have hy3 : w.heap.size < w2.heap.size := by omega
  clear hb2
  go_wp2
  refine bodyPost_ret (v := .agg #[.slice (some ⟨w.heap.size + 1 + 1 + 1, 0, none⟩) nH nH, .slice (some ⟨w1.heap.size, 0, none⟩) nR nR]) (by simp [results, Try.results17, go_sem, hc1, hc2, hz2]) rfl ⟨_, _, ?_, ?_, rfl, ?_, ?_⟩
  · omega
  · omega
  · exact ((HB2.out.setCell (by simp; omega) _).setCell (by simp) _).setCell (by simp) _
  · refine ⟨?_, ?_⟩
    · exact ((HA3.out.other (by simp) _).other (by simp) _).other (by simp) _
    · exact ((HA2.out.other (by simp; omega) _).other (by simp; omega) _).other (by simp; omega) _

set_option maxHeartbeats 400000 in
theorem eqSig_same (bH cH nH : Nat) (S : Nat → HS) (bR cR nR : Nat) (V : Nat → VV) (bH' cH' bR' cR' : Nat) (w : World) (lH : nH ≤ 1048576) (lR : nR ≤ 1048576) (h1 : SigCp w bH nH S bR nR V) (h2 : SigCp w bH' nH S bR' nR V) :
    Calls Try.prog 19 #[.agg #[.slice (some ⟨bH, 0, none⟩) nH cH, .slice (some ⟨bR, 0, none⟩) nR cR], .agg #[.slice (some ⟨bH', 0, none⟩) nH cH', .slice (some ⟨bR', 0, none⟩) nR cR']] w fun e w' => e = .returned (.bool true) ∧ Below w.heap.size w w' := by
  have H1 : Hid (SigCp w bH nH S bR nR V) := h1
  have H2 : Hid (SigCp w bH' nH S bR' nR V) := h2
  clear h1 h2
  go_enter Try.func19, Try.ntmps19
  go_wp2_with fail
  have b0 : Below w.heap.size w ((w.alloc (.cells #[.slice (some ⟨bH, 0, none⟩) nH cH, .slice (some ⟨bR, 0, none⟩) nR cR] 48)).alloc (.cells #[.slice (some ⟨bH', 0, none⟩) nH cH', .slice (some ⟨bR', 0, none⟩) nR cR'] 48)) := ((Below.refl _ _).alloc (Nat.le_refl _) _).alloc (by simp) _
  have K1 : Hid (SigCp _ bH nH S bR nR V) := H1.out.below b0
  have K2 : Hid (SigCp _ bH' nH S bR' nR V) := H2.out.below b0
  have HB0 : Hid _ := b0
  clear b0
  refine (eqHeapSigS_same _ _ _ _ _ _ _ S _ lH K1.out.h.at K2.out.h.at).mono ?_
  rintro e w1 ⟨rfl, hb1⟩
  have J1 : Hid (SigCp _ bH nH S bR nR V) := K1.out.below hb1
  have J2 : Hid (SigCp _ bH' nH S bR' nR V) := K2.out.below hb1
  have b1 := HB0.out.trans (hb1.mono HB0.out.size)
  have HB1 : Hid _ := b1
  obtain ⟨hc1, _⟩ := bcell hb1
  have hz2 : w.heap.size + 1 < w1.heap.size := by have := hb1.size; simp at this; omega
  have hz3 : w.heap.size < w1.heap.size := by omega
  clear hb1 b1 K1 K2 HB0
  go_wp2_with fail
  refine (eqValS_same _ _ _ _ _ _ _ V _ lR J1.out.r.at J2.out.r.at).mono ?_
  rintro e w2 ⟨rfl, hb2⟩
  go_wp2
  go_ret
  exact ⟨rfl, HB1.out.trans (hb2.mono HB1.out.size)⟩

/-- A valid signature. -/
def sigAt (S : Nat → HS) (i : Nat) : Bool := decide (1 ≤ (S i).size ∧ (S i).size ≤ 4096)
def sigOK (nH : Nat) (S : Nat → HS) (nR : Nat) (V : Nat → VV) : Bool := decide (nH ≤ 8) && (List.range nH).all (sigAt S) && goodAll V nR nH
theorem sig_bad {nH nR : Nat} {S : Nat → HS} {V : Nat → VV} (h : 8 < nH) : sigOK nH S nR V = false := by
  simp [sigOK]; intros; omega
theorem sig_stop {nH nR k : Nat} {S : Nat → HS} {V : Nat → VV} (hk : k < nH) (h : sigAt S k = false) : sigOK nH S nR V = false := by
  have : (List.range nH).all (sigAt S) = false := by
    rw [List.all_eq_false]
    exact ⟨k, List.mem_range.2 hk, by simp [h]⟩
  simp [sigOK, this]
theorem sig_end {nH nR : Nat} {S : Nat → HS} {V : Nat → VV} (h8 : nH ≤ 8) (h : ∀ i, i < nH → sigAt S i = true) : sigOK nH S nR V = goodAll V nR nH := by
  have : (List.range nH).all (sigAt S) = true := by
    rw [List.all_eq_true]
    exact fun i hi => h i (List.mem_range.1 hi)
  simp [sigOK, this, h8]
theorem sig_step {S : Nat → HS} {k : Nat} (h : ∀ i, i < k → sigAt S i = true) (g : sigAt S k = true) : ∀ i, i < k + 1 → sigAt S i = true := by
  intro i hi
  by_cases e : i = k
  · rw [e]; exact g
  · exact h i (by omega)

set_option maxHeartbeats 1000000 in
theorem implSig_any (bH cH nH : Nat) (S : Nat → HS) (bR cR nR : Nat) (V : Nat → VV) (w : World) (lH : nH ≤ 1048576) (lR : nR ≤ 1048576) (h1 : SigCp w bH nH S bR nR V) :
    Calls Try.prog 18 #[.agg #[.slice (some ⟨bH, 0, none⟩) nH cH, .slice (some ⟨bR, 0, none⟩) nR cR]] w fun e w' => e = .returned (.bool (sigOK nH S nR V)) ∧ Below w.heap.size w w' := by
  have hbH := h1.h.lt
  have H1 : Hid (SigCp w bH nH S bR nR V) := h1
  clear h1
  by_cases h8 : 8 < nH
  · rw [sig_bad h8]
    go_enter Try.func18, Try.ntmps18
    go_wp2
    go_ret
    exact ⟨rfl, (Below.refl _ _).alloc (Nat.le_refl _) _⟩
  · have h8' : nH ≤ 8 := by omega
    clear h8
    go_enter Try.func18, Try.ntmps18
    go_wp2
    go_loopw [12] (fun i wr => ∃ k : Nat, k ≤ nH ∧ i = .int .i64 k ∧ Below w.heap.size w wr ∧ w.heap.size < wr.heap.size ∧ wr.cell? ⟨w.heap.size, 0, none⟩ = some (.slice (some ⟨bH, 0, none⟩) nH cH) ∧ wr.cell? ⟨w.heap.size, 1, none⟩ = some (.slice (some ⟨bR, 0, none⟩) nR cR) ∧ ∀ i, i < k → sigAt S i = true) (fun i _ => nH - (intOf i).toNat)
    case atStart => exact ⟨0, Nat.zero_le _, rfl, (Below.refl _ _).alloc (Nat.le_refl _) _, by simp, by simp [go_sem], by simp [go_sem], fun i hi => by omega⟩
    case round =>
      obtain ⟨k, hk, rfl, hbr, hzr, x0, x1, hall⟩ := hrel
      have HL : Hid (∀ i, i < k → sigAt S i = true) := hall
      have HBR : Hid (Below w.heap.size w wr) := hbr
      clear hall
      by_cases hlt : k < nH
      · have g0 := (hbr.cell (p := ⟨bH, k * 3, none⟩) hbH).trans (H1.out.h.cell (i := k * 3 + 0) (by omega) |>.trans (congrArg some (hsF_at S k 0 (by omega))))
        have g1 := (hbr.cell (p := ⟨bH, k * 3 + 1, none⟩) hbH).trans (H1.out.h.cell (i := k * 3 + 1) (by omega) |>.trans (congrArg some (hsF_at S k 1 (by omega))))
        have g2 := (hbr.cell (p := ⟨bH, k * 3 + 2, none⟩) hbH).trans (H1.out.h.cell (i := k * 3 + 2) (by omega) |>.trans (congrArg some (hsF_at S k 2 (by omega))))
        simp only [hsC] at g0 g1 g2
        have hbHr : bH < wr.heap.size := by omega
        clear hbr
        go_wp2
        · go_ret
          exact ⟨ret_bool (sig_stop hlt (by simp [sigAt]; omega)).symm, HBR.out.alloc HBR.out.size _⟩
        · go_roundw
          case rel => exact ⟨k + 1, by omega, by go_num, HBR.out.alloc HBR.out.size _, by simp; omega, by go_simp, by go_simp, sig_step HL.out (by simp [sigAt]; omega)⟩
          case measure => simp [intOf]; omega
        · go_ret
          exact ⟨ret_bool (sig_stop hlt (by simp [sigAt]; omega)).symm, HBR.out.alloc HBR.out.size _⟩
      · obtain rfl : k = nH := by omega
        clear hbr
        go_wp2_with fail
        refine (validVals_at _ _ _ _ V _ _ lR (H1.out.r.below HBR.out H1.out.r.lt).at).mono ?_
        rintro e w2 ⟨rfl, hb2⟩
        go_wp2
        go_ret
        exact ⟨ret_bool (sig_end h8' HL.out).symm, HBR.out.trans (hb2.mono HBR.out.size)⟩

set_option maxHeartbeats 1000000 in
theorem specSig_any (bH cH nH : Nat) (S : Nat → HS) (bR cR nR : Nat) (V : Nat → VV) (w : World) (lH : nH ≤ 1048576) (lR : nR ≤ 1048576) (h1 : SigCp w bH nH S bR nR V) :
    Calls Try.prog 16 #[.agg #[.slice (some ⟨bH, 0, none⟩) nH cH, .slice (some ⟨bR, 0, none⟩) nR cR]] w fun e w' => e = .returned (.bool (sigOK nH S nR V)) ∧ Below w.heap.size w w' := by
  have hbH := h1.h.lt
  have H1 : Hid (SigCp w bH nH S bR nR V) := h1
  clear h1
  by_cases h8 : 8 < nH
  · rw [sig_bad h8]
    go_enter Try.func16, Try.ntmps16
    go_wp2
    go_ret
    exact ⟨rfl, (Below.refl _ _).alloc (Nat.le_refl _) _⟩
  · have h8' : nH ≤ 8 := by omega
    clear h8
    go_enter Try.func16, Try.ntmps16
    go_wp2
    go_loopw [3] (fun i wr => ∃ k : Nat, k ≤ nH ∧ i = .int .i64 k ∧ Below w.heap.size w wr ∧ w.heap.size < wr.heap.size ∧ wr.cell? ⟨w.heap.size, 0, none⟩ = some (.slice (some ⟨bH, 0, none⟩) nH cH) ∧ wr.cell? ⟨w.heap.size, 1, none⟩ = some (.slice (some ⟨bR, 0, none⟩) nR cR) ∧ ∀ i, i < k → sigAt S i = true) (fun i _ => nH - (intOf i).toNat)
    case atStart => exact ⟨0, Nat.zero_le _, rfl, (Below.refl _ _).alloc (Nat.le_refl _) _, by simp, by simp [go_sem], by simp [go_sem], fun i hi => by omega⟩
    case round =>
      obtain ⟨k, hk, rfl, hbr, hzr, x0, x1, hall⟩ := hrel
      have HL : Hid (∀ i, i < k → sigAt S i = true) := hall
      have HBR : Hid (Below w.heap.size w wr) := hbr
      clear hall
      by_cases hlt : k < nH
      · have g0 := (hbr.cell (p := ⟨bH, k * 3, none⟩) hbH).trans (H1.out.h.cell (i := k * 3 + 0) (by omega) |>.trans (congrArg some (hsF_at S k 0 (by omega))))
        simp only [hsC] at g0
        have hbHr : bH < wr.heap.size := by omega
        clear hbr
        go_wp2_with fail
        refine (v_in_any _ _ _ _).mono ?_
        rintro e w2 ⟨rfl, rfl⟩
        have hv : decide (1 ≤ (S k).size ∧ (S k).size ≤ 4096) = sigAt S k := rfl
        rw [hv]
        cases hg : sigAt S k with
        | false =>
          have HG : Hid (sigAt S k = false) := hg
          clear hg hv
          go_wp2
          go_ret
          exact ⟨ret_bool (sig_stop hlt HG.out).symm, HBR.out⟩
        | true =>
          have HG : Hid (sigAt S k = true) := hg
          clear hg hv
          go_wp2
          go_roundw
          case rel => exact ⟨k + 1, by omega, by go_num, HBR.out, hzr, x0, x1, sig_step HL.out HG.out⟩
          case measure => simp [intOf]; omega
      · obtain rfl : k = nH := by omega
        clear hbr
        go_wp2_with fail
        refine (l4GoodRegs_at _ _ _ _ V _ _ lR (by omega) (by omega) (H1.out.r.below HBR.out H1.out.r.lt).at).mono ?_
        rintro e w2 ⟨rfl, hb2⟩
        go_wp2
        go_ret
        exact ⟨ret_bool (sig_end h8' HL.out).symm, HBR.out.trans (hb2.mono HBR.out.size)⟩
end Go.Proofs.Ytjnooklalbcamaa
/- Signatures and what is known, read as data. -/
namespace Go.Proofs.Ytjnooklalbcamaa
open Go.ChangeShapes Go.WideShapes Go.ChangeAt Go.RowKit Go.Deep

theorem cellsLSig : Try.prog.cellsOf 42 = 2 := by kernel_rfl
theorem cellsLValS : Try.prog.cellsOf 40 = 1 := by kernel_rfl
theorem cellsLHSS : Try.prog.cellsOf 39 = 1 := by kernel_rfl
theorem v_slice_shape {H : Type} {enc : TypeId × Value → H} {w : World} {base : Nat} {spare : Nat → Bool} {held : Bool} {t e : TypeId} (ht : Try.prog.underlying t = some (.slice e)) {fuel : Nat} {c : Value} {x : DataW H × List MemPlace} (h : DataW.trod enc Try.prog w base spare held fuel t [c] = some x) : ∃ ao n cap, c = .slice ao n cap := by
  rcases open_slice ht h with ⟨h0, _⟩ | ⟨a, len', cap', m, n, D, Pl, hcs, _⟩
  · simp at h0; exact ⟨_, _, _, h0⟩
  · simp at hcs; exact ⟨_, _, _, hcs⟩

theorem open_valS {H : Type} {enc : TypeId × Value → H} {w : World} {base : Nat} {spare : Nat → Bool} {held : Bool} {fuel : Nat} {ao : Option Addr} {len cap : Nat} {x : DataW H × List MemPlace}
    (h : DataW.trod enc Try.prog w base spare held fuel 40 [.slice ao len cap] = some x) : len ≤ maxLen ∧ ∃ V, InRow w ao (len * 6) (vF V) := by
  obtain ⟨hm, f, hin, hel⟩ := open_row Try.underlying40 cellsLVal (by omega) h
  refine ⟨hm, ?_⟩
  haveI : Inhabited VV := ⟨⟨0, false, 0, 0, 0, 0⟩⟩
  obtain ⟨G, hG⟩ := choose_lt (n := len) (p := fun i (g : VV) => ∀ j, j < 6 → f (i * 6 + j) = vC g j) (fun i hi => by
    obtain ⟨n, y, hy⟩ := hel i hi
    obtain ⟨v, e⟩ := val_cells hy
    refine ⟨v, fun j hj => ?_⟩
    simp [List.range, List.range.loop] at e
    obtain ⟨e0, e1, e2, e3, e4, e5⟩ := e
    match j, hj with
    | 0, _ => simpa [vC] using e0
    | 1, _ => simpa [vC] using e1
    | 2, _ => simpa [vC] using e2
    | 3, _ => simpa [vC] using e3
    | 4, _ => simpa [vC] using e4
    | 5, _ => simpa [vC] using e5)
  refine ⟨G, hin.congr fun p hp => ?_⟩
  have h1 : p / 6 < len := by omega
  have := hG (p / 6) h1 (p % 6) (by omega)
  rw [show p / 6 * 6 + p % 6 = p by omega] at this
  rw [this]; rfl

theorem open_hsS {H : Type} {enc : TypeId × Value → H} {w : World} {base : Nat} {spare : Nat → Bool} {held : Bool} {fuel : Nat} {ao : Option Addr} {len cap : Nat} {x : DataW H × List MemPlace}
    (h : DataW.trod enc Try.prog w base spare held fuel 39 [.slice ao len cap] = some x) : len ≤ maxLen ∧ ∃ V, InRow w ao (len * 3) (hsF V) := by
  obtain ⟨hm, f, hin, hel⟩ := open_row Try.underlying39 cellsLHS (by omega) h
  refine ⟨hm, ?_⟩
  haveI : Inhabited HS := ⟨⟨0, false, false⟩⟩
  obtain ⟨G, hG⟩ := choose_lt (n := len) (p := fun i (g : HS) => ∀ j, j < 3 → f (i * 3 + j) = hsC g j) (fun i hi => by
    obtain ⟨n, y, hy⟩ := hel i hi
    obtain ⟨v, e⟩ := hs_cells hy
    refine ⟨v, fun j hj => ?_⟩
    simp [List.range, List.range.loop] at e
    obtain ⟨e0, e1, e2⟩ := e
    match j, hj with
    | 0, _ => simpa [hsC] using e0
    | 1, _ => simpa [hsC] using e1
    | 2, _ => simpa [hsC] using e2)
  refine ⟨G, hin.congr fun p hp => ?_⟩
  have h1 : p / 3 < len := by omega
  have := hG (p / 3) h1 (p % 3) (by omega)
  rw [show p / 3 * 3 + p % 3 = p by omega] at this
  rw [this]; rfl

set_option maxRecDepth 100000 in
theorem open_sig {H : Type} {enc : TypeId × Value → H} {w : World} {base : Nat} {spare : Nat → Bool} {held : Bool} {fuel : Nat} {cs : List Value} {x : DataW H × List MemPlace} (h : DataW.trod enc Try.prog w base spare held fuel 42 cs = some x) :
    ∃ (aoH : Option Addr) (nH cH : Nat) (S : Nat → HS) (aoR : Option Addr) (nR cR : Nat) (V : Nat → VV), cs = [.slice aoH nH cH, .slice aoR nR cR] ∧ nH ≤ maxLen ∧ nR ≤ maxLen ∧ SigIn w aoH nH S aoR nR V := by
  obtain ⟨xs, n, _, _, hl, hlen, hf⟩ := DataW.trod_struct Try.underlying42 h
  rw [cellsLSig] at hl
  match cs, hl with
  | [c0, c1], _ =>
    match xs, hlen with
    | [y0, y1], _ =>
      have h0 := hf 0 _ rfl
      have h1 := hf 1 _ rfl
      simp [cellsLValS, cellsLHSS] at h0 h1
      obtain ⟨aoH, nH, cH, rfl⟩ := v_slice_shape Try.underlying39 h0
      obtain ⟨mH, S, iH⟩ := open_hsS h0
      obtain ⟨aoR, nR, cR, rfl⟩ := v_slice_shape Try.underlying40 h1
      obtain ⟨mR, V, iR⟩ := open_valS h1
      exact ⟨aoH, nH, cH, S, aoR, nR, cR, V, rfl, mH, mR, iH, iR⟩
end Go.Proofs.Ytjnooklalbcamaa
/- A block whose first cells are known. -/
namespace Go.Proofs.Ytjnooklalbcamaa
open Go.RowKit
/-- The first cells of the block b are vs. -/
def Cl (w : World) (b : Nat) (vs : List Value) : Prop := b < w.heap.size ∧ ∀ i, i < vs.length → w.cell? ⟨b, i, none⟩ = some (vs.getD i undef)
theorem Cl.below {w w' : World} {b : Nat} {vs : List Value} (h : Cl w b vs) (hb : Below w.heap.size w w') : Cl w' b vs :=
  ⟨Nat.lt_of_lt_of_le h.1 hb.size, fun i hi => (hb.cell (p := ⟨b, i, none⟩) h.1).trans (h.2 i hi)⟩
theorem Cl.new {w : World} {vs : Array Value} {t : TypeId} : Cl (w.alloc (.cells vs t)) w.heap.size vs.toList :=
  ⟨by simp, fun i hi => by simp [go_sem, List.getD_eq_getElem?_getD] at hi ⊢; simp [hi]⟩
end Go.Proofs.Ytjnooklalbcamaa
/- What is known: measured, copied, compared; ValidAbs, the specification's and the program's. -/
namespace Go.Proofs.Ytjnooklalbcamaa
open Go.RowKit

set_option maxHeartbeats 400000 in
theorem szAbs_ok (ao : Option Addr) (n cap : Nat) (z c : Int) (left : Int) (w : World) (h0 : 0 ≤ left) (h1 : (n : Int) ≤ left) (h2 : left ≤ 1048576) :
    Calls Try.prog 25 #[.agg #[.slice ao n cap, .int .i64 z, .int .i64 c], .int .i64 left] w fun e w' => e = .returned (.int .i64 (left - n)) ∧ Below w.heap.size w w' := by
  go_enter Try.func25, Try.ntmps25
  go_wp2
  go_ret
  exact ⟨rfl, (Below.refl _ _).alloc (Nat.le_refl _) _⟩
set_option maxHeartbeats 400000 in
theorem szAbs_no (ao : Option Addr) (n cap : Nat) (z c : Int) (left : Int) (w : World) (h0 : 0 ≤ left) (h1 : left < (n : Int)) (h2 : left ≤ 1048576) (m : n ≤ maxLen) :
    Calls Try.prog 25 #[.agg #[.slice ao n cap, .int .i64 z, .int .i64 c], .int .i64 left] w fun e w' => e = .returned (.int .i64 (-1)) ∧ Below w.heap.size w w' := by
  unfold maxLen at m
  go_enter Try.func25, Try.ntmps25
  go_wp2
  go_ret
  exact ⟨rfl, (Below.refl _ _).alloc (Nat.le_refl _) _⟩

set_option maxHeartbeats 1000000 in
theorem toAbs_in (ao : Option Addr) (n cap : Nat) (V : Nat → VV) (z c : Int) (w : World) (ln : n ≤ 1048576) (hin : InRow w ao (n * 6) (vF V)) :
    Calls Try.prog 27 #[.agg #[.slice ao n cap, .int .i64 z, .int .i64 c]] w fun e w' => ∃ b, w.heap.size ≤ b ∧ e = .returned (.agg #[.slice (some ⟨b, 0, none⟩) n n, .int .i64 z, .int .i64 c]) ∧ Below w.heap.size w w' ∧ Arr w' b (n * 6) (vF V) := by
  have HI : Hid (InRow w ao (n * 6) (vF V)) := hin
  clear hin
  go_enter Try.func27, Try.ntmps27
  go_wp2_with fail
  have b0 := (((Below.refl w.heap.size w).alloc (Nat.le_refl _) (.cells #[.slice ao n cap, .int .i64 z, .int .i64 c] 62)).alloc (by simp) (.cells #[.slice none 0 0, .int .i64 0, .int .i64 0] 66)).alloc (by simp; omega) (.cells #[.slice none 0 0, .int .i64 0, .int .i64 0] 66)
  refine (toValS_in _ _ _ V _ ln ?h1).mono ?_
  case h1 => exact HI.out.below b0 (Nat.le_refl _)
  rintro e w1 ⟨rfl, hb1, ha1⟩
  have b1 := b0.trans (hb1.mono (by simp; omega))
  have HB1 : Hid (Below w.heap.size w w1) := b1
  have t1 : Arr w1 (w.heap.size + 1 + 1 + 1) (n * 6) (vF V) := by simp only [World.size_alloc] at ha1; exact ha1
  have HA1 : Hid (Arr w1 (w.heap.size + 1 + 1 + 1) (n * 6) (vF V)) := t1
  clear b0 b1 ha1 t1
  obtain ⟨hc1, hf1⟩ := bcell hb1
  have hz1 : w.heap.size + 2 < w1.heap.size := by have := hb1.size; simp at this; omega
  have hz2 : w.heap.size + 1 < w1.heap.size := by omega
  have hz3 : w.heap.size < w1.heap.size := by omega
  clear hb1
  go_wp2
  refine bodyPost_ret (v := .agg #[.slice (some ⟨w.heap.size + 1 + 1 + 1, 0, none⟩) n n, .int .i64 z, .int .i64 c]) (by simp [results, Try.results27, go_sem, hc1]) rfl ⟨_, ?_, rfl, ?_, ?_⟩
  · omega
  · exact (((((HB1.out.setCell (by simp; omega) _).setCell (by simp; omega) _).setCell (by simp; omega) _).setCell (by simp) _).setCell (by simp) _).setCell (by simp) _
  · exact (((((HA1.out.other (by simp) _).other (by simp) _).other (by simp) _).other (by simp) _).other (by simp) _).other (by simp) _

set_option maxHeartbeats 400000 in
theorem eqAbs_same (b cap n : Nat) (V : Nat → VV) (z c : Int) (b' cap' : Nat) (w : World) (ln : n ≤ 1048576) (h1 : Arr w b (n * 6) (vF V)) (h2 : Arr w b' (n * 6) (vF V)) :
    Calls Try.prog 29 #[.agg #[.slice (some ⟨b, 0, none⟩) n cap, .int .i64 z, .int .i64 c], .agg #[.slice (some ⟨b', 0, none⟩) n cap', .int .i64 z, .int .i64 c]] w fun e w' => e = .returned (.bool true) ∧ Below w.heap.size w w' := by
  have H1 : Hid (Arr w b (n * 6) (vF V)) := h1
  have H2 : Hid (Arr w b' (n * 6) (vF V)) := h2
  clear h1 h2
  go_enter Try.func29, Try.ntmps29
  go_wp2_with fail
  have b0 : Below w.heap.size w ((w.alloc (.cells #[.slice (some ⟨b, 0, none⟩) n cap, .int .i64 z, .int .i64 c] 66)).alloc (.cells #[.slice (some ⟨b', 0, none⟩) n cap', .int .i64 z, .int .i64 c] 66)) := ((Below.refl _ _).alloc (Nat.le_refl _) _).alloc (by simp) _
  refine (eqValS_same _ _ _ _ _ _ _ V _ ln (H1.out.below b0 H1.out.lt).at (H2.out.below b0 H2.out.lt).at).mono ?_
  rintro e w1 ⟨rfl, hb1⟩
  have HB1 : Hid (Below w.heap.size w w1) := b0.trans (hb1.mono b0.size)
  obtain ⟨hc1, _⟩ := bcell hb1
  have hz2 : w.heap.size + 1 < w1.heap.size := by have := hb1.size; simp at this; omega
  have hz3 : w.heap.size < w1.heap.size := by omega
  clear hb1 b0
  go_wp2
  go_ret
  exact ⟨rfl, HB1.out⟩

def flagOK (z : Int) : Bool := decide (0 ≤ z ∧ z ≤ 2)
/-- Valid for the signature. -/
def absOK (nH : Nat) (S : Nat → HS) (nR : Nat) (V : Nat → VV) (nA : Nat) (U : Nat → VV) (z c : Int) : Bool := sigOK nH S nR V && goodAll U nA nH && flagOK z && flagOK c
theorem sig_le8 {nH nR : Nat} {S : Nat → HS} {V : Nat → VV} (h : sigOK nH S nR V = true) : nH ≤ 8 := by
  simp [sigOK] at h; omega

set_option maxHeartbeats 400000 in
theorem validFlag_any (z : Int) (w : World) : Calls Try.prog 72 #[.int .i64 z] w fun e w' => e = .returned (.bool (flagOK z)) ∧ w' = w := by
  go_enter Try.func72, Try.ntmps72
  go_wp2
  all_goals (go_ret; refine ⟨ret_bool ?_, rfl⟩; simp [flagOK] <;> omega)

set_option maxHeartbeats 1000000 in
theorem implAbs_any (bH cH nH : Nat) (S : Nat → HS) (bR cR nR : Nat) (V : Nat → VV) (bA cA nA : Nat) (U : Nat → VV) (z c : Int) (w : World) (lH : nH ≤ 1048576) (lR : nR ≤ 1048576) (lA : nA ≤ 1048576) (h1 : SigCp w bH nH S bR nR V) (h2 : Arr w bA (nA * 6) (vF U)) :
    Calls Try.prog 28 #[.agg #[.slice (some ⟨bH, 0, none⟩) nH cH, .slice (some ⟨bR, 0, none⟩) nR cR], .agg #[.slice (some ⟨bA, 0, none⟩) nA cA, .int .i64 z, .int .i64 c]] w fun e w' => e = .returned (.bool (absOK nH S nR V nA U z c)) ∧ Below w.heap.size w w' := by
  have H1 : Hid (SigCp w bH nH S bR nR V) := h1
  have H2 : Hid (Arr w bA (nA * 6) (vF U)) := h2
  clear h1 h2
  go_enter Try.func28, Try.ntmps28
  go_wp2_with fail
  have b0 : Below w.heap.size w ((w.alloc (.cells #[.slice (some ⟨bH, 0, none⟩) nH cH, .slice (some ⟨bR, 0, none⟩) nR cR] 48)).alloc (.cells #[.slice (some ⟨bA, 0, none⟩) nA cA, .int .i64 z, .int .i64 c] 66)) := ((Below.refl _ _).alloc (Nat.le_refl _) _).alloc (by simp) _
  refine (implSig_any _ _ _ S _ _ _ V _ lH lR (H1.out.below b0)).mono ?_
  rintro e w1 ⟨rfl, hb1⟩
  have HB1 : Hid (Below w.heap.size w w1) := b0.trans (hb1.mono b0.size)
  obtain ⟨hc1, _⟩ := bcell hb1
  have hz2 : w.heap.size + 1 < w1.heap.size := by have := hb1.size; simp at this; omega
  have hz3 : w.heap.size < w1.heap.size := by omega
  clear hb1 b0
  have HU : Hid (absOK nH S nR V nA U z c = (sigOK nH S nR V && goodAll U nA nH && flagOK z && flagOK c)) := rfl
  cases hg : sigOK nH S nR V with
  | false =>
    have HG : Hid (sigOK nH S nR V = false) := hg
    clear hg
    go_wp2
    go_ret
    exact ⟨ret_bool (by rw [HU.out, HG.out]; rfl), HB1.out⟩
  | true =>
    have HG : Hid (sigOK nH S nR V = true) := hg
    have h8 := sig_le8 hg
    clear hg
    go_wp2_with fail
    refine (validVals_at _ _ _ _ U _ _ lA (H2.out.below HB1.out H2.out.lt).at).mono ?_
    rintro e w2 ⟨rfl, hb2⟩
    have HB2 : Hid (Below w.heap.size w w2) := HB1.out.trans (hb2.mono HB1.out.size)
    have d0 : w2.cell? ⟨w.heap.size + 1, 1, none⟩ = some (.int .i64 z) := by rw [hb2.cell hz2]; go_simp
    have d1 : w2.cell? ⟨w.heap.size + 1, 2, none⟩ = some (.int .i64 c) := by rw [hb2.cell hz2]; go_simp
    have hy2 : w.heap.size + 1 < w2.heap.size := Nat.lt_of_lt_of_le hz2 hb2.size
    clear hb2 hc1 hz2 hz3
    cases hk : goodAll U nA nH with
    | false =>
      have HK : Hid (goodAll U nA nH = false) := hk
      clear hk
      go_wp2
      go_ret
      exact ⟨ret_bool (by rw [HU.out, HG.out, HK.out]; rfl), HB2.out⟩
    | true =>
      have HK : Hid (goodAll U nA nH = true) := hk
      clear hk
      go_wp2_with fail
      refine (validFlag_any _ _).mono ?_
      rintro e w3 ⟨rfl, rfl⟩
      cases hz : flagOK z with
      | false =>
        have HZ : Hid (flagOK z = false) := hz
        try rw [show decide (0 ≤ z ∧ z ≤ 2) = false from hz]
        clear hz
        go_wp2
        go_ret
        exact ⟨ret_bool (by rw [HU.out, HG.out, HK.out, HZ.out]; rfl), HB2.out⟩
      | true =>
        have HZ : Hid (flagOK z = true) := hz
        try rw [show decide (0 ≤ z ∧ z ≤ 2) = true from hz]
        clear hz
        go_wp2_with fail
        refine (validFlag_any _ _).mono ?_
        rintro e w4 ⟨rfl, rfl⟩
        cases hz : flagOK c with
        | false =>
          have HC : Hid (flagOK c = false) := hz
          try rw [show decide (0 ≤ c ∧ c ≤ 2) = false from hz]
          clear hz
          go_wp2
          go_ret
          exact ⟨ret_bool (by rw [HU.out, HG.out, HK.out, HZ.out, HC.out]; rfl), HB2.out⟩
        | true =>
          have HC : Hid (flagOK c = true) := hz
          try rw [show decide (0 ≤ c ∧ c ≤ 2) = true from hz]
          clear hz
          go_wp2
          go_ret
          exact ⟨ret_bool (by rw [HU.out, HG.out, HK.out, HZ.out, HC.out]; rfl), HB2.out⟩

set_option maxHeartbeats 1000000 in
theorem specAbs_any (bH cH nH : Nat) (S : Nat → HS) (bR cR nR : Nat) (V : Nat → VV) (bA cA nA : Nat) (U : Nat → VV) (z c : Int) (w : World) (lH : nH ≤ 1048576) (lR : nR ≤ 1048576) (lA : nA ≤ 1048576) (h1 : SigCp w bH nH S bR nR V) (h2 : Arr w bA (nA * 6) (vF U)) :
    Calls Try.prog 26 #[.agg #[.slice (some ⟨bH, 0, none⟩) nH cH, .slice (some ⟨bR, 0, none⟩) nR cR], .agg #[.slice (some ⟨bA, 0, none⟩) nA cA, .int .i64 z, .int .i64 c]] w fun e w' => e = .returned (.bool (absOK nH S nR V nA U z c)) ∧ Below w.heap.size w w' := by
  have H1 : Hid (SigCp w bH nH S bR nR V) := h1
  have H2 : Hid (Arr w bA (nA * 6) (vF U)) := h2
  clear h1 h2
  go_enter Try.func26, Try.ntmps26
  go_wp2_with fail
  have b0 : Below w.heap.size w ((w.alloc (.cells #[.slice (some ⟨bH, 0, none⟩) nH cH, .slice (some ⟨bR, 0, none⟩) nR cR] 48)).alloc (.cells #[.slice (some ⟨bA, 0, none⟩) nA cA, .int .i64 z, .int .i64 c] 66)) := ((Below.refl _ _).alloc (Nat.le_refl _) _).alloc (by simp) _
  refine (specSig_any _ _ _ S _ _ _ V _ lH lR (H1.out.below b0)).mono ?_
  rintro e w1 ⟨rfl, hb1⟩
  have HB1 : Hid (Below w.heap.size w w1) := b0.trans (hb1.mono b0.size)
  obtain ⟨hc1, _⟩ := bcell hb1
  have hz2 : w.heap.size + 1 < w1.heap.size := by have := hb1.size; simp at this; omega
  have hz3 : w.heap.size < w1.heap.size := by omega
  clear hb1 b0
  have HU : Hid (absOK nH S nR V nA U z c = (sigOK nH S nR V && goodAll U nA nH && flagOK z && flagOK c)) := rfl
  cases hg : sigOK nH S nR V with
  | false =>
    have HG : Hid (sigOK nH S nR V = false) := hg
    clear hg
    go_wp2
    go_ret
    exact ⟨ret_bool (by rw [HU.out, HG.out]; rfl), HB1.out⟩
  | true =>
    have HG : Hid (sigOK nH S nR V = true) := hg
    have h8 := sig_le8 hg
    clear hg
    go_wp2_with fail
    refine (l4GoodRegs_at _ _ _ _ U _ _ lA (by omega) (by omega) (H2.out.below HB1.out H2.out.lt).at).mono ?_
    rintro e w2 ⟨rfl, hb2⟩
    have HB2 : Hid (Below w.heap.size w w2) := HB1.out.trans (hb2.mono HB1.out.size)
    have d0 : w2.cell? ⟨w.heap.size + 1, 1, none⟩ = some (.int .i64 z) := by rw [hb2.cell hz2]; go_simp
    have d1 : w2.cell? ⟨w.heap.size + 1, 2, none⟩ = some (.int .i64 c) := by rw [hb2.cell hz2]; go_simp
    have hy2 : w.heap.size + 1 < w2.heap.size := Nat.lt_of_lt_of_le hz2 hb2.size
    clear hb2 hc1 hz2 hz3
    cases hk : goodAll U nA nH with
    | false =>
      have HK : Hid (goodAll U nA nH = false) := hk
      clear hk
      go_wp2
      go_ret
      exact ⟨ret_bool (by rw [HU.out, HG.out, HK.out]; rfl), HB2.out⟩
    | true =>
      have HK : Hid (goodAll U nA nH = true) := hk
      clear hk
      go_wp2_with fail
      refine (v_in_any _ _ _ _).mono ?_
      rintro e w3 ⟨rfl, rfl⟩
      cases hz : flagOK z with
      | false =>
        have HZ : Hid (flagOK z = false) := hz
        try rw [show decide (0 ≤ z ∧ z ≤ 2) = false from hz]
        clear hz
        go_wp2
        go_ret
        exact ⟨ret_bool (by rw [HU.out, HG.out, HK.out, HZ.out]; rfl), HB2.out⟩
      | true =>
        have HZ : Hid (flagOK z = true) := hz
        try rw [show decide (0 ≤ z ∧ z ≤ 2) = true from hz]
        clear hz
        go_wp2_with fail
        refine (v_in_any _ _ _ _).mono ?_
        rintro e w4 ⟨rfl, rfl⟩
        cases hz : flagOK c with
        | false =>
          have HC : Hid (flagOK c = false) := hz
          try rw [show decide (0 ≤ c ∧ c ≤ 2) = false from hz]
          clear hz
          go_wp2
          go_ret
          exact ⟨ret_bool (by rw [HU.out, HG.out, HK.out, HZ.out, HC.out]; rfl), HB2.out⟩
        | true =>
          have HC : Hid (flagOK c = true) := hz
          try rw [show decide (0 ≤ c ∧ c ≤ 2) = true from hz]
          clear hz
          go_wp2
          go_ret
          exact ⟨ret_bool (by rw [HU.out, HG.out, HK.out, HZ.out, HC.out]; rfl), HB2.out⟩
end Go.Proofs.Ytjnooklalbcamaa
/- A row that is filled from its head; the plain functions of a machine's lists. Imports nothing of the program. -/
namespace Go.Proofs.Ytjnooklalbcamaa
open Go.RowKit

/-- The first m cells as f has them, the others as z. -/
def upTo (f z : Nat → Value) (m p : Nat) : Value := if p < m then f p else z p
theorem upTo_zero (f z : Nat → Value) (p : Nat) : upTo f z 0 p = z p := by simp [upTo]
theorem upTo_all {f z : Nat → Value} {m p : Nat} (h : p < m) : upTo f z m p = f p := by simp [upTo, h]
theorem Arr.fill {w : World} {b n o : Nat} {f z : Nat → Value} {vs : List Value} (h : Arr w b n (upTo f z o)) (ho : o + vs.length ≤ n) (hv : ∀ j, j < vs.length → vs.getD j undef = f (o + j)) :
    Arr (w.setCells b o vs) b n (upTo f z (o + vs.length)) :=
  (h.setCells o vs ho).congr fun i _ => by
    by_cases g : o ≤ i ∧ i < o + vs.length
    · rw [if_pos g, hv (i - o) (by omega), show o + (i - o) = i by omega, upTo_all g.2]
    · rw [if_neg g]
      unfold upTo
      by_cases q : i < o
      · rw [if_pos q, if_pos (by omega)]
      · rw [if_neg q, if_neg (by omega)]
theorem Arr.filled {w : World} {b n : Nat} {f z : Nat → Value} (h : Arr w b n (upTo f z n)) : Arr w b n f := h.congr fun _ hi => upTo_all hi
theorem Arr.retell {w : World} {b n m : Nat} {f g z : Nat → Value} (h : Arr w b n (upTo f z m)) (e : ∀ i, i < m → f i = g i) : Arr w b n (upTo g z m) := h.congr fun i _ => by
  unfold upTo
  by_cases q : i < m
  · rw [if_pos q, if_pos q, e i q]
  · rw [if_neg q, if_neg q]

def numF (k : IntKind) (R : Nat → Int) (i : Nat) : Value := .int k (R i)
def obsF (K V : Nat → Int) (p : Nat) : Value := if p % 2 = 0 then .int .i64 (K (p / 2)) else .int .u64 (V (p / 2))
def obsZ (p : Nat) : Value := if p % 2 = 0 then .int .i64 0 else .int .u64 0
theorem obsF_0 (K V : Nat → Int) (k : Nat) : obsF K V (k * 2 + 0) = .int .i64 (K k) := by unfold obsF; rw [if_pos (by omega), show (k * 2 + 0) / 2 = k by omega]
theorem obsF_1 (K V : Nat → Int) (k : Nat) : obsF K V (k * 2 + 1) = .int .u64 (V k) := by unfold obsF; rw [if_neg (by omega), show (k * 2 + 1) / 2 = k by omega]
structure HeapV where
  base : Int
  wr : Bool
  ao : Option Addr
  len : Nat
  cap : Nat
  dat : Nat → Int
def heapF (Hp : Nat → HeapV) (p : Nat) : Value := if p % 3 = 0 then .int .u64 (Hp (p / 3)).base else if p % 3 = 1 then .bool (Hp (p / 3)).wr else .slice (Hp (p / 3)).ao (Hp (p / 3)).len (Hp (p / 3)).cap
def heapZ (p : Nat) : Value := if p % 3 = 0 then .int .u64 0 else if p % 3 = 1 then .bool false else .slice none 0 0
theorem heapF_0 (Hp : Nat → HeapV) (k : Nat) : heapF Hp (k * 3 + 0) = .int .u64 (Hp k).base := by unfold heapF; rw [if_pos (by omega), show (k * 3 + 0) / 3 = k by omega]
theorem heapF_1 (Hp : Nat → HeapV) (k : Nat) : heapF Hp (k * 3 + 1) = .bool (Hp k).wr := by unfold heapF; rw [if_neg (by omega), if_pos (by omega), show (k * 3 + 1) / 3 = k by omega]
theorem heapF_2 (Hp : Nat → HeapV) (k : Nat) : heapF Hp (k * 3 + 2) = .slice (Hp k).ao (Hp k).len (Hp k).cap := by unfold heapF; rw [if_neg (by omega), if_neg (by omega), show (k * 3 + 2) / 3 = k by omega]
theorem heapF_congr {Hp Hq : Nat → HeapV} {n p : Nat} (hp : p < n * 3) (h : ∀ i, i < n → Hp i = Hq i) : heapF Hp p = heapF Hq p := by unfold heapF; rw [h (p / 3) (by omega)]
/-- A heaplet whose bytes lie at the head of block b. -/
def HeapV.moved (h : HeapV) (b : Nat) : HeapV := { h with ao := some ⟨b, 0, none⟩, cap := h.len }
/-- Heaplets that a call has copied: the list in block B, the bytes of heaplet i in block blk i. -/
def Copied (w : World) (B n : Nat) (Hp : Nat → HeapV) (blk : Nat → Nat) : Prop :=
  Arr w B (n * 3) (heapF fun i => (Hp i).moved (blk i)) ∧ (∀ i, i < n → B < blk i ∧ Arr w (blk i) (Hp i).len (numF .u8 (Hp i).dat)) ∧ ∀ i j, i < j → j < n → blk i < blk j
theorem Copied.below {w w' : World} {C B n : Nat} {Hp : Nat → HeapV} {blk : Nat → Nat} (h : Copied w B n Hp blk) (hb : Below C w w') (hC : w.heap.size ≤ C) : Copied w' B n Hp blk :=
  ⟨h.1.below hb (Nat.lt_of_lt_of_le h.1.lt hC), fun i hi => ⟨(h.2.1 i hi).1, (h.2.1 i hi).2.below hb (Nat.lt_of_lt_of_le (h.2.1 i hi).2.lt hC)⟩, h.2.2⟩
end Go.Proofs.Ytjnooklalbcamaa
