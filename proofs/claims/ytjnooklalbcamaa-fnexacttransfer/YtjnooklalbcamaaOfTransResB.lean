import Derived.Test.YtjnooklalbcamaaOfTransMath
import Derived.Test.YtjnooklalbcamaaTransImplT
import Derived.Test.YtjnooklalbcamaaOfTransPtr
import Derived.Test.YtjnooklalbcamaaOfTransFacts
/- What the law does with Transfer's answer and its arguments: compares, marks, reads back. -/
namespace Go.Proofs.Ytjnooklalbcamaa
open Go.RowKit
/-- A list of Vals that is empty, or fills a block's beginning. -/
def WV (w : World) (ao : Option Addr) (n : Nat) (V : Nat → VV) : Prop := n = 0 ∨ ∃ b, ao = some ⟨b, 0, none⟩ ∧ Arr w b (n * 6) (vF V)
/-- Where it lies, if it is not empty. -/
def Lie (ao : Option Addr) (n lo hi : Nat) : Prop := ∀ b, ao = some ⟨b, 0, none⟩ → n ≠ 0 → lo ≤ b ∧ b < hi
theorem WV.below {w w' : World} {ao : Option Addr} {n : Nat} {V : Nat → VV} (h : WV w ao n V) (hb : Below w.heap.size w w') : WV w' ao n V := by
  rcases h with h | ⟨b, rfl, h⟩
  · exact .inl h
  · exact .inr ⟨b, rfl, h.below hb h.lt⟩
theorem WV.fv {S : Nat → Prop} {w w' : World} {ao : Option Addr} {n lo hi : Nat} {V : Nat → VV} (h : WV w ao n V) (hl : Lie ao n lo hi) (hf : Fv S w w') (hn : ∀ q, S q → ¬ (lo ≤ q ∧ q < hi)) : WV w' ao n V := by
  by_cases h0 : n = 0
  · exact .inl h0
  · rcases h with h | ⟨b, rfl, h⟩
    · exact .inl h
    · exact .inr ⟨b, rfl, hf.arr h (fun q => hn b q (hl b rfl h0))⟩
theorem TrAns.view {w w' : World} {e : Ending} {err : Int} {V : Nat → VV} {z c : Int} (h : TrAns w w' e err V z c) : ∃ ao cap, e = .returned (.agg #[.int .i64 err, .slice ao (if err = 0 then 8 else 0) cap, .int .i64 (if err = 0 then z else 0), .int .i64 (if err = 0 then c else 0)]) ∧ WV w' ao (if err = 0 then 8 else 0) V ∧ Lie ao (if err = 0 then 8 else 0) w.heap.size w'.heap.size := by
  rcases h with ⟨hne, rfl⟩ | ⟨rfl, g, cg, hg, rfl, hA⟩
  · exact ⟨none, 0, by simp [hne], .inl (by simp [hne]), fun b hb => by cases hb⟩
  · exact ⟨some ⟨g, 0, none⟩, cg, by simp, .inr ⟨g, rfl, by simpa using hA⟩, fun b hb _ => by cases hb; exact ⟨hg, hA.lt⟩⟩

set_option maxHeartbeats 400000 in
theorem eqValS_nil (ao ao' : Option Addr) (cap cap' : Nat) (w : World) :
    Calls Try.prog 55 #[.slice ao 0 cap, .slice ao' 0 cap'] w fun e w' => e = .returned (.bool true) ∧ Below w.heap.size w w' := by
  go_enter Try.func55, Try.ntmps55
  go_wp2
  go_loopw [5] (fun i wr => i = .int .i64 0 ∧ Below w.heap.size w wr) (fun _ _ => 0)
  case atStart => exact ⟨rfl, Below.refl _ _⟩
  case round =>
    obtain ⟨rfl, hbr⟩ := hrel
    go_wp2
    go_ret
    exact ⟨rfl, hbr⟩
theorem eqValS_view (ao ao' : Option Addr) (n cap cap' : Nat) (V : Nat → VV) (w : World) (hn : n ≤ 1048576) (h1 : WV w ao n V) (h2 : WV w ao' n V) :
    Calls Try.prog 55 #[.slice ao n cap, .slice ao' n cap'] w fun e w' => e = .returned (.bool true) ∧ Below w.heap.size w w' := by
  by_cases h0 : n = 0
  · subst h0
    exact eqValS_nil ao ao' cap cap' w
  · rcases h1 with h1 | ⟨b, rfl, h1⟩
    · exact absurd h1 h0
    · rcases h2 with h2 | ⟨b', rfl, h2⟩
      · exact absurd h2 h0
      · exact eqValS_same _ _ _ _ _ _ _ V _ hn h1.at h2.at

set_option maxHeartbeats 400000 in
theorem eqAbs_view (ao ao' : Option Addr) (n cap cap' : Nat) (V : Nat → VV) (z c : Int) (w : World) (ln : n ≤ 1048576) (h1 : WV w ao n V) (h2 : WV w ao' n V) :
    Calls Try.prog 29 #[.agg #[.slice ao n cap, .int .i64 z, .int .i64 c], .agg #[.slice ao' n cap', .int .i64 z, .int .i64 c]] w fun e w' => e = .returned (.bool true) ∧ Below w.heap.size w w' := by
  have H1 : Hid (WV w ao n V) := h1
  have H2 : Hid (WV w ao' n V) := h2
  clear h1 h2
  go_enter Try.func29, Try.ntmps29
  go_wp2_with fail
  have b0 : Below w.heap.size w ((w.alloc (.cells #[.slice ao n cap, .int .i64 z, .int .i64 c] 66)).alloc (.cells #[.slice ao' n cap', .int .i64 z, .int .i64 c] 66)) := ((Below.refl _ _).alloc (Nat.le_refl _) _).alloc (by simp) _
  refine (eqValS_view _ _ _ _ _ V _ ln (H1.out.below b0) (H2.out.below b0)).mono ?_
  rintro e w1 ⟨rfl, hb1⟩
  have HB1 : Hid (Below w.heap.size w w1) := b0.trans (hb1.mono b0.size)
  obtain ⟨hc1, _⟩ := bcell hb1
  have hz2 : w.heap.size + 1 < w1.heap.size := by have := hb1.size; simp at this; omega
  have hz3 : w.heap.size < w1.heap.size := by omega
  clear hb1 b0
  go_wp2
  go_ret
  exact ⟨rfl, HB1.out⟩

set_option maxHeartbeats 400000 in
theorem eqAbsRes_view (err : Int) (ao ao' : Option Addr) (n cap cap' : Nat) (V : Nat → VV) (z c : Int) (w : World) (ln : n ≤ 1048576) (h1 : WV w ao n V) (h2 : WV w ao' n V) :
    Calls Try.prog 35 #[.agg #[.int .i64 err, .slice ao n cap, .int .i64 z, .int .i64 c], .agg #[.int .i64 err, .slice ao' n cap', .int .i64 z, .int .i64 c]] w fun e w' => e = .returned (.bool true) ∧ Below w.heap.size w w' := by
  have H1 : Hid (WV w ao n V) := h1
  have H2 : Hid (WV w ao' n V) := h2
  clear h1 h2
  have ee : (err != err) = false := by simp
  go_enter Try.func35, Try.ntmps35
  go_wp2_with fail
  have b0 : Below w.heap.size w ((w.alloc (.cells #[.int .i64 err, .slice ao n cap, .int .i64 z, .int .i64 c] 77)).alloc (.cells #[.int .i64 err, .slice ao' n cap', .int .i64 z, .int .i64 c] 77)) := ((Below.refl _ _).alloc (Nat.le_refl _) _).alloc (by simp) _
  refine (eqAbs_view _ _ _ _ _ V z c _ ln (H1.out.below b0) (H2.out.below b0)).mono ?_
  rintro e w1 ⟨rfl, hb1⟩
  have HB1 : Hid (Below w.heap.size w w1) := b0.trans (hb1.mono b0.size)
  clear hb1 b0
  go_wp2
  go_ret
  exact ⟨rfl, HB1.out⟩

set_option maxHeartbeats 400000 in
theorem markAbs_any (ao : Option Addr) (n cap : Nat) (V : Nat → VV) (z c k : Int) (w : World) (ln : n ≤ 1048576) (k0 : 0 ≤ k) (k1 : k ≤ 1125899906842624) (h : WV w ao n V) :
    Calls Try.prog 37 #[.agg #[.slice ao n cap, .int .i64 z, .int .i64 c], .int .i64 k] w fun e w' => e = .returned (.int .i64 (k + 6 * n)) ∧ Fv (fun q => n ≠ 0 ∧ ao = some ⟨q, 0, none⟩) w w' ∧ WV w' ao n (mV k) := by
  have H : Hid (WV w ao n V) := h
  clear h
  go_enter Try.func37, Try.ntmps37
  go_wp2_with fail
  have b0 : Below w.heap.size w (w.alloc (.cells #[.slice ao n cap, .int .i64 z, .int .i64 c] 66)) := (Below.refl _ _).alloc (Nat.le_refl _) _
  by_cases h0 : n = 0
  · subst h0
    refine (markVals_nil ao cap k _).mono ?_
    rintro e w1 ⟨rfl, hw⟩
    rw [hw]
    clear hw
    have HB : Hid (Below w.heap.size w (w.alloc (.cells #[.slice ao 0 cap, .int .i64 z, .int .i64 c] 66))) := b0
    clear b0
    go_wp2
    go_ret
    exact ⟨by simp, Fv.of_below HB.out, .inl rfl⟩
  · rcases H.out with h | ⟨b, rfl, h⟩
    · exact absurd h h0
    · refine (markVals_at b n cap _ k _ ln k0 k1 (h.below b0 h.lt)).mono ?_
      rintro e w1 ⟨rfl, hf, hA⟩
      have HF : Hid (Fv (fun q => n ≠ 0 ∧ (some ⟨b, 0, none⟩ : Option Addr) = some ⟨q, 0, none⟩) w w1) := (Fv.of_below b0).trans (hf.mono (fun q hq => ⟨hq.1, by rw [hq.2]⟩))
      have HA : Hid (Arr w1 b (n * 6) (vF (mV k))) := hA
      clear hf hA b0 h
      go_wp2
      go_ret
      exact ⟨rfl, HF.out, .inr ⟨b, rfl, HA.out⟩⟩
set_option maxHeartbeats 400000 in
theorem markAbsRes_any (err : Int) (ao : Option Addr) (n cap : Nat) (V : Nat → VV) (z c k : Int) (w : World) (ln : n ≤ 1048576) (k0 : 0 ≤ k) (k1 : k ≤ 1125899906842624) (h : WV w ao n V) :
    Calls Try.prog 38 #[.agg #[.int .i64 err, .slice ao n cap, .int .i64 z, .int .i64 c], .int .i64 k] w fun e w' => e = .returned (.int .i64 (k + 6 * n)) ∧ Fv (fun q => n ≠ 0 ∧ ao = some ⟨q, 0, none⟩) w w' ∧ WV w' ao n (mV k) := by
  have H : Hid (WV w ao n V) := h
  clear h
  go_enter Try.func38, Try.ntmps38
  go_wp2_with fail
  have b0 : Below w.heap.size w (w.alloc (.cells #[.int .i64 err, .slice ao n cap, .int .i64 z, .int .i64 c] 77)) := (Below.refl _ _).alloc (Nat.le_refl _) _
  refine (markAbs_any ao n cap V z c k _ ln k0 k1 (H.out.below b0)).mono ?_
  rintro e w1 ⟨rfl, hf, hA⟩
  have HF : Hid (Fv (fun q => n ≠ 0 ∧ ao = some ⟨q, 0, none⟩) w w1) := (Fv.of_below b0).trans hf
  have HA : Hid (WV w1 ao n (mV k)) := hA
  clear hf hA b0
  go_wp2
  go_ret
  exact ⟨rfl, HF.out, HA.out⟩
set_option maxHeartbeats 400000 in
theorem heldAbs_any (ao : Option Addr) (n cap : Nat) (z c k : Int) (w : World) (ln : n ≤ 1048576) (k0 : 0 ≤ k) (k1 : k ≤ 1125899906842624) (h : WV w ao n (mV k)) :
    Calls Try.prog 87 #[.agg #[.slice ao n cap, .int .i64 z, .int .i64 c], .int .i64 k] w fun e w' => e = .returned (.int .i64 (k + 6 * n)) ∧ Below w.heap.size w w' := by
  have H : Hid (WV w ao n (mV k)) := h
  clear h
  go_enter Try.func87, Try.ntmps87
  go_wp2_with fail
  have b0 : Below w.heap.size w (w.alloc (.cells #[.slice ao n cap, .int .i64 z, .int .i64 c] 66)) := (Below.refl _ _).alloc (Nat.le_refl _) _
  have HB : Hid (Below w.heap.size w (w.alloc (.cells #[.slice ao n cap, .int .i64 z, .int .i64 c] 66))) := b0
  by_cases h0 : n = 0
  · subst h0
    refine (heldVals_nil ao cap k _).mono ?_
    rintro e w1 ⟨rfl, hw⟩
    rw [hw]
    clear hw b0
    have hk : decide (k < 0) = false := by simp; omega
    go_wp2
    go_ret
    exact ⟨by simp, HB.out⟩
  · rcases H.out with h | ⟨b, rfl, h⟩
    · exact absurd h h0
    · refine (heldVals_at b 0 n cap k _ ln k0 k1 (h.below b0 h.lt).at).mono ?_
      rintro e w1 ⟨rfl, hw⟩
      rw [hw]
      clear hw b0 h
      have hk : decide (k + 6 * (n : Int) < 0) = false := by simp; omega
      go_wp2
      go_ret
      exact ⟨rfl, HB.out⟩
set_option maxHeartbeats 400000 in
theorem heldAbsRes_any (err : Int) (ao : Option Addr) (n cap : Nat) (z c k : Int) (w : World) (ln : n ≤ 1048576) (k0 : 0 ≤ k) (k1 : k ≤ 1125899906842624) (h : WV w ao n (mV k)) :
    Calls Try.prog 39 #[.agg #[.int .i64 err, .slice ao n cap, .int .i64 z, .int .i64 c], .int .i64 k] w fun e w' => e = .returned (.int .i64 (k + 6 * n)) ∧ Below w.heap.size w w' := by
  have H : Hid (WV w ao n (mV k)) := h
  clear h
  go_enter Try.func39, Try.ntmps39
  go_wp2_with fail
  have b0 : Below w.heap.size w (w.alloc (.cells #[.int .i64 err, .slice ao n cap, .int .i64 z, .int .i64 c] 77)) := (Below.refl _ _).alloc (Nat.le_refl _) _
  refine (heldAbs_any ao n cap z c k _ ln k0 k1 (H.out.below b0)).mono ?_
  rintro e w1 ⟨rfl, hb⟩
  have HB : Hid (Below w.heap.size w w1) := b0.trans (hb.mono b0.size)
  have hk : decide (k + 6 * (n : Int) < 0) = false := by simp; omega
  clear hb b0
  go_wp2
  go_ret
  exact ⟨rfl, HB.out⟩
theorem sig_apart {w : World} {bH nH bR nR : Nat} {S : Nat → HS} {V : Nat → VV} (h : SigCp w bH nH S bR nR V) (n1 : nH ≠ 0) (n2 : nR ≠ 0) : bR ≠ bH := by
  intro e
  have e1 := h.h.cell (i := 2) (by omega)
  have e2 := h.r.cell (i := 2) (by omega)
  rw [e, e1] at e2
  simp [hsF, vF, hsC, vC] at e2

set_option maxHeartbeats 400000 in
theorem markSig_any (bH cH nH : Nat) (S : Nat → HS) (bR cR nR : Nat) (V : Nat → VV) (k : Int) (w : World) (lH : nH ≤ 1048576) (lR : nR ≤ 1048576) (k0 : 0 ≤ k) (k1 : k ≤ 1048576) (h : SigCp w bH nH S bR nR V) :
    Calls Try.prog 36 #[.agg #[.slice (some ⟨bH, 0, none⟩) nH cH, .slice (some ⟨bR, 0, none⟩) nR cR], .int .i64 k] w fun e w' => e = .returned (.int .i64 (k + 3 * nH + 6 * nR)) ∧ Fv (fun q => q = bH ∨ q = bR) w w' := by
  have H : Hid (SigCp w bH nH S bR nR V) := h
  clear h
  go_enter Try.func36, Try.ntmps36
  go_wp2_with fail
  have b0 : Below w.heap.size w (w.alloc (.cells #[.slice (some ⟨bH, 0, none⟩) nH cH, .slice (some ⟨bR, 0, none⟩) nR cR] 48)) := (Below.refl _ _).alloc (Nat.le_refl _) _
  have e0 := Cl.new (w := w) (vs := #[.slice (some ⟨bH, 0, none⟩) nH cH, .slice (some ⟨bR, 0, none⟩) nR cR]) (t := 48)
  refine (markHS_at bH nH cH _ k _ lH k0 (by omega) (H.out.h.below b0 H.out.h.lt)).mono ?_
  rintro e w1 ⟨rfl, hf⟩
  have hl := H.out.h.lt
  have hl2 := H.out.r.lt
  have c1 := hf.cl e0 (fun q => by have := q.2; omega)
  have HF1 : Hid (Fv (fun q => nH ≠ 0 ∧ q = bH) w w1) := (Fv.of_below b0).trans hf
  have a1 := c1.2 0 (by simp)
  have a2 := c1.2 1 (by simp)
  simp only [List.getD_eq_getElem?_getD, List.getElem?_cons_zero, List.getElem?_cons_succ, Option.getD_some] at a1 a2
  have az := c1.1
  clear hf e0 b0 c1
  go_wp2_with fail
  by_cases h0 : nR = 0
  · subst h0
    refine (markVals_nil _ cR (k + 3 * nH) _).mono ?_
    rintro e w2 ⟨rfl, hw⟩
    rw [hw]
    clear hw
    go_wp2
    go_ret
    exact ⟨by simp, HF1.out.mono (fun q hq => .inl hq.2)⟩
  · have hA : Arr w1 bR (nR * 6) (vF V) := HF1.out.arr H.out.r (fun q => sig_apart H.out q.1 h0 q.2)
    refine (markVals_at bR nR cR _ (k + 3 * nH) _ lR (by omega) (by omega) hA).mono ?_
    rintro e w2 ⟨rfl, hf2, _⟩
    have HF2 : Hid (Fv (fun q => q = bH ∨ q = bR) w w2) := (HF1.out.mono (fun q hq => .inl hq.2)).trans (hf2.mono (fun q hq => .inr hq.2))
    clear hf2 hA a1 a2 az
    go_wp2
    go_ret
    exact ⟨rfl, HF2.out⟩
end Go.Proofs.Ytjnooklalbcamaa
/- A load or store, the model's word: what its texts share. -/
namespace Go.Proofs.Ytjnooklalbcamaa
open Go.RowKit
/-- What is known behind a load or store: the answer lies in the list g that came in. -/
def AccAns (w' : World) (g cg : Nat) (e : Ending) (err : Int) (V : Nat → VV) (z c : Int) : Prop :=
  (err ≠ 0 ∧ e = .returned (.agg #[.int .i64 err, .slice none 0 0, .int .i64 0, .int .i64 0])) ∨ (err = 0 ∧ e = .returned (.agg #[.int .i64 0, .slice (some ⟨g, 0, none⟩) 8 cg, .int .i64 z, .int .i64 c]) ∧ Arr w' g (8 * 6) (vF V))
def put6 (w : World) (b o : Nat) (r : VV) : World := (((((w.setCell ⟨b, o, none⟩ (.int .i64 r.k)).setCell ⟨b, o + 1, none⟩ (.bool r.s)).setCell ⟨b, o + 2, none⟩ (.int .i64 r.m)).setCell ⟨b, o + 3, none⟩ (.int .i64 r.h)).setCell ⟨b, o + 4, none⟩ (.int .i64 r.lo)).setCell ⟨b, o + 5, none⟩ (.int .i64 r.hi)
theorem regs_set {w : World} {b : Nat} {V : Nat → VV} (h : Arr w b (8 * 6) (vF V)) {d : Nat} (hd : d < 8) (r : VV) : Arr (put6 w b (d * 6) r) b (8 * 6) (vF (updV V d r)) := by
  refine (Arr.set1 (Arr.set1 (Arr.set1 (Arr.set1 (Arr.set1 (Arr.set1 h (d * 6) (by omega) _) (d * 6 + 1) (by omega) _) (d * 6 + 2) (by omega) _) (d * 6 + 3) (by omega) _) (d * 6 + 4) (by omega) _) (d * 6 + 5) (by omega) _).congr (fun i hi => ?_)
  have hx := Nat.div_add_mod i 6
  have hm : i % 6 < 6 := Nat.mod_lt _ (by decide)
  simp only [vF, updV]
  generalize i / 6 = kk at *
  generalize i % 6 = jj at *
  by_cases hk : kk = d
  · subst hk
    rw [if_pos rfl]
    match jj, hm with
    | 0, _ => rw [if_neg (by omega), if_neg (by omega), if_neg (by omega), if_neg (by omega), if_neg (by omega), if_pos (by omega)]; rfl
    | 1, _ => rw [if_neg (by omega), if_neg (by omega), if_neg (by omega), if_neg (by omega), if_pos (by omega)]; rfl
    | 2, _ => rw [if_neg (by omega), if_neg (by omega), if_neg (by omega), if_pos (by omega)]; rfl
    | 3, _ => rw [if_neg (by omega), if_neg (by omega), if_pos (by omega)]; rfl
    | 4, _ => rw [if_neg (by omega), if_pos (by omega)]; rfl
    | 5, _ => rw [if_pos (by omega)]; rfl
  · rw [if_neg hk]
    iterate 6 rw [if_neg (by omega)]
theorem below_put6 {B b o : Nat} {w0 w : World} (h : Below B w0 w) (hb : B ≤ b) (r : VV) : Below B w0 (put6 w b o r) := by
  unfold put6
  exact (((((h.setCell hb _).setCell hb _).setCell hb _).setCell hb _).setCell hb _).setCell hb _
theorem cl_put6 {w : World} {b c o : Nat} {vs : List Value} (h : Cl w c vs) (hne : b ≠ c) (r : VV) : Cl (put6 w b o r) c vs :=
  ⟨by unfold put6; simpa using h.1, fun i hi => by unfold put6; (iterate 6 refine (World.cell?_setCell_far _ _ _ _ hne).trans ?_); exact h.2 i hi⟩
theorem fz_put6 {w : World} {b o : Nat} {a : Addr} (r : VV) : (put6 w b o r).frozen? a = w.frozen? a := by unfold put6; simp
theorem size_put6 {w : World} {b o : Nat} (r : VV) : (put6 w b o r).heap.size = w.heap.size := by unfold put6; simp
theorem updV_twice (V : Nat → VV) (d : Nat) (r s : VV) : updV (updV V d r) d s = updV V d s := by funext i; unfold updV; split <;> rfl
/-- Where l4Access stands. -/
structure AcP (w u : World) (bH nH cH bR nR cR g cg : Nat) (z c op d ra rb imm h : Int) (na nb : Nat) (a b : VV) (V : Nat → VV) : Prop where
  bel : Below g w u
  S : Cl u w.heap.size [.slice (some ⟨bH, 0, none⟩) nH cH, .slice (some ⟨bR, 0, none⟩) nR cR]
  A : Cl u (w.heap.size + 1) [.slice (some ⟨g, 0, none⟩) 8 cg, .int .i64 z, .int .i64 c]
  I : Cl u (w.heap.size + 1 + 1) [.int .i64 op, .int .i64 d, .int .i64 ra, .int .i64 rb, .int .i64 imm, .int .i64 h]
  R : Cl u (w.heap.size + 1 + 1 + 1) [.int .i64 0, .slice none 0 0, .int .i64 0, .int .i64 0]
  RF : ∀ i, u.frozen? ⟨w.heap.size + 1 + 1 + 1, i, none⟩ = false
  a : Cl u na [.int .i64 a.k, .bool a.s, .int .i64 a.m, .int .i64 a.h, .int .i64 a.lo, .int .i64 a.hi]
  b : Cl u nb [.int .i64 b.k, .bool b.s, .int .i64 b.m, .int .i64 b.h, .int .i64 b.lo, .int .i64 b.hi]
  G : Arr u g (8 * 6) (vF V)
theorem AcP.below {w u v : World} {bH nH cH bR nR cR g cg : Nat} {z c op d ra rb imm h : Int} {na nb : Nat} {a b : VV} {V : Nat → VV} (p : AcP w u bH nH cH bR nR cR g cg z c op d ra rb imm h na nb a b V) (hb : Below u.heap.size u v) : AcP w v bH nH cH bR nR cR g cg z c op d ra rb imm h na nb a b V :=
  ⟨p.bel.trans (hb.mono (Nat.le_of_lt p.G.lt)), p.S.below hb, p.A.below hb, p.I.below hb, p.R.below hb, fun i => (hb.frozen (p := ⟨w.heap.size + 1 + 1 + 1, i, none⟩) p.R.1).trans (p.RF i), p.a.below hb, p.b.below hb, p.G.below hb p.G.lt⟩
theorem AcP.put {w u : World} {bH nH cH bR nR cR g cg : Nat} {z c op d ra rb imm h : Int} {na nb : Nat} {a b : VV} {V : Nat → VV} (p : AcP w u bH nH cH bR nR cR g cg z c op d ra rb imm h na nb a b V) (hg : g < w.heap.size) (ha : w.heap.size ≤ na) (hb : w.heap.size ≤ nb) {di : Nat} (hd : di < 8) (r : VV) : AcP w (put6 u g (di * 6) r) bH nH cH bR nR cR g cg z c op d ra rb imm h na nb a b (updV V di r) :=
  ⟨below_put6 p.bel (Nat.le_refl _) r, cl_put6 p.S (by omega) r, cl_put6 p.A (by omega) r, cl_put6 p.I (by omega) r, cl_put6 p.R (by omega) r, fun i => (fz_put6 r).trans (p.RF i), cl_put6 p.a (by omega) r, cl_put6 p.b (by omega) r, regs_set p.G hd r⟩
theorem cl6 {u : World} {q : Nat} {a : VV} (h : Cl u q [.int .i64 a.k, .bool a.s, .int .i64 a.m, .int .i64 a.h, .int .i64 a.lo, .int .i64 a.hi]) : u.cell? ⟨q, 0, none⟩ = some (.int .i64 a.k) ∧ u.cell? ⟨q, 1, none⟩ = some (.bool a.s) ∧ u.cell? ⟨q, 2, none⟩ = some (.int .i64 a.m) ∧ u.cell? ⟨q, 3, none⟩ = some (.int .i64 a.h) ∧ u.cell? ⟨q, 4, none⟩ = some (.int .i64 a.lo) ∧ u.cell? ⟨q, 5, none⟩ = some (.int .i64 a.hi) :=
  ⟨h.2 0 (by simp), h.2 1 (by simp), h.2 2 (by simp), h.2 3 (by simp), h.2 4 (by simp), h.2 5 (by simp)⟩
theorem reg_cells {u : World} {g : Nat} {V : Nat → VV} (h : Arr u g (8 * 6) (vF V)) (i : Nat) (hi : i < 8) : u.cell? ⟨g, i * 6, none⟩ = some (.int .i64 (V i).k) ∧ u.cell? ⟨g, i * 6 + 1, none⟩ = some (.bool (V i).s) ∧ u.cell? ⟨g, i * 6 + 2, none⟩ = some (.int .i64 (V i).m) ∧ u.cell? ⟨g, i * 6 + 3, none⟩ = some (.int .i64 (V i).h) ∧ u.cell? ⟨g, i * 6 + 4, none⟩ = some (.int .i64 (V i).lo) ∧ u.cell? ⟨g, i * 6 + 5, none⟩ = some (.int .i64 (V i).hi) :=
  ⟨(h.cell (i := i * 6 + 0) (by omega)).trans (congrArg some (vF_at V i 0 (by omega))), (h.cell (i := i * 6 + 1) (by omega)).trans (congrArg some (vF_at V i 1 (by omega))), (h.cell (i := i * 6 + 2) (by omega)).trans (congrArg some (vF_at V i 2 (by omega))), (h.cell (i := i * 6 + 3) (by omega)).trans (congrArg some (vF_at V i 3 (by omega))), (h.cell (i := i * 6 + 4) (by omega)).trans (congrArg some (vF_at V i 4 (by omega))), (h.cell (i := i * 6 + 5) (by omega)).trans (congrArg some (vF_at V i 5 (by omega)))⟩
theorem hs_at {u : World} {bH nH : Nat} {S : Nat → HS} (h : Arr u bH (nH * 3) (hsF S)) {q : Nat} (hq : q < nH) : u.cell? ⟨bH, q * 3, none⟩ = some (.int .i64 (S q).size) ∧ u.cell? ⟨bH, q * 3 + 1, none⟩ = some (.bool (S q).s) ∧ u.cell? ⟨bH, q * 3 + 2, none⟩ = some (.bool (S q).w) :=
  ⟨(h.cell (i := q * 3 + 0) (by omega)).trans (congrArg some (hsF_at S q 0 (by omega))), (h.cell (i := q * 3 + 1) (by omega)).trans (congrArg some (hsF_at S q 1 (by omega))), (h.cell (i := q * 3 + 2) (by omega)).trans (congrArg some (hsF_at S q 2 (by omega)))⟩
end Go.Proofs.Ytjnooklalbcamaa
/- The Val of the register that an instruction gives. -/
namespace Go.Proofs.Ytjnooklalbcamaa
open Go.RowKit

set_option maxRecDepth 20000 in
set_option maxHeartbeats 4000000 in
theorem l4Result_3 (d ra rb imm h : Int) (a b : VV) (s : Bool) (w : World) (ha : Bd a) (hb : Bd b) :
    Calls Try.prog 79 #[.agg #[.int .i64 3, .int .i64 d, .int .i64 ra, .int .i64 rb, .int .i64 imm, .int .i64 h], .agg #[.int .i64 a.k, .bool a.s, .int .i64 a.m, .int .i64 a.h, .int .i64 a.lo, .int .i64 a.hi], .agg #[.int .i64 b.k, .bool b.s, .int .i64 b.m, .int .i64 b.h, .int .i64 b.lo, .int .i64 b.hi], .bool s] w fun e w' => e = .returned (resV 3 imm a b s).v ∧ Below w.heap.size w w' := by
  go_enter Try.func79, Try.ntmps79
  go_upto_region 1 with fail
  obtain ⟨u0, hu, pu⟩ := res_pre w (op := 3) (d := d) (ra := ra) (rb := rb) (imm := imm) (h := h) a b
  rw [hu]
  have P0 : Hid (ResP w u0 3 d ra rb imm h a b) := pu
  clear hu pu
  obtain ⟨i0, i1, i2, i3, i4, i5⟩ := ins_cells P0.out.I
  obtain ⟨a0, a1, a2, a3, a4, a5⟩ := P0.out.A.cells
  obtain ⟨b0, b1, b2, b3, b4, b5⟩ := P0.out.B.cells
  obtain ⟨r0, r1, r2, r3, r4, r5⟩ := P0.out.R.cells
  have rf := P0.out.R.free
  have rl := P0.out.R.lt
  have af := P0.out.A.free
  go_wp2_with fail
  refine (l4Sum_any a b _ ha hb).mono ?_
  rintro e u1 ⟨rfl, hb⟩
  have P1 : Hid (ResP w u1 3 d ra rb imm h a b) := P0.out.below hb
  clear hb
  clear i0 i1 i2 i3 i4 i5 a0 a1 a2 a3 a4 a5 b0 b1 b2 b3 b4 b5 r0 r1 r2 r3 r4 r5 rf rl af
  simp only [VV.v]
  obtain ⟨i0, i1, i2, i3, i4, i5⟩ := ins_cells P1.out.I
  obtain ⟨a0, a1, a2, a3, a4, a5⟩ := P1.out.A.cells
  obtain ⟨b0, b1, b2, b3, b4, b5⟩ := P1.out.B.cells
  obtain ⟨r0, r1, r2, r3, r4, r5⟩ := P1.out.R.cells
  have rf := P1.out.R.free
  have rl := P1.out.R.lt
  have af := P1.out.A.free
  go_wp2
  exact bodyPost_ret (v := VV.v (sumV a b)) (by simp [results, Try.results79, go_sem, VV.v, *]) rfl ⟨congrArg (fun v => Ending.returned (VV.v v)) (by simp [resV]), below_putV P1.out.bel P1.out.oR (sumV a b)⟩

set_option maxRecDepth 20000 in
set_option maxHeartbeats 4000000 in
theorem l4Result_14 (d ra rb imm h : Int) (a b : VV) (s : Bool) (w : World) (ha : Bd a) (hb : Bd b) :
    Calls Try.prog 79 #[.agg #[.int .i64 14, .int .i64 d, .int .i64 ra, .int .i64 rb, .int .i64 imm, .int .i64 h], .agg #[.int .i64 a.k, .bool a.s, .int .i64 a.m, .int .i64 a.h, .int .i64 a.lo, .int .i64 a.hi], .agg #[.int .i64 b.k, .bool b.s, .int .i64 b.m, .int .i64 b.h, .int .i64 b.lo, .int .i64 b.hi], .bool s] w fun e w' => e = .returned (resV 14 imm a b s).v ∧ Below w.heap.size w w' := by
  go_enter Try.func79, Try.ntmps79
  go_upto_region 1 with fail
  obtain ⟨u0, hu, pu⟩ := res_pre w (op := 14) (d := d) (ra := ra) (rb := rb) (imm := imm) (h := h) a b
  rw [hu]
  have P0 : Hid (ResP w u0 14 d ra rb imm h a b) := pu
  clear hu pu
  obtain ⟨i0, i1, i2, i3, i4, i5⟩ := ins_cells P0.out.I
  obtain ⟨a0, a1, a2, a3, a4, a5⟩ := P0.out.A.cells
  obtain ⟨b0, b1, b2, b3, b4, b5⟩ := P0.out.B.cells
  obtain ⟨r0, r1, r2, r3, r4, r5⟩ := P0.out.R.cells
  have rf := P0.out.R.free
  have rl := P0.out.R.lt
  have af := P0.out.A.free
  go_wp2_with fail
  refine (l4Sum_any a b _ ha hb).mono ?_
  rintro e u1 ⟨rfl, hb⟩
  have P1 : Hid (ResP w u1 14 d ra rb imm h a b) := P0.out.below hb
  clear hb
  clear i0 i1 i2 i3 i4 i5 a0 a1 a2 a3 a4 a5 b0 b1 b2 b3 b4 b5 r0 r1 r2 r3 r4 r5 rf rl af
  simp only [VV.v]
  obtain ⟨i0, i1, i2, i3, i4, i5⟩ := ins_cells P1.out.I
  obtain ⟨a0, a1, a2, a3, a4, a5⟩ := P1.out.A.cells
  obtain ⟨b0, b1, b2, b3, b4, b5⟩ := P1.out.B.cells
  obtain ⟨r0, r1, r2, r3, r4, r5⟩ := P1.out.R.cells
  have rf := P1.out.R.free
  have rl := P1.out.R.lt
  have af := P1.out.A.free
  go_wp2
  exact bodyPost_ret (v := VV.v (sumV a b)) (by simp [results, Try.results79, go_sem, VV.v, *]) rfl ⟨congrArg (fun v => Ending.returned (VV.v v)) (by simp [resV]), below_putV P1.out.bel P1.out.oR (sumV a b)⟩

set_option maxRecDepth 20000 in
set_option maxHeartbeats 4000000 in
theorem l4Result_4 (d ra rb imm h : Int) (a b : VV) (s : Bool) (w : World) :
    Calls Try.prog 79 #[.agg #[.int .i64 4, .int .i64 d, .int .i64 ra, .int .i64 rb, .int .i64 imm, .int .i64 h], .agg #[.int .i64 a.k, .bool a.s, .int .i64 a.m, .int .i64 a.h, .int .i64 a.lo, .int .i64 a.hi], .agg #[.int .i64 b.k, .bool b.s, .int .i64 b.m, .int .i64 b.h, .int .i64 b.lo, .int .i64 b.hi], .bool s] w fun e w' => e = .returned (resV 4 imm a b s).v ∧ Below w.heap.size w w' := by
  go_enter Try.func79, Try.ntmps79
  go_upto_region 1 with fail
  obtain ⟨u0, hu, pu⟩ := res_pre w (op := 4) (d := d) (ra := ra) (rb := rb) (imm := imm) (h := h) a b
  rw [hu]
  have P0 : Hid (ResP w u0 4 d ra rb imm h a b) := pu
  clear hu pu
  obtain ⟨i0, i1, i2, i3, i4, i5⟩ := ins_cells P0.out.I
  obtain ⟨a0, a1, a2, a3, a4, a5⟩ := P0.out.A.cells
  obtain ⟨b0, b1, b2, b3, b4, b5⟩ := P0.out.B.cells
  obtain ⟨r0, r1, r2, r3, r4, r5⟩ := P0.out.R.cells
  have rf := P0.out.R.free
  have rl := P0.out.R.lt
  have af := P0.out.A.free
  go_wp2_with fail
  refine (l4Num_any s (-1) _).mono ?_
  rintro e u1 ⟨rfl, hb⟩
  have P1 : Hid (ResP w u1 4 d ra rb imm h a b) := P0.out.below hb
  clear hb
  clear i0 i1 i2 i3 i4 i5 a0 a1 a2 a3 a4 a5 b0 b1 b2 b3 b4 b5 r0 r1 r2 r3 r4 r5 rf rl af
  simp only [VV.v]
  obtain ⟨i0, i1, i2, i3, i4, i5⟩ := ins_cells P1.out.I
  obtain ⟨a0, a1, a2, a3, a4, a5⟩ := P1.out.A.cells
  obtain ⟨b0, b1, b2, b3, b4, b5⟩ := P1.out.B.cells
  obtain ⟨r0, r1, r2, r3, r4, r5⟩ := P1.out.R.cells
  have rf := P1.out.R.free
  have rl := P1.out.R.lt
  have af := P1.out.A.free
  go_wp2
  exact bodyPost_ret (v := VV.v (numV s (-1))) (by simp [results, Try.results79, go_sem, VV.v, *]) rfl ⟨congrArg (fun v => Ending.returned (VV.v v)) (by simp [resV]), below_putV P1.out.bel P1.out.oR (numV s (-1))⟩

set_option maxRecDepth 20000 in
set_option maxHeartbeats 4000000 in
theorem l4Result_16 (d ra rb imm h : Int) (a b : VV) (s : Bool) (w : World) :
    Calls Try.prog 79 #[.agg #[.int .i64 16, .int .i64 d, .int .i64 ra, .int .i64 rb, .int .i64 imm, .int .i64 h], .agg #[.int .i64 a.k, .bool a.s, .int .i64 a.m, .int .i64 a.h, .int .i64 a.lo, .int .i64 a.hi], .agg #[.int .i64 b.k, .bool b.s, .int .i64 b.m, .int .i64 b.h, .int .i64 b.lo, .int .i64 b.hi], .bool s] w fun e w' => e = .returned (resV 16 imm a b s).v ∧ Below w.heap.size w w' := by
  go_enter Try.func79, Try.ntmps79
  go_upto_region 1 with fail
  obtain ⟨u0, hu, pu⟩ := res_pre w (op := 16) (d := d) (ra := ra) (rb := rb) (imm := imm) (h := h) a b
  rw [hu]
  have P0 : Hid (ResP w u0 16 d ra rb imm h a b) := pu
  clear hu pu
  obtain ⟨i0, i1, i2, i3, i4, i5⟩ := ins_cells P0.out.I
  obtain ⟨a0, a1, a2, a3, a4, a5⟩ := P0.out.A.cells
  obtain ⟨b0, b1, b2, b3, b4, b5⟩ := P0.out.B.cells
  obtain ⟨r0, r1, r2, r3, r4, r5⟩ := P0.out.R.cells
  have rf := P0.out.R.free
  have rl := P0.out.R.lt
  have af := P0.out.A.free
  go_wp2_with fail
  refine (l4Num_any s (-1) _).mono ?_
  rintro e u1 ⟨rfl, hb⟩
  have P1 : Hid (ResP w u1 16 d ra rb imm h a b) := P0.out.below hb
  clear hb
  clear i0 i1 i2 i3 i4 i5 a0 a1 a2 a3 a4 a5 b0 b1 b2 b3 b4 b5 r0 r1 r2 r3 r4 r5 rf rl af
  simp only [VV.v]
  obtain ⟨i0, i1, i2, i3, i4, i5⟩ := ins_cells P1.out.I
  obtain ⟨a0, a1, a2, a3, a4, a5⟩ := P1.out.A.cells
  obtain ⟨b0, b1, b2, b3, b4, b5⟩ := P1.out.B.cells
  obtain ⟨r0, r1, r2, r3, r4, r5⟩ := P1.out.R.cells
  have rf := P1.out.R.free
  have rl := P1.out.R.lt
  have af := P1.out.A.free
  go_wp2
  exact bodyPost_ret (v := VV.v (numV s (-1))) (by simp [results, Try.results79, go_sem, VV.v, *]) rfl ⟨congrArg (fun v => Ending.returned (VV.v v)) (by simp [resV]), below_putV P1.out.bel P1.out.oR (numV s (-1))⟩

set_option maxRecDepth 20000 in
set_option maxHeartbeats 4000000 in
theorem l4Result_9 (d ra rb imm h : Int) (a b : VV) (s : Bool) (w : World) :
    Calls Try.prog 79 #[.agg #[.int .i64 9, .int .i64 d, .int .i64 ra, .int .i64 rb, .int .i64 imm, .int .i64 h], .agg #[.int .i64 a.k, .bool a.s, .int .i64 a.m, .int .i64 a.h, .int .i64 a.lo, .int .i64 a.hi], .agg #[.int .i64 b.k, .bool b.s, .int .i64 b.m, .int .i64 b.h, .int .i64 b.lo, .int .i64 b.hi], .bool s] w fun e w' => e = .returned (resV 9 imm a b s).v ∧ Below w.heap.size w w' := by
  go_enter Try.func79, Try.ntmps79
  go_upto_region 1 with fail
  obtain ⟨u0, hu, pu⟩ := res_pre w (op := 9) (d := d) (ra := ra) (rb := rb) (imm := imm) (h := h) a b
  rw [hu]
  have P0 : Hid (ResP w u0 9 d ra rb imm h a b) := pu
  clear hu pu
  obtain ⟨i0, i1, i2, i3, i4, i5⟩ := ins_cells P0.out.I
  obtain ⟨a0, a1, a2, a3, a4, a5⟩ := P0.out.A.cells
  obtain ⟨b0, b1, b2, b3, b4, b5⟩ := P0.out.B.cells
  obtain ⟨r0, r1, r2, r3, r4, r5⟩ := P0.out.R.cells
  have rf := P0.out.R.free
  have rl := P0.out.R.lt
  have af := P0.out.A.free
  go_wp2_with fail
  refine (l4Max_any a.k a.s a.m a.h a.lo a.hi _).mono ?_
  rintro e u1 ⟨rfl, hb⟩
  have P1 : Hid (ResP w u1 9 d ra rb imm h a b) := P0.out.below hb
  clear hb
  clear i0 i1 i2 i3 i4 i5 a0 a1 a2 a3 a4 a5 b0 b1 b2 b3 b4 b5 r0 r1 r2 r3 r4 r5 rf rl af
  obtain ⟨i0, i1, i2, i3, i4, i5⟩ := ins_cells P1.out.I
  obtain ⟨a0, a1, a2, a3, a4, a5⟩ := P1.out.A.cells
  obtain ⟨b0, b1, b2, b3, b4, b5⟩ := P1.out.B.cells
  obtain ⟨r0, r1, r2, r3, r4, r5⟩ := P1.out.R.cells
  have rf := P1.out.R.free
  have rl := P1.out.R.lt
  have af := P1.out.A.free
  go_wp2_with fail
  refine (l4Num_any s (maxV a) _).mono ?_
  rintro e u2 ⟨rfl, hb⟩
  have P2 : Hid (ResP w u2 9 d ra rb imm h a b) := P1.out.below hb
  clear hb
  clear i0 i1 i2 i3 i4 i5 a0 a1 a2 a3 a4 a5 b0 b1 b2 b3 b4 b5 r0 r1 r2 r3 r4 r5 rf rl af
  simp only [VV.v]
  obtain ⟨i0, i1, i2, i3, i4, i5⟩ := ins_cells P2.out.I
  obtain ⟨a0, a1, a2, a3, a4, a5⟩ := P2.out.A.cells
  obtain ⟨b0, b1, b2, b3, b4, b5⟩ := P2.out.B.cells
  obtain ⟨r0, r1, r2, r3, r4, r5⟩ := P2.out.R.cells
  have rf := P2.out.R.free
  have rl := P2.out.R.lt
  have af := P2.out.A.free
  go_wp2
  exact bodyPost_ret (v := VV.v (numV s (maxV a))) (by simp [results, Try.results79, go_sem, VV.v, *]) rfl ⟨congrArg (fun v => Ending.returned (VV.v v)) (by simp [resV]), below_putV P2.out.bel P2.out.oR (numV s (maxV a))⟩
end Go.Proofs.Ytjnooklalbcamaa
