import Derived.Test.YtpbceodheeepoaaGreatSpecAny
import Derived.Test.YtpbceodheeepoaaGreatSpecCopy
import Derived.Test.YtpbceodheeepoaaGreatMachSpec
/- StepMach of the model. -/
namespace Go.Proofs.YtpbceodheeepoaaGreat
open Go.RowKit
set_option maxHeartbeats 2000000 in
theorem specStep_any (bP len : Nat) (F : Nat → Nat → Int) (bR nR : Nat) (R : Nat → Int) (z c hz hc : Bool) (bH nH : Nat) (Hp : Nat → HeapV) (blk : Nat → Nat) (pc st : Int) (bO nO : Nat) (K V : Nat → Int) (w : World)
    (hlen : len ≤ 1048576) (hat : Arr w bP (len * 6) (insF F)) (hs : Small nR nH Hp nO) (hr : InRange R nH Hp) (hm : MachCp w bR nR R bH nH Hp blk bO nO K V) :
    Calls Tryz.prog 16 #[.slice (some ⟨bP, 0, none⟩) len len, .agg #[.slice (some ⟨bR, 0, none⟩) nR nR, .bool z, .bool c, .bool hz, .bool hc, .slice (some ⟨bH, 0, none⟩) nH nH, .int .i64 pc, .int .i64 st, .slice (some ⟨bO, 0, none⟩) nO nO]] w fun e w' => ∃ v,
      e = .returned v ∧ Below w.heap.size w w' ∧ Ans w' w.heap.size v (stepA len F nR { R := R, z := z, c := c, hz := hz, hc := hc, nH := nH, Hp := Hp, pc := pc, st := st, nO := nO, K := K, V := V }) := by
  have HA : Hid (Arr w bP (len * 6) (insF F)) := hat
  have HS : Hid (Small nR nH Hp nO) := hs
  have HR : Hid (InRange R nH Hp) := hr
  have HM : Hid (MachCp w bR nR R bH nH Hp blk bO nO K V) := hm
  clear hat hs hr hm
  go_enter Tryz.func16, Tryz.ntmps16
  go_wp2_with fail
  generalize hw0 : (w.alloc (.cells #[.slice (some ⟨bR, 0, none⟩) nR nR, .bool z, .bool c, .bool hz, .bool hc, .slice (some ⟨bH, 0, none⟩) nH nH, .int .i64 pc, .int .i64 st, .slice (some ⟨bO, 0, none⟩) nO nO] 28)).alloc (.cells #[.slice none 0 0, .bool false, .bool false, .bool false, .bool false, .slice none 0 0, .int .i64 0, .int .i64 0, .slice none 0 0] 28) = w0
  have b0 : Below w.heap.size w w0 := by rw [← hw0]; exact ((Below.refl _ _).alloc (Nat.le_refl _) _).alloc (by simp) _
  have z0 : w0.heap.size = w.heap.size + 2 := by rw [← hw0]; simp
  have HX0 : Hid (w0.ownsRow w.heap.size 28 9 (.slice (some ⟨w.heap.size, 0, none⟩) 1 1) 1 [.slice (some ⟨bR, 0, none⟩) nR nR, .bool z, .bool c, .bool hz, .bool hc, .slice (some ⟨bH, 0, none⟩) nH nH, .int .i64 pc, .int .i64 st, .slice (some ⟨bO, 0, none⟩) nO nO]) := by rw [← hw0]; exact (World.ownsRow_lit w #[.slice (some ⟨bR, 0, none⟩) nR nR, .bool z, .bool c, .bool hz, .bool hc, .slice (some ⟨bH, 0, none⟩) nH nH, .int .i64 pc, .int .i64 st, .slice (some ⟨bO, 0, none⟩) nO nO] 1 (Nat.le_refl _) (by unfold maxLen; omega) rfl).alloc _
  have HZ0 : Hid (w0.ownsRow w.heap.size 28 9 (.slice (some ⟨w.heap.size + 1, 0, none⟩) 1 1) 1 [.slice none 0 0, .bool false, .bool false, .bool false, .bool false, .slice none 0 0, .int .i64 0, .int .i64 0, .slice none 0 0]) := by
    rw [← hw0]
    have := World.ownsRow_lit (base := w.heap.size) (e := 28) (size := 9) (w.alloc (.cells #[.slice (some ⟨bR, 0, none⟩) nR nR, .bool z, .bool c, .bool hz, .bool hc, .slice (some ⟨bH, 0, none⟩) nH nH, .int .i64 pc, .int .i64 st, .slice (some ⟨bO, 0, none⟩) nO nO] 28)) #[.slice none 0 0, .bool false, .bool false, .bool false, .bool false, .slice none 0 0, .int .i64 0, .int .i64 0, .slice none 0 0] 1 (by simp) (by unfold maxLen; omega) rfl
    rw [World.size_alloc] at this
    exact this
  refine (specFlat_any bP 0 len len F w0 hlen (HA.out.below b0 HA.out.lt).at).mono ?_
  rintro e w1 ⟨rfl, b1⟩
  have HX1 : Hid (w1.ownsRow w.heap.size 28 9 (.slice (some ⟨w.heap.size, 0, none⟩) 1 1) 1 [.slice (some ⟨bR, 0, none⟩) nR nR, .bool z, .bool c, .bool hz, .bool hc, .slice (some ⟨bH, 0, none⟩) nH nH, .int .i64 pc, .int .i64 st, .slice (some ⟨bO, 0, none⟩) nO nO]) := row_below HX0.out b1
  have HZ1 : Hid (w1.ownsRow w.heap.size 28 9 (.slice (some ⟨w.heap.size + 1, 0, none⟩) 1 1) 1 [.slice none 0 0, .bool false, .bool false, .bool false, .bool false, .slice none 0 0, .int .i64 0, .int .i64 0, .slice none 0 0]) := row_below HZ0.out b1
  have HB1 : Hid (Below w.heap.size w w1) := b0.trans (b1.mono (by omega))
  have z1 : w.heap.size + 2 ≤ w1.heap.size := by have := b1.size; omega
  have y1 : w.heap.size + 1 < w1.heap.size := by omega
  have y0 : w.heap.size < w1.heap.size := by omega
  clear b0 b1 HX0 HZ0 hw0
  cases hf : flatOK len F with
  | false =>
    obtain ⟨s0, s1, s2, s3, s4, s5, s6, s7, s8⟩ := cells9 HZ1.out
    have sf : ∀ i, w1.frozen? ⟨w.heap.size + 1, i, none⟩ = false := fun i => HZ1.out.frozenAt i
    go_wp2
    refine bodyPost_ret (v := .agg #[.slice none 0 0, .bool false, .bool false, .bool false, .bool false, .slice none 0 0, .int .i64 0, .int .i64 0, .slice none 0 0]) (by simp [results, Tryz.results16, go_sem, s0, s1, s2, s3, s4, s5, s6, s7, s8]) rfl ⟨_, rfl, ?_, ?_⟩
    · iterate 9 refine Below.setCell ?_ (by simp) _
      exact HB1.out
    · have e1 : stepA len F nR { R := R, z := z, c := c, hz := hz, hc := hc, nH := nH, Hp := Hp, pc := pc, st := st, nO := nO, K := K, V := V } = none := by unfold stepA; rw [hf]; rfl
      rw [e1]; rfl
  | true =>
    obtain ⟨q0, q1, q2, q3, q4, q5, q6, q7, q8⟩ := cells9 HX1.out
    have HF : Hid (flatOK len F = true) := hf
    clear hf
    go_wp2_with fail
    refine (specMach_any bR nR z c hz hc R bH nH Hp blk pc st bO nO K V w1 HS.out HR.out.base (HM.out.below HB1.out (Nat.le_refl _))).mono ?_
    rintro e w2 ⟨rfl, b2⟩
    have HX2 : Hid (w2.ownsRow w.heap.size 28 9 (.slice (some ⟨w.heap.size, 0, none⟩) 1 1) 1 [.slice (some ⟨bR, 0, none⟩) nR nR, .bool z, .bool c, .bool hz, .bool hc, .slice (some ⟨bH, 0, none⟩) nH nH, .int .i64 pc, .int .i64 st, .slice (some ⟨bO, 0, none⟩) nO nO]) := row_below HX1.out b2
    have HZ2 : Hid (w2.ownsRow w.heap.size 28 9 (.slice (some ⟨w.heap.size + 1, 0, none⟩) 1 1) 1 [.slice none 0 0, .bool false, .bool false, .bool false, .bool false, .slice none 0 0, .int .i64 0, .int .i64 0, .slice none 0 0]) := row_below HZ1.out b2
    have HB2 : Hid (Below w.heap.size w w2) := HB1.out.trans (b2.mono (by omega))
    have z2 : w.heap.size + 2 ≤ w2.heap.size := by have := b2.size; omega
    have y1 : w.heap.size + 1 < w2.heap.size := by omega
    have y0 : w.heap.size < w2.heap.size := by omega
    clear b2 HX1 HZ1 HB1 q0 q1 q2 q3 q4 q5 q6 q7 q8
    cases hmo : machOK nR z c hz hc nH Hp pc st nO K with
    | false =>
      obtain ⟨s0, s1, s2, s3, s4, s5, s6, s7, s8⟩ := cells9 HZ2.out
      have sf : ∀ i, w2.frozen? ⟨w.heap.size + 1, i, none⟩ = false := fun i => HZ2.out.frozenAt i
      go_wp2
      refine bodyPost_ret (v := .agg #[.slice none 0 0, .bool false, .bool false, .bool false, .bool false, .slice none 0 0, .int .i64 0, .int .i64 0, .slice none 0 0]) (by simp [results, Tryz.results16, go_sem, s0, s1, s2, s3, s4, s5, s6, s7, s8]) rfl ⟨_, rfl, ?_, ?_⟩
      · iterate 9 refine Below.setCell ?_ (by simp) _
        exact HB2.out
      · have e1 : stepA len F nR { R := R, z := z, c := c, hz := hz, hc := hc, nH := nH, Hp := Hp, pc := pc, st := st, nO := nO, K := K, V := V } = none := by unfold stepA; rw [HF.out, hmo]; rfl
        rw [e1]; rfl
    | true =>
      obtain ⟨rfl, hnH, hlh, hpc, hnO⟩ := mach_facts hmo
      have OK := mach_ok (V := V) hmo HR.out
      have HOK : Hid _ := OK
      have HMO : Hid (machOK 8 z c hz hc nH Hp pc st nO K = true) := hmo
      have HLH : Hid (∀ i, i < nH → 1 ≤ (Hp i).len ∧ (Hp i).len ≤ 4096 ∧ (Hp i).base ≤ 18446744073709551615 - ((Hp i).len : Int)) := hlh
      clear OK hmo hlh
      obtain ⟨q0, q1, q2, q3, q4, q5, q6, q7, q8⟩ := cells9 HX2.out
      go_wp2_with fail
      refine (l1Copy_any bR 8 R z c hz hc bH nH Hp blk pc st bO nO K V w2 rfl hnH (by omega) (fun i hi => ⟨(HLH.out i hi).1, (HLH.out i hi).2.1⟩) (HM.out.below HB2.out (Nat.le_refl _))).mono ?_
      rintro e w3 ⟨p, rfl, b3, M3⟩
      have HZ3 : Hid (w3.ownsRow w.heap.size 28 9 (.slice (some ⟨w.heap.size + 1, 0, none⟩) 1 1) 1 [.slice none 0 0, .bool false, .bool false, .bool false, .bool false, .slice none 0 0, .int .i64 0, .int .i64 0, .slice none 0 0]) := row_below HZ2.out b3
      have HB3 : Hid (Below w.heap.size w w3) := HB2.out.trans (b3.mono (by omega))
      have z3 : w2.heap.size ≤ w3.heap.size := b3.size
      have y1 : w.heap.size + 1 < w3.heap.size := by omega
      have hcall := l1Step_any (M := { R := R, z := z, c := c, hz := hz, hc := hc, nH := nH, Hp := Hp, pc := pc, st := st, nO := nO, K := K, V := V }) do_any M3 HOK.out (by show nO ≤ 1048576; omega) hpc bP 0 len len F ((HA.out.below HB3.out HA.out.lt).at) HF.out
      have HCALL : Hid (Calls Tryz.prog 34 #[.slice (some ⟨bP, 0, none⟩) len len, .agg #[.slice (some ⟨p.bR, 0, none⟩) 8 p.cR, .bool z, .bool c, .bool hz, .bool hc, .slice p.aH nH p.cH, .int .i64 pc, .int .i64 st, .slice p.aO nO p.cO]] w3 (DidK w2.heap.size w3 (if st = 0 then stepM len F { R := R, z := z, c := c, hz := hz, hc := hc, nH := nH, Hp := Hp, pc := pc, st := st, nO := nO, K := K, V := V } else { R := R, z := z, c := c, hz := hz, hc := hc, nH := nH, Hp := Hp, pc := pc, st := st, nO := nO, K := K, V := V }))) := hcall
      clear b3 M3 HX2 HZ2 q0 q1 q2 q3 q4 q5 q6 q7 q8 hcall
      go_wp2_with fail
      refine HCALL.out.mono ?_
      rintro e w4 ⟨⟨p', rfl, b4, m4⟩, k4⟩
      have hans : stepA len F 8 { R := R, z := z, c := c, hz := hz, hc := hc, nH := nH, Hp := Hp, pc := pc, st := st, nO := nO, K := K, V := V } = some (if st = 0 then stepM len F { R := R, z := z, c := c, hz := hz, hc := hc, nH := nH, Hp := Hp, pc := pc, st := st, nO := nO, K := K, V := V } else { R := R, z := z, c := c, hz := hz, hc := hc, nH := nH, Hp := Hp, pc := pc, st := st, nO := nO, K := K, V := V }) := by
        unfold stepA
        rw [HF.out, HMO.out]
        rfl
      have m5 : Mem w4 w2.heap.size p' (if st = 0 then stepM len F { R := R, z := z, c := c, hz := hz, hc := hc, nH := nH, Hp := Hp, pc := pc, st := st, nO := nO, K := K, V := V } else { R := R, z := z, c := c, hz := hz, hc := hc, nH := nH, Hp := Hp, pc := pc, st := st, nO := nO, K := K, V := V }) := m4
      clear m4
      have hdd : (if ({ R := R, z := z, c := c, hz := hz, hc := hc, nH := nH, Hp := Hp, pc := pc, st := st, nO := nO, K := K, V := V } : MV).st = 0 then stepM len F { R := R, z := z, c := c, hz := hz, hc := hc, nH := nH, Hp := Hp, pc := pc, st := st, nO := nO, K := K, V := V } else { R := R, z := z, c := c, hz := hz, hc := hc, nH := nH, Hp := Hp, pc := pc, st := st, nO := nO, K := K, V := V }) = (if st = 0 then stepM len F { R := R, z := z, c := c, hz := hz, hc := hc, nH := nH, Hp := Hp, pc := pc, st := st, nO := nO, K := K, V := V } else { R := R, z := z, c := c, hz := hz, hc := hc, nH := nH, Hp := Hp, pc := pc, st := st, nO := nO, K := K, V := V }) := rfl
      rw [hdd]
      clear hdd
      generalize (if st = 0 then stepM len F { R := R, z := z, c := c, hz := hz, hc := hc, nH := nH, Hp := Hp, pc := pc, st := st, nO := nO, K := K, V := V } else { R := R, z := z, c := c, hz := hz, hc := hc, nH := nH, Hp := Hp, pc := pc, st := st, nO := nO, K := K, V := V }) = M' at m5 hans ⊢
      have HANS : Hid (stepA len F 8 { R := R, z := z, c := c, hz := hz, hc := hc, nH := nH, Hp := Hp, pc := pc, st := st, nO := nO, K := K, V := V } = some M') := hans
      have HZ4 : Hid (w4.ownsRow w.heap.size 28 9 (.slice (some ⟨w.heap.size + 1, 0, none⟩) 1 1) 1 [.slice none 0 0, .bool false, .bool false, .bool false, .bool false, .slice none 0 0, .int .i64 0, .int .i64 0, .slice none 0 0]) := row_low HZ3.out (by simp [Value.ownBlock]; omega) b4
      have HB4 : Hid (Below w.heap.size w w4) := HB3.out.trans (b4.mono (by omega))
      have y4 : w.heap.size + 1 < w4.heap.size := Nat.lt_of_lt_of_le y1 b4.size
      have H4 : Hid (Mem w4 w2.heap.size p' M') := m5
      clear m5 b4 k4 hans HOK HCALL
      obtain ⟨s0, s1, s2, s3, s4, s5, s6, s7, s8⟩ := cells9 HZ4.out
      have sf : ∀ i, w4.frozen? ⟨w.heap.size + 1, i, none⟩ = false := fun i => HZ4.out.frozenAt i
      simp only [mVal]
      go_wp2
      refine bodyPost_ret (v := .agg #[.slice (some ⟨p'.bR, 0, none⟩) 8 p'.cR, .bool M'.z, .bool M'.c, .bool M'.hz, .bool M'.hc, .slice p'.aH M'.nH p'.cH, .int .i64 M'.pc, .int .i64 M'.st, .slice p'.aO M'.nO p'.cO]) (by simp [results, Tryz.results16, go_sem, s0, s1, s2, s3, s4, s5, s6, s7, s8]) rfl ⟨_, rfl, ?_, ?_⟩
      · iterate 9 refine Below.setCell ?_ (by simp) _
        exact HB4.out
      · rw [HANS.out]
        refine ⟨p', rfl, Mem.mono (base := w2.heap.size) ?_ (by omega)⟩
        iterate 9 refine Mem.setLow ?_ (by simp; omega) _
        exact H4.out
end Go.Proofs.YtpbceodheeepoaaGreat
