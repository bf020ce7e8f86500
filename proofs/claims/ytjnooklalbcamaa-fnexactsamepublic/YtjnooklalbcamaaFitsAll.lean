/- A machine that fits a signature: the program's word and the specification's. -/
import Derived.Test.YtjnooklalbcamaaFitsRegs
namespace Go.Proofs.Ytjnooklalbcamaa
open Go.RowKit

set_option maxRecDepth 20000 in
set_option maxHeartbeats 4000000 in
theorem l4SameHeaps_any (bH cH nH : Nat) (S : Nat → HS) (aV : Option Addr) (nV cV : Nat) (aR : Option Addr) (nR cR : Nat) (z c hz hc : Bool) (B cap nH1 : Nat) (Hp : Nat → HeapV) (blk : Nat → Nat) (pc st : Int) (aO : Option Addr) (nO cO : Nat) (w : World) (lH : nH ≤ 1048576) (l1 : nH1 ≤ 1048576) (hlen : ∀ i, i < nH1 → (Hp i).len ≤ 1048576) (h1 : Arr w bH (nH * 3) (hsF S)) (hcp : Copied w B nH1 Hp blk) :
    Calls Try.prog 60 #[.agg #[.slice (some ⟨bH, 0, none⟩) nH cH, .slice aV nV cV], .agg #[.slice aR nR cR, .bool z, .bool c, .bool hz, .bool hc, .slice (some ⟨B, 0, none⟩) nH1 cap, .int .i64 pc, .int .i64 st, .slice aO nO cO]] w fun e w' => e = .returned (.bool (sameB nH S nH1 Hp)) ∧ Below w.heap.size w w' := by
  have hbH := h1.lt
  have hb := hcp.1.lt
  have H1 : Hid (Arr w bH (nH * 3) (hsF S)) := h1
  have HA : Hid (Copied w B nH1 Hp blk) := hcp
  have HL : Hid (∀ i, i < nH1 → (Hp i).len ≤ 1048576) := hlen
  clear h1 hcp hlen
  by_cases hn : nH = nH1
  · subst hn
    go_enter Try.func60, Try.ntmps60
    go_wp2
    go_loopw [5] (fun i wr => ∃ k : Nat, k ≤ nH ∧ i = .int .i64 k ∧ Below w.heap.size w wr ∧ w.heap.size + 1 < wr.heap.size ∧ wr.cell? ⟨w.heap.size, 0, none⟩ = some (.slice (some ⟨bH, 0, none⟩) nH cH) ∧ wr.cell? ⟨w.heap.size + 1, 5, none⟩ = some (.slice (some ⟨B, 0, none⟩) nH cap) ∧ ∀ i, i < k → sameAt S Hp i = true) (fun i _ => nH - (intOf i).toNat)
    case atStart => exact ⟨0, Nat.zero_le _, rfl, ((Below.refl _ _).alloc (Nat.le_refl _) _).alloc (by simp) _, by simp, by simp [go_sem], by simp [go_sem], fun i hi => by omega⟩
    case round =>
      obtain ⟨k, hk, rfl, hbr, hzr, x0, x5, hall⟩ := hrel
      have HK : Hid (∀ i, i < k → sameAt S Hp i = true) := hall
      clear hall
      by_cases hlt : k < nH
      · have s0 := (hbr.cell (p := ⟨bH, k * 3, none⟩) hbH).trans (H1.out.cell (i := k * 3 + 0) (by omega) |>.trans (congrArg some (hsF_at S k 0 (by omega))))
        have s2 := (hbr.cell (p := ⟨bH, k * 3 + 2, none⟩) hbH).trans (H1.out.cell (i := k * 3 + 2) (by omega) |>.trans (congrArg some (hsF_at S k 2 (by omega))))
        have g1 := (hbr.cell (p := ⟨B, k * 3 + 1, none⟩) hb).trans ((HA.out.1.cell (i := k * 3 + 1) (by omega)).trans (congrArg some (heapF_1 _ k)))
        have g2 := (hbr.cell (p := ⟨B, k * 3 + 2, none⟩) hb).trans ((HA.out.1.cell (i := k * 3 + 2) (by omega)).trans (congrArg some (heapF_2 _ k)))
        simp only [hsC, HeapV.moved] at s0 s2 g1 g2
        have HBR : Hid (Below w.heap.size w wr) := hbr
        have hl := HL.out k hlt
        clear hbr
        go_upto_region 6 with fail
        by_cases hs : (S k).size = ((Hp k).len : Int)
        · go_quiet (fail)
          cases hw : (S k).w <;> cases hp : (Hp k).wr <;> (try rw [hw]) <;> (try rw [hp]) <;> go_wp2
          all_goals first
            | (go_ret; exact ⟨ret_bool (same_no hlt (by simp [sameAt, hs, hw, hp])).symm, below_drewN HBR.out _⟩)
            | (go_roundw
               case rel => exact ⟨k + 1, by omega, by go_num, below_drewN HBR.out _, by go_simp, by go_simp, by go_simp, upto_step HK.out (by simp [sameAt, hs, hw, hp])⟩
               case measure => simp [intOf]; omega)
        · go_quiet (fail)
          go_wp2
          go_ret
          exact ⟨ret_bool (same_no hlt (by simp [sameAt, hs])).symm, below_drewN HBR.out _⟩
      · obtain rfl : k = nH := by omega
        go_wp2
        go_ret
        exact ⟨ret_bool (same_yes rfl HK.out).symm, hbr⟩
  · go_enter Try.func60, Try.ntmps60
    go_wp2
    go_ret
    exact ⟨ret_bool (same_len hn).symm, ((Below.refl _ _).alloc (Nat.le_refl _) _).alloc (by simp) _⟩

def headB (hz hc : Bool) (pc st : Int) (nO : Nat) : Bool := decide (st = 0 ∧ pc = 0 ∧ nO = 0 ∧ hz = false ∧ hc = false)
def fitsOK (nH : Nat) (S : Nat → HS) (nR : Nat) (V : Nat → VV) (nR1 : Nat) (R1 : Nat → Int) (z1 c1 hz1 hc1 : Bool) (nH1 : Nat) (Hp1 : Nat → HeapV) (pc1 st1 : Int) (nO1 : Nat) (K1 : Nat → Int) : Bool :=
  sigOK nH S nR V && machOK nR1 z1 c1 hz1 hc1 nH1 Hp1 pc1 st1 nO1 K1 && headB hz1 hc1 pc1 st1 nO1 && sameB nH S nH1 Hp1 && holdsTo V R1 Hp1 nR
theorem sig_good {nH nR : Nat} {S : Nat → HS} {V : Nat → VV} (h : sigOK nH S nR V = true) : nR = 8 ∧ Hid (∀ i, i < 8 → goodB (V i) nH = true) := by
  simp only [sigOK, goodAll, Bool.and_eq_true, decide_eq_true_eq, List.all_eq_true, List.mem_range] at h
  obtain ⟨_, h8, h9⟩ := h
  subst h8
  exact ⟨rfl, h9⟩
theorem same_eq {n nH1 : Nat} {S : Nat → HS} {Hp : Nat → HeapV} (h : sameB n S nH1 Hp = true) : n = nH1 := by
  simp only [sameB, Bool.and_eq_true, decide_eq_true_eq] at h
  exact h.1

set_option maxRecDepth 20000 in
set_option maxHeartbeats 8000000 in
theorem implFits_any (bH cH nH : Nat) (S : Nat → HS) (bR cR nR : Nat) (V : Nat → VV) (bR1 nR1 : Nat) (R1 : Nat → Int) (z1 c1 hz1 hc1 : Bool) (bH1 nH1 : Nat) (Hp1 : Nat → HeapV) (blk1 : Nat → Nat) (pc1 st1 : Int) (bO1 nO1 : Nat) (K1 V1 : Nat → Int) (w : World) (lH : nH ≤ 1048576) (lR : nR ≤ 1048576) (hs : Small nR1 nH1 Hp1 nO1) (hr : InRange R1 nH1 Hp1) (h1 : SigCp w bH nH S bR nR V) (h2 : MachCp w bR1 nR1 R1 bH1 nH1 Hp1 blk1 bO1 nO1 K1 V1) :
    Calls Try.prog 23 #[.agg #[.slice (some ⟨bH, 0, none⟩) nH cH, .slice (some ⟨bR, 0, none⟩) nR cR], .agg #[.slice (some ⟨bR1, 0, none⟩) nR1 nR1, .bool z1, .bool c1, .bool hz1, .bool hc1, .slice (some ⟨bH1, 0, none⟩) nH1 nH1, .int .i64 pc1, .int .i64 st1, .slice (some ⟨bO1, 0, none⟩) nO1 nO1]] w fun e w' => e = .returned (.bool (fitsOK nH S nR V nR1 R1 z1 c1 hz1 hc1 nH1 Hp1 pc1 st1 nO1 K1)) ∧ Below w.heap.size w w' := by
  have HS : Hid (Small nR1 nH1 Hp1 nO1) := hs
  have HR : Hid (InRange R1 nH1 Hp1) := hr
  have C0 : Hid (SigCp w bH nH S bR nR V) := h1
  have M0 : Hid (MachCp w bR1 nR1 R1 bH1 nH1 Hp1 blk1 bO1 nO1 K1 V1) := h2
  clear hs hr h1 h2
  have HU : Hid (fitsOK nH S nR V nR1 R1 z1 c1 hz1 hc1 nH1 Hp1 pc1 st1 nO1 K1 = (sigOK nH S nR V && machOK nR1 z1 c1 hz1 hc1 nH1 Hp1 pc1 st1 nO1 K1 && headB hz1 hc1 pc1 st1 nO1 && sameB nH S nH1 Hp1 && holdsTo V R1 Hp1 nR)) := rfl
  go_enter Try.func23, Try.ntmps23
  go_wp2_with fail
  obtain ⟨u0, hv, hb, Pu0, Qu0⟩ : ∃ v, (w.alloc (.cells #[.slice (some ⟨bH, 0, none⟩) nH cH, .slice (some ⟨bR, 0, none⟩) nR cR] 48)).alloc (.cells #[.slice (some ⟨bR1, 0, none⟩) nR1 nR1, .bool z1, .bool c1, .bool hz1, .bool hc1, .slice (some ⟨bH1, 0, none⟩) nH1 nH1, .int .i64 pc1, .int .i64 st1, .slice (some ⟨bO1, 0, none⟩) nO1 nO1] 35) = v ∧ Below w.heap.size w v ∧ Hid (Cl v w.heap.size [.slice (some ⟨bH, 0, none⟩) nH cH, .slice (some ⟨bR, 0, none⟩) nR cR]) ∧ Hid (Cl v (w.heap.size + 1) [.slice (some ⟨bR1, 0, none⟩) nR1 nR1, .bool z1, .bool c1, .bool hz1, .bool hc1, .slice (some ⟨bH1, 0, none⟩) nH1 nH1, .int .i64 pc1, .int .i64 st1, .slice (some ⟨bO1, 0, none⟩) nO1 nO1]) := by
    refine ⟨_, rfl, ((Below.refl _ _).alloc (Nat.le_refl _) _).alloc (by simp) _, (Cl.new).below ((Below.refl _ _).alloc (Nat.le_refl _) _), ?_⟩
    have h := Cl.new (w := w.alloc (.cells #[.slice (some ⟨bH, 0, none⟩) nH cH, .slice (some ⟨bR, 0, none⟩) nR cR] 48)) (vs := #[.slice (some ⟨bR1, 0, none⟩) nR1 nR1, .bool z1, .bool c1, .bool hz1, .bool hc1, .slice (some ⟨bH1, 0, none⟩) nH1 nH1, .int .i64 pc1, .int .i64 st1, .slice (some ⟨bO1, 0, none⟩) nO1 nO1]) (t := 35)
    simp only [World.size_alloc] at h
    exact h
  rw [hv]
  have HBu0 : Hid (Below w.heap.size w u0) := hb
  have Cu0 : Hid (SigCp u0 bH nH S bR nR V) := C0.out.below hb
  have Mu0 : Hid (MachCp u0 bR1 nR1 R1 bH1 nH1 Hp1 blk1 bO1 nO1 K1 V1) := M0.out.below hb (Nat.le_refl _)
  clear hv hb C0 M0
  refine (implSig_any _ _ _ S _ _ _ V _ lH lR Cu0.out).mono ?_
  rintro e u1 ⟨rfl, hb⟩
  have HBu1 : Hid (Below w.heap.size w u1) := HBu0.out.trans (hb.mono HBu0.out.size)
  have Pu1 : Hid (Cl u1 w.heap.size [.slice (some ⟨bH, 0, none⟩) nH cH, .slice (some ⟨bR, 0, none⟩) nR cR]) := Pu0.out.below hb
  have Qu1 : Hid (Cl u1 (w.heap.size + 1) [.slice (some ⟨bR1, 0, none⟩) nR1 nR1, .bool z1, .bool c1, .bool hz1, .bool hc1, .slice (some ⟨bH1, 0, none⟩) nH1 nH1, .int .i64 pc1, .int .i64 st1, .slice (some ⟨bO1, 0, none⟩) nO1 nO1]) := Qu0.out.below hb
  have Cu1 : Hid (SigCp u1 bH nH S bR nR V) := Cu0.out.below hb
  have Mu1 : Hid (MachCp u1 bR1 nR1 R1 bH1 nH1 Hp1 blk1 bO1 nO1 K1 V1) := Mu0.out.below hb (Nat.le_refl _)
  clear hb
  cases hg : sigOK nH S nR V with
  | false =>
    have HG : Hid (sigOK nH S nR V = false) := hg
    clear hg
    have zP : w.heap.size < u1.heap.size := Pu1.out.1
    have cP0 : u1.cell? ⟨w.heap.size, 0, none⟩ = some (.slice (some ⟨bH, 0, none⟩) nH cH) := Pu1.out.2 0 (by simp)
    have cP1 : u1.cell? ⟨w.heap.size, 1, none⟩ = some (.slice (some ⟨bR, 0, none⟩) nR cR) := Pu1.out.2 1 (by simp)
    have zQ : w.heap.size + 1 < u1.heap.size := Qu1.out.1
    have cQ0 : u1.cell? ⟨w.heap.size + 1, 0, none⟩ = some (.slice (some ⟨bR1, 0, none⟩) nR1 nR1) := Qu1.out.2 0 (by simp)
    have cQ1 : u1.cell? ⟨w.heap.size + 1, 1, none⟩ = some (.bool z1) := Qu1.out.2 1 (by simp)
    have cQ2 : u1.cell? ⟨w.heap.size + 1, 2, none⟩ = some (.bool c1) := Qu1.out.2 2 (by simp)
    have cQ3 : u1.cell? ⟨w.heap.size + 1, 3, none⟩ = some (.bool hz1) := Qu1.out.2 3 (by simp)
    have cQ4 : u1.cell? ⟨w.heap.size + 1, 4, none⟩ = some (.bool hc1) := Qu1.out.2 4 (by simp)
    have cQ5 : u1.cell? ⟨w.heap.size + 1, 5, none⟩ = some (.slice (some ⟨bH1, 0, none⟩) nH1 nH1) := Qu1.out.2 5 (by simp)
    have cQ6 : u1.cell? ⟨w.heap.size + 1, 6, none⟩ = some (.int .i64 pc1) := Qu1.out.2 6 (by simp)
    have cQ7 : u1.cell? ⟨w.heap.size + 1, 7, none⟩ = some (.int .i64 st1) := Qu1.out.2 7 (by simp)
    have cQ8 : u1.cell? ⟨w.heap.size + 1, 8, none⟩ = some (.slice (some ⟨bO1, 0, none⟩) nO1 nO1) := Qu1.out.2 8 (by simp)
    go_wp2
    go_ret
    exact ⟨ret_bool (by rw [HU.out, HG.out]; rfl), HBu1.out⟩
  | true =>
    have HG : Hid (sigOK nH S nR V = true) := hg
    clear hg
    have zP : w.heap.size < u1.heap.size := Pu1.out.1
    have cP0 : u1.cell? ⟨w.heap.size, 0, none⟩ = some (.slice (some ⟨bH, 0, none⟩) nH cH) := Pu1.out.2 0 (by simp)
    have cP1 : u1.cell? ⟨w.heap.size, 1, none⟩ = some (.slice (some ⟨bR, 0, none⟩) nR cR) := Pu1.out.2 1 (by simp)
    have zQ : w.heap.size + 1 < u1.heap.size := Qu1.out.1
    have cQ0 : u1.cell? ⟨w.heap.size + 1, 0, none⟩ = some (.slice (some ⟨bR1, 0, none⟩) nR1 nR1) := Qu1.out.2 0 (by simp)
    have cQ1 : u1.cell? ⟨w.heap.size + 1, 1, none⟩ = some (.bool z1) := Qu1.out.2 1 (by simp)
    have cQ2 : u1.cell? ⟨w.heap.size + 1, 2, none⟩ = some (.bool c1) := Qu1.out.2 2 (by simp)
    have cQ3 : u1.cell? ⟨w.heap.size + 1, 3, none⟩ = some (.bool hz1) := Qu1.out.2 3 (by simp)
    have cQ4 : u1.cell? ⟨w.heap.size + 1, 4, none⟩ = some (.bool hc1) := Qu1.out.2 4 (by simp)
    have cQ5 : u1.cell? ⟨w.heap.size + 1, 5, none⟩ = some (.slice (some ⟨bH1, 0, none⟩) nH1 nH1) := Qu1.out.2 5 (by simp)
    have cQ6 : u1.cell? ⟨w.heap.size + 1, 6, none⟩ = some (.int .i64 pc1) := Qu1.out.2 6 (by simp)
    have cQ7 : u1.cell? ⟨w.heap.size + 1, 7, none⟩ = some (.int .i64 st1) := Qu1.out.2 7 (by simp)
    have cQ8 : u1.cell? ⟨w.heap.size + 1, 8, none⟩ = some (.slice (some ⟨bO1, 0, none⟩) nO1 nO1) := Qu1.out.2 8 (by simp)
    go_wp2_with fail
    refine (implMach_any _ _ R1 _ _ _ _ _ _ Hp1 blk1 _ _ _ _ K1 V1 _ HS.out (fun i hi => (HR.out.base i hi).1) (Mu1.out)).mono ?_
    rintro e u2 ⟨rfl, hb⟩
    have HBu2 : Hid (Below w.heap.size w u2) := HBu1.out.trans (hb.mono HBu1.out.size)
    have Pu2 : Hid (Cl u2 w.heap.size [.slice (some ⟨bH, 0, none⟩) nH cH, .slice (some ⟨bR, 0, none⟩) nR cR]) := Pu1.out.below hb
    have Qu2 : Hid (Cl u2 (w.heap.size + 1) [.slice (some ⟨bR1, 0, none⟩) nR1 nR1, .bool z1, .bool c1, .bool hz1, .bool hc1, .slice (some ⟨bH1, 0, none⟩) nH1 nH1, .int .i64 pc1, .int .i64 st1, .slice (some ⟨bO1, 0, none⟩) nO1 nO1]) := Qu1.out.below hb
    have Cu2 : Hid (SigCp u2 bH nH S bR nR V) := Cu1.out.below hb
    have Mu2 : Hid (MachCp u2 bR1 nR1 R1 bH1 nH1 Hp1 blk1 bO1 nO1 K1 V1) := Mu1.out.below hb (Nat.le_refl _)
    clear hb
    clear zP cP0 cP1 zQ cQ0 cQ1 cQ2 cQ3 cQ4 cQ5 cQ6 cQ7 cQ8
    cases hg : machOK nR1 z1 c1 hz1 hc1 nH1 Hp1 pc1 st1 nO1 K1 with
    | false =>
      have HM : Hid (machOK nR1 z1 c1 hz1 hc1 nH1 Hp1 pc1 st1 nO1 K1 = false) := hg
      clear hg
      have zP : w.heap.size < u2.heap.size := Pu2.out.1
      have cP0 : u2.cell? ⟨w.heap.size, 0, none⟩ = some (.slice (some ⟨bH, 0, none⟩) nH cH) := Pu2.out.2 0 (by simp)
      have cP1 : u2.cell? ⟨w.heap.size, 1, none⟩ = some (.slice (some ⟨bR, 0, none⟩) nR cR) := Pu2.out.2 1 (by simp)
      have zQ : w.heap.size + 1 < u2.heap.size := Qu2.out.1
      have cQ0 : u2.cell? ⟨w.heap.size + 1, 0, none⟩ = some (.slice (some ⟨bR1, 0, none⟩) nR1 nR1) := Qu2.out.2 0 (by simp)
      have cQ1 : u2.cell? ⟨w.heap.size + 1, 1, none⟩ = some (.bool z1) := Qu2.out.2 1 (by simp)
      have cQ2 : u2.cell? ⟨w.heap.size + 1, 2, none⟩ = some (.bool c1) := Qu2.out.2 2 (by simp)
      have cQ3 : u2.cell? ⟨w.heap.size + 1, 3, none⟩ = some (.bool hz1) := Qu2.out.2 3 (by simp)
      have cQ4 : u2.cell? ⟨w.heap.size + 1, 4, none⟩ = some (.bool hc1) := Qu2.out.2 4 (by simp)
      have cQ5 : u2.cell? ⟨w.heap.size + 1, 5, none⟩ = some (.slice (some ⟨bH1, 0, none⟩) nH1 nH1) := Qu2.out.2 5 (by simp)
      have cQ6 : u2.cell? ⟨w.heap.size + 1, 6, none⟩ = some (.int .i64 pc1) := Qu2.out.2 6 (by simp)
      have cQ7 : u2.cell? ⟨w.heap.size + 1, 7, none⟩ = some (.int .i64 st1) := Qu2.out.2 7 (by simp)
      have cQ8 : u2.cell? ⟨w.heap.size + 1, 8, none⟩ = some (.slice (some ⟨bO1, 0, none⟩) nO1 nO1) := Qu2.out.2 8 (by simp)
      go_wp2
      go_ret
      exact ⟨ret_bool (by rw [HU.out, HG.out, HM.out]; rfl), HBu2.out⟩
    | true =>
      have HM : Hid (machOK nR1 z1 c1 hz1 hc1 nH1 Hp1 pc1 st1 nO1 K1 = true) := hg
      clear hg
      cases hg : headB hz1 hc1 pc1 st1 nO1 with
      | false =>
        have HD : Hid (headB hz1 hc1 pc1 st1 nO1 = false) := hg
        simp only [headB, decide_eq_false_iff_not] at hg
        have HE : Hid (¬ (st1 = 0 ∧ pc1 = 0 ∧ nO1 = 0 ∧ hz1 = false ∧ hc1 = false)) := hg
        clear hg
        have zP : w.heap.size < u2.heap.size := Pu2.out.1
        have cP0 : u2.cell? ⟨w.heap.size, 0, none⟩ = some (.slice (some ⟨bH, 0, none⟩) nH cH) := Pu2.out.2 0 (by simp)
        have cP1 : u2.cell? ⟨w.heap.size, 1, none⟩ = some (.slice (some ⟨bR, 0, none⟩) nR cR) := Pu2.out.2 1 (by simp)
        have zQ : w.heap.size + 1 < u2.heap.size := Qu2.out.1
        have cQ0 : u2.cell? ⟨w.heap.size + 1, 0, none⟩ = some (.slice (some ⟨bR1, 0, none⟩) nR1 nR1) := Qu2.out.2 0 (by simp)
        have cQ1 : u2.cell? ⟨w.heap.size + 1, 1, none⟩ = some (.bool z1) := Qu2.out.2 1 (by simp)
        have cQ2 : u2.cell? ⟨w.heap.size + 1, 2, none⟩ = some (.bool c1) := Qu2.out.2 2 (by simp)
        have cQ3 : u2.cell? ⟨w.heap.size + 1, 3, none⟩ = some (.bool hz1) := Qu2.out.2 3 (by simp)
        have cQ4 : u2.cell? ⟨w.heap.size + 1, 4, none⟩ = some (.bool hc1) := Qu2.out.2 4 (by simp)
        have cQ5 : u2.cell? ⟨w.heap.size + 1, 5, none⟩ = some (.slice (some ⟨bH1, 0, none⟩) nH1 nH1) := Qu2.out.2 5 (by simp)
        have cQ6 : u2.cell? ⟨w.heap.size + 1, 6, none⟩ = some (.int .i64 pc1) := Qu2.out.2 6 (by simp)
        have cQ7 : u2.cell? ⟨w.heap.size + 1, 7, none⟩ = some (.int .i64 st1) := Qu2.out.2 7 (by simp)
        have cQ8 : u2.cell? ⟨w.heap.size + 1, 8, none⟩ = some (.slice (some ⟨bO1, 0, none⟩) nO1 nO1) := Qu2.out.2 8 (by simp)
        cases hz1 <;> cases hc1 <;> go_wp2_with fail
        all_goals first
          | (go_ret; exact ⟨ret_bool (by rw [HU.out, HG.out, HM.out, HD.out]; rfl), HBu2.out⟩)
          | (exfalso; apply HE.out; (try simp); (try omega))
      | true =>
        have HD : Hid (headB hz1 hc1 pc1 st1 nO1 = true) := hg
        simp only [headB, decide_eq_true_eq] at hg
        obtain ⟨rfl, rfl, rfl, rfl, rfl⟩ := hg
        obtain ⟨rfl, h8, _⟩ := mach_facts HM.out
        obtain ⟨rfl, HGV⟩ := sig_good HG.out
        have zP : w.heap.size < u2.heap.size := Pu2.out.1
        have cP0 : u2.cell? ⟨w.heap.size, 0, none⟩ = some (.slice (some ⟨bH, 0, none⟩) nH cH) := Pu2.out.2 0 (by simp)
        have cP1 : u2.cell? ⟨w.heap.size, 1, none⟩ = some (.slice (some ⟨bR, 0, none⟩) 8 cR) := Pu2.out.2 1 (by simp)
        have zQ : w.heap.size + 1 < u2.heap.size := Qu2.out.1
        have cQ0 : u2.cell? ⟨w.heap.size + 1, 0, none⟩ = some (.slice (some ⟨bR1, 0, none⟩) 8 8) := Qu2.out.2 0 (by simp)
        have cQ1 : u2.cell? ⟨w.heap.size + 1, 1, none⟩ = some (.bool z1) := Qu2.out.2 1 (by simp)
        have cQ2 : u2.cell? ⟨w.heap.size + 1, 2, none⟩ = some (.bool c1) := Qu2.out.2 2 (by simp)
        have cQ3 : u2.cell? ⟨w.heap.size + 1, 3, none⟩ = some (.bool false) := Qu2.out.2 3 (by simp)
        have cQ4 : u2.cell? ⟨w.heap.size + 1, 4, none⟩ = some (.bool false) := Qu2.out.2 4 (by simp)
        have cQ5 : u2.cell? ⟨w.heap.size + 1, 5, none⟩ = some (.slice (some ⟨bH1, 0, none⟩) nH1 nH1) := Qu2.out.2 5 (by simp)
        have cQ6 : u2.cell? ⟨w.heap.size + 1, 6, none⟩ = some (.int .i64 0) := Qu2.out.2 6 (by simp)
        have cQ7 : u2.cell? ⟨w.heap.size + 1, 7, none⟩ = some (.int .i64 0) := Qu2.out.2 7 (by simp)
        have cQ8 : u2.cell? ⟨w.heap.size + 1, 8, none⟩ = some (.slice (some ⟨bO1, 0, none⟩) 0 0) := Qu2.out.2 8 (by simp)
        go_wp2_with fail
        refine (equalHeaps_any _ _ _ S _ _ _ Hp1 blk1 _ lH HS.out.heaps HS.out.data (Cu2.out.h) (Mu2.out.heaps)).mono ?_
        rintro e u3 ⟨rfl, hb⟩
        have HBu3 : Hid (Below w.heap.size w u3) := HBu2.out.trans (hb.mono HBu2.out.size)
        have Pu3 : Hid (Cl u3 w.heap.size [.slice (some ⟨bH, 0, none⟩) nH cH, .slice (some ⟨bR, 0, none⟩) 8 cR]) := Pu2.out.below hb
        have Qu3 : Hid (Cl u3 (w.heap.size + 1) [.slice (some ⟨bR1, 0, none⟩) 8 8, .bool z1, .bool c1, .bool false, .bool false, .slice (some ⟨bH1, 0, none⟩) nH1 nH1, .int .i64 0, .int .i64 0, .slice (some ⟨bO1, 0, none⟩) 0 0]) := Qu2.out.below hb
        have Cu3 : Hid (SigCp u3 bH nH S bR 8 V) := Cu2.out.below hb
        have Mu3 : Hid (MachCp u3 bR1 8 R1 bH1 nH1 Hp1 blk1 bO1 0 K1 V1) := Mu2.out.below hb (Nat.le_refl _)
        clear hb
        clear zP cP0 cP1 zQ cQ0 cQ1 cQ2 cQ3 cQ4 cQ5 cQ6 cQ7 cQ8
        cases hg : sameB nH S nH1 Hp1 with
        | false =>
          have HA : Hid (sameB nH S nH1 Hp1 = false) := hg
          clear hg
          have zP : w.heap.size < u3.heap.size := Pu3.out.1
          have cP0 : u3.cell? ⟨w.heap.size, 0, none⟩ = some (.slice (some ⟨bH, 0, none⟩) nH cH) := Pu3.out.2 0 (by simp)
          have cP1 : u3.cell? ⟨w.heap.size, 1, none⟩ = some (.slice (some ⟨bR, 0, none⟩) 8 cR) := Pu3.out.2 1 (by simp)
          have zQ : w.heap.size + 1 < u3.heap.size := Qu3.out.1
          have cQ0 : u3.cell? ⟨w.heap.size + 1, 0, none⟩ = some (.slice (some ⟨bR1, 0, none⟩) 8 8) := Qu3.out.2 0 (by simp)
          have cQ1 : u3.cell? ⟨w.heap.size + 1, 1, none⟩ = some (.bool z1) := Qu3.out.2 1 (by simp)
          have cQ2 : u3.cell? ⟨w.heap.size + 1, 2, none⟩ = some (.bool c1) := Qu3.out.2 2 (by simp)
          have cQ3 : u3.cell? ⟨w.heap.size + 1, 3, none⟩ = some (.bool false) := Qu3.out.2 3 (by simp)
          have cQ4 : u3.cell? ⟨w.heap.size + 1, 4, none⟩ = some (.bool false) := Qu3.out.2 4 (by simp)
          have cQ5 : u3.cell? ⟨w.heap.size + 1, 5, none⟩ = some (.slice (some ⟨bH1, 0, none⟩) nH1 nH1) := Qu3.out.2 5 (by simp)
          have cQ6 : u3.cell? ⟨w.heap.size + 1, 6, none⟩ = some (.int .i64 0) := Qu3.out.2 6 (by simp)
          have cQ7 : u3.cell? ⟨w.heap.size + 1, 7, none⟩ = some (.int .i64 0) := Qu3.out.2 7 (by simp)
          have cQ8 : u3.cell? ⟨w.heap.size + 1, 8, none⟩ = some (.slice (some ⟨bO1, 0, none⟩) 0 0) := Qu3.out.2 8 (by simp)
          go_wp2
          go_ret
          exact ⟨ret_bool (by rw [HU.out, HG.out, HM.out, HD.out, HA.out]; rfl), HBu3.out⟩
        | true =>
          have HA : Hid (sameB nH S nH1 Hp1 = true) := hg
          clear hg
          obtain rfl := same_eq HA.out
          have zP : w.heap.size < u3.heap.size := Pu3.out.1
          have cP0 : u3.cell? ⟨w.heap.size, 0, none⟩ = some (.slice (some ⟨bH, 0, none⟩) nH cH) := Pu3.out.2 0 (by simp)
          have cP1 : u3.cell? ⟨w.heap.size, 1, none⟩ = some (.slice (some ⟨bR, 0, none⟩) 8 cR) := Pu3.out.2 1 (by simp)
          have zQ : w.heap.size + 1 < u3.heap.size := Qu3.out.1
          have cQ0 : u3.cell? ⟨w.heap.size + 1, 0, none⟩ = some (.slice (some ⟨bR1, 0, none⟩) 8 8) := Qu3.out.2 0 (by simp)
          have cQ1 : u3.cell? ⟨w.heap.size + 1, 1, none⟩ = some (.bool z1) := Qu3.out.2 1 (by simp)
          have cQ2 : u3.cell? ⟨w.heap.size + 1, 2, none⟩ = some (.bool c1) := Qu3.out.2 2 (by simp)
          have cQ3 : u3.cell? ⟨w.heap.size + 1, 3, none⟩ = some (.bool false) := Qu3.out.2 3 (by simp)
          have cQ4 : u3.cell? ⟨w.heap.size + 1, 4, none⟩ = some (.bool false) := Qu3.out.2 4 (by simp)
          have cQ5 : u3.cell? ⟨w.heap.size + 1, 5, none⟩ = some (.slice (some ⟨bH1, 0, none⟩) nH nH) := Qu3.out.2 5 (by simp)
          have cQ6 : u3.cell? ⟨w.heap.size + 1, 6, none⟩ = some (.int .i64 0) := Qu3.out.2 6 (by simp)
          have cQ7 : u3.cell? ⟨w.heap.size + 1, 7, none⟩ = some (.int .i64 0) := Qu3.out.2 7 (by simp)
          have cQ8 : u3.cell? ⟨w.heap.size + 1, 8, none⟩ = some (.slice (some ⟨bO1, 0, none⟩) 0 0) := Qu3.out.2 8 (by simp)
          go_wp2_with fail
          refine (fitsRegs_any _ _ V _ _ R1 _ _ _ _ _ _ _ Hp1 blk1 _ _ _ _ _ _ HGV.out HR.out.base (Cu3.out.r) (Mu3.out.regs) (Mu3.out.heaps)).mono ?_
          rintro e u4 ⟨rfl, hb⟩
          have HBu4 : Hid (Below w.heap.size w u4) := HBu3.out.trans (hb.mono HBu3.out.size)
          clear hb
          clear zP cP0 cP1 zQ cQ0 cQ1 cQ2 cQ3 cQ4 cQ5 cQ6 cQ7 cQ8
          go_wp2
          go_ret
          exact ⟨ret_bool (by rw [HU.out, HG.out, HM.out, HD.out, HA.out]; rfl), HBu4.out⟩

set_option maxRecDepth 20000 in
set_option maxHeartbeats 8000000 in
theorem specFits_any (bH cH nH : Nat) (S : Nat → HS) (bR cR nR : Nat) (V : Nat → VV) (bR1 nR1 : Nat) (R1 : Nat → Int) (z1 c1 hz1 hc1 : Bool) (bH1 nH1 : Nat) (Hp1 : Nat → HeapV) (blk1 : Nat → Nat) (pc1 st1 : Int) (bO1 nO1 : Nat) (K1 V1 : Nat → Int) (w : World) (lH : nH ≤ 1048576) (lR : nR ≤ 1048576) (hs : Small nR1 nH1 Hp1 nO1) (hr : InRange R1 nH1 Hp1) (h1 : SigCp w bH nH S bR nR V) (h2 : MachCp w bR1 nR1 R1 bH1 nH1 Hp1 blk1 bO1 nO1 K1 V1) :
    Calls Try.prog 21 #[.agg #[.slice (some ⟨bH, 0, none⟩) nH cH, .slice (some ⟨bR, 0, none⟩) nR cR], .agg #[.slice (some ⟨bR1, 0, none⟩) nR1 nR1, .bool z1, .bool c1, .bool hz1, .bool hc1, .slice (some ⟨bH1, 0, none⟩) nH1 nH1, .int .i64 pc1, .int .i64 st1, .slice (some ⟨bO1, 0, none⟩) nO1 nO1]] w fun e w' => e = .returned (.bool (fitsOK nH S nR V nR1 R1 z1 c1 hz1 hc1 nH1 Hp1 pc1 st1 nO1 K1)) ∧ Below w.heap.size w w' := by
  have HS : Hid (Small nR1 nH1 Hp1 nO1) := hs
  have HR : Hid (InRange R1 nH1 Hp1) := hr
  have C0 : Hid (SigCp w bH nH S bR nR V) := h1
  have M0 : Hid (MachCp w bR1 nR1 R1 bH1 nH1 Hp1 blk1 bO1 nO1 K1 V1) := h2
  clear hs hr h1 h2
  have HU : Hid (fitsOK nH S nR V nR1 R1 z1 c1 hz1 hc1 nH1 Hp1 pc1 st1 nO1 K1 = (sigOK nH S nR V && machOK nR1 z1 c1 hz1 hc1 nH1 Hp1 pc1 st1 nO1 K1 && headB hz1 hc1 pc1 st1 nO1 && sameB nH S nH1 Hp1 && holdsTo V R1 Hp1 nR)) := rfl
  go_enter Try.func21, Try.ntmps21
  go_wp2_with fail
  obtain ⟨u0, hv, hb, Pu0, Qu0⟩ : ∃ v, (w.alloc (.cells #[.slice (some ⟨bH, 0, none⟩) nH cH, .slice (some ⟨bR, 0, none⟩) nR cR] 48)).alloc (.cells #[.slice (some ⟨bR1, 0, none⟩) nR1 nR1, .bool z1, .bool c1, .bool hz1, .bool hc1, .slice (some ⟨bH1, 0, none⟩) nH1 nH1, .int .i64 pc1, .int .i64 st1, .slice (some ⟨bO1, 0, none⟩) nO1 nO1] 35) = v ∧ Below w.heap.size w v ∧ Hid (Cl v w.heap.size [.slice (some ⟨bH, 0, none⟩) nH cH, .slice (some ⟨bR, 0, none⟩) nR cR]) ∧ Hid (Cl v (w.heap.size + 1) [.slice (some ⟨bR1, 0, none⟩) nR1 nR1, .bool z1, .bool c1, .bool hz1, .bool hc1, .slice (some ⟨bH1, 0, none⟩) nH1 nH1, .int .i64 pc1, .int .i64 st1, .slice (some ⟨bO1, 0, none⟩) nO1 nO1]) := by
    refine ⟨_, rfl, ((Below.refl _ _).alloc (Nat.le_refl _) _).alloc (by simp) _, (Cl.new).below ((Below.refl _ _).alloc (Nat.le_refl _) _), ?_⟩
    have h := Cl.new (w := w.alloc (.cells #[.slice (some ⟨bH, 0, none⟩) nH cH, .slice (some ⟨bR, 0, none⟩) nR cR] 48)) (vs := #[.slice (some ⟨bR1, 0, none⟩) nR1 nR1, .bool z1, .bool c1, .bool hz1, .bool hc1, .slice (some ⟨bH1, 0, none⟩) nH1 nH1, .int .i64 pc1, .int .i64 st1, .slice (some ⟨bO1, 0, none⟩) nO1 nO1]) (t := 35)
    simp only [World.size_alloc] at h
    exact h
  rw [hv]
  have HBu0 : Hid (Below w.heap.size w u0) := hb
  have Cu0 : Hid (SigCp u0 bH nH S bR nR V) := C0.out.below hb
  have Mu0 : Hid (MachCp u0 bR1 nR1 R1 bH1 nH1 Hp1 blk1 bO1 nO1 K1 V1) := M0.out.below hb (Nat.le_refl _)
  clear hv hb C0 M0
  refine (specSig_any _ _ _ S _ _ _ V _ lH lR Cu0.out).mono ?_
  rintro e u1 ⟨rfl, hb⟩
  have HBu1 : Hid (Below w.heap.size w u1) := HBu0.out.trans (hb.mono HBu0.out.size)
  have Pu1 : Hid (Cl u1 w.heap.size [.slice (some ⟨bH, 0, none⟩) nH cH, .slice (some ⟨bR, 0, none⟩) nR cR]) := Pu0.out.below hb
  have Qu1 : Hid (Cl u1 (w.heap.size + 1) [.slice (some ⟨bR1, 0, none⟩) nR1 nR1, .bool z1, .bool c1, .bool hz1, .bool hc1, .slice (some ⟨bH1, 0, none⟩) nH1 nH1, .int .i64 pc1, .int .i64 st1, .slice (some ⟨bO1, 0, none⟩) nO1 nO1]) := Qu0.out.below hb
  have Cu1 : Hid (SigCp u1 bH nH S bR nR V) := Cu0.out.below hb
  have Mu1 : Hid (MachCp u1 bR1 nR1 R1 bH1 nH1 Hp1 blk1 bO1 nO1 K1 V1) := Mu0.out.below hb (Nat.le_refl _)
  clear hb
  cases hg : sigOK nH S nR V with
  | false =>
    have HG : Hid (sigOK nH S nR V = false) := hg
    clear hg
    have zP : w.heap.size < u1.heap.size := Pu1.out.1
    have cP0 : u1.cell? ⟨w.heap.size, 0, none⟩ = some (.slice (some ⟨bH, 0, none⟩) nH cH) := Pu1.out.2 0 (by simp)
    have cP1 : u1.cell? ⟨w.heap.size, 1, none⟩ = some (.slice (some ⟨bR, 0, none⟩) nR cR) := Pu1.out.2 1 (by simp)
    have zQ : w.heap.size + 1 < u1.heap.size := Qu1.out.1
    have cQ0 : u1.cell? ⟨w.heap.size + 1, 0, none⟩ = some (.slice (some ⟨bR1, 0, none⟩) nR1 nR1) := Qu1.out.2 0 (by simp)
    have cQ1 : u1.cell? ⟨w.heap.size + 1, 1, none⟩ = some (.bool z1) := Qu1.out.2 1 (by simp)
    have cQ2 : u1.cell? ⟨w.heap.size + 1, 2, none⟩ = some (.bool c1) := Qu1.out.2 2 (by simp)
    have cQ3 : u1.cell? ⟨w.heap.size + 1, 3, none⟩ = some (.bool hz1) := Qu1.out.2 3 (by simp)
    have cQ4 : u1.cell? ⟨w.heap.size + 1, 4, none⟩ = some (.bool hc1) := Qu1.out.2 4 (by simp)
    have cQ5 : u1.cell? ⟨w.heap.size + 1, 5, none⟩ = some (.slice (some ⟨bH1, 0, none⟩) nH1 nH1) := Qu1.out.2 5 (by simp)
    have cQ6 : u1.cell? ⟨w.heap.size + 1, 6, none⟩ = some (.int .i64 pc1) := Qu1.out.2 6 (by simp)
    have cQ7 : u1.cell? ⟨w.heap.size + 1, 7, none⟩ = some (.int .i64 st1) := Qu1.out.2 7 (by simp)
    have cQ8 : u1.cell? ⟨w.heap.size + 1, 8, none⟩ = some (.slice (some ⟨bO1, 0, none⟩) nO1 nO1) := Qu1.out.2 8 (by simp)
    go_wp2
    go_ret
    exact ⟨ret_bool (by rw [HU.out, HG.out]; rfl), HBu1.out⟩
  | true =>
    have HG : Hid (sigOK nH S nR V = true) := hg
    clear hg
    have zP : w.heap.size < u1.heap.size := Pu1.out.1
    have cP0 : u1.cell? ⟨w.heap.size, 0, none⟩ = some (.slice (some ⟨bH, 0, none⟩) nH cH) := Pu1.out.2 0 (by simp)
    have cP1 : u1.cell? ⟨w.heap.size, 1, none⟩ = some (.slice (some ⟨bR, 0, none⟩) nR cR) := Pu1.out.2 1 (by simp)
    have zQ : w.heap.size + 1 < u1.heap.size := Qu1.out.1
    have cQ0 : u1.cell? ⟨w.heap.size + 1, 0, none⟩ = some (.slice (some ⟨bR1, 0, none⟩) nR1 nR1) := Qu1.out.2 0 (by simp)
    have cQ1 : u1.cell? ⟨w.heap.size + 1, 1, none⟩ = some (.bool z1) := Qu1.out.2 1 (by simp)
    have cQ2 : u1.cell? ⟨w.heap.size + 1, 2, none⟩ = some (.bool c1) := Qu1.out.2 2 (by simp)
    have cQ3 : u1.cell? ⟨w.heap.size + 1, 3, none⟩ = some (.bool hz1) := Qu1.out.2 3 (by simp)
    have cQ4 : u1.cell? ⟨w.heap.size + 1, 4, none⟩ = some (.bool hc1) := Qu1.out.2 4 (by simp)
    have cQ5 : u1.cell? ⟨w.heap.size + 1, 5, none⟩ = some (.slice (some ⟨bH1, 0, none⟩) nH1 nH1) := Qu1.out.2 5 (by simp)
    have cQ6 : u1.cell? ⟨w.heap.size + 1, 6, none⟩ = some (.int .i64 pc1) := Qu1.out.2 6 (by simp)
    have cQ7 : u1.cell? ⟨w.heap.size + 1, 7, none⟩ = some (.int .i64 st1) := Qu1.out.2 7 (by simp)
    have cQ8 : u1.cell? ⟨w.heap.size + 1, 8, none⟩ = some (.slice (some ⟨bO1, 0, none⟩) nO1 nO1) := Qu1.out.2 8 (by simp)
    go_wp2_with fail
    refine (specMach_any _ _ _ _ _ _ R1 _ _ Hp1 blk1 _ _ _ _ K1 V1 _ HS.out HR.out.base (Mu1.out)).mono ?_
    rintro e u2 ⟨rfl, hb⟩
    have HBu2 : Hid (Below w.heap.size w u2) := HBu1.out.trans (hb.mono HBu1.out.size)
    have Pu2 : Hid (Cl u2 w.heap.size [.slice (some ⟨bH, 0, none⟩) nH cH, .slice (some ⟨bR, 0, none⟩) nR cR]) := Pu1.out.below hb
    have Qu2 : Hid (Cl u2 (w.heap.size + 1) [.slice (some ⟨bR1, 0, none⟩) nR1 nR1, .bool z1, .bool c1, .bool hz1, .bool hc1, .slice (some ⟨bH1, 0, none⟩) nH1 nH1, .int .i64 pc1, .int .i64 st1, .slice (some ⟨bO1, 0, none⟩) nO1 nO1]) := Qu1.out.below hb
    have Cu2 : Hid (SigCp u2 bH nH S bR nR V) := Cu1.out.below hb
    have Mu2 : Hid (MachCp u2 bR1 nR1 R1 bH1 nH1 Hp1 blk1 bO1 nO1 K1 V1) := Mu1.out.below hb (Nat.le_refl _)
    clear hb
    clear zP cP0 cP1 zQ cQ0 cQ1 cQ2 cQ3 cQ4 cQ5 cQ6 cQ7 cQ8
    cases hg : machOK nR1 z1 c1 hz1 hc1 nH1 Hp1 pc1 st1 nO1 K1 with
    | false =>
      have HM : Hid (machOK nR1 z1 c1 hz1 hc1 nH1 Hp1 pc1 st1 nO1 K1 = false) := hg
      clear hg
      have zP : w.heap.size < u2.heap.size := Pu2.out.1
      have cP0 : u2.cell? ⟨w.heap.size, 0, none⟩ = some (.slice (some ⟨bH, 0, none⟩) nH cH) := Pu2.out.2 0 (by simp)
      have cP1 : u2.cell? ⟨w.heap.size, 1, none⟩ = some (.slice (some ⟨bR, 0, none⟩) nR cR) := Pu2.out.2 1 (by simp)
      have zQ : w.heap.size + 1 < u2.heap.size := Qu2.out.1
      have cQ0 : u2.cell? ⟨w.heap.size + 1, 0, none⟩ = some (.slice (some ⟨bR1, 0, none⟩) nR1 nR1) := Qu2.out.2 0 (by simp)
      have cQ1 : u2.cell? ⟨w.heap.size + 1, 1, none⟩ = some (.bool z1) := Qu2.out.2 1 (by simp)
      have cQ2 : u2.cell? ⟨w.heap.size + 1, 2, none⟩ = some (.bool c1) := Qu2.out.2 2 (by simp)
      have cQ3 : u2.cell? ⟨w.heap.size + 1, 3, none⟩ = some (.bool hz1) := Qu2.out.2 3 (by simp)
      have cQ4 : u2.cell? ⟨w.heap.size + 1, 4, none⟩ = some (.bool hc1) := Qu2.out.2 4 (by simp)
      have cQ5 : u2.cell? ⟨w.heap.size + 1, 5, none⟩ = some (.slice (some ⟨bH1, 0, none⟩) nH1 nH1) := Qu2.out.2 5 (by simp)
      have cQ6 : u2.cell? ⟨w.heap.size + 1, 6, none⟩ = some (.int .i64 pc1) := Qu2.out.2 6 (by simp)
      have cQ7 : u2.cell? ⟨w.heap.size + 1, 7, none⟩ = some (.int .i64 st1) := Qu2.out.2 7 (by simp)
      have cQ8 : u2.cell? ⟨w.heap.size + 1, 8, none⟩ = some (.slice (some ⟨bO1, 0, none⟩) nO1 nO1) := Qu2.out.2 8 (by simp)
      go_wp2
      go_ret
      exact ⟨ret_bool (by rw [HU.out, HG.out, HM.out]; rfl), HBu2.out⟩
    | true =>
      have HM : Hid (machOK nR1 z1 c1 hz1 hc1 nH1 Hp1 pc1 st1 nO1 K1 = true) := hg
      clear hg
      cases hg : headB hz1 hc1 pc1 st1 nO1 with
      | false =>
        have HD : Hid (headB hz1 hc1 pc1 st1 nO1 = false) := hg
        simp only [headB, decide_eq_false_iff_not] at hg
        have HE : Hid (¬ (st1 = 0 ∧ pc1 = 0 ∧ nO1 = 0 ∧ hz1 = false ∧ hc1 = false)) := hg
        clear hg
        have zP : w.heap.size < u2.heap.size := Pu2.out.1
        have cP0 : u2.cell? ⟨w.heap.size, 0, none⟩ = some (.slice (some ⟨bH, 0, none⟩) nH cH) := Pu2.out.2 0 (by simp)
        have cP1 : u2.cell? ⟨w.heap.size, 1, none⟩ = some (.slice (some ⟨bR, 0, none⟩) nR cR) := Pu2.out.2 1 (by simp)
        have zQ : w.heap.size + 1 < u2.heap.size := Qu2.out.1
        have cQ0 : u2.cell? ⟨w.heap.size + 1, 0, none⟩ = some (.slice (some ⟨bR1, 0, none⟩) nR1 nR1) := Qu2.out.2 0 (by simp)
        have cQ1 : u2.cell? ⟨w.heap.size + 1, 1, none⟩ = some (.bool z1) := Qu2.out.2 1 (by simp)
        have cQ2 : u2.cell? ⟨w.heap.size + 1, 2, none⟩ = some (.bool c1) := Qu2.out.2 2 (by simp)
        have cQ3 : u2.cell? ⟨w.heap.size + 1, 3, none⟩ = some (.bool hz1) := Qu2.out.2 3 (by simp)
        have cQ4 : u2.cell? ⟨w.heap.size + 1, 4, none⟩ = some (.bool hc1) := Qu2.out.2 4 (by simp)
        have cQ5 : u2.cell? ⟨w.heap.size + 1, 5, none⟩ = some (.slice (some ⟨bH1, 0, none⟩) nH1 nH1) := Qu2.out.2 5 (by simp)
        have cQ6 : u2.cell? ⟨w.heap.size + 1, 6, none⟩ = some (.int .i64 pc1) := Qu2.out.2 6 (by simp)
        have cQ7 : u2.cell? ⟨w.heap.size + 1, 7, none⟩ = some (.int .i64 st1) := Qu2.out.2 7 (by simp)
        have cQ8 : u2.cell? ⟨w.heap.size + 1, 8, none⟩ = some (.slice (some ⟨bO1, 0, none⟩) nO1 nO1) := Qu2.out.2 8 (by simp)
        cases hz1 <;> cases hc1 <;> go_wp2_with fail
        all_goals first
          | (go_ret; exact ⟨ret_bool (by rw [HU.out, HG.out, HM.out, HD.out]; rfl), HBu2.out⟩)
          | (exfalso; apply HE.out; (try simp); (try omega))
      | true =>
        have HD : Hid (headB hz1 hc1 pc1 st1 nO1 = true) := hg
        simp only [headB, decide_eq_true_eq] at hg
        obtain ⟨rfl, rfl, rfl, rfl, rfl⟩ := hg
        obtain ⟨rfl, h8, _⟩ := mach_facts HM.out
        obtain ⟨rfl, HGV⟩ := sig_good HG.out
        have zP : w.heap.size < u2.heap.size := Pu2.out.1
        have cP0 : u2.cell? ⟨w.heap.size, 0, none⟩ = some (.slice (some ⟨bH, 0, none⟩) nH cH) := Pu2.out.2 0 (by simp)
        have cP1 : u2.cell? ⟨w.heap.size, 1, none⟩ = some (.slice (some ⟨bR, 0, none⟩) 8 cR) := Pu2.out.2 1 (by simp)
        have zQ : w.heap.size + 1 < u2.heap.size := Qu2.out.1
        have cQ0 : u2.cell? ⟨w.heap.size + 1, 0, none⟩ = some (.slice (some ⟨bR1, 0, none⟩) 8 8) := Qu2.out.2 0 (by simp)
        have cQ1 : u2.cell? ⟨w.heap.size + 1, 1, none⟩ = some (.bool z1) := Qu2.out.2 1 (by simp)
        have cQ2 : u2.cell? ⟨w.heap.size + 1, 2, none⟩ = some (.bool c1) := Qu2.out.2 2 (by simp)
        have cQ3 : u2.cell? ⟨w.heap.size + 1, 3, none⟩ = some (.bool false) := Qu2.out.2 3 (by simp)
        have cQ4 : u2.cell? ⟨w.heap.size + 1, 4, none⟩ = some (.bool false) := Qu2.out.2 4 (by simp)
        have cQ5 : u2.cell? ⟨w.heap.size + 1, 5, none⟩ = some (.slice (some ⟨bH1, 0, none⟩) nH1 nH1) := Qu2.out.2 5 (by simp)
        have cQ6 : u2.cell? ⟨w.heap.size + 1, 6, none⟩ = some (.int .i64 0) := Qu2.out.2 6 (by simp)
        have cQ7 : u2.cell? ⟨w.heap.size + 1, 7, none⟩ = some (.int .i64 0) := Qu2.out.2 7 (by simp)
        have cQ8 : u2.cell? ⟨w.heap.size + 1, 8, none⟩ = some (.slice (some ⟨bO1, 0, none⟩) 0 0) := Qu2.out.2 8 (by simp)
        go_wp2_with fail
        refine (l4SameHeaps_any _ _ _ S _ _ _ _ _ _ _ _ _ _ _ _ _ Hp1 blk1 _ _ _ _ _ _ lH HS.out.heaps HS.out.data (Cu2.out.h) (Mu2.out.heaps)).mono ?_
        rintro e u3 ⟨rfl, hb⟩
        have HBu3 : Hid (Below w.heap.size w u3) := HBu2.out.trans (hb.mono HBu2.out.size)
        have Pu3 : Hid (Cl u3 w.heap.size [.slice (some ⟨bH, 0, none⟩) nH cH, .slice (some ⟨bR, 0, none⟩) 8 cR]) := Pu2.out.below hb
        have Qu3 : Hid (Cl u3 (w.heap.size + 1) [.slice (some ⟨bR1, 0, none⟩) 8 8, .bool z1, .bool c1, .bool false, .bool false, .slice (some ⟨bH1, 0, none⟩) nH1 nH1, .int .i64 0, .int .i64 0, .slice (some ⟨bO1, 0, none⟩) 0 0]) := Qu2.out.below hb
        have Cu3 : Hid (SigCp u3 bH nH S bR 8 V) := Cu2.out.below hb
        have Mu3 : Hid (MachCp u3 bR1 8 R1 bH1 nH1 Hp1 blk1 bO1 0 K1 V1) := Mu2.out.below hb (Nat.le_refl _)
        clear hb
        clear zP cP0 cP1 zQ cQ0 cQ1 cQ2 cQ3 cQ4 cQ5 cQ6 cQ7 cQ8
        cases hg : sameB nH S nH1 Hp1 with
        | false =>
          have HA : Hid (sameB nH S nH1 Hp1 = false) := hg
          clear hg
          have zP : w.heap.size < u3.heap.size := Pu3.out.1
          have cP0 : u3.cell? ⟨w.heap.size, 0, none⟩ = some (.slice (some ⟨bH, 0, none⟩) nH cH) := Pu3.out.2 0 (by simp)
          have cP1 : u3.cell? ⟨w.heap.size, 1, none⟩ = some (.slice (some ⟨bR, 0, none⟩) 8 cR) := Pu3.out.2 1 (by simp)
          have zQ : w.heap.size + 1 < u3.heap.size := Qu3.out.1
          have cQ0 : u3.cell? ⟨w.heap.size + 1, 0, none⟩ = some (.slice (some ⟨bR1, 0, none⟩) 8 8) := Qu3.out.2 0 (by simp)
          have cQ1 : u3.cell? ⟨w.heap.size + 1, 1, none⟩ = some (.bool z1) := Qu3.out.2 1 (by simp)
          have cQ2 : u3.cell? ⟨w.heap.size + 1, 2, none⟩ = some (.bool c1) := Qu3.out.2 2 (by simp)
          have cQ3 : u3.cell? ⟨w.heap.size + 1, 3, none⟩ = some (.bool false) := Qu3.out.2 3 (by simp)
          have cQ4 : u3.cell? ⟨w.heap.size + 1, 4, none⟩ = some (.bool false) := Qu3.out.2 4 (by simp)
          have cQ5 : u3.cell? ⟨w.heap.size + 1, 5, none⟩ = some (.slice (some ⟨bH1, 0, none⟩) nH1 nH1) := Qu3.out.2 5 (by simp)
          have cQ6 : u3.cell? ⟨w.heap.size + 1, 6, none⟩ = some (.int .i64 0) := Qu3.out.2 6 (by simp)
          have cQ7 : u3.cell? ⟨w.heap.size + 1, 7, none⟩ = some (.int .i64 0) := Qu3.out.2 7 (by simp)
          have cQ8 : u3.cell? ⟨w.heap.size + 1, 8, none⟩ = some (.slice (some ⟨bO1, 0, none⟩) 0 0) := Qu3.out.2 8 (by simp)
          go_wp2
          go_ret
          exact ⟨ret_bool (by rw [HU.out, HG.out, HM.out, HD.out, HA.out]; rfl), HBu3.out⟩
        | true =>
          have HA : Hid (sameB nH S nH1 Hp1 = true) := hg
          clear hg
          obtain rfl := same_eq HA.out
          have zP : w.heap.size < u3.heap.size := Pu3.out.1
          have cP0 : u3.cell? ⟨w.heap.size, 0, none⟩ = some (.slice (some ⟨bH, 0, none⟩) nH cH) := Pu3.out.2 0 (by simp)
          have cP1 : u3.cell? ⟨w.heap.size, 1, none⟩ = some (.slice (some ⟨bR, 0, none⟩) 8 cR) := Pu3.out.2 1 (by simp)
          have zQ : w.heap.size + 1 < u3.heap.size := Qu3.out.1
          have cQ0 : u3.cell? ⟨w.heap.size + 1, 0, none⟩ = some (.slice (some ⟨bR1, 0, none⟩) 8 8) := Qu3.out.2 0 (by simp)
          have cQ1 : u3.cell? ⟨w.heap.size + 1, 1, none⟩ = some (.bool z1) := Qu3.out.2 1 (by simp)
          have cQ2 : u3.cell? ⟨w.heap.size + 1, 2, none⟩ = some (.bool c1) := Qu3.out.2 2 (by simp)
          have cQ3 : u3.cell? ⟨w.heap.size + 1, 3, none⟩ = some (.bool false) := Qu3.out.2 3 (by simp)
          have cQ4 : u3.cell? ⟨w.heap.size + 1, 4, none⟩ = some (.bool false) := Qu3.out.2 4 (by simp)
          have cQ5 : u3.cell? ⟨w.heap.size + 1, 5, none⟩ = some (.slice (some ⟨bH1, 0, none⟩) nH nH) := Qu3.out.2 5 (by simp)
          have cQ6 : u3.cell? ⟨w.heap.size + 1, 6, none⟩ = some (.int .i64 0) := Qu3.out.2 6 (by simp)
          have cQ7 : u3.cell? ⟨w.heap.size + 1, 7, none⟩ = some (.int .i64 0) := Qu3.out.2 7 (by simp)
          have cQ8 : u3.cell? ⟨w.heap.size + 1, 8, none⟩ = some (.slice (some ⟨bO1, 0, none⟩) 0 0) := Qu3.out.2 8 (by simp)
          go_wp2_with fail
          refine (l4RegsHold_any _ _ V _ _ R1 _ _ _ _ _ _ _ Hp1 blk1 _ _ _ _ _ _ HGV.out (Cu3.out.r) (Mu3.out.regs) (Mu3.out.heaps)).mono ?_
          rintro e u4 ⟨rfl, hb⟩
          have HBu4 : Hid (Below w.heap.size w u4) := HBu3.out.trans (hb.mono HBu3.out.size)
          clear hb
          clear zP cP0 cP1 zQ cQ0 cQ1 cQ2 cQ3 cQ4 cQ5 cQ6 cQ7 cQ8
          go_wp2
          go_ret
          exact ⟨ret_bool (by rw [HU.out, HG.out, HM.out, HD.out, HA.out]; rfl), HBu4.out⟩
end Go.Proofs.Ytjnooklalbcamaa
