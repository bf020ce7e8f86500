/- SamePublic, the program's and the specification's. -/
import Derived.Test.YtjnooklalbcamaaPublicWalks
import Derived.Test.YtjnooklalbcamaaAbsWalks
namespace Go.Proofs.Ytjnooklalbcamaa
open Go.RowKit
def publicOK (nH : Nat) (S : Nat → HS) (nR : Nat) (V : Nat → VV) (nR1 : Nat) (R1 : Nat → Int) (z1 c1 hz1 hc1 : Bool) (nH1 : Nat) (Hp1 : Nat → HeapV) (pc1 st1 : Int) (nO1 : Nat) (K1 : Nat → Int) (nR2 : Nat) (R2 : Nat → Int) (z2 c2 hz2 hc2 : Bool) (nH2 : Nat) (Hp2 : Nat → HeapV) (pc2 st2 : Int) (nO2 : Nat) (K2 : Nat → Int) : Bool :=
  fitsOK nH S nR V nR1 R1 z1 c1 hz1 hc1 nH1 Hp1 pc1 st1 nO1 K1 && fitsOK nH S nR V nR2 R2 z2 c2 hz2 hc2 nH2 Hp2 pc2 st2 nO2 K2 && regsEq V R1 R2 8 && hpsEq S Hp1 Hp2 nH
theorem fits_facts {nH : Nat} {S : Nat → HS} {nR : Nat} {V : Nat → VV} {nR1 : Nat} {R1 : Nat → Int} {z1 c1 hz1 hc1 : Bool} {nH1 : Nat} {Hp1 : Nat → HeapV} {pc1 st1 : Int} {nO1 : Nat} {K1 : Nat → Int} (h : fitsOK nH S nR V nR1 R1 z1 c1 hz1 hc1 nH1 Hp1 pc1 st1 nO1 K1 = true) : nR = 8 ∧ nR1 = 8 ∧ nH = nH1 ∧ nH ≤ 8 := by
  simp only [fitsOK, Bool.and_eq_true] at h
  obtain ⟨⟨⟨⟨h1, h2⟩, _⟩, h4⟩, _⟩ := h
  exact ⟨(sig_good h1).1, (mach_facts h2).1, same_eq h4, sig_le8 h1⟩

set_option maxRecDepth 20000 in
set_option maxHeartbeats 8000000 in
theorem implPublic_any (bH cH nH : Nat) (S : Nat → HS) (bR cR nR : Nat) (V : Nat → VV) (bR1 nR1 : Nat) (R1 : Nat → Int) (z1 c1 hz1 hc1 : Bool) (bH1 nH1 : Nat) (Hp1 : Nat → HeapV) (blk1 : Nat → Nat) (pc1 st1 : Int) (bO1 nO1 : Nat) (K1 V1 : Nat → Int) (bR2 nR2 : Nat) (R2 : Nat → Int) (z2 c2 hz2 hc2 : Bool) (bH2 nH2 : Nat) (Hp2 : Nat → HeapV) (blk2 : Nat → Nat) (pc2 st2 : Int) (bO2 nO2 : Nat) (K2 V2 : Nat → Int) (w : World) (lH : nH ≤ 1048576) (lR : nR ≤ 1048576) (hs1 : Small nR1 nH1 Hp1 nO1) (hs2 : Small nR2 nH2 Hp2 nO2) (hr1 : InRange R1 nH1 Hp1) (hr2 : InRange R2 nH2 Hp2) (h0 : SigCp w bH nH S bR nR V) (h1 : MachCp w bR1 nR1 R1 bH1 nH1 Hp1 blk1 bO1 nO1 K1 V1) (h2 : MachCp w bR2 nR2 R2 bH2 nH2 Hp2 blk2 bO2 nO2 K2 V2) :
    Calls Try.prog 41 #[.agg #[.slice (some ⟨bH, 0, none⟩) nH cH, .slice (some ⟨bR, 0, none⟩) nR cR], .agg #[.slice (some ⟨bR1, 0, none⟩) nR1 nR1, .bool z1, .bool c1, .bool hz1, .bool hc1, .slice (some ⟨bH1, 0, none⟩) nH1 nH1, .int .i64 pc1, .int .i64 st1, .slice (some ⟨bO1, 0, none⟩) nO1 nO1], .agg #[.slice (some ⟨bR2, 0, none⟩) nR2 nR2, .bool z2, .bool c2, .bool hz2, .bool hc2, .slice (some ⟨bH2, 0, none⟩) nH2 nH2, .int .i64 pc2, .int .i64 st2, .slice (some ⟨bO2, 0, none⟩) nO2 nO2]] w fun e w' => e = .returned (.bool (publicOK nH S nR V nR1 R1 z1 c1 hz1 hc1 nH1 Hp1 pc1 st1 nO1 K1 nR2 R2 z2 c2 hz2 hc2 nH2 Hp2 pc2 st2 nO2 K2)) ∧ Below w.heap.size w w' := by
  have HS1 : Hid (Small nR1 nH1 Hp1 nO1) := hs1
  have HS2 : Hid (Small nR2 nH2 Hp2 nO2) := hs2
  have HR1 : Hid (InRange R1 nH1 Hp1) := hr1
  have HR2 : Hid (InRange R2 nH2 Hp2) := hr2
  have C0 : Hid (SigCp w bH nH S bR nR V) := h0
  have M1 : Hid (MachCp w bR1 nR1 R1 bH1 nH1 Hp1 blk1 bO1 nO1 K1 V1) := h1
  have M2 : Hid (MachCp w bR2 nR2 R2 bH2 nH2 Hp2 blk2 bO2 nO2 K2 V2) := h2
  clear hs1 hs2 hr1 hr2 h0 h1 h2
  have HU : Hid (publicOK nH S nR V nR1 R1 z1 c1 hz1 hc1 nH1 Hp1 pc1 st1 nO1 K1 nR2 R2 z2 c2 hz2 hc2 nH2 Hp2 pc2 st2 nO2 K2 = (fitsOK nH S nR V nR1 R1 z1 c1 hz1 hc1 nH1 Hp1 pc1 st1 nO1 K1 && fitsOK nH S nR V nR2 R2 z2 c2 hz2 hc2 nH2 Hp2 pc2 st2 nO2 K2 && regsEq V R1 R2 8 && hpsEq S Hp1 Hp2 nH)) := rfl
  go_enter Try.func41, Try.ntmps41
  go_wp2_with fail
  obtain ⟨u0, hv, hb, Pu0, Qu0, Tu0⟩ : ∃ v, ((w.alloc (.cells #[.slice (some ⟨bH, 0, none⟩) nH cH, .slice (some ⟨bR, 0, none⟩) nR cR] 48)).alloc (.cells #[.slice (some ⟨bR1, 0, none⟩) nR1 nR1, .bool z1, .bool c1, .bool hz1, .bool hc1, .slice (some ⟨bH1, 0, none⟩) nH1 nH1, .int .i64 pc1, .int .i64 st1, .slice (some ⟨bO1, 0, none⟩) nO1 nO1] 35)).alloc (.cells #[.slice (some ⟨bR2, 0, none⟩) nR2 nR2, .bool z2, .bool c2, .bool hz2, .bool hc2, .slice (some ⟨bH2, 0, none⟩) nH2 nH2, .int .i64 pc2, .int .i64 st2, .slice (some ⟨bO2, 0, none⟩) nO2 nO2] 35) = v ∧ Below w.heap.size w v ∧ Hid (Cl v (w.heap.size) [.slice (some ⟨bH, 0, none⟩) nH cH, .slice (some ⟨bR, 0, none⟩) nR cR]) ∧ Hid (Cl v (w.heap.size + 1) [.slice (some ⟨bR1, 0, none⟩) nR1 nR1, .bool z1, .bool c1, .bool hz1, .bool hc1, .slice (some ⟨bH1, 0, none⟩) nH1 nH1, .int .i64 pc1, .int .i64 st1, .slice (some ⟨bO1, 0, none⟩) nO1 nO1]) ∧ Hid (Cl v (w.heap.size + 2) [.slice (some ⟨bR2, 0, none⟩) nR2 nR2, .bool z2, .bool c2, .bool hz2, .bool hc2, .slice (some ⟨bH2, 0, none⟩) nH2 nH2, .int .i64 pc2, .int .i64 st2, .slice (some ⟨bO2, 0, none⟩) nO2 nO2]) := by
    refine ⟨_, rfl, (((Below.refl _ _).alloc (Nat.le_refl _) _).alloc (by simp) _).alloc (by simp; omega) _, ((Cl.new).below ((Below.refl _ _).alloc (Nat.le_refl _) _)).below ((Below.refl _ _).alloc (Nat.le_refl _) _), ?_, ?_⟩
    · have h := (Cl.new (w := w.alloc (.cells #[.slice (some ⟨bH, 0, none⟩) nH cH, .slice (some ⟨bR, 0, none⟩) nR cR] 48)) (vs := #[.slice (some ⟨bR1, 0, none⟩) nR1 nR1, .bool z1, .bool c1, .bool hz1, .bool hc1, .slice (some ⟨bH1, 0, none⟩) nH1 nH1, .int .i64 pc1, .int .i64 st1, .slice (some ⟨bO1, 0, none⟩) nO1 nO1]) (t := 35)).below ((Below.refl _ _).alloc (Nat.le_refl _) (.cells #[.slice (some ⟨bR2, 0, none⟩) nR2 nR2, .bool z2, .bool c2, .bool hz2, .bool hc2, .slice (some ⟨bH2, 0, none⟩) nH2 nH2, .int .i64 pc2, .int .i64 st2, .slice (some ⟨bO2, 0, none⟩) nO2 nO2] 35))
      simp only [World.size_alloc] at h
      exact h
    · have h := Cl.new (w := (w.alloc (.cells #[.slice (some ⟨bH, 0, none⟩) nH cH, .slice (some ⟨bR, 0, none⟩) nR cR] 48)).alloc (.cells #[.slice (some ⟨bR1, 0, none⟩) nR1 nR1, .bool z1, .bool c1, .bool hz1, .bool hc1, .slice (some ⟨bH1, 0, none⟩) nH1 nH1, .int .i64 pc1, .int .i64 st1, .slice (some ⟨bO1, 0, none⟩) nO1 nO1] 35)) (vs := #[.slice (some ⟨bR2, 0, none⟩) nR2 nR2, .bool z2, .bool c2, .bool hz2, .bool hc2, .slice (some ⟨bH2, 0, none⟩) nH2 nH2, .int .i64 pc2, .int .i64 st2, .slice (some ⟨bO2, 0, none⟩) nO2 nO2]) (t := 35)
      simp only [World.size_alloc] at h
      exact h
  rw [hv]
  have HBu0 : Hid (Below w.heap.size w u0) := hb
  clear hv hb
  refine (implFits_any _ _ _ S _ _ _ V _ _ R1 _ _ _ _ _ _ Hp1 _ _ _ _ _ K1 V1 _ lH lR HS1.out HR1.out (C0.out.below HBu0.out) (M1.out.below HBu0.out (Nat.le_refl _))).mono ?_
  rintro e u1 ⟨rfl, hb⟩
  have HBu1 : Hid (Below w.heap.size w u1) := HBu0.out.trans (hb.mono HBu0.out.size)
  have Pu1 : Hid (Cl u1 (w.heap.size) [.slice (some ⟨bH, 0, none⟩) nH cH, .slice (some ⟨bR, 0, none⟩) nR cR]) := Pu0.out.below hb
  have Qu1 : Hid (Cl u1 (w.heap.size + 1) [.slice (some ⟨bR1, 0, none⟩) nR1 nR1, .bool z1, .bool c1, .bool hz1, .bool hc1, .slice (some ⟨bH1, 0, none⟩) nH1 nH1, .int .i64 pc1, .int .i64 st1, .slice (some ⟨bO1, 0, none⟩) nO1 nO1]) := Qu0.out.below hb
  have Tu1 : Hid (Cl u1 (w.heap.size + 2) [.slice (some ⟨bR2, 0, none⟩) nR2 nR2, .bool z2, .bool c2, .bool hz2, .bool hc2, .slice (some ⟨bH2, 0, none⟩) nH2 nH2, .int .i64 pc2, .int .i64 st2, .slice (some ⟨bO2, 0, none⟩) nO2 nO2]) := Tu0.out.below hb
  clear hb
  cases hg : fitsOK nH S nR V nR1 R1 z1 c1 hz1 hc1 nH1 Hp1 pc1 st1 nO1 K1 with
  | false =>
    have HG : Hid (fitsOK nH S nR V nR1 R1 z1 c1 hz1 hc1 nH1 Hp1 pc1 st1 nO1 K1 = false) := hg
    clear hg
    have zP : w.heap.size < u1.heap.size := Pu1.out.1
    have cP0 : u1.cell? ⟨w.heap.size, 0, none⟩ = some (.slice (some ⟨bH, 0, none⟩) nH cH) := Pu1.out.2 0 (by simp)
    have cP1 : u1.cell? ⟨w.heap.size, 1, none⟩ = some (.slice (some ⟨bR, 0, none⟩) nR cR) := Pu1.out.2 1 (by simp)
    have zQ : w.heap.size + 1 < u1.heap.size := Qu1.out.1
    have cQ0 : u1.cell? ⟨w.heap.size + 1, 0, none⟩ = some (.slice (some ⟨bR1, 0, none⟩) nR1 nR1) := Qu1.out.2 0 (by simp)
    have cQ1 : u1.cell? ⟨w.heap.size + 1, 1, none⟩ = some (.bool z1) := Qu1.out.2 1 (by simp)
    have cQ2 : u1.cell? ⟨w.heap.size + 1, 2, none⟩ = some (.bool c1) := Qu1.out.2 2 (by simp)
    have cQ3 : u1.cell? ⟨w.heap.size + 1, 3, none⟩ = some (.bool hz1) := Qu1.out.2 3 (by simp)
    have cQ4 : u1.cell? ⟨w.heap.size + 1, 4, none⟩ = some (.bool hc1) := Qu1.out.2 4 (by simp)
    have cQ5 : u1.cell? ⟨w.heap.size + 1, 5, none⟩ = some (.slice (some ⟨bH1, 0, none⟩) nH1 nH1) := Qu1.out.2 5 (by simp)
    have cQ6 : u1.cell? ⟨w.heap.size + 1, 6, none⟩ = some (.int .i64 pc1) := Qu1.out.2 6 (by simp)
    have cQ7 : u1.cell? ⟨w.heap.size + 1, 7, none⟩ = some (.int .i64 st1) := Qu1.out.2 7 (by simp)
    have cQ8 : u1.cell? ⟨w.heap.size + 1, 8, none⟩ = some (.slice (some ⟨bO1, 0, none⟩) nO1 nO1) := Qu1.out.2 8 (by simp)
    have zT : w.heap.size + 2 < u1.heap.size := Tu1.out.1
    have cT0 : u1.cell? ⟨w.heap.size + 2, 0, none⟩ = some (.slice (some ⟨bR2, 0, none⟩) nR2 nR2) := Tu1.out.2 0 (by simp)
    have cT1 : u1.cell? ⟨w.heap.size + 2, 1, none⟩ = some (.bool z2) := Tu1.out.2 1 (by simp)
    have cT2 : u1.cell? ⟨w.heap.size + 2, 2, none⟩ = some (.bool c2) := Tu1.out.2 2 (by simp)
    have cT3 : u1.cell? ⟨w.heap.size + 2, 3, none⟩ = some (.bool hz2) := Tu1.out.2 3 (by simp)
    have cT4 : u1.cell? ⟨w.heap.size + 2, 4, none⟩ = some (.bool hc2) := Tu1.out.2 4 (by simp)
    have cT5 : u1.cell? ⟨w.heap.size + 2, 5, none⟩ = some (.slice (some ⟨bH2, 0, none⟩) nH2 nH2) := Tu1.out.2 5 (by simp)
    have cT6 : u1.cell? ⟨w.heap.size + 2, 6, none⟩ = some (.int .i64 pc2) := Tu1.out.2 6 (by simp)
    have cT7 : u1.cell? ⟨w.heap.size + 2, 7, none⟩ = some (.int .i64 st2) := Tu1.out.2 7 (by simp)
    have cT8 : u1.cell? ⟨w.heap.size + 2, 8, none⟩ = some (.slice (some ⟨bO2, 0, none⟩) nO2 nO2) := Tu1.out.2 8 (by simp)
    go_wp2
    go_ret
    exact ⟨ret_bool (by rw [HU.out, HG.out]; rfl), HBu1.out⟩
  | true =>
    have HG : Hid (fitsOK nH S nR V nR1 R1 z1 c1 hz1 hc1 nH1 Hp1 pc1 st1 nO1 K1 = true) := hg
    clear hg
    have zP : w.heap.size < u1.heap.size := Pu1.out.1
    have cP0 : u1.cell? ⟨w.heap.size, 0, none⟩ = some (.slice (some ⟨bH, 0, none⟩) nH cH) := Pu1.out.2 0 (by simp)
    have cP1 : u1.cell? ⟨w.heap.size, 1, none⟩ = some (.slice (some ⟨bR, 0, none⟩) nR cR) := Pu1.out.2 1 (by simp)
    have zQ : w.heap.size + 1 < u1.heap.size := Qu1.out.1
    have cQ0 : u1.cell? ⟨w.heap.size + 1, 0, none⟩ = some (.slice (some ⟨bR1, 0, none⟩) nR1 nR1) := Qu1.out.2 0 (by simp)
    have cQ1 : u1.cell? ⟨w.heap.size + 1, 1, none⟩ = some (.bool z1) := Qu1.out.2 1 (by simp)
    have cQ2 : u1.cell? ⟨w.heap.size + 1, 2, none⟩ = some (.bool c1) := Qu1.out.2 2 (by simp)
    have cQ3 : u1.cell? ⟨w.heap.size + 1, 3, none⟩ = some (.bool hz1) := Qu1.out.2 3 (by simp)
    have cQ4 : u1.cell? ⟨w.heap.size + 1, 4, none⟩ = some (.bool hc1) := Qu1.out.2 4 (by simp)
    have cQ5 : u1.cell? ⟨w.heap.size + 1, 5, none⟩ = some (.slice (some ⟨bH1, 0, none⟩) nH1 nH1) := Qu1.out.2 5 (by simp)
    have cQ6 : u1.cell? ⟨w.heap.size + 1, 6, none⟩ = some (.int .i64 pc1) := Qu1.out.2 6 (by simp)
    have cQ7 : u1.cell? ⟨w.heap.size + 1, 7, none⟩ = some (.int .i64 st1) := Qu1.out.2 7 (by simp)
    have cQ8 : u1.cell? ⟨w.heap.size + 1, 8, none⟩ = some (.slice (some ⟨bO1, 0, none⟩) nO1 nO1) := Qu1.out.2 8 (by simp)
    have zT : w.heap.size + 2 < u1.heap.size := Tu1.out.1
    have cT0 : u1.cell? ⟨w.heap.size + 2, 0, none⟩ = some (.slice (some ⟨bR2, 0, none⟩) nR2 nR2) := Tu1.out.2 0 (by simp)
    have cT1 : u1.cell? ⟨w.heap.size + 2, 1, none⟩ = some (.bool z2) := Tu1.out.2 1 (by simp)
    have cT2 : u1.cell? ⟨w.heap.size + 2, 2, none⟩ = some (.bool c2) := Tu1.out.2 2 (by simp)
    have cT3 : u1.cell? ⟨w.heap.size + 2, 3, none⟩ = some (.bool hz2) := Tu1.out.2 3 (by simp)
    have cT4 : u1.cell? ⟨w.heap.size + 2, 4, none⟩ = some (.bool hc2) := Tu1.out.2 4 (by simp)
    have cT5 : u1.cell? ⟨w.heap.size + 2, 5, none⟩ = some (.slice (some ⟨bH2, 0, none⟩) nH2 nH2) := Tu1.out.2 5 (by simp)
    have cT6 : u1.cell? ⟨w.heap.size + 2, 6, none⟩ = some (.int .i64 pc2) := Tu1.out.2 6 (by simp)
    have cT7 : u1.cell? ⟨w.heap.size + 2, 7, none⟩ = some (.int .i64 st2) := Tu1.out.2 7 (by simp)
    have cT8 : u1.cell? ⟨w.heap.size + 2, 8, none⟩ = some (.slice (some ⟨bO2, 0, none⟩) nO2 nO2) := Tu1.out.2 8 (by simp)
    go_wp2_with fail
    refine (implFits_any _ _ _ S _ _ _ V _ _ R2 _ _ _ _ _ _ Hp2 _ _ _ _ _ K2 V2 _ lH lR HS2.out HR2.out (C0.out.below HBu1.out) (M2.out.below HBu1.out (Nat.le_refl _))).mono ?_
    rintro e u2 ⟨rfl, hb⟩
    have HBu2 : Hid (Below w.heap.size w u2) := HBu1.out.trans (hb.mono HBu1.out.size)
    have Pu2 : Hid (Cl u2 (w.heap.size) [.slice (some ⟨bH, 0, none⟩) nH cH, .slice (some ⟨bR, 0, none⟩) nR cR]) := Pu1.out.below hb
    have Qu2 : Hid (Cl u2 (w.heap.size + 1) [.slice (some ⟨bR1, 0, none⟩) nR1 nR1, .bool z1, .bool c1, .bool hz1, .bool hc1, .slice (some ⟨bH1, 0, none⟩) nH1 nH1, .int .i64 pc1, .int .i64 st1, .slice (some ⟨bO1, 0, none⟩) nO1 nO1]) := Qu1.out.below hb
    have Tu2 : Hid (Cl u2 (w.heap.size + 2) [.slice (some ⟨bR2, 0, none⟩) nR2 nR2, .bool z2, .bool c2, .bool hz2, .bool hc2, .slice (some ⟨bH2, 0, none⟩) nH2 nH2, .int .i64 pc2, .int .i64 st2, .slice (some ⟨bO2, 0, none⟩) nO2 nO2]) := Tu1.out.below hb
    clear hb
    clear zP cP0 cP1 zQ cQ0 cQ1 cQ2 cQ3 cQ4 cQ5 cQ6 cQ7 cQ8 zT cT0 cT1 cT2 cT3 cT4 cT5 cT6 cT7 cT8
    cases hg : fitsOK nH S nR V nR2 R2 z2 c2 hz2 hc2 nH2 Hp2 pc2 st2 nO2 K2 with
    | false =>
      have HG2 : Hid (fitsOK nH S nR V nR2 R2 z2 c2 hz2 hc2 nH2 Hp2 pc2 st2 nO2 K2 = false) := hg
      clear hg
      have zP : w.heap.size < u2.heap.size := Pu2.out.1
      have cP0 : u2.cell? ⟨w.heap.size, 0, none⟩ = some (.slice (some ⟨bH, 0, none⟩) nH cH) := Pu2.out.2 0 (by simp)
      have cP1 : u2.cell? ⟨w.heap.size, 1, none⟩ = some (.slice (some ⟨bR, 0, none⟩) nR cR) := Pu2.out.2 1 (by simp)
      have zQ : w.heap.size + 1 < u2.heap.size := Qu2.out.1
      have cQ0 : u2.cell? ⟨w.heap.size + 1, 0, none⟩ = some (.slice (some ⟨bR1, 0, none⟩) nR1 nR1) := Qu2.out.2 0 (by simp)
      have cQ1 : u2.cell? ⟨w.heap.size + 1, 1, none⟩ = some (.bool z1) := Qu2.out.2 1 (by simp)
      have cQ2 : u2.cell? ⟨w.heap.size + 1, 2, none⟩ = some (.bool c1) := Qu2.out.2 2 (by simp)
      have cQ3 : u2.cell? ⟨w.heap.size + 1, 3, none⟩ = some (.bool hz1) := Qu2.out.2 3 (by simp)
      have cQ4 : u2.cell? ⟨w.heap.size + 1, 4, none⟩ = some (.bool hc1) := Qu2.out.2 4 (by simp)
      have cQ5 : u2.cell? ⟨w.heap.size + 1, 5, none⟩ = some (.slice (some ⟨bH1, 0, none⟩) nH1 nH1) := Qu2.out.2 5 (by simp)
      have cQ6 : u2.cell? ⟨w.heap.size + 1, 6, none⟩ = some (.int .i64 pc1) := Qu2.out.2 6 (by simp)
      have cQ7 : u2.cell? ⟨w.heap.size + 1, 7, none⟩ = some (.int .i64 st1) := Qu2.out.2 7 (by simp)
      have cQ8 : u2.cell? ⟨w.heap.size + 1, 8, none⟩ = some (.slice (some ⟨bO1, 0, none⟩) nO1 nO1) := Qu2.out.2 8 (by simp)
      have zT : w.heap.size + 2 < u2.heap.size := Tu2.out.1
      have cT0 : u2.cell? ⟨w.heap.size + 2, 0, none⟩ = some (.slice (some ⟨bR2, 0, none⟩) nR2 nR2) := Tu2.out.2 0 (by simp)
      have cT1 : u2.cell? ⟨w.heap.size + 2, 1, none⟩ = some (.bool z2) := Tu2.out.2 1 (by simp)
      have cT2 : u2.cell? ⟨w.heap.size + 2, 2, none⟩ = some (.bool c2) := Tu2.out.2 2 (by simp)
      have cT3 : u2.cell? ⟨w.heap.size + 2, 3, none⟩ = some (.bool hz2) := Tu2.out.2 3 (by simp)
      have cT4 : u2.cell? ⟨w.heap.size + 2, 4, none⟩ = some (.bool hc2) := Tu2.out.2 4 (by simp)
      have cT5 : u2.cell? ⟨w.heap.size + 2, 5, none⟩ = some (.slice (some ⟨bH2, 0, none⟩) nH2 nH2) := Tu2.out.2 5 (by simp)
      have cT6 : u2.cell? ⟨w.heap.size + 2, 6, none⟩ = some (.int .i64 pc2) := Tu2.out.2 6 (by simp)
      have cT7 : u2.cell? ⟨w.heap.size + 2, 7, none⟩ = some (.int .i64 st2) := Tu2.out.2 7 (by simp)
      have cT8 : u2.cell? ⟨w.heap.size + 2, 8, none⟩ = some (.slice (some ⟨bO2, 0, none⟩) nO2 nO2) := Tu2.out.2 8 (by simp)
      go_wp2
      go_ret
      exact ⟨ret_bool (by rw [HU.out, HG.out, HG2.out]; rfl), HBu2.out⟩
    | true =>
      have HG2 : Hid (fitsOK nH S nR V nR2 R2 z2 c2 hz2 hc2 nH2 Hp2 pc2 st2 nO2 K2 = true) := hg
      clear hg
      obtain ⟨rfl, rfl, rfl, h8⟩ := fits_facts HG.out
      obtain ⟨_, rfl, rfl, _⟩ := fits_facts HG2.out
      have zP : w.heap.size < u2.heap.size := Pu2.out.1
      have cP0 : u2.cell? ⟨w.heap.size, 0, none⟩ = some (.slice (some ⟨bH, 0, none⟩) nH cH) := Pu2.out.2 0 (by simp)
      have cP1 : u2.cell? ⟨w.heap.size, 1, none⟩ = some (.slice (some ⟨bR, 0, none⟩) 8 cR) := Pu2.out.2 1 (by simp)
      have zQ : w.heap.size + 1 < u2.heap.size := Qu2.out.1
      have cQ0 : u2.cell? ⟨w.heap.size + 1, 0, none⟩ = some (.slice (some ⟨bR1, 0, none⟩) 8 8) := Qu2.out.2 0 (by simp)
      have cQ1 : u2.cell? ⟨w.heap.size + 1, 1, none⟩ = some (.bool z1) := Qu2.out.2 1 (by simp)
      have cQ2 : u2.cell? ⟨w.heap.size + 1, 2, none⟩ = some (.bool c1) := Qu2.out.2 2 (by simp)
      have cQ3 : u2.cell? ⟨w.heap.size + 1, 3, none⟩ = some (.bool hz1) := Qu2.out.2 3 (by simp)
      have cQ4 : u2.cell? ⟨w.heap.size + 1, 4, none⟩ = some (.bool hc1) := Qu2.out.2 4 (by simp)
      have cQ5 : u2.cell? ⟨w.heap.size + 1, 5, none⟩ = some (.slice (some ⟨bH1, 0, none⟩) nH nH) := Qu2.out.2 5 (by simp)
      have cQ6 : u2.cell? ⟨w.heap.size + 1, 6, none⟩ = some (.int .i64 pc1) := Qu2.out.2 6 (by simp)
      have cQ7 : u2.cell? ⟨w.heap.size + 1, 7, none⟩ = some (.int .i64 st1) := Qu2.out.2 7 (by simp)
      have cQ8 : u2.cell? ⟨w.heap.size + 1, 8, none⟩ = some (.slice (some ⟨bO1, 0, none⟩) nO1 nO1) := Qu2.out.2 8 (by simp)
      have zT : w.heap.size + 2 < u2.heap.size := Tu2.out.1
      have cT0 : u2.cell? ⟨w.heap.size + 2, 0, none⟩ = some (.slice (some ⟨bR2, 0, none⟩) 8 8) := Tu2.out.2 0 (by simp)
      have cT1 : u2.cell? ⟨w.heap.size + 2, 1, none⟩ = some (.bool z2) := Tu2.out.2 1 (by simp)
      have cT2 : u2.cell? ⟨w.heap.size + 2, 2, none⟩ = some (.bool c2) := Tu2.out.2 2 (by simp)
      have cT3 : u2.cell? ⟨w.heap.size + 2, 3, none⟩ = some (.bool hz2) := Tu2.out.2 3 (by simp)
      have cT4 : u2.cell? ⟨w.heap.size + 2, 4, none⟩ = some (.bool hc2) := Tu2.out.2 4 (by simp)
      have cT5 : u2.cell? ⟨w.heap.size + 2, 5, none⟩ = some (.slice (some ⟨bH2, 0, none⟩) nH nH) := Tu2.out.2 5 (by simp)
      have cT6 : u2.cell? ⟨w.heap.size + 2, 6, none⟩ = some (.int .i64 pc2) := Tu2.out.2 6 (by simp)
      have cT7 : u2.cell? ⟨w.heap.size + 2, 7, none⟩ = some (.int .i64 st2) := Tu2.out.2 7 (by simp)
      have cT8 : u2.cell? ⟨w.heap.size + 2, 8, none⟩ = some (.slice (some ⟨bO2, 0, none⟩) nO2 nO2) := Tu2.out.2 8 (by simp)
      go_wp2_with fail
      refine (samePublicRegs_any _ _ V _ _ R1 _ _ _ _ _ _ _ _ _ _ _ _ _ _ R2 _ _ _ _ _ _ _ _ _ _ _ _ _ (C0.out.r.below HBu2.out C0.out.r.lt) (M1.out.regs.below HBu2.out M1.out.regs.lt) (M2.out.regs.below HBu2.out M2.out.regs.lt)).mono ?_
      rintro e u3 ⟨rfl, hb⟩
      have HBu3 : Hid (Below w.heap.size w u3) := HBu2.out.trans (hb.mono HBu2.out.size)
      have Pu3 : Hid (Cl u3 (w.heap.size) [.slice (some ⟨bH, 0, none⟩) nH cH, .slice (some ⟨bR, 0, none⟩) 8 cR]) := Pu2.out.below hb
      have Qu3 : Hid (Cl u3 (w.heap.size + 1) [.slice (some ⟨bR1, 0, none⟩) 8 8, .bool z1, .bool c1, .bool hz1, .bool hc1, .slice (some ⟨bH1, 0, none⟩) nH nH, .int .i64 pc1, .int .i64 st1, .slice (some ⟨bO1, 0, none⟩) nO1 nO1]) := Qu2.out.below hb
      have Tu3 : Hid (Cl u3 (w.heap.size + 2) [.slice (some ⟨bR2, 0, none⟩) 8 8, .bool z2, .bool c2, .bool hz2, .bool hc2, .slice (some ⟨bH2, 0, none⟩) nH nH, .int .i64 pc2, .int .i64 st2, .slice (some ⟨bO2, 0, none⟩) nO2 nO2]) := Tu2.out.below hb
      clear hb
      clear zP cP0 cP1 zQ cQ0 cQ1 cQ2 cQ3 cQ4 cQ5 cQ6 cQ7 cQ8 zT cT0 cT1 cT2 cT3 cT4 cT5 cT6 cT7 cT8
      cases hg : regsEq V R1 R2 8 with
      | false =>
        have HE : Hid (regsEq V R1 R2 8 = false) := hg
        clear hg
        have zP : w.heap.size < u3.heap.size := Pu3.out.1
        have cP0 : u3.cell? ⟨w.heap.size, 0, none⟩ = some (.slice (some ⟨bH, 0, none⟩) nH cH) := Pu3.out.2 0 (by simp)
        have cP1 : u3.cell? ⟨w.heap.size, 1, none⟩ = some (.slice (some ⟨bR, 0, none⟩) 8 cR) := Pu3.out.2 1 (by simp)
        have zQ : w.heap.size + 1 < u3.heap.size := Qu3.out.1
        have cQ0 : u3.cell? ⟨w.heap.size + 1, 0, none⟩ = some (.slice (some ⟨bR1, 0, none⟩) 8 8) := Qu3.out.2 0 (by simp)
        have cQ1 : u3.cell? ⟨w.heap.size + 1, 1, none⟩ = some (.bool z1) := Qu3.out.2 1 (by simp)
        have cQ2 : u3.cell? ⟨w.heap.size + 1, 2, none⟩ = some (.bool c1) := Qu3.out.2 2 (by simp)
        have cQ3 : u3.cell? ⟨w.heap.size + 1, 3, none⟩ = some (.bool hz1) := Qu3.out.2 3 (by simp)
        have cQ4 : u3.cell? ⟨w.heap.size + 1, 4, none⟩ = some (.bool hc1) := Qu3.out.2 4 (by simp)
        have cQ5 : u3.cell? ⟨w.heap.size + 1, 5, none⟩ = some (.slice (some ⟨bH1, 0, none⟩) nH nH) := Qu3.out.2 5 (by simp)
        have cQ6 : u3.cell? ⟨w.heap.size + 1, 6, none⟩ = some (.int .i64 pc1) := Qu3.out.2 6 (by simp)
        have cQ7 : u3.cell? ⟨w.heap.size + 1, 7, none⟩ = some (.int .i64 st1) := Qu3.out.2 7 (by simp)
        have cQ8 : u3.cell? ⟨w.heap.size + 1, 8, none⟩ = some (.slice (some ⟨bO1, 0, none⟩) nO1 nO1) := Qu3.out.2 8 (by simp)
        have zT : w.heap.size + 2 < u3.heap.size := Tu3.out.1
        have cT0 : u3.cell? ⟨w.heap.size + 2, 0, none⟩ = some (.slice (some ⟨bR2, 0, none⟩) 8 8) := Tu3.out.2 0 (by simp)
        have cT1 : u3.cell? ⟨w.heap.size + 2, 1, none⟩ = some (.bool z2) := Tu3.out.2 1 (by simp)
        have cT2 : u3.cell? ⟨w.heap.size + 2, 2, none⟩ = some (.bool c2) := Tu3.out.2 2 (by simp)
        have cT3 : u3.cell? ⟨w.heap.size + 2, 3, none⟩ = some (.bool hz2) := Tu3.out.2 3 (by simp)
        have cT4 : u3.cell? ⟨w.heap.size + 2, 4, none⟩ = some (.bool hc2) := Tu3.out.2 4 (by simp)
        have cT5 : u3.cell? ⟨w.heap.size + 2, 5, none⟩ = some (.slice (some ⟨bH2, 0, none⟩) nH nH) := Tu3.out.2 5 (by simp)
        have cT6 : u3.cell? ⟨w.heap.size + 2, 6, none⟩ = some (.int .i64 pc2) := Tu3.out.2 6 (by simp)
        have cT7 : u3.cell? ⟨w.heap.size + 2, 7, none⟩ = some (.int .i64 st2) := Tu3.out.2 7 (by simp)
        have cT8 : u3.cell? ⟨w.heap.size + 2, 8, none⟩ = some (.slice (some ⟨bO2, 0, none⟩) nO2 nO2) := Tu3.out.2 8 (by simp)
        go_wp2
        go_ret
        exact ⟨ret_bool (by rw [HU.out, HG.out, HG2.out, HE.out]; rfl), HBu3.out⟩
      | true =>
        have HE : Hid (regsEq V R1 R2 8 = true) := hg
        clear hg
        have zP : w.heap.size < u3.heap.size := Pu3.out.1
        have cP0 : u3.cell? ⟨w.heap.size, 0, none⟩ = some (.slice (some ⟨bH, 0, none⟩) nH cH) := Pu3.out.2 0 (by simp)
        have cP1 : u3.cell? ⟨w.heap.size, 1, none⟩ = some (.slice (some ⟨bR, 0, none⟩) 8 cR) := Pu3.out.2 1 (by simp)
        have zQ : w.heap.size + 1 < u3.heap.size := Qu3.out.1
        have cQ0 : u3.cell? ⟨w.heap.size + 1, 0, none⟩ = some (.slice (some ⟨bR1, 0, none⟩) 8 8) := Qu3.out.2 0 (by simp)
        have cQ1 : u3.cell? ⟨w.heap.size + 1, 1, none⟩ = some (.bool z1) := Qu3.out.2 1 (by simp)
        have cQ2 : u3.cell? ⟨w.heap.size + 1, 2, none⟩ = some (.bool c1) := Qu3.out.2 2 (by simp)
        have cQ3 : u3.cell? ⟨w.heap.size + 1, 3, none⟩ = some (.bool hz1) := Qu3.out.2 3 (by simp)
        have cQ4 : u3.cell? ⟨w.heap.size + 1, 4, none⟩ = some (.bool hc1) := Qu3.out.2 4 (by simp)
        have cQ5 : u3.cell? ⟨w.heap.size + 1, 5, none⟩ = some (.slice (some ⟨bH1, 0, none⟩) nH nH) := Qu3.out.2 5 (by simp)
        have cQ6 : u3.cell? ⟨w.heap.size + 1, 6, none⟩ = some (.int .i64 pc1) := Qu3.out.2 6 (by simp)
        have cQ7 : u3.cell? ⟨w.heap.size + 1, 7, none⟩ = some (.int .i64 st1) := Qu3.out.2 7 (by simp)
        have cQ8 : u3.cell? ⟨w.heap.size + 1, 8, none⟩ = some (.slice (some ⟨bO1, 0, none⟩) nO1 nO1) := Qu3.out.2 8 (by simp)
        have zT : w.heap.size + 2 < u3.heap.size := Tu3.out.1
        have cT0 : u3.cell? ⟨w.heap.size + 2, 0, none⟩ = some (.slice (some ⟨bR2, 0, none⟩) 8 8) := Tu3.out.2 0 (by simp)
        have cT1 : u3.cell? ⟨w.heap.size + 2, 1, none⟩ = some (.bool z2) := Tu3.out.2 1 (by simp)
        have cT2 : u3.cell? ⟨w.heap.size + 2, 2, none⟩ = some (.bool c2) := Tu3.out.2 2 (by simp)
        have cT3 : u3.cell? ⟨w.heap.size + 2, 3, none⟩ = some (.bool hz2) := Tu3.out.2 3 (by simp)
        have cT4 : u3.cell? ⟨w.heap.size + 2, 4, none⟩ = some (.bool hc2) := Tu3.out.2 4 (by simp)
        have cT5 : u3.cell? ⟨w.heap.size + 2, 5, none⟩ = some (.slice (some ⟨bH2, 0, none⟩) nH nH) := Tu3.out.2 5 (by simp)
        have cT6 : u3.cell? ⟨w.heap.size + 2, 6, none⟩ = some (.int .i64 pc2) := Tu3.out.2 6 (by simp)
        have cT7 : u3.cell? ⟨w.heap.size + 2, 7, none⟩ = some (.int .i64 st2) := Tu3.out.2 7 (by simp)
        have cT8 : u3.cell? ⟨w.heap.size + 2, 8, none⟩ = some (.slice (some ⟨bO2, 0, none⟩) nO2 nO2) := Tu3.out.2 8 (by simp)
        go_wp2_with fail
        refine (samePublicHeaps_any _ _ _ S _ _ _ _ _ _ _ _ Hp1 blk1 _ _ _ _ _ _ _ _ _ _ _ _ _ Hp2 blk2 _ _ _ _ _ _ h8 (C0.out.h.below HBu3.out C0.out.h.lt) (M1.out.heaps.below HBu3.out (Nat.le_refl _)) (M2.out.heaps.below HBu3.out (Nat.le_refl _))).mono ?_
        rintro e u4 ⟨rfl, hb⟩
        have HBu4 : Hid (Below w.heap.size w u4) := HBu3.out.trans (hb.mono HBu3.out.size)
        clear hb
        clear zP cP0 cP1 zQ cQ0 cQ1 cQ2 cQ3 cQ4 cQ5 cQ6 cQ7 cQ8 zT cT0 cT1 cT2 cT3 cT4 cT5 cT6 cT7 cT8
        go_wp2
        go_ret
        exact ⟨ret_bool (by rw [HU.out, HG.out, HG2.out, HE.out]; rfl), HBu4.out⟩

set_option maxRecDepth 20000 in
set_option maxHeartbeats 8000000 in
theorem specPublic_any (bH cH nH : Nat) (S : Nat → HS) (bR cR nR : Nat) (V : Nat → VV) (bR1 nR1 : Nat) (R1 : Nat → Int) (z1 c1 hz1 hc1 : Bool) (bH1 nH1 : Nat) (Hp1 : Nat → HeapV) (blk1 : Nat → Nat) (pc1 st1 : Int) (bO1 nO1 : Nat) (K1 V1 : Nat → Int) (bR2 nR2 : Nat) (R2 : Nat → Int) (z2 c2 hz2 hc2 : Bool) (bH2 nH2 : Nat) (Hp2 : Nat → HeapV) (blk2 : Nat → Nat) (pc2 st2 : Int) (bO2 nO2 : Nat) (K2 V2 : Nat → Int) (w : World) (lH : nH ≤ 1048576) (lR : nR ≤ 1048576) (hs1 : Small nR1 nH1 Hp1 nO1) (hs2 : Small nR2 nH2 Hp2 nO2) (hr1 : InRange R1 nH1 Hp1) (hr2 : InRange R2 nH2 Hp2) (h0 : SigCp w bH nH S bR nR V) (h1 : MachCp w bR1 nR1 R1 bH1 nH1 Hp1 blk1 bO1 nO1 K1 V1) (h2 : MachCp w bR2 nR2 R2 bH2 nH2 Hp2 blk2 bO2 nO2 K2 V2) :
    Calls Try.prog 40 #[.agg #[.slice (some ⟨bH, 0, none⟩) nH cH, .slice (some ⟨bR, 0, none⟩) nR cR], .agg #[.slice (some ⟨bR1, 0, none⟩) nR1 nR1, .bool z1, .bool c1, .bool hz1, .bool hc1, .slice (some ⟨bH1, 0, none⟩) nH1 nH1, .int .i64 pc1, .int .i64 st1, .slice (some ⟨bO1, 0, none⟩) nO1 nO1], .agg #[.slice (some ⟨bR2, 0, none⟩) nR2 nR2, .bool z2, .bool c2, .bool hz2, .bool hc2, .slice (some ⟨bH2, 0, none⟩) nH2 nH2, .int .i64 pc2, .int .i64 st2, .slice (some ⟨bO2, 0, none⟩) nO2 nO2]] w fun e w' => e = .returned (.bool (publicOK nH S nR V nR1 R1 z1 c1 hz1 hc1 nH1 Hp1 pc1 st1 nO1 K1 nR2 R2 z2 c2 hz2 hc2 nH2 Hp2 pc2 st2 nO2 K2)) ∧ Below w.heap.size w w' := by
  have HS1 : Hid (Small nR1 nH1 Hp1 nO1) := hs1
  have HS2 : Hid (Small nR2 nH2 Hp2 nO2) := hs2
  have HR1 : Hid (InRange R1 nH1 Hp1) := hr1
  have HR2 : Hid (InRange R2 nH2 Hp2) := hr2
  have C0 : Hid (SigCp w bH nH S bR nR V) := h0
  have M1 : Hid (MachCp w bR1 nR1 R1 bH1 nH1 Hp1 blk1 bO1 nO1 K1 V1) := h1
  have M2 : Hid (MachCp w bR2 nR2 R2 bH2 nH2 Hp2 blk2 bO2 nO2 K2 V2) := h2
  clear hs1 hs2 hr1 hr2 h0 h1 h2
  have HU : Hid (publicOK nH S nR V nR1 R1 z1 c1 hz1 hc1 nH1 Hp1 pc1 st1 nO1 K1 nR2 R2 z2 c2 hz2 hc2 nH2 Hp2 pc2 st2 nO2 K2 = (fitsOK nH S nR V nR1 R1 z1 c1 hz1 hc1 nH1 Hp1 pc1 st1 nO1 K1 && fitsOK nH S nR V nR2 R2 z2 c2 hz2 hc2 nH2 Hp2 pc2 st2 nO2 K2 && regsEq V R1 R2 8 && hpsEq S Hp1 Hp2 nH)) := rfl
  go_enter Try.func40, Try.ntmps40
  go_wp2_with fail
  obtain ⟨u0, hv, hb, Pu0, Qu0, Tu0⟩ : ∃ v, ((w.alloc (.cells #[.slice (some ⟨bH, 0, none⟩) nH cH, .slice (some ⟨bR, 0, none⟩) nR cR] 48)).alloc (.cells #[.slice (some ⟨bR1, 0, none⟩) nR1 nR1, .bool z1, .bool c1, .bool hz1, .bool hc1, .slice (some ⟨bH1, 0, none⟩) nH1 nH1, .int .i64 pc1, .int .i64 st1, .slice (some ⟨bO1, 0, none⟩) nO1 nO1] 35)).alloc (.cells #[.slice (some ⟨bR2, 0, none⟩) nR2 nR2, .bool z2, .bool c2, .bool hz2, .bool hc2, .slice (some ⟨bH2, 0, none⟩) nH2 nH2, .int .i64 pc2, .int .i64 st2, .slice (some ⟨bO2, 0, none⟩) nO2 nO2] 35) = v ∧ Below w.heap.size w v ∧ Hid (Cl v (w.heap.size) [.slice (some ⟨bH, 0, none⟩) nH cH, .slice (some ⟨bR, 0, none⟩) nR cR]) ∧ Hid (Cl v (w.heap.size + 1) [.slice (some ⟨bR1, 0, none⟩) nR1 nR1, .bool z1, .bool c1, .bool hz1, .bool hc1, .slice (some ⟨bH1, 0, none⟩) nH1 nH1, .int .i64 pc1, .int .i64 st1, .slice (some ⟨bO1, 0, none⟩) nO1 nO1]) ∧ Hid (Cl v (w.heap.size + 2) [.slice (some ⟨bR2, 0, none⟩) nR2 nR2, .bool z2, .bool c2, .bool hz2, .bool hc2, .slice (some ⟨bH2, 0, none⟩) nH2 nH2, .int .i64 pc2, .int .i64 st2, .slice (some ⟨bO2, 0, none⟩) nO2 nO2]) := by
    refine ⟨_, rfl, (((Below.refl _ _).alloc (Nat.le_refl _) _).alloc (by simp) _).alloc (by simp; omega) _, ((Cl.new).below ((Below.refl _ _).alloc (Nat.le_refl _) _)).below ((Below.refl _ _).alloc (Nat.le_refl _) _), ?_, ?_⟩
    · have h := (Cl.new (w := w.alloc (.cells #[.slice (some ⟨bH, 0, none⟩) nH cH, .slice (some ⟨bR, 0, none⟩) nR cR] 48)) (vs := #[.slice (some ⟨bR1, 0, none⟩) nR1 nR1, .bool z1, .bool c1, .bool hz1, .bool hc1, .slice (some ⟨bH1, 0, none⟩) nH1 nH1, .int .i64 pc1, .int .i64 st1, .slice (some ⟨bO1, 0, none⟩) nO1 nO1]) (t := 35)).below ((Below.refl _ _).alloc (Nat.le_refl _) (.cells #[.slice (some ⟨bR2, 0, none⟩) nR2 nR2, .bool z2, .bool c2, .bool hz2, .bool hc2, .slice (some ⟨bH2, 0, none⟩) nH2 nH2, .int .i64 pc2, .int .i64 st2, .slice (some ⟨bO2, 0, none⟩) nO2 nO2] 35))
      simp only [World.size_alloc] at h
      exact h
    · have h := Cl.new (w := (w.alloc (.cells #[.slice (some ⟨bH, 0, none⟩) nH cH, .slice (some ⟨bR, 0, none⟩) nR cR] 48)).alloc (.cells #[.slice (some ⟨bR1, 0, none⟩) nR1 nR1, .bool z1, .bool c1, .bool hz1, .bool hc1, .slice (some ⟨bH1, 0, none⟩) nH1 nH1, .int .i64 pc1, .int .i64 st1, .slice (some ⟨bO1, 0, none⟩) nO1 nO1] 35)) (vs := #[.slice (some ⟨bR2, 0, none⟩) nR2 nR2, .bool z2, .bool c2, .bool hz2, .bool hc2, .slice (some ⟨bH2, 0, none⟩) nH2 nH2, .int .i64 pc2, .int .i64 st2, .slice (some ⟨bO2, 0, none⟩) nO2 nO2]) (t := 35)
      simp only [World.size_alloc] at h
      exact h
  rw [hv]
  have HBu0 : Hid (Below w.heap.size w u0) := hb
  clear hv hb
  refine (specFits_any _ _ _ S _ _ _ V _ _ R1 _ _ _ _ _ _ Hp1 _ _ _ _ _ K1 V1 _ lH lR HS1.out HR1.out (C0.out.below HBu0.out) (M1.out.below HBu0.out (Nat.le_refl _))).mono ?_
  rintro e u1 ⟨rfl, hb⟩
  have HBu1 : Hid (Below w.heap.size w u1) := HBu0.out.trans (hb.mono HBu0.out.size)
  have Pu1 : Hid (Cl u1 (w.heap.size) [.slice (some ⟨bH, 0, none⟩) nH cH, .slice (some ⟨bR, 0, none⟩) nR cR]) := Pu0.out.below hb
  have Qu1 : Hid (Cl u1 (w.heap.size + 1) [.slice (some ⟨bR1, 0, none⟩) nR1 nR1, .bool z1, .bool c1, .bool hz1, .bool hc1, .slice (some ⟨bH1, 0, none⟩) nH1 nH1, .int .i64 pc1, .int .i64 st1, .slice (some ⟨bO1, 0, none⟩) nO1 nO1]) := Qu0.out.below hb
  have Tu1 : Hid (Cl u1 (w.heap.size + 2) [.slice (some ⟨bR2, 0, none⟩) nR2 nR2, .bool z2, .bool c2, .bool hz2, .bool hc2, .slice (some ⟨bH2, 0, none⟩) nH2 nH2, .int .i64 pc2, .int .i64 st2, .slice (some ⟨bO2, 0, none⟩) nO2 nO2]) := Tu0.out.below hb
  clear hb
  cases hg : fitsOK nH S nR V nR1 R1 z1 c1 hz1 hc1 nH1 Hp1 pc1 st1 nO1 K1 with
  | false =>
    have HG : Hid (fitsOK nH S nR V nR1 R1 z1 c1 hz1 hc1 nH1 Hp1 pc1 st1 nO1 K1 = false) := hg
    clear hg
    have zP : w.heap.size < u1.heap.size := Pu1.out.1
    have cP0 : u1.cell? ⟨w.heap.size, 0, none⟩ = some (.slice (some ⟨bH, 0, none⟩) nH cH) := Pu1.out.2 0 (by simp)
    have cP1 : u1.cell? ⟨w.heap.size, 1, none⟩ = some (.slice (some ⟨bR, 0, none⟩) nR cR) := Pu1.out.2 1 (by simp)
    have zQ : w.heap.size + 1 < u1.heap.size := Qu1.out.1
    have cQ0 : u1.cell? ⟨w.heap.size + 1, 0, none⟩ = some (.slice (some ⟨bR1, 0, none⟩) nR1 nR1) := Qu1.out.2 0 (by simp)
    have cQ1 : u1.cell? ⟨w.heap.size + 1, 1, none⟩ = some (.bool z1) := Qu1.out.2 1 (by simp)
    have cQ2 : u1.cell? ⟨w.heap.size + 1, 2, none⟩ = some (.bool c1) := Qu1.out.2 2 (by simp)
    have cQ3 : u1.cell? ⟨w.heap.size + 1, 3, none⟩ = some (.bool hz1) := Qu1.out.2 3 (by simp)
    have cQ4 : u1.cell? ⟨w.heap.size + 1, 4, none⟩ = some (.bool hc1) := Qu1.out.2 4 (by simp)
    have cQ5 : u1.cell? ⟨w.heap.size + 1, 5, none⟩ = some (.slice (some ⟨bH1, 0, none⟩) nH1 nH1) := Qu1.out.2 5 (by simp)
    have cQ6 : u1.cell? ⟨w.heap.size + 1, 6, none⟩ = some (.int .i64 pc1) := Qu1.out.2 6 (by simp)
    have cQ7 : u1.cell? ⟨w.heap.size + 1, 7, none⟩ = some (.int .i64 st1) := Qu1.out.2 7 (by simp)
    have cQ8 : u1.cell? ⟨w.heap.size + 1, 8, none⟩ = some (.slice (some ⟨bO1, 0, none⟩) nO1 nO1) := Qu1.out.2 8 (by simp)
    have zT : w.heap.size + 2 < u1.heap.size := Tu1.out.1
    have cT0 : u1.cell? ⟨w.heap.size + 2, 0, none⟩ = some (.slice (some ⟨bR2, 0, none⟩) nR2 nR2) := Tu1.out.2 0 (by simp)
    have cT1 : u1.cell? ⟨w.heap.size + 2, 1, none⟩ = some (.bool z2) := Tu1.out.2 1 (by simp)
    have cT2 : u1.cell? ⟨w.heap.size + 2, 2, none⟩ = some (.bool c2) := Tu1.out.2 2 (by simp)
    have cT3 : u1.cell? ⟨w.heap.size + 2, 3, none⟩ = some (.bool hz2) := Tu1.out.2 3 (by simp)
    have cT4 : u1.cell? ⟨w.heap.size + 2, 4, none⟩ = some (.bool hc2) := Tu1.out.2 4 (by simp)
    have cT5 : u1.cell? ⟨w.heap.size + 2, 5, none⟩ = some (.slice (some ⟨bH2, 0, none⟩) nH2 nH2) := Tu1.out.2 5 (by simp)
    have cT6 : u1.cell? ⟨w.heap.size + 2, 6, none⟩ = some (.int .i64 pc2) := Tu1.out.2 6 (by simp)
    have cT7 : u1.cell? ⟨w.heap.size + 2, 7, none⟩ = some (.int .i64 st2) := Tu1.out.2 7 (by simp)
    have cT8 : u1.cell? ⟨w.heap.size + 2, 8, none⟩ = some (.slice (some ⟨bO2, 0, none⟩) nO2 nO2) := Tu1.out.2 8 (by simp)
    go_wp2
    go_ret
    exact ⟨ret_bool (by rw [HU.out, HG.out]; rfl), HBu1.out⟩
  | true =>
    have HG : Hid (fitsOK nH S nR V nR1 R1 z1 c1 hz1 hc1 nH1 Hp1 pc1 st1 nO1 K1 = true) := hg
    clear hg
    have zP : w.heap.size < u1.heap.size := Pu1.out.1
    have cP0 : u1.cell? ⟨w.heap.size, 0, none⟩ = some (.slice (some ⟨bH, 0, none⟩) nH cH) := Pu1.out.2 0 (by simp)
    have cP1 : u1.cell? ⟨w.heap.size, 1, none⟩ = some (.slice (some ⟨bR, 0, none⟩) nR cR) := Pu1.out.2 1 (by simp)
    have zQ : w.heap.size + 1 < u1.heap.size := Qu1.out.1
    have cQ0 : u1.cell? ⟨w.heap.size + 1, 0, none⟩ = some (.slice (some ⟨bR1, 0, none⟩) nR1 nR1) := Qu1.out.2 0 (by simp)
    have cQ1 : u1.cell? ⟨w.heap.size + 1, 1, none⟩ = some (.bool z1) := Qu1.out.2 1 (by simp)
    have cQ2 : u1.cell? ⟨w.heap.size + 1, 2, none⟩ = some (.bool c1) := Qu1.out.2 2 (by simp)
    have cQ3 : u1.cell? ⟨w.heap.size + 1, 3, none⟩ = some (.bool hz1) := Qu1.out.2 3 (by simp)
    have cQ4 : u1.cell? ⟨w.heap.size + 1, 4, none⟩ = some (.bool hc1) := Qu1.out.2 4 (by simp)
    have cQ5 : u1.cell? ⟨w.heap.size + 1, 5, none⟩ = some (.slice (some ⟨bH1, 0, none⟩) nH1 nH1) := Qu1.out.2 5 (by simp)
    have cQ6 : u1.cell? ⟨w.heap.size + 1, 6, none⟩ = some (.int .i64 pc1) := Qu1.out.2 6 (by simp)
    have cQ7 : u1.cell? ⟨w.heap.size + 1, 7, none⟩ = some (.int .i64 st1) := Qu1.out.2 7 (by simp)
    have cQ8 : u1.cell? ⟨w.heap.size + 1, 8, none⟩ = some (.slice (some ⟨bO1, 0, none⟩) nO1 nO1) := Qu1.out.2 8 (by simp)
    have zT : w.heap.size + 2 < u1.heap.size := Tu1.out.1
    have cT0 : u1.cell? ⟨w.heap.size + 2, 0, none⟩ = some (.slice (some ⟨bR2, 0, none⟩) nR2 nR2) := Tu1.out.2 0 (by simp)
    have cT1 : u1.cell? ⟨w.heap.size + 2, 1, none⟩ = some (.bool z2) := Tu1.out.2 1 (by simp)
    have cT2 : u1.cell? ⟨w.heap.size + 2, 2, none⟩ = some (.bool c2) := Tu1.out.2 2 (by simp)
    have cT3 : u1.cell? ⟨w.heap.size + 2, 3, none⟩ = some (.bool hz2) := Tu1.out.2 3 (by simp)
    have cT4 : u1.cell? ⟨w.heap.size + 2, 4, none⟩ = some (.bool hc2) := Tu1.out.2 4 (by simp)
    have cT5 : u1.cell? ⟨w.heap.size + 2, 5, none⟩ = some (.slice (some ⟨bH2, 0, none⟩) nH2 nH2) := Tu1.out.2 5 (by simp)
    have cT6 : u1.cell? ⟨w.heap.size + 2, 6, none⟩ = some (.int .i64 pc2) := Tu1.out.2 6 (by simp)
    have cT7 : u1.cell? ⟨w.heap.size + 2, 7, none⟩ = some (.int .i64 st2) := Tu1.out.2 7 (by simp)
    have cT8 : u1.cell? ⟨w.heap.size + 2, 8, none⟩ = some (.slice (some ⟨bO2, 0, none⟩) nO2 nO2) := Tu1.out.2 8 (by simp)
    go_wp2_with fail
    refine (specFits_any _ _ _ S _ _ _ V _ _ R2 _ _ _ _ _ _ Hp2 _ _ _ _ _ K2 V2 _ lH lR HS2.out HR2.out (C0.out.below HBu1.out) (M2.out.below HBu1.out (Nat.le_refl _))).mono ?_
    rintro e u2 ⟨rfl, hb⟩
    have HBu2 : Hid (Below w.heap.size w u2) := HBu1.out.trans (hb.mono HBu1.out.size)
    have Pu2 : Hid (Cl u2 (w.heap.size) [.slice (some ⟨bH, 0, none⟩) nH cH, .slice (some ⟨bR, 0, none⟩) nR cR]) := Pu1.out.below hb
    have Qu2 : Hid (Cl u2 (w.heap.size + 1) [.slice (some ⟨bR1, 0, none⟩) nR1 nR1, .bool z1, .bool c1, .bool hz1, .bool hc1, .slice (some ⟨bH1, 0, none⟩) nH1 nH1, .int .i64 pc1, .int .i64 st1, .slice (some ⟨bO1, 0, none⟩) nO1 nO1]) := Qu1.out.below hb
    have Tu2 : Hid (Cl u2 (w.heap.size + 2) [.slice (some ⟨bR2, 0, none⟩) nR2 nR2, .bool z2, .bool c2, .bool hz2, .bool hc2, .slice (some ⟨bH2, 0, none⟩) nH2 nH2, .int .i64 pc2, .int .i64 st2, .slice (some ⟨bO2, 0, none⟩) nO2 nO2]) := Tu1.out.below hb
    clear hb
    clear zP cP0 cP1 zQ cQ0 cQ1 cQ2 cQ3 cQ4 cQ5 cQ6 cQ7 cQ8 zT cT0 cT1 cT2 cT3 cT4 cT5 cT6 cT7 cT8
    cases hg : fitsOK nH S nR V nR2 R2 z2 c2 hz2 hc2 nH2 Hp2 pc2 st2 nO2 K2 with
    | false =>
      have HG2 : Hid (fitsOK nH S nR V nR2 R2 z2 c2 hz2 hc2 nH2 Hp2 pc2 st2 nO2 K2 = false) := hg
      clear hg
      have zP : w.heap.size < u2.heap.size := Pu2.out.1
      have cP0 : u2.cell? ⟨w.heap.size, 0, none⟩ = some (.slice (some ⟨bH, 0, none⟩) nH cH) := Pu2.out.2 0 (by simp)
      have cP1 : u2.cell? ⟨w.heap.size, 1, none⟩ = some (.slice (some ⟨bR, 0, none⟩) nR cR) := Pu2.out.2 1 (by simp)
      have zQ : w.heap.size + 1 < u2.heap.size := Qu2.out.1
      have cQ0 : u2.cell? ⟨w.heap.size + 1, 0, none⟩ = some (.slice (some ⟨bR1, 0, none⟩) nR1 nR1) := Qu2.out.2 0 (by simp)
      have cQ1 : u2.cell? ⟨w.heap.size + 1, 1, none⟩ = some (.bool z1) := Qu2.out.2 1 (by simp)
      have cQ2 : u2.cell? ⟨w.heap.size + 1, 2, none⟩ = some (.bool c1) := Qu2.out.2 2 (by simp)
      have cQ3 : u2.cell? ⟨w.heap.size + 1, 3, none⟩ = some (.bool hz1) := Qu2.out.2 3 (by simp)
      have cQ4 : u2.cell? ⟨w.heap.size + 1, 4, none⟩ = some (.bool hc1) := Qu2.out.2 4 (by simp)
      have cQ5 : u2.cell? ⟨w.heap.size + 1, 5, none⟩ = some (.slice (some ⟨bH1, 0, none⟩) nH1 nH1) := Qu2.out.2 5 (by simp)
      have cQ6 : u2.cell? ⟨w.heap.size + 1, 6, none⟩ = some (.int .i64 pc1) := Qu2.out.2 6 (by simp)
      have cQ7 : u2.cell? ⟨w.heap.size + 1, 7, none⟩ = some (.int .i64 st1) := Qu2.out.2 7 (by simp)
      have cQ8 : u2.cell? ⟨w.heap.size + 1, 8, none⟩ = some (.slice (some ⟨bO1, 0, none⟩) nO1 nO1) := Qu2.out.2 8 (by simp)
      have zT : w.heap.size + 2 < u2.heap.size := Tu2.out.1
      have cT0 : u2.cell? ⟨w.heap.size + 2, 0, none⟩ = some (.slice (some ⟨bR2, 0, none⟩) nR2 nR2) := Tu2.out.2 0 (by simp)
      have cT1 : u2.cell? ⟨w.heap.size + 2, 1, none⟩ = some (.bool z2) := Tu2.out.2 1 (by simp)
      have cT2 : u2.cell? ⟨w.heap.size + 2, 2, none⟩ = some (.bool c2) := Tu2.out.2 2 (by simp)
      have cT3 : u2.cell? ⟨w.heap.size + 2, 3, none⟩ = some (.bool hz2) := Tu2.out.2 3 (by simp)
      have cT4 : u2.cell? ⟨w.heap.size + 2, 4, none⟩ = some (.bool hc2) := Tu2.out.2 4 (by simp)
      have cT5 : u2.cell? ⟨w.heap.size + 2, 5, none⟩ = some (.slice (some ⟨bH2, 0, none⟩) nH2 nH2) := Tu2.out.2 5 (by simp)
      have cT6 : u2.cell? ⟨w.heap.size + 2, 6, none⟩ = some (.int .i64 pc2) := Tu2.out.2 6 (by simp)
      have cT7 : u2.cell? ⟨w.heap.size + 2, 7, none⟩ = some (.int .i64 st2) := Tu2.out.2 7 (by simp)
      have cT8 : u2.cell? ⟨w.heap.size + 2, 8, none⟩ = some (.slice (some ⟨bO2, 0, none⟩) nO2 nO2) := Tu2.out.2 8 (by simp)
      go_wp2
      go_ret
      exact ⟨ret_bool (by rw [HU.out, HG.out, HG2.out]; rfl), HBu2.out⟩
    | true =>
      have HG2 : Hid (fitsOK nH S nR V nR2 R2 z2 c2 hz2 hc2 nH2 Hp2 pc2 st2 nO2 K2 = true) := hg
      clear hg
      obtain ⟨rfl, rfl, rfl, h8⟩ := fits_facts HG.out
      obtain ⟨_, rfl, rfl, _⟩ := fits_facts HG2.out
      go_wp2
      go_loopw [7] (fun i wr => ∃ k : Nat, k ≤ 8 ∧ i = .int .i64 k ∧ Hid (Below w.heap.size w wr) ∧ Hid (Cl wr (w.heap.size) [.slice (some ⟨bH, 0, none⟩) nH cH, .slice (some ⟨bR, 0, none⟩) 8 cR]) ∧ Hid (Cl wr (w.heap.size + 1) [.slice (some ⟨bR1, 0, none⟩) 8 8, .bool z1, .bool c1, .bool hz1, .bool hc1, .slice (some ⟨bH1, 0, none⟩) nH nH, .int .i64 pc1, .int .i64 st1, .slice (some ⟨bO1, 0, none⟩) nO1 nO1]) ∧ Hid (Cl wr (w.heap.size + 2) [.slice (some ⟨bR2, 0, none⟩) 8 8, .bool z2, .bool c2, .bool hz2, .bool hc2, .slice (some ⟨bH2, 0, none⟩) nH nH, .int .i64 pc2, .int .i64 st2, .slice (some ⟨bO2, 0, none⟩) nO2 nO2]) ∧ ∀ i, i < k → regAt V R1 R2 i = true) (fun i _ => 8 - (intOf i).toNat)
      case atStart => exact ⟨0, Nat.zero_le _, rfl, HBu2, Pu2, Qu2, Tu2, fun i hi => by omega⟩
      case round =>
        obtain ⟨k, hk, rfl, HBwr, Pwr, Qwr, Twr, hall⟩ := hrel
        have HK : Hid (∀ i, i < k → regAt V R1 R2 i = true) := hall
        clear hall
        by_cases hlt : k < 8
        · have g1 := (C0.out.r.below HBwr.out C0.out.r.lt).cell (i := k * 6 + 1) (by omega) |>.trans (congrArg some (vF_at V k 1 (by omega)))
          have r1 := (M1.out.regs.below HBwr.out M1.out.regs.lt).cell (i := k) (by omega)
          have r2 := (M2.out.regs.below HBwr.out M2.out.regs.lt).cell (i := k) (by omega)
          simp only [vC, numF] at g1 r1 r2
          have zP : w.heap.size < wr.heap.size := Pwr.out.1
          have cP0 : wr.cell? ⟨w.heap.size, 0, none⟩ = some (.slice (some ⟨bH, 0, none⟩) nH cH) := Pwr.out.2 0 (by simp)
          have cP1 : wr.cell? ⟨w.heap.size, 1, none⟩ = some (.slice (some ⟨bR, 0, none⟩) 8 cR) := Pwr.out.2 1 (by simp)
          have zQ : w.heap.size + 1 < wr.heap.size := Qwr.out.1
          have cQ0 : wr.cell? ⟨w.heap.size + 1, 0, none⟩ = some (.slice (some ⟨bR1, 0, none⟩) 8 8) := Qwr.out.2 0 (by simp)
          have cQ1 : wr.cell? ⟨w.heap.size + 1, 1, none⟩ = some (.bool z1) := Qwr.out.2 1 (by simp)
          have cQ2 : wr.cell? ⟨w.heap.size + 1, 2, none⟩ = some (.bool c1) := Qwr.out.2 2 (by simp)
          have cQ3 : wr.cell? ⟨w.heap.size + 1, 3, none⟩ = some (.bool hz1) := Qwr.out.2 3 (by simp)
          have cQ4 : wr.cell? ⟨w.heap.size + 1, 4, none⟩ = some (.bool hc1) := Qwr.out.2 4 (by simp)
          have cQ5 : wr.cell? ⟨w.heap.size + 1, 5, none⟩ = some (.slice (some ⟨bH1, 0, none⟩) nH nH) := Qwr.out.2 5 (by simp)
          have cQ6 : wr.cell? ⟨w.heap.size + 1, 6, none⟩ = some (.int .i64 pc1) := Qwr.out.2 6 (by simp)
          have cQ7 : wr.cell? ⟨w.heap.size + 1, 7, none⟩ = some (.int .i64 st1) := Qwr.out.2 7 (by simp)
          have cQ8 : wr.cell? ⟨w.heap.size + 1, 8, none⟩ = some (.slice (some ⟨bO1, 0, none⟩) nO1 nO1) := Qwr.out.2 8 (by simp)
          have zT : w.heap.size + 2 < wr.heap.size := Twr.out.1
          have cT0 : wr.cell? ⟨w.heap.size + 2, 0, none⟩ = some (.slice (some ⟨bR2, 0, none⟩) 8 8) := Twr.out.2 0 (by simp)
          have cT1 : wr.cell? ⟨w.heap.size + 2, 1, none⟩ = some (.bool z2) := Twr.out.2 1 (by simp)
          have cT2 : wr.cell? ⟨w.heap.size + 2, 2, none⟩ = some (.bool c2) := Twr.out.2 2 (by simp)
          have cT3 : wr.cell? ⟨w.heap.size + 2, 3, none⟩ = some (.bool hz2) := Twr.out.2 3 (by simp)
          have cT4 : wr.cell? ⟨w.heap.size + 2, 4, none⟩ = some (.bool hc2) := Twr.out.2 4 (by simp)
          have cT5 : wr.cell? ⟨w.heap.size + 2, 5, none⟩ = some (.slice (some ⟨bH2, 0, none⟩) nH nH) := Twr.out.2 5 (by simp)
          have cT6 : wr.cell? ⟨w.heap.size + 2, 6, none⟩ = some (.int .i64 pc2) := Twr.out.2 6 (by simp)
          have cT7 : wr.cell? ⟨w.heap.size + 2, 7, none⟩ = some (.int .i64 st2) := Twr.out.2 7 (by simp)
          have cT8 : wr.cell? ⟨w.heap.size + 2, 8, none⟩ = some (.slice (some ⟨bO2, 0, none⟩) nO2 nO2) := Twr.out.2 8 (by simp)
          go_upto_region 6 with fail
          cases hs : (V k).s with
          | true =>
            go_quiet (fail)
            go_wp2
            go_roundw
            case rel => exact ⟨k + 1, by omega, by go_num, (below_drewN HBwr.out _ : Below _ _ _), Pwr.out.below (below_drewN (Below.refl _ _) _), Qwr.out.below (below_drewN (Below.refl _ _) _), Twr.out.below (below_drewN (Below.refl _ _) _), upto_step HK.out (by simp [regAt, hs])⟩
            case measure => simp [intOf]; omega
          | false =>
            by_cases he : R1 k = R2 k
            · skip
              go_quiet (fail)
              go_wp2
              go_roundw
              case rel => exact ⟨k + 1, by omega, by go_num, (below_drewN HBwr.out _ : Below _ _ _), Pwr.out.below (below_drewN (Below.refl _ _) _), Qwr.out.below (below_drewN (Below.refl _ _) _), Twr.out.below (below_drewN (Below.refl _ _) _), upto_step HK.out (by simp [regAt, he])⟩
              case measure => simp [intOf]; omega
            · go_quiet (fail)
              go_wp2
              go_ret
              exact ⟨ret_bool (by rw [HU.out, HG.out, HG2.out, show regsEq V R1 R2 8 = false from all_no (p := regAt V R1 R2) hlt (by simp [regAt, hs, he])]; rfl), below_drewN HBwr.out _⟩
        · obtain rfl : k = 8 := by omega
          have HE : Hid (regsEq V R1 R2 8 = true) := all_yes (p := regAt V R1 R2) HK.out
          clear HK
          go_wp2
          generalize wr = wq at HBwr Pwr Qwr Twr ⊢
          go_loopw [8] (fun i wr => ∃ k : Nat, k ≤ nH ∧ i = .int .i64 k ∧ Hid (Below w.heap.size w wr) ∧ Hid (Cl wr (w.heap.size) [.slice (some ⟨bH, 0, none⟩) nH cH, .slice (some ⟨bR, 0, none⟩) 8 cR]) ∧ Hid (Cl wr (w.heap.size + 1) [.slice (some ⟨bR1, 0, none⟩) 8 8, .bool z1, .bool c1, .bool hz1, .bool hc1, .slice (some ⟨bH1, 0, none⟩) nH nH, .int .i64 pc1, .int .i64 st1, .slice (some ⟨bO1, 0, none⟩) nO1 nO1]) ∧ Hid (Cl wr (w.heap.size + 2) [.slice (some ⟨bR2, 0, none⟩) 8 8, .bool z2, .bool c2, .bool hz2, .bool hc2, .slice (some ⟨bH2, 0, none⟩) nH nH, .int .i64 pc2, .int .i64 st2, .slice (some ⟨bO2, 0, none⟩) nO2 nO2]) ∧ ∀ i, i < k → hpAt S Hp1 Hp2 i = true) (fun i _ => nH - (intOf i).toNat)
          case atStart => exact ⟨0, Nat.zero_le _, rfl, HBwr, Pwr, Qwr, Twr, fun i hi => by omega⟩
          case round =>
            clear HBwr Pwr Qwr Twr
            obtain ⟨k, hk, rfl, HBwr, Pwr, Qwr, Twr, hall⟩ := hrel
            have HK : Hid (∀ i, i < k → hpAt S Hp1 Hp2 i = true) := hall
            clear hall
            by_cases hlt : k < nH
            · have D1 : Hid (Copied wr bH1 nH Hp1 blk1) := M1.out.heaps.below HBwr.out (Nat.le_refl _)
              have D2 : Hid (Copied wr bH2 nH Hp2 blk2) := M2.out.heaps.below HBwr.out (Nat.le_refl _)
              have s1 := (C0.out.h.below HBwr.out C0.out.h.lt).cell (i := k * 3 + 1) (by omega) |>.trans (congrArg some (hsF_at S k 1 (by omega)))
              have g10 := (D1.out.1.cell (i := k * 3 + 0) (by omega)).trans (congrArg some (heapF_0 _ k))
              have g12 := (D1.out.1.cell (i := k * 3 + 2) (by omega)).trans (congrArg some (heapF_2 _ k))
              have v1 := conv_dat (Hp1 k) (blk1 k) (Hp1 k).len wr (D1.out.2.1 k hlt).2
              have g20 := (D2.out.1.cell (i := k * 3 + 0) (by omega)).trans (congrArg some (heapF_0 _ k))
              have g22 := (D2.out.1.cell (i := k * 3 + 2) (by omega)).trans (congrArg some (heapF_2 _ k))
              have v2 := conv_dat (Hp2 k) (blk2 k) (Hp2 k).len wr (D2.out.2.1 k hlt).2
              simp only [hsC, HeapV.moved, Nat.add_zero] at s1 g10 g12 g20 g22
              have zP : w.heap.size < wr.heap.size := Pwr.out.1
              have cP0 : wr.cell? ⟨w.heap.size, 0, none⟩ = some (.slice (some ⟨bH, 0, none⟩) nH cH) := Pwr.out.2 0 (by simp)
              have cP1 : wr.cell? ⟨w.heap.size, 1, none⟩ = some (.slice (some ⟨bR, 0, none⟩) 8 cR) := Pwr.out.2 1 (by simp)
              have zQ : w.heap.size + 1 < wr.heap.size := Qwr.out.1
              have cQ0 : wr.cell? ⟨w.heap.size + 1, 0, none⟩ = some (.slice (some ⟨bR1, 0, none⟩) 8 8) := Qwr.out.2 0 (by simp)
              have cQ1 : wr.cell? ⟨w.heap.size + 1, 1, none⟩ = some (.bool z1) := Qwr.out.2 1 (by simp)
              have cQ2 : wr.cell? ⟨w.heap.size + 1, 2, none⟩ = some (.bool c1) := Qwr.out.2 2 (by simp)
              have cQ3 : wr.cell? ⟨w.heap.size + 1, 3, none⟩ = some (.bool hz1) := Qwr.out.2 3 (by simp)
              have cQ4 : wr.cell? ⟨w.heap.size + 1, 4, none⟩ = some (.bool hc1) := Qwr.out.2 4 (by simp)
              have cQ5 : wr.cell? ⟨w.heap.size + 1, 5, none⟩ = some (.slice (some ⟨bH1, 0, none⟩) nH nH) := Qwr.out.2 5 (by simp)
              have cQ6 : wr.cell? ⟨w.heap.size + 1, 6, none⟩ = some (.int .i64 pc1) := Qwr.out.2 6 (by simp)
              have cQ7 : wr.cell? ⟨w.heap.size + 1, 7, none⟩ = some (.int .i64 st1) := Qwr.out.2 7 (by simp)
              have cQ8 : wr.cell? ⟨w.heap.size + 1, 8, none⟩ = some (.slice (some ⟨bO1, 0, none⟩) nO1 nO1) := Qwr.out.2 8 (by simp)
              have zT : w.heap.size + 2 < wr.heap.size := Twr.out.1
              have cT0 : wr.cell? ⟨w.heap.size + 2, 0, none⟩ = some (.slice (some ⟨bR2, 0, none⟩) 8 8) := Twr.out.2 0 (by simp)
              have cT1 : wr.cell? ⟨w.heap.size + 2, 1, none⟩ = some (.bool z2) := Twr.out.2 1 (by simp)
              have cT2 : wr.cell? ⟨w.heap.size + 2, 2, none⟩ = some (.bool c2) := Twr.out.2 2 (by simp)
              have cT3 : wr.cell? ⟨w.heap.size + 2, 3, none⟩ = some (.bool hz2) := Twr.out.2 3 (by simp)
              have cT4 : wr.cell? ⟨w.heap.size + 2, 4, none⟩ = some (.bool hc2) := Twr.out.2 4 (by simp)
              have cT5 : wr.cell? ⟨w.heap.size + 2, 5, none⟩ = some (.slice (some ⟨bH2, 0, none⟩) nH nH) := Twr.out.2 5 (by simp)
              have cT6 : wr.cell? ⟨w.heap.size + 2, 6, none⟩ = some (.int .i64 pc2) := Twr.out.2 6 (by simp)
              have cT7 : wr.cell? ⟨w.heap.size + 2, 7, none⟩ = some (.int .i64 st2) := Twr.out.2 7 (by simp)
              have cT8 : wr.cell? ⟨w.heap.size + 2, 8, none⟩ = some (.slice (some ⟨bO2, 0, none⟩) nO2 nO2) := Twr.out.2 8 (by simp)
              go_upto_region 11 with fail
              have a1 : ∀ w', Below wr.heap.size wr w' → w'.cell? ⟨w.heap.size + 1, 5, none⟩ = some (.slice (some ⟨bH1, 0, none⟩) nH nH) := fun w' h => (Qwr.out.below h).2 5 (by simp)
              have a2 : ∀ w', Below wr.heap.size wr w' → w'.cell? ⟨w.heap.size + 2, 5, none⟩ = some (.slice (some ⟨bH2, 0, none⟩) nH nH) := fun w' h => (Twr.out.below h).2 5 (by simp)
              have a0 : ∀ w', Below wr.heap.size wr w' → w'.cell? ⟨w.heap.size, 0, none⟩ = some (.slice (some ⟨bH, 0, none⟩) nH cH) := fun w' h => (Pwr.out.below h).2 0 (by simp)
              have b1 : ∀ w', Below wr.heap.size wr w' → w'.cell? ⟨bH, k * 3 + 1, none⟩ = some (.bool (S k).s) := fun w' h => (h.cell (p := ⟨bH, k * 3 + 1, none⟩) (C0.out.h.below HBwr.out C0.out.h.lt).lt).trans s1
              have d10 : ∀ w', Below wr.heap.size wr w' → w'.cell? ⟨bH1, k * 3, none⟩ = some (.int .u64 (Hp1 k).base) := fun w' h => (h.cell (p := ⟨bH1, k * 3, none⟩) D1.out.1.lt).trans g10
              have d12 : ∀ w', Below wr.heap.size wr w' → w'.cell? ⟨bH1, k * 3 + 2, none⟩ = some (.slice (some ⟨blk1 k, 0, none⟩) (Hp1 k).len (Hp1 k).len) := fun w' h => (h.cell (p := ⟨bH1, k * 3 + 2, none⟩) D1.out.1.lt).trans g12
              have d20 : ∀ w', Below wr.heap.size wr w' → w'.cell? ⟨bH2, k * 3, none⟩ = some (.int .u64 (Hp2 k).base) := fun w' h => (h.cell (p := ⟨bH2, k * 3, none⟩) D2.out.1.lt).trans g20
              have d22 : ∀ w', Below wr.heap.size wr w' → w'.cell? ⟨bH2, k * 3 + 2, none⟩ = some (.slice (some ⟨blk2 k, 0, none⟩) (Hp2 k).len (Hp2 k).len) := fun w' h => (h.cell (p := ⟨bH2, k * 3 + 2, none⟩) D2.out.1.lt).trans g22
              have e1 : ∀ w', Below wr.heap.size wr w' → (convert 22 9 (.slice (some ⟨blk1 k, 0, none⟩) (Hp1 k).len (Hp1 k).len)).run Try.prog w' = .ok (.string (datS (Hp1 k))) w' := fun w' h => conv_dat (Hp1 k) (blk1 k) (Hp1 k).len w' ((D1.out.2.1 k hlt).2.below h (D1.out.2.1 k hlt).2.lt)
              have e2 : ∀ w', Below wr.heap.size wr w' → (convert 22 9 (.slice (some ⟨blk2 k, 0, none⟩) (Hp2 k).len (Hp2 k).len)).run Try.prog w' = .ok (.string (datS (Hp2 k))) w' := fun w' h => conv_dat (Hp2 k) (blk2 k) (Hp2 k).len w' ((D2.out.2.1 k hlt).2.below h (D2.out.2.1 k hlt).2.lt)
              clear zP cP0 cP1 zQ cQ0 cQ1 cQ2 cQ3 cQ4 cQ5 cQ6 cQ7 cQ8 zT cT0 cT1 cT2 cT3 cT4 cT5 cT6 cT7 cT8
              clear s1 g10 g12 g20 g22 v1 v2
              by_cases hb : (Hp1 k).base = (Hp2 k).base
              · cases hs : (S k).s with
                | true =>
                  rw [hs] at b1
                  refine wp_region_held_drew (S := fun w' => Below wr.heap.size wr w') (by kernel_rfl) (Below.refl _ _).drew (fun _ => ?_)
                  refine wpAnyH_tk 0 ?k1v rfl ?k1y ?k1r
                  case k1y => (intro w hSw; (try dsimp only at hSw); go_simp; try with_reducible rfl)
                  try simp only [Act.put, List.getElem_toArray, List.getElem_cons_zero, List.setIfInBounds_toArray, List.set_cons_zero, List.set_cons_succ]
                  refine wpAnyH_tk 1 ?k2v rfl ?k2y ?k2r
                  case k2y => (intro w hSw; (try dsimp only at hSw); go_simp; try with_reducible rfl)
                  try simp only [Act.put, List.getElem_toArray, List.getElem_cons_zero, List.getElem_cons_succ, List.setIfInBounds_toArray, List.set_cons_zero, List.set_cons_succ]
                  refine wpAnyH_tk 2 ?k3v rfl ?k3y ?k3r
                  case k3y => (intro w hSw; (try dsimp only at hSw); go_simp; try with_reducible rfl)
                  try simp only [Act.put, List.getElem_toArray, List.getElem_cons_zero, List.getElem_cons_succ, List.setIfInBounds_toArray, List.set_cons_zero, List.set_cons_succ]
                  refine wpAnyH_tk 3 ?k4v rfl ?k4y ?k4r
                  case k4y => (intro w hSw; (try dsimp only at hSw); go_simp; try with_reducible rfl)
                  try simp only [Act.put, List.getElem_toArray, List.getElem_cons_zero, List.getElem_cons_succ, List.setIfInBounds_toArray, List.set_cons_zero, List.set_cons_succ]
                  refine wpAnyH_tk 4 ?k5v rfl ?k5y ?k5r
                  case k5y => (intro w hSw; (try dsimp only at hSw); go_simp; try with_reducible rfl)
                  try simp only [Act.put, List.getElem_toArray, List.getElem_cons_zero, List.getElem_cons_succ, List.setIfInBounds_toArray, List.set_cons_zero, List.set_cons_succ]
                  refine wpAnyH_tk 5 ?k6v rfl ?k6y ?k6r
                  case k6y => (intro w hSw; (try dsimp only at hSw); go_simp; try with_reducible rfl)
                  try simp only [Act.put, List.getElem_toArray, List.getElem_cons_zero, List.getElem_cons_succ, List.setIfInBounds_toArray, List.set_cons_zero, List.set_cons_succ]
                  refine wpAnyH_tk 6 ?k7v rfl ?k7y ?k7r
                  case k7y => (intro w hSw; (try dsimp only at hSw); go_simp; try with_reducible rfl)
                  try simp only [Act.put, List.getElem_toArray, List.getElem_cons_zero, List.getElem_cons_succ, List.setIfInBounds_toArray, List.set_cons_zero, List.set_cons_succ]
                  refine wpAnyH_tk 7 ?k8v rfl ?k8y ?k8r
                  case k8y => (intro w hSw; (try dsimp only at hSw); go_simp; try with_reducible rfl)
                  try simp only [Act.put, List.getElem_toArray, List.getElem_cons_zero, List.getElem_cons_succ, List.setIfInBounds_toArray, List.set_cons_zero, List.set_cons_succ]
                  refine wpAnyH_tk 8 ?k9v rfl ?k9y ?k9r
                  case k9y => (intro w hSw; (try dsimp only at hSw); go_simp; try with_reducible rfl)
                  try simp only [Act.put, List.getElem_toArray, List.getElem_cons_zero, List.getElem_cons_succ, List.setIfInBounds_toArray, List.set_cons_zero, List.set_cons_succ]
                  refine wpAnyH_tk 9 ?k10v rfl ?k10y ?k10r
                  case k10y => (intro w hSw; (try dsimp only at hSw); go_simp; try with_reducible rfl)
                  try simp only [Act.put, List.getElem_toArray, List.getElem_cons_zero, List.getElem_cons_succ, List.setIfInBounds_toArray, List.set_cons_zero, List.set_cons_succ]
                  refine wpAnyH_tk 10 ?k11v rfl ?k11y ?k11r
                  case k11y => (intro w hSw; (try dsimp only at hSw); go_simp; try with_reducible rfl)
                  try simp only [Act.put, List.getElem_toArray, List.getElem_cons_zero, List.getElem_cons_succ, List.setIfInBounds_toArray, List.set_cons_zero, List.set_cons_succ]
                  refine wpAnyH_tk 11 ?k12v rfl ?k12y ?k12r
                  case k12y => (intro w hSw; (try dsimp only at hSw); go_simp; try with_reducible rfl)
                  try simp only [Act.put, List.getElem_toArray, List.getElem_cons_zero, List.getElem_cons_succ, List.setIfInBounds_toArray, List.set_cons_zero, List.set_cons_succ]
                  refine wpAnyH_tk 12 ?k13v rfl ?k13y ?k13r
                  case k13y => (intro w hSw; (try dsimp only at hSw); go_simp; try with_reducible rfl)
                  try simp only [Act.put, List.getElem_toArray, List.getElem_cons_zero, List.getElem_cons_succ, List.setIfInBounds_toArray, List.set_cons_zero, List.set_cons_succ]
                  refine wpAnyH_tk 13 ?k14v rfl ?k14y ?k14r
                  case k14y => (intro w hSw; (try dsimp only at hSw); go_simp; try with_reducible rfl)
                  try simp only [Act.put, List.getElem_toArray, List.getElem_cons_zero, List.getElem_cons_succ, List.setIfInBounds_toArray, List.set_cons_zero, List.set_cons_succ]
                  refine wpAnyH_tk 14 ?k15v rfl ?k15y ?k15r
                  case k15y => (intro w hSw; (try dsimp only at hSw); go_simp; try with_reducible rfl)
                  try simp only [Act.put, List.getElem_toArray, List.getElem_cons_zero, List.getElem_cons_succ, List.setIfInBounds_toArray, List.set_cons_zero, List.set_cons_succ]
                  refine wpAnyH_tk 15 ?k16v rfl ?k16y ?k16r
                  case k16y => (intro w hSw; (try dsimp only at hSw); go_simp; try with_reducible rfl)
                  try simp only [Act.put, List.getElem_toArray, List.getElem_cons_zero, List.getElem_cons_succ, List.setIfInBounds_toArray, List.set_cons_zero, List.set_cons_succ]
                  refine wpAnyH_tk 16 ?k17v rfl ?k17y ?k17r
                  case k17y => (intro w hSw; (try dsimp only at hSw); go_simp; try with_reducible rfl)
                  try simp only [Act.put, List.getElem_toArray, List.getElem_cons_zero, List.getElem_cons_succ, List.setIfInBounds_toArray, List.set_cons_zero, List.set_cons_succ]
                  refine wpAnyH_tk 17 ?k18v rfl ?k18y ?k18r
                  case k18y => (intro w hSw; (try dsimp only at hSw); go_simp; try with_reducible rfl)
                  try simp only [Act.put, List.getElem_toArray, List.getElem_cons_zero, List.getElem_cons_succ, List.setIfInBounds_toArray, List.set_cons_zero, List.set_cons_succ]
                  refine wpAnyH_tk 18 ?k19v rfl ?k19y ?k19r
                  case k19y => (intro w hSw; (try dsimp only at hSw); go_simp; try with_reducible rfl)
                  try simp only [Act.put, List.getElem_toArray, List.getElem_cons_zero, List.getElem_cons_succ, List.setIfInBounds_toArray, List.set_cons_zero, List.set_cons_succ]
                  refine wpAnyH_tk 19 ?k20v rfl ?k20y ?k20r
                  case k20y => (intro w hSw; (try dsimp only at hSw); go_simp; try with_reducible rfl)
                  try simp only [Act.put, List.getElem_toArray, List.getElem_cons_zero, List.getElem_cons_succ, List.setIfInBounds_toArray, List.set_cons_zero, List.set_cons_succ]
                  refine wpAnyH_tk 20 ?k21v rfl ?k21y ?k21r
                  case k21y => (intro w hSw; (try dsimp only at hSw); go_simp; try with_reducible rfl)
                  try simp only [Act.put, List.getElem_toArray, List.getElem_cons_zero, List.getElem_cons_succ, List.setIfInBounds_toArray, List.set_cons_zero, List.set_cons_succ]
                  refine wpAnyH_tk 21 ?k22v rfl ?k22y ?k22r
                  case k22y => (intro w hSw; (try dsimp only at hSw); go_simp; try with_reducible rfl)
                  try simp only [Act.put, List.getElem_toArray, List.getElem_cons_zero, List.getElem_cons_succ, List.setIfInBounds_toArray, List.set_cons_zero, List.set_cons_succ]
                  refine wpAnyH_sk 22 rfl ?_
                  try simp only [Act.put, List.getElem_toArray, List.getElem_cons_zero, List.getElem_cons_succ, List.setIfInBounds_toArray, List.set_cons_zero, List.set_cons_succ]
                  refine wpAnyH_sk 23 rfl ?_
                  try simp only [Act.put, List.getElem_toArray, List.getElem_cons_zero, List.getElem_cons_succ, List.setIfInBounds_toArray, List.set_cons_zero, List.set_cons_succ]
                  refine wpAnyH_sk 24 rfl ?_
                  try simp only [Act.put, List.getElem_toArray, List.getElem_cons_zero, List.getElem_cons_succ, List.setIfInBounds_toArray, List.set_cons_zero, List.set_cons_succ]
                  refine wpAnyH_sk 25 rfl ?_
                  try simp only [Act.put, List.getElem_toArray, List.getElem_cons_zero, List.getElem_cons_succ, List.setIfInBounds_toArray, List.set_cons_zero, List.set_cons_succ]
                  refine wpAnyH_sk 26 rfl ?_
                  try simp only [Act.put, List.getElem_toArray, List.getElem_cons_zero, List.getElem_cons_succ, List.setIfInBounds_toArray, List.set_cons_zero, List.set_cons_succ]
                  refine wpAnyH_sk 27 rfl ?_
                  try simp only [Act.put, List.getElem_toArray, List.getElem_cons_zero, List.getElem_cons_succ, List.setIfInBounds_toArray, List.set_cons_zero, List.set_cons_succ]
                  refine wpAnyH_sk 28 rfl ?_
                  try simp only [Act.put, List.getElem_toArray, List.getElem_cons_zero, List.getElem_cons_succ, List.setIfInBounds_toArray, List.set_cons_zero, List.set_cons_succ]
                  refine wpAnyH_sk 29 rfl ?_
                  try simp only [Act.put, List.getElem_toArray, List.getElem_cons_zero, List.getElem_cons_succ, List.setIfInBounds_toArray, List.set_cons_zero, List.set_cons_succ]
                  refine wpAnyH_sk 30 rfl ?_
                  try simp only [Act.put, List.getElem_toArray, List.getElem_cons_zero, List.getElem_cons_succ, List.setIfInBounds_toArray, List.set_cons_zero, List.set_cons_succ]
                  refine wpAnyH_sk 31 rfl ?_
                  try simp only [Act.put, List.getElem_toArray, List.getElem_cons_zero, List.getElem_cons_succ, List.setIfInBounds_toArray, List.set_cons_zero, List.set_cons_succ]
                  refine wpAnyH_sk 32 rfl ?_
                  try simp only [Act.put, List.getElem_toArray, List.getElem_cons_zero, List.getElem_cons_succ, List.setIfInBounds_toArray, List.set_cons_zero, List.set_cons_succ]
                  refine wpAnyH_sk 33 rfl ?_
                  try simp only [Act.put, List.getElem_toArray, List.getElem_cons_zero, List.getElem_cons_succ, List.setIfInBounds_toArray, List.set_cons_zero, List.set_cons_succ]
                  refine wpAnyH_sk 34 rfl ?_
                  try simp only [Act.put, List.getElem_toArray, List.getElem_cons_zero, List.getElem_cons_succ, List.setIfInBounds_toArray, List.set_cons_zero, List.set_cons_succ]
                  refine wpAnyH_sk 35 rfl ?_
                  try simp only [Act.put, List.getElem_toArray, List.getElem_cons_zero, List.getElem_cons_succ, List.setIfInBounds_toArray, List.set_cons_zero, List.set_cons_succ]
                  refine wpAnyH_sk 36 rfl ?_
                  try simp only [Act.put, List.getElem_toArray, List.getElem_cons_zero, List.getElem_cons_succ, List.setIfInBounds_toArray, List.set_cons_zero, List.set_cons_succ]
                  refine wpAnyH_tk 37 ?k23v rfl ?k23y ?k23r
                  case k23y => (intro w hSw; (try dsimp only at hSw); go_simp; try with_reducible rfl)
                  try simp only [Act.put, List.getElem_toArray, List.getElem_cons_zero, List.getElem_cons_succ, List.setIfInBounds_toArray, List.set_cons_zero, List.set_cons_succ]
                  refine wpAnyH_tk 38 ?k24v rfl ?k24y ?k24r
                  case k24y => (intro w hSw; (try dsimp only at hSw); go_simp; try with_reducible rfl)
                  try simp only [Act.put, List.getElem_toArray, List.getElem_cons_zero, List.getElem_cons_succ, List.setIfInBounds_toArray, List.set_cons_zero, List.set_cons_succ]
                  refine wpAnyH_done (by kernel_rfl) ?_ _
                  go_wp2
                  go_roundw
                  case rel => exact ⟨k + 1, by omega, by go_num, (HBwr.out.drew : Below _ _ _), Pwr.out.below (Below.refl _ _).drew, Qwr.out.below (Below.refl _ _).drew, Twr.out.below (Below.refl _ _).drew, upto_step HK.out (by simp [hpAt, hb, hs])⟩
                  case measure => simp [intOf]; omega
                | false =>
                  rw [hs] at b1
                  cases hd : datEq (Hp1 k) (Hp2 k) with
                  | true =>
                    have hd2 : ((datS (Hp1 k)).toList == (datS (Hp2 k)).toList) = true := hd
                    have hd3 : ((datS (Hp1 k)).toList != (datS (Hp2 k)).toList) = false := by rw [bne, hd2]; rfl
                    refine wp_region_held_drew (S := fun w' => Below wr.heap.size wr w') (by kernel_rfl) (Below.refl _ _).drew (fun _ => ?_)
                    refine wpAnyH_tk 0 ?k25v rfl ?k25y ?k25r
                    case k25y => (intro w hSw; (try dsimp only at hSw); go_simp; try with_reducible rfl)
                    try simp only [Act.put, List.getElem_toArray, List.getElem_cons_zero, List.setIfInBounds_toArray, List.set_cons_zero, List.set_cons_succ]
                    refine wpAnyH_tk 1 ?k26v rfl ?k26y ?k26r
                    case k26y => (intro w hSw; (try dsimp only at hSw); go_simp; try with_reducible rfl)
                    try simp only [Act.put, List.getElem_toArray, List.getElem_cons_zero, List.getElem_cons_succ, List.setIfInBounds_toArray, List.set_cons_zero, List.set_cons_succ]
                    refine wpAnyH_tk 2 ?k27v rfl ?k27y ?k27r
                    case k27y => (intro w hSw; (try dsimp only at hSw); go_simp; try with_reducible rfl)
                    try simp only [Act.put, List.getElem_toArray, List.getElem_cons_zero, List.getElem_cons_succ, List.setIfInBounds_toArray, List.set_cons_zero, List.set_cons_succ]
                    refine wpAnyH_tk 3 ?k28v rfl ?k28y ?k28r
                    case k28y => (intro w hSw; (try dsimp only at hSw); go_simp; try with_reducible rfl)
                    try simp only [Act.put, List.getElem_toArray, List.getElem_cons_zero, List.getElem_cons_succ, List.setIfInBounds_toArray, List.set_cons_zero, List.set_cons_succ]
                    refine wpAnyH_tk 4 ?k29v rfl ?k29y ?k29r
                    case k29y => (intro w hSw; (try dsimp only at hSw); go_simp; try with_reducible rfl)
                    try simp only [Act.put, List.getElem_toArray, List.getElem_cons_zero, List.getElem_cons_succ, List.setIfInBounds_toArray, List.set_cons_zero, List.set_cons_succ]
                    refine wpAnyH_tk 5 ?k30v rfl ?k30y ?k30r
                    case k30y => (intro w hSw; (try dsimp only at hSw); go_simp; try with_reducible rfl)
                    try simp only [Act.put, List.getElem_toArray, List.getElem_cons_zero, List.getElem_cons_succ, List.setIfInBounds_toArray, List.set_cons_zero, List.set_cons_succ]
                    refine wpAnyH_tk 6 ?k31v rfl ?k31y ?k31r
                    case k31y => (intro w hSw; (try dsimp only at hSw); go_simp; try with_reducible rfl)
                    try simp only [Act.put, List.getElem_toArray, List.getElem_cons_zero, List.getElem_cons_succ, List.setIfInBounds_toArray, List.set_cons_zero, List.set_cons_succ]
                    refine wpAnyH_tk 7 ?k32v rfl ?k32y ?k32r
                    case k32y => (intro w hSw; (try dsimp only at hSw); go_simp; try with_reducible rfl)
                    try simp only [Act.put, List.getElem_toArray, List.getElem_cons_zero, List.getElem_cons_succ, List.setIfInBounds_toArray, List.set_cons_zero, List.set_cons_succ]
                    refine wpAnyH_tk 8 ?k33v rfl ?k33y ?k33r
                    case k33y => (intro w hSw; (try dsimp only at hSw); go_simp; try with_reducible rfl)
                    try simp only [Act.put, List.getElem_toArray, List.getElem_cons_zero, List.getElem_cons_succ, List.setIfInBounds_toArray, List.set_cons_zero, List.set_cons_succ]
                    refine wpAnyH_tk 9 ?k34v rfl ?k34y ?k34r
                    case k34y => (intro w hSw; (try dsimp only at hSw); go_simp; try with_reducible rfl)
                    try simp only [Act.put, List.getElem_toArray, List.getElem_cons_zero, List.getElem_cons_succ, List.setIfInBounds_toArray, List.set_cons_zero, List.set_cons_succ]
                    refine wpAnyH_tk 10 ?k35v rfl ?k35y ?k35r
                    case k35y => (intro w hSw; (try dsimp only at hSw); go_simp; try with_reducible rfl)
                    try simp only [Act.put, List.getElem_toArray, List.getElem_cons_zero, List.getElem_cons_succ, List.setIfInBounds_toArray, List.set_cons_zero, List.set_cons_succ]
                    refine wpAnyH_tk 11 ?k36v rfl ?k36y ?k36r
                    case k36y => (intro w hSw; (try dsimp only at hSw); go_simp; try with_reducible rfl)
                    try simp only [Act.put, List.getElem_toArray, List.getElem_cons_zero, List.getElem_cons_succ, List.setIfInBounds_toArray, List.set_cons_zero, List.set_cons_succ]
                    refine wpAnyH_tk 12 ?k37v rfl ?k37y ?k37r
                    case k37y => (intro w hSw; (try dsimp only at hSw); go_simp; try with_reducible rfl)
                    try simp only [Act.put, List.getElem_toArray, List.getElem_cons_zero, List.getElem_cons_succ, List.setIfInBounds_toArray, List.set_cons_zero, List.set_cons_succ]
                    refine wpAnyH_tk 13 ?k38v rfl ?k38y ?k38r
                    case k38y => (intro w hSw; (try dsimp only at hSw); go_simp; try with_reducible rfl)
                    try simp only [Act.put, List.getElem_toArray, List.getElem_cons_zero, List.getElem_cons_succ, List.setIfInBounds_toArray, List.set_cons_zero, List.set_cons_succ]
                    refine wpAnyH_tk 14 ?k39v rfl ?k39y ?k39r
                    case k39y => (intro w hSw; (try dsimp only at hSw); go_simp; try with_reducible rfl)
                    try simp only [Act.put, List.getElem_toArray, List.getElem_cons_zero, List.getElem_cons_succ, List.setIfInBounds_toArray, List.set_cons_zero, List.set_cons_succ]
                    refine wpAnyH_tk 15 ?k40v rfl ?k40y ?k40r
                    case k40y => (intro w hSw; (try dsimp only at hSw); go_simp; try with_reducible rfl)
                    try simp only [Act.put, List.getElem_toArray, List.getElem_cons_zero, List.getElem_cons_succ, List.setIfInBounds_toArray, List.set_cons_zero, List.set_cons_succ]
                    refine wpAnyH_tk 16 ?k41v rfl ?k41y ?k41r
                    case k41y => (intro w hSw; (try dsimp only at hSw); go_simp; try with_reducible rfl)
                    try simp only [Act.put, List.getElem_toArray, List.getElem_cons_zero, List.getElem_cons_succ, List.setIfInBounds_toArray, List.set_cons_zero, List.set_cons_succ]
                    refine wpAnyH_tk 17 ?k42v rfl ?k42y ?k42r
                    case k42y => (intro w hSw; (try dsimp only at hSw); go_simp; try with_reducible rfl)
                    try simp only [Act.put, List.getElem_toArray, List.getElem_cons_zero, List.getElem_cons_succ, List.setIfInBounds_toArray, List.set_cons_zero, List.set_cons_succ]
                    refine wpAnyH_tk 18 ?k43v rfl ?k43y ?k43r
                    case k43y => (intro w hSw; (try dsimp only at hSw); go_simp; try with_reducible rfl)
                    try simp only [Act.put, List.getElem_toArray, List.getElem_cons_zero, List.getElem_cons_succ, List.setIfInBounds_toArray, List.set_cons_zero, List.set_cons_succ]
                    refine wpAnyH_tk 19 ?k44v rfl ?k44y ?k44r
                    case k44y => (intro w hSw; (try dsimp only at hSw); go_simp; try with_reducible rfl)
                    try simp only [Act.put, List.getElem_toArray, List.getElem_cons_zero, List.getElem_cons_succ, List.setIfInBounds_toArray, List.set_cons_zero, List.set_cons_succ]
                    refine wpAnyH_tk 20 ?k45v rfl ?k45y ?k45r
                    case k45y => (intro w hSw; (try dsimp only at hSw); go_simp; try with_reducible rfl)
                    try simp only [Act.put, List.getElem_toArray, List.getElem_cons_zero, List.getElem_cons_succ, List.setIfInBounds_toArray, List.set_cons_zero, List.set_cons_succ]
                    refine wpAnyH_tk 21 ?k46v rfl ?k46y ?k46r
                    case k46y => (intro w hSw; (try dsimp only at hSw); go_simp; try with_reducible rfl)
                    try simp only [Act.put, List.getElem_toArray, List.getElem_cons_zero, List.getElem_cons_succ, List.setIfInBounds_toArray, List.set_cons_zero, List.set_cons_succ]
                    refine wpAnyH_tk 22 ?k47v rfl ?k47y ?k47r
                    case k47y => (intro w hSw; (try dsimp only at hSw); go_simp; try with_reducible rfl)
                    try simp only [Act.put, List.getElem_toArray, List.getElem_cons_zero, List.getElem_cons_succ, List.setIfInBounds_toArray, List.set_cons_zero, List.set_cons_succ]
                    refine wpAnyH_tk 23 ?k48v rfl ?k48y ?k48r
                    case k48y => (intro w hSw; (try dsimp only at hSw); go_simp; try with_reducible rfl)
                    try simp only [Act.put, List.getElem_toArray, List.getElem_cons_zero, List.getElem_cons_succ, List.setIfInBounds_toArray, List.set_cons_zero, List.set_cons_succ]
                    refine wpAnyH_tk 24 ?k49v rfl ?k49y ?k49r
                    case k49y => (intro w hSw; (try dsimp only at hSw); go_simp; try with_reducible rfl)
                    try simp only [Act.put, List.getElem_toArray, List.getElem_cons_zero, List.getElem_cons_succ, List.setIfInBounds_toArray, List.set_cons_zero, List.set_cons_succ]
                    refine wpAnyH_tk 25 ?k50v rfl ?k50y ?k50r
                    case k50y => (intro w hSw; (try dsimp only at hSw); go_simp; try with_reducible rfl)
                    try simp only [Act.put, List.getElem_toArray, List.getElem_cons_zero, List.getElem_cons_succ, List.setIfInBounds_toArray, List.set_cons_zero, List.set_cons_succ]
                    refine wpAnyH_tk 26 ?k51v rfl ?k51y ?k51r
                    case k51y => (intro w hSw; (try dsimp only at hSw); go_simp; try with_reducible rfl)
                    try simp only [Act.put, List.getElem_toArray, List.getElem_cons_zero, List.getElem_cons_succ, List.setIfInBounds_toArray, List.set_cons_zero, List.set_cons_succ]
                    refine wpAnyH_tk 27 ?k52v rfl ?k52y ?k52r
                    case k52y => (intro w hSw; (try dsimp only at hSw); go_simp; try with_reducible rfl)
                    try simp only [Act.put, List.getElem_toArray, List.getElem_cons_zero, List.getElem_cons_succ, List.setIfInBounds_toArray, List.set_cons_zero, List.set_cons_succ]
                    refine wpAnyH_tk 28 ?k53v rfl ?k53y ?k53r
                    case k53y => (intro w hSw; (try dsimp only at hSw); go_simp; try with_reducible rfl)
                    try simp only [Act.put, List.getElem_toArray, List.getElem_cons_zero, List.getElem_cons_succ, List.setIfInBounds_toArray, List.set_cons_zero, List.set_cons_succ]
                    refine wpAnyH_tk 29 ?k54v rfl ?k54y ?k54r
                    case k54y => (intro w hSw; (try dsimp only at hSw); go_simp; try with_reducible rfl)
                    try simp only [Act.put, List.getElem_toArray, List.getElem_cons_zero, List.getElem_cons_succ, List.setIfInBounds_toArray, List.set_cons_zero, List.set_cons_succ]
                    refine wpAnyH_tk 30 ?k55v rfl ?k55y ?k55r
                    case k55y => (intro w hSw; (try dsimp only at hSw); go_simp; try with_reducible rfl)
                    try simp only [Act.put, List.getElem_toArray, List.getElem_cons_zero, List.getElem_cons_succ, List.setIfInBounds_toArray, List.set_cons_zero, List.set_cons_succ]
                    refine wpAnyH_tk 31 ?k56v rfl ?k56y ?k56r
                    case k56y => (intro w hSw; (try dsimp only at hSw); go_simp; try with_reducible rfl)
                    try simp only [Act.put, List.getElem_toArray, List.getElem_cons_zero, List.getElem_cons_succ, List.setIfInBounds_toArray, List.set_cons_zero, List.set_cons_succ]
                    refine wpAnyH_tk 32 ?k57v rfl ?k57y ?k57r
                    case k57y => (intro w hSw; (try dsimp only at hSw); go_simp; try with_reducible rfl)
                    try simp only [Act.put, List.getElem_toArray, List.getElem_cons_zero, List.getElem_cons_succ, List.setIfInBounds_toArray, List.set_cons_zero, List.set_cons_succ]
                    refine wpAnyH_tk 33 ?k58v rfl ?k58y ?k58r
                    case k58y => (intro w hSw; (try dsimp only at hSw); go_simp; try with_reducible rfl)
                    try simp only [Act.put, List.getElem_toArray, List.getElem_cons_zero, List.getElem_cons_succ, List.setIfInBounds_toArray, List.set_cons_zero, List.set_cons_succ]
                    refine wpAnyH_tk 34 ?k59v rfl ?k59y ?k59r
                    case k59y => (intro w hSw; (try dsimp only at hSw); go_simp; try with_reducible rfl)
                    try simp only [Act.put, List.getElem_toArray, List.getElem_cons_zero, List.getElem_cons_succ, List.setIfInBounds_toArray, List.set_cons_zero, List.set_cons_succ]
                    refine wpAnyH_tk 35 ?k60v rfl ?k60y ?k60r
                    case k60y => (intro w hSw; (try dsimp only at hSw); go_simp; try with_reducible rfl)
                    try simp only [Act.put, List.getElem_toArray, List.getElem_cons_zero, List.getElem_cons_succ, List.setIfInBounds_toArray, List.set_cons_zero, List.set_cons_succ]
                    refine wpAnyH_tk 36 ?k61v rfl ?k61y ?k61r
                    case k61y => (intro w hSw; (try dsimp only at hSw); go_simp; try with_reducible rfl)
                    try simp only [Act.put, List.getElem_toArray, List.getElem_cons_zero, List.getElem_cons_succ, List.setIfInBounds_toArray, List.set_cons_zero, List.set_cons_succ]
                    refine wpAnyH_tk 37 ?k62v rfl ?k62y ?k62r
                    case k62y => (intro w hSw; (try dsimp only at hSw); go_simp; try with_reducible rfl)
                    try simp only [Act.put, List.getElem_toArray, List.getElem_cons_zero, List.getElem_cons_succ, List.setIfInBounds_toArray, List.set_cons_zero, List.set_cons_succ]
                    refine wpAnyH_tk 38 ?k63v rfl ?k63y ?k63r
                    case k63y => (intro w hSw; (try dsimp only at hSw); go_simp; try with_reducible rfl)
                    try simp only [Act.put, List.getElem_toArray, List.getElem_cons_zero, List.getElem_cons_succ, List.setIfInBounds_toArray, List.set_cons_zero, List.set_cons_succ]
                    refine wpAnyH_done (by kernel_rfl) ?_ _
                    go_wp2
                    go_roundw
                    case rel => exact ⟨k + 1, by omega, by go_num, (HBwr.out.drew : Below _ _ _), Pwr.out.below (Below.refl _ _).drew, Qwr.out.below (Below.refl _ _).drew, Twr.out.below (Below.refl _ _).drew, upto_step HK.out (by simp [hpAt, hb, hd])⟩
                    case measure => simp [intOf]; omega
                  | false =>
                    have hd2 : ((datS (Hp1 k)).toList == (datS (Hp2 k)).toList) = false := hd
                    have hd3 : ((datS (Hp1 k)).toList != (datS (Hp2 k)).toList) = true := by rw [bne, hd2]; rfl
                    refine wp_region_held_drew (S := fun w' => Below wr.heap.size wr w') (by kernel_rfl) (Below.refl _ _).drew (fun _ => ?_)
                    refine wpAnyH_tk 0 ?k64v rfl ?k64y ?k64r
                    case k64y => (intro w hSw; (try dsimp only at hSw); go_simp; try with_reducible rfl)
                    try simp only [Act.put, List.getElem_toArray, List.getElem_cons_zero, List.setIfInBounds_toArray, List.set_cons_zero, List.set_cons_succ]
                    refine wpAnyH_tk 1 ?k65v rfl ?k65y ?k65r
                    case k65y => (intro w hSw; (try dsimp only at hSw); go_simp; try with_reducible rfl)
                    try simp only [Act.put, List.getElem_toArray, List.getElem_cons_zero, List.getElem_cons_succ, List.setIfInBounds_toArray, List.set_cons_zero, List.set_cons_succ]
                    refine wpAnyH_tk 2 ?k66v rfl ?k66y ?k66r
                    case k66y => (intro w hSw; (try dsimp only at hSw); go_simp; try with_reducible rfl)
                    try simp only [Act.put, List.getElem_toArray, List.getElem_cons_zero, List.getElem_cons_succ, List.setIfInBounds_toArray, List.set_cons_zero, List.set_cons_succ]
                    refine wpAnyH_tk 3 ?k67v rfl ?k67y ?k67r
                    case k67y => (intro w hSw; (try dsimp only at hSw); go_simp; try with_reducible rfl)
                    try simp only [Act.put, List.getElem_toArray, List.getElem_cons_zero, List.getElem_cons_succ, List.setIfInBounds_toArray, List.set_cons_zero, List.set_cons_succ]
                    refine wpAnyH_tk 4 ?k68v rfl ?k68y ?k68r
                    case k68y => (intro w hSw; (try dsimp only at hSw); go_simp; try with_reducible rfl)
                    try simp only [Act.put, List.getElem_toArray, List.getElem_cons_zero, List.getElem_cons_succ, List.setIfInBounds_toArray, List.set_cons_zero, List.set_cons_succ]
                    refine wpAnyH_tk 5 ?k69v rfl ?k69y ?k69r
                    case k69y => (intro w hSw; (try dsimp only at hSw); go_simp; try with_reducible rfl)
                    try simp only [Act.put, List.getElem_toArray, List.getElem_cons_zero, List.getElem_cons_succ, List.setIfInBounds_toArray, List.set_cons_zero, List.set_cons_succ]
                    refine wpAnyH_tk 6 ?k70v rfl ?k70y ?k70r
                    case k70y => (intro w hSw; (try dsimp only at hSw); go_simp; try with_reducible rfl)
                    try simp only [Act.put, List.getElem_toArray, List.getElem_cons_zero, List.getElem_cons_succ, List.setIfInBounds_toArray, List.set_cons_zero, List.set_cons_succ]
                    refine wpAnyH_tk 7 ?k71v rfl ?k71y ?k71r
                    case k71y => (intro w hSw; (try dsimp only at hSw); go_simp; try with_reducible rfl)
                    try simp only [Act.put, List.getElem_toArray, List.getElem_cons_zero, List.getElem_cons_succ, List.setIfInBounds_toArray, List.set_cons_zero, List.set_cons_succ]
                    refine wpAnyH_tk 8 ?k72v rfl ?k72y ?k72r
                    case k72y => (intro w hSw; (try dsimp only at hSw); go_simp; try with_reducible rfl)
                    try simp only [Act.put, List.getElem_toArray, List.getElem_cons_zero, List.getElem_cons_succ, List.setIfInBounds_toArray, List.set_cons_zero, List.set_cons_succ]
                    refine wpAnyH_tk 9 ?k73v rfl ?k73y ?k73r
                    case k73y => (intro w hSw; (try dsimp only at hSw); go_simp; try with_reducible rfl)
                    try simp only [Act.put, List.getElem_toArray, List.getElem_cons_zero, List.getElem_cons_succ, List.setIfInBounds_toArray, List.set_cons_zero, List.set_cons_succ]
                    refine wpAnyH_tk 10 ?k74v rfl ?k74y ?k74r
                    case k74y => (intro w hSw; (try dsimp only at hSw); go_simp; try with_reducible rfl)
                    try simp only [Act.put, List.getElem_toArray, List.getElem_cons_zero, List.getElem_cons_succ, List.setIfInBounds_toArray, List.set_cons_zero, List.set_cons_succ]
                    refine wpAnyH_tk 11 ?k75v rfl ?k75y ?k75r
                    case k75y => (intro w hSw; (try dsimp only at hSw); go_simp; try with_reducible rfl)
                    try simp only [Act.put, List.getElem_toArray, List.getElem_cons_zero, List.getElem_cons_succ, List.setIfInBounds_toArray, List.set_cons_zero, List.set_cons_succ]
                    refine wpAnyH_tk 12 ?k76v rfl ?k76y ?k76r
                    case k76y => (intro w hSw; (try dsimp only at hSw); go_simp; try with_reducible rfl)
                    try simp only [Act.put, List.getElem_toArray, List.getElem_cons_zero, List.getElem_cons_succ, List.setIfInBounds_toArray, List.set_cons_zero, List.set_cons_succ]
                    refine wpAnyH_tk 13 ?k77v rfl ?k77y ?k77r
                    case k77y => (intro w hSw; (try dsimp only at hSw); go_simp; try with_reducible rfl)
                    try simp only [Act.put, List.getElem_toArray, List.getElem_cons_zero, List.getElem_cons_succ, List.setIfInBounds_toArray, List.set_cons_zero, List.set_cons_succ]
                    refine wpAnyH_tk 14 ?k78v rfl ?k78y ?k78r
                    case k78y => (intro w hSw; (try dsimp only at hSw); go_simp; try with_reducible rfl)
                    try simp only [Act.put, List.getElem_toArray, List.getElem_cons_zero, List.getElem_cons_succ, List.setIfInBounds_toArray, List.set_cons_zero, List.set_cons_succ]
                    refine wpAnyH_tk 15 ?k79v rfl ?k79y ?k79r
                    case k79y => (intro w hSw; (try dsimp only at hSw); go_simp; try with_reducible rfl)
                    try simp only [Act.put, List.getElem_toArray, List.getElem_cons_zero, List.getElem_cons_succ, List.setIfInBounds_toArray, List.set_cons_zero, List.set_cons_succ]
                    refine wpAnyH_tk 16 ?k80v rfl ?k80y ?k80r
                    case k80y => (intro w hSw; (try dsimp only at hSw); go_simp; try with_reducible rfl)
                    try simp only [Act.put, List.getElem_toArray, List.getElem_cons_zero, List.getElem_cons_succ, List.setIfInBounds_toArray, List.set_cons_zero, List.set_cons_succ]
                    refine wpAnyH_tk 17 ?k81v rfl ?k81y ?k81r
                    case k81y => (intro w hSw; (try dsimp only at hSw); go_simp; try with_reducible rfl)
                    try simp only [Act.put, List.getElem_toArray, List.getElem_cons_zero, List.getElem_cons_succ, List.setIfInBounds_toArray, List.set_cons_zero, List.set_cons_succ]
                    refine wpAnyH_tk 18 ?k82v rfl ?k82y ?k82r
                    case k82y => (intro w hSw; (try dsimp only at hSw); go_simp; try with_reducible rfl)
                    try simp only [Act.put, List.getElem_toArray, List.getElem_cons_zero, List.getElem_cons_succ, List.setIfInBounds_toArray, List.set_cons_zero, List.set_cons_succ]
                    refine wpAnyH_tk 19 ?k83v rfl ?k83y ?k83r
                    case k83y => (intro w hSw; (try dsimp only at hSw); go_simp; try with_reducible rfl)
                    try simp only [Act.put, List.getElem_toArray, List.getElem_cons_zero, List.getElem_cons_succ, List.setIfInBounds_toArray, List.set_cons_zero, List.set_cons_succ]
                    refine wpAnyH_tk 20 ?k84v rfl ?k84y ?k84r
                    case k84y => (intro w hSw; (try dsimp only at hSw); go_simp; try with_reducible rfl)
                    try simp only [Act.put, List.getElem_toArray, List.getElem_cons_zero, List.getElem_cons_succ, List.setIfInBounds_toArray, List.set_cons_zero, List.set_cons_succ]
                    refine wpAnyH_tk 21 ?k85v rfl ?k85y ?k85r
                    case k85y => (intro w hSw; (try dsimp only at hSw); go_simp; try with_reducible rfl)
                    try simp only [Act.put, List.getElem_toArray, List.getElem_cons_zero, List.getElem_cons_succ, List.setIfInBounds_toArray, List.set_cons_zero, List.set_cons_succ]
                    refine wpAnyH_tk 22 ?k86v rfl ?k86y ?k86r
                    case k86y => (intro w hSw; (try dsimp only at hSw); go_simp; try with_reducible rfl)
                    try simp only [Act.put, List.getElem_toArray, List.getElem_cons_zero, List.getElem_cons_succ, List.setIfInBounds_toArray, List.set_cons_zero, List.set_cons_succ]
                    refine wpAnyH_tk 23 ?k87v rfl ?k87y ?k87r
                    case k87y => (intro w hSw; (try dsimp only at hSw); go_simp; try with_reducible rfl)
                    try simp only [Act.put, List.getElem_toArray, List.getElem_cons_zero, List.getElem_cons_succ, List.setIfInBounds_toArray, List.set_cons_zero, List.set_cons_succ]
                    refine wpAnyH_tk 24 ?k88v rfl ?k88y ?k88r
                    case k88y => (intro w hSw; (try dsimp only at hSw); go_simp; try with_reducible rfl)
                    try simp only [Act.put, List.getElem_toArray, List.getElem_cons_zero, List.getElem_cons_succ, List.setIfInBounds_toArray, List.set_cons_zero, List.set_cons_succ]
                    refine wpAnyH_tk 25 ?k89v rfl ?k89y ?k89r
                    case k89y => (intro w hSw; (try dsimp only at hSw); go_simp; try with_reducible rfl)
                    try simp only [Act.put, List.getElem_toArray, List.getElem_cons_zero, List.getElem_cons_succ, List.setIfInBounds_toArray, List.set_cons_zero, List.set_cons_succ]
                    refine wpAnyH_tk 26 ?k90v rfl ?k90y ?k90r
                    case k90y => (intro w hSw; (try dsimp only at hSw); go_simp; try with_reducible rfl)
                    try simp only [Act.put, List.getElem_toArray, List.getElem_cons_zero, List.getElem_cons_succ, List.setIfInBounds_toArray, List.set_cons_zero, List.set_cons_succ]
                    refine wpAnyH_tk 27 ?k91v rfl ?k91y ?k91r
                    case k91y => (intro w hSw; (try dsimp only at hSw); go_simp; try with_reducible rfl)
                    try simp only [Act.put, List.getElem_toArray, List.getElem_cons_zero, List.getElem_cons_succ, List.setIfInBounds_toArray, List.set_cons_zero, List.set_cons_succ]
                    refine wpAnyH_tk 28 ?k92v rfl ?k92y ?k92r
                    case k92y => (intro w hSw; (try dsimp only at hSw); go_simp; try with_reducible rfl)
                    try simp only [Act.put, List.getElem_toArray, List.getElem_cons_zero, List.getElem_cons_succ, List.setIfInBounds_toArray, List.set_cons_zero, List.set_cons_succ]
                    refine wpAnyH_tk 29 ?k93v rfl ?k93y ?k93r
                    case k93y => (intro w hSw; (try dsimp only at hSw); go_simp; try with_reducible rfl)
                    try simp only [Act.put, List.getElem_toArray, List.getElem_cons_zero, List.getElem_cons_succ, List.setIfInBounds_toArray, List.set_cons_zero, List.set_cons_succ]
                    refine wpAnyH_tk 30 ?k94v rfl ?k94y ?k94r
                    case k94y => (intro w hSw; (try dsimp only at hSw); go_simp; try with_reducible rfl)
                    try simp only [Act.put, List.getElem_toArray, List.getElem_cons_zero, List.getElem_cons_succ, List.setIfInBounds_toArray, List.set_cons_zero, List.set_cons_succ]
                    refine wpAnyH_tk 31 ?k95v rfl ?k95y ?k95r
                    case k95y => (intro w hSw; (try dsimp only at hSw); go_simp; try with_reducible rfl)
                    try simp only [Act.put, List.getElem_toArray, List.getElem_cons_zero, List.getElem_cons_succ, List.setIfInBounds_toArray, List.set_cons_zero, List.set_cons_succ]
                    refine wpAnyH_tk 32 ?k96v rfl ?k96y ?k96r
                    case k96y => (intro w hSw; (try dsimp only at hSw); go_simp; try with_reducible rfl)
                    try simp only [Act.put, List.getElem_toArray, List.getElem_cons_zero, List.getElem_cons_succ, List.setIfInBounds_toArray, List.set_cons_zero, List.set_cons_succ]
                    refine wpAnyH_tk 33 ?k97v rfl ?k97y ?k97r
                    case k97y => (intro w hSw; (try dsimp only at hSw); go_simp; try with_reducible rfl)
                    try simp only [Act.put, List.getElem_toArray, List.getElem_cons_zero, List.getElem_cons_succ, List.setIfInBounds_toArray, List.set_cons_zero, List.set_cons_succ]
                    refine wpAnyH_tk 34 ?k98v rfl ?k98y ?k98r
                    case k98y => (intro w hSw; (try dsimp only at hSw); go_simp; try with_reducible rfl)
                    try simp only [Act.put, List.getElem_toArray, List.getElem_cons_zero, List.getElem_cons_succ, List.setIfInBounds_toArray, List.set_cons_zero, List.set_cons_succ]
                    refine wpAnyH_tk 35 ?k99v rfl ?k99y ?k99r
                    case k99y => (intro w hSw; (try dsimp only at hSw); go_simp; try with_reducible rfl)
                    try simp only [Act.put, List.getElem_toArray, List.getElem_cons_zero, List.getElem_cons_succ, List.setIfInBounds_toArray, List.set_cons_zero, List.set_cons_succ]
                    refine wpAnyH_tk 36 ?k100v rfl ?k100y ?k100r
                    case k100y => (intro w hSw; (try dsimp only at hSw); go_simp; try with_reducible rfl)
                    try simp only [Act.put, List.getElem_toArray, List.getElem_cons_zero, List.getElem_cons_succ, List.setIfInBounds_toArray, List.set_cons_zero, List.set_cons_succ]
                    refine wpAnyH_tk 37 ?k101v rfl ?k101y ?k101r
                    case k101y => (intro w hSw; (try dsimp only at hSw); go_simp; try with_reducible rfl)
                    try simp only [Act.put, List.getElem_toArray, List.getElem_cons_zero, List.getElem_cons_succ, List.setIfInBounds_toArray, List.set_cons_zero, List.set_cons_succ]
                    refine wpAnyH_tk 38 ?k102v rfl ?k102y ?k102r
                    case k102y => (intro w hSw; (try dsimp only at hSw); go_simp; try with_reducible rfl)
                    try simp only [Act.put, List.getElem_toArray, List.getElem_cons_zero, List.getElem_cons_succ, List.setIfInBounds_toArray, List.set_cons_zero, List.set_cons_succ]
                    refine wpAnyH_done (by kernel_rfl) ?_ _
                    go_wp2
                    go_ret
                    exact ⟨ret_bool (by rw [HU.out, HG.out, HG2.out, HE.out, show hpsEq S Hp1 Hp2 nH = false from all_no (p := hpAt S Hp1 Hp2) hlt (by simp [hpAt, hs, hd])]; rfl), HBwr.out.drew⟩
              · have hb1 : ((Hp1 k).base == (Hp2 k).base) = false := by simp [hb]
                have hb2 : ((Hp1 k).base != (Hp2 k).base) = true := by simp [hb]
                have hb3 : decide ((Hp1 k).base = (Hp2 k).base) = false := by simp [hb]
                have hb4 : decide (¬ (Hp1 k).base = (Hp2 k).base) = true := by simp [hb]
                refine wp_region_held_drew (S := fun w' => Below wr.heap.size wr w') (by kernel_rfl) (Below.refl _ _).drew (fun _ => ?_)
                refine wpAnyH_tk 0 ?k103v rfl ?k103y ?k103r
                case k103y => (intro w hSw; (try dsimp only at hSw); go_simp; try with_reducible rfl)
                try simp only [Act.put, List.getElem_toArray, List.getElem_cons_zero, List.setIfInBounds_toArray, List.set_cons_zero, List.set_cons_succ]
                refine wpAnyH_tk 1 ?k104v rfl ?k104y ?k104r
                case k104y => (intro w hSw; (try dsimp only at hSw); go_simp; try with_reducible rfl)
                try simp only [Act.put, List.getElem_toArray, List.getElem_cons_zero, List.getElem_cons_succ, List.setIfInBounds_toArray, List.set_cons_zero, List.set_cons_succ]
                refine wpAnyH_tk 2 ?k105v rfl ?k105y ?k105r
                case k105y => (intro w hSw; (try dsimp only at hSw); go_simp; try with_reducible rfl)
                try simp only [Act.put, List.getElem_toArray, List.getElem_cons_zero, List.getElem_cons_succ, List.setIfInBounds_toArray, List.set_cons_zero, List.set_cons_succ]
                refine wpAnyH_tk 3 ?k106v rfl ?k106y ?k106r
                case k106y => (intro w hSw; (try dsimp only at hSw); go_simp; try with_reducible rfl)
                try simp only [Act.put, List.getElem_toArray, List.getElem_cons_zero, List.getElem_cons_succ, List.setIfInBounds_toArray, List.set_cons_zero, List.set_cons_succ]
                refine wpAnyH_tk 4 ?k107v rfl ?k107y ?k107r
                case k107y => (intro w hSw; (try dsimp only at hSw); go_simp; try with_reducible rfl)
                try simp only [Act.put, List.getElem_toArray, List.getElem_cons_zero, List.getElem_cons_succ, List.setIfInBounds_toArray, List.set_cons_zero, List.set_cons_succ]
                refine wpAnyH_tk 5 ?k108v rfl ?k108y ?k108r
                case k108y => (intro w hSw; (try dsimp only at hSw); go_simp; try with_reducible rfl)
                try simp only [Act.put, List.getElem_toArray, List.getElem_cons_zero, List.getElem_cons_succ, List.setIfInBounds_toArray, List.set_cons_zero, List.set_cons_succ]
                refine wpAnyH_tk 6 ?k109v rfl ?k109y ?k109r
                case k109y => (intro w hSw; (try dsimp only at hSw); go_simp; try with_reducible rfl)
                try simp only [Act.put, List.getElem_toArray, List.getElem_cons_zero, List.getElem_cons_succ, List.setIfInBounds_toArray, List.set_cons_zero, List.set_cons_succ]
                refine wpAnyH_tk 7 ?k110v rfl ?k110y ?k110r
                case k110y => (intro w hSw; (try dsimp only at hSw); go_simp; try with_reducible rfl)
                try simp only [Act.put, List.getElem_toArray, List.getElem_cons_zero, List.getElem_cons_succ, List.setIfInBounds_toArray, List.set_cons_zero, List.set_cons_succ]
                refine wpAnyH_tk 8 ?k111v rfl ?k111y ?k111r
                case k111y => (intro w hSw; (try dsimp only at hSw); go_simp; try with_reducible rfl)
                try simp only [Act.put, List.getElem_toArray, List.getElem_cons_zero, List.getElem_cons_succ, List.setIfInBounds_toArray, List.set_cons_zero, List.set_cons_succ]
                refine wpAnyH_tk 9 ?k112v rfl ?k112y ?k112r
                case k112y => (intro w hSw; (try dsimp only at hSw); go_simp; try with_reducible rfl)
                try simp only [Act.put, List.getElem_toArray, List.getElem_cons_zero, List.getElem_cons_succ, List.setIfInBounds_toArray, List.set_cons_zero, List.set_cons_succ]
                refine wpAnyH_tk 10 ?k113v rfl ?k113y ?k113r
                case k113y => (intro w hSw; (try dsimp only at hSw); go_simp; try with_reducible rfl)
                try simp only [Act.put, List.getElem_toArray, List.getElem_cons_zero, List.getElem_cons_succ, List.setIfInBounds_toArray, List.set_cons_zero, List.set_cons_succ]
                refine wpAnyH_tk 11 ?k114v rfl ?k114y ?k114r
                case k114y => (intro w hSw; (try dsimp only at hSw); go_simp; try with_reducible rfl)
                try simp only [Act.put, List.getElem_toArray, List.getElem_cons_zero, List.getElem_cons_succ, List.setIfInBounds_toArray, List.set_cons_zero, List.set_cons_succ]
                refine wpAnyH_tk 12 ?k115v rfl ?k115y ?k115r
                case k115y => (intro w hSw; (try dsimp only at hSw); go_simp; try with_reducible rfl)
                try simp only [Act.put, List.getElem_toArray, List.getElem_cons_zero, List.getElem_cons_succ, List.setIfInBounds_toArray, List.set_cons_zero, List.set_cons_succ]
                refine wpAnyH_tk 13 ?k116v rfl ?k116y ?k116r
                case k116y => (intro w hSw; (try dsimp only at hSw); go_simp; try with_reducible rfl)
                try simp only [Act.put, List.getElem_toArray, List.getElem_cons_zero, List.getElem_cons_succ, List.setIfInBounds_toArray, List.set_cons_zero, List.set_cons_succ]
                refine wpAnyH_sk 14 rfl ?_
                try simp only [Act.put, List.getElem_toArray, List.getElem_cons_zero, List.getElem_cons_succ, List.setIfInBounds_toArray, List.set_cons_zero, List.set_cons_succ]
                refine wpAnyH_sk 15 rfl ?_
                try simp only [Act.put, List.getElem_toArray, List.getElem_cons_zero, List.getElem_cons_succ, List.setIfInBounds_toArray, List.set_cons_zero, List.set_cons_succ]
                refine wpAnyH_sk 16 rfl ?_
                try simp only [Act.put, List.getElem_toArray, List.getElem_cons_zero, List.getElem_cons_succ, List.setIfInBounds_toArray, List.set_cons_zero, List.set_cons_succ]
                refine wpAnyH_sk 17 rfl ?_
                try simp only [Act.put, List.getElem_toArray, List.getElem_cons_zero, List.getElem_cons_succ, List.setIfInBounds_toArray, List.set_cons_zero, List.set_cons_succ]
                refine wpAnyH_sk 18 rfl ?_
                try simp only [Act.put, List.getElem_toArray, List.getElem_cons_zero, List.getElem_cons_succ, List.setIfInBounds_toArray, List.set_cons_zero, List.set_cons_succ]
                refine wpAnyH_sk 19 rfl ?_
                try simp only [Act.put, List.getElem_toArray, List.getElem_cons_zero, List.getElem_cons_succ, List.setIfInBounds_toArray, List.set_cons_zero, List.set_cons_succ]
                refine wpAnyH_sk 20 rfl ?_
                try simp only [Act.put, List.getElem_toArray, List.getElem_cons_zero, List.getElem_cons_succ, List.setIfInBounds_toArray, List.set_cons_zero, List.set_cons_succ]
                refine wpAnyH_sk 21 rfl ?_
                try simp only [Act.put, List.getElem_toArray, List.getElem_cons_zero, List.getElem_cons_succ, List.setIfInBounds_toArray, List.set_cons_zero, List.set_cons_succ]
                refine wpAnyH_sk 22 rfl ?_
                try simp only [Act.put, List.getElem_toArray, List.getElem_cons_zero, List.getElem_cons_succ, List.setIfInBounds_toArray, List.set_cons_zero, List.set_cons_succ]
                refine wpAnyH_sk 23 rfl ?_
                try simp only [Act.put, List.getElem_toArray, List.getElem_cons_zero, List.getElem_cons_succ, List.setIfInBounds_toArray, List.set_cons_zero, List.set_cons_succ]
                refine wpAnyH_sk 24 rfl ?_
                try simp only [Act.put, List.getElem_toArray, List.getElem_cons_zero, List.getElem_cons_succ, List.setIfInBounds_toArray, List.set_cons_zero, List.set_cons_succ]
                refine wpAnyH_sk 25 rfl ?_
                try simp only [Act.put, List.getElem_toArray, List.getElem_cons_zero, List.getElem_cons_succ, List.setIfInBounds_toArray, List.set_cons_zero, List.set_cons_succ]
                refine wpAnyH_sk 26 rfl ?_
                try simp only [Act.put, List.getElem_toArray, List.getElem_cons_zero, List.getElem_cons_succ, List.setIfInBounds_toArray, List.set_cons_zero, List.set_cons_succ]
                refine wpAnyH_sk 27 rfl ?_
                try simp only [Act.put, List.getElem_toArray, List.getElem_cons_zero, List.getElem_cons_succ, List.setIfInBounds_toArray, List.set_cons_zero, List.set_cons_succ]
                refine wpAnyH_sk 28 rfl ?_
                try simp only [Act.put, List.getElem_toArray, List.getElem_cons_zero, List.getElem_cons_succ, List.setIfInBounds_toArray, List.set_cons_zero, List.set_cons_succ]
                refine wpAnyH_sk 29 rfl ?_
                try simp only [Act.put, List.getElem_toArray, List.getElem_cons_zero, List.getElem_cons_succ, List.setIfInBounds_toArray, List.set_cons_zero, List.set_cons_succ]
                refine wpAnyH_sk 30 rfl ?_
                try simp only [Act.put, List.getElem_toArray, List.getElem_cons_zero, List.getElem_cons_succ, List.setIfInBounds_toArray, List.set_cons_zero, List.set_cons_succ]
                refine wpAnyH_sk 31 rfl ?_
                try simp only [Act.put, List.getElem_toArray, List.getElem_cons_zero, List.getElem_cons_succ, List.setIfInBounds_toArray, List.set_cons_zero, List.set_cons_succ]
                refine wpAnyH_sk 32 rfl ?_
                try simp only [Act.put, List.getElem_toArray, List.getElem_cons_zero, List.getElem_cons_succ, List.setIfInBounds_toArray, List.set_cons_zero, List.set_cons_succ]
                refine wpAnyH_sk 33 rfl ?_
                try simp only [Act.put, List.getElem_toArray, List.getElem_cons_zero, List.getElem_cons_succ, List.setIfInBounds_toArray, List.set_cons_zero, List.set_cons_succ]
                refine wpAnyH_sk 34 rfl ?_
                try simp only [Act.put, List.getElem_toArray, List.getElem_cons_zero, List.getElem_cons_succ, List.setIfInBounds_toArray, List.set_cons_zero, List.set_cons_succ]
                refine wpAnyH_sk 35 rfl ?_
                try simp only [Act.put, List.getElem_toArray, List.getElem_cons_zero, List.getElem_cons_succ, List.setIfInBounds_toArray, List.set_cons_zero, List.set_cons_succ]
                refine wpAnyH_sk 36 rfl ?_
                try simp only [Act.put, List.getElem_toArray, List.getElem_cons_zero, List.getElem_cons_succ, List.setIfInBounds_toArray, List.set_cons_zero, List.set_cons_succ]
                refine wpAnyH_sk 37 rfl ?_
                try simp only [Act.put, List.getElem_toArray, List.getElem_cons_zero, List.getElem_cons_succ, List.setIfInBounds_toArray, List.set_cons_zero, List.set_cons_succ]
                refine wpAnyH_tk 38 ?k117v rfl ?k117y ?k117r
                case k117y => (intro w hSw; (try dsimp only at hSw); go_simp; try with_reducible rfl)
                try simp only [Act.put, List.getElem_toArray, List.getElem_cons_zero, List.getElem_cons_succ, List.setIfInBounds_toArray, List.set_cons_zero, List.set_cons_succ]
                refine wpAnyH_done (by kernel_rfl) ?_ _
                go_wp2
                go_ret
                exact ⟨ret_bool (by rw [HU.out, HG.out, HG2.out, HE.out, show hpsEq S Hp1 Hp2 nH = false from all_no (p := hpAt S Hp1 Hp2) hlt (by simp [hpAt, hb])]; rfl), HBwr.out.drew⟩
            · obtain rfl : nH = k := by omega
              have zP : w.heap.size < wr.heap.size := Pwr.out.1
              have cP0 : wr.cell? ⟨w.heap.size, 0, none⟩ = some (.slice (some ⟨bH, 0, none⟩) nH cH) := Pwr.out.2 0 (by simp)
              have cP1 : wr.cell? ⟨w.heap.size, 1, none⟩ = some (.slice (some ⟨bR, 0, none⟩) 8 cR) := Pwr.out.2 1 (by simp)
              have zQ : w.heap.size + 1 < wr.heap.size := Qwr.out.1
              have cQ0 : wr.cell? ⟨w.heap.size + 1, 0, none⟩ = some (.slice (some ⟨bR1, 0, none⟩) 8 8) := Qwr.out.2 0 (by simp)
              have cQ1 : wr.cell? ⟨w.heap.size + 1, 1, none⟩ = some (.bool z1) := Qwr.out.2 1 (by simp)
              have cQ2 : wr.cell? ⟨w.heap.size + 1, 2, none⟩ = some (.bool c1) := Qwr.out.2 2 (by simp)
              have cQ3 : wr.cell? ⟨w.heap.size + 1, 3, none⟩ = some (.bool hz1) := Qwr.out.2 3 (by simp)
              have cQ4 : wr.cell? ⟨w.heap.size + 1, 4, none⟩ = some (.bool hc1) := Qwr.out.2 4 (by simp)
              have cQ5 : wr.cell? ⟨w.heap.size + 1, 5, none⟩ = some (.slice (some ⟨bH1, 0, none⟩) nH nH) := Qwr.out.2 5 (by simp)
              have cQ6 : wr.cell? ⟨w.heap.size + 1, 6, none⟩ = some (.int .i64 pc1) := Qwr.out.2 6 (by simp)
              have cQ7 : wr.cell? ⟨w.heap.size + 1, 7, none⟩ = some (.int .i64 st1) := Qwr.out.2 7 (by simp)
              have cQ8 : wr.cell? ⟨w.heap.size + 1, 8, none⟩ = some (.slice (some ⟨bO1, 0, none⟩) nO1 nO1) := Qwr.out.2 8 (by simp)
              have zT : w.heap.size + 2 < wr.heap.size := Twr.out.1
              have cT0 : wr.cell? ⟨w.heap.size + 2, 0, none⟩ = some (.slice (some ⟨bR2, 0, none⟩) 8 8) := Twr.out.2 0 (by simp)
              have cT1 : wr.cell? ⟨w.heap.size + 2, 1, none⟩ = some (.bool z2) := Twr.out.2 1 (by simp)
              have cT2 : wr.cell? ⟨w.heap.size + 2, 2, none⟩ = some (.bool c2) := Twr.out.2 2 (by simp)
              have cT3 : wr.cell? ⟨w.heap.size + 2, 3, none⟩ = some (.bool hz2) := Twr.out.2 3 (by simp)
              have cT4 : wr.cell? ⟨w.heap.size + 2, 4, none⟩ = some (.bool hc2) := Twr.out.2 4 (by simp)
              have cT5 : wr.cell? ⟨w.heap.size + 2, 5, none⟩ = some (.slice (some ⟨bH2, 0, none⟩) nH nH) := Twr.out.2 5 (by simp)
              have cT6 : wr.cell? ⟨w.heap.size + 2, 6, none⟩ = some (.int .i64 pc2) := Twr.out.2 6 (by simp)
              have cT7 : wr.cell? ⟨w.heap.size + 2, 7, none⟩ = some (.int .i64 st2) := Twr.out.2 7 (by simp)
              have cT8 : wr.cell? ⟨w.heap.size + 2, 8, none⟩ = some (.slice (some ⟨bO2, 0, none⟩) nO2 nO2) := Twr.out.2 8 (by simp)
              go_wp2
              go_ret
              exact ⟨ret_bool (by rw [HU.out, HG.out, HG2.out, HE.out, show hpsEq S Hp1 Hp2 _ = true from all_yes (p := hpAt S Hp1 Hp2) HK.out]; rfl), HBwr.out⟩
end Go.Proofs.Ytjnooklalbcamaa
