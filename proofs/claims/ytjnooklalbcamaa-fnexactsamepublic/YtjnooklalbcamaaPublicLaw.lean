/- FnExactSamePublic: proved. -/
import Derived.Test.YtjnooklalbcamaaPublicAll
import Derived.Test.YtjnooklalbcamaaOpenMachR
import Derived.Test.YtjnooklalbcamaaOpenAbs
import Derived.Test.YtjnooklalbcamaaCl
import Derived.Test.YtjnooklalbcamaaRegL
import Derived.Deep.RegionHeld3
import Derived.Deep.Cut
import Derived.Deep.DeepCutAuto
import Derived.OpenShut
import Derived.ChangeOld
import Derived.Below
namespace Go.Proofs.Ytjnooklalbcamaa
open Go.ChangeShapes Go.WideShapes Go.ChangeAt Go.RowKit Go.Deep

set_option maxRecDepth 20000 in
set_option maxHeartbeats 8000000 in
theorem lawSamePublic_walk (aoH0 : Option Addr) (nH0 cH0 : Nat) (S0 : Nat → HS) (aoR0 : Option Addr) (nR0 cR0 : Nat) (V0 : Nat → VV) (aoR1 : Option Addr) (nR1 capR1 : Nat) (R1 : Nat → Int) (z1 c1 hz1 hc1 : Bool) (aoH1 : Option Addr) (nH1 capH1 : Nat) (Hp1 : Nat → HeapV) (pc1 st1 : Int) (aoO1 : Option Addr) (nO1 capO1 : Nat) (K1 V1 : Nat → Int) (aoR2 : Option Addr) (nR2 capR2 : Nat) (R2 : Nat → Int) (z2 c2 hz2 hc2 : Bool) (aoH2 : Option Addr) (nH2 capH2 : Nat) (Hp2 : Nat → HeapV) (pc2 st2 : Int) (aoO2 : Option Addr) (nO2 capO2 : Nat) (K2 V2 : Nat → Int) (w : World) (mH0 : nH0 ≤ 9223372036854775807) (mR0 : nR0 ≤ 9223372036854775807) (hin0Z : SigIn w aoH0 nH0 S0 aoR0 nR0 V0) (mR1 : nR1 ≤ 9223372036854775807) (mH1 : nH1 ≤ 9223372036854775807) (mD1Z : ∀ i, i < nH1 → (Hp1 i).len ≤ 9223372036854775807) (mO1 : nO1 ≤ 9223372036854775807) (hr1Z : InRange R1 nH1 Hp1) (hin1Z : MachIn w aoR1 nR1 R1 aoH1 nH1 Hp1 aoO1 nO1 K1 V1) (mR2 : nR2 ≤ 9223372036854775807) (mH2 : nH2 ≤ 9223372036854775807) (mD2Z : ∀ i, i < nH2 → (Hp2 i).len ≤ 9223372036854775807) (mO2 : nO2 ≤ 9223372036854775807) (hr2Z : InRange R2 nH2 Hp2) (hin2Z : MachIn w aoR2 nR2 R2 aoH2 nH2 Hp2 aoO2 nO2 K2 V2) :
    Calls Try.prog 9 #[.agg #[.slice aoH0 nH0 cH0, .slice aoR0 nR0 cR0], .agg #[.slice aoR1 nR1 capR1, .bool z1, .bool c1, .bool hz1, .bool hc1, .slice aoH1 nH1 capH1, .int .i64 pc1, .int .i64 st1, .slice aoO1 nO1 capO1], .agg #[.slice aoR2 nR2 capR2, .bool z2, .bool c2, .bool hz2, .bool hc2, .slice aoH2 nH2 capH2, .int .i64 pc2, .int .i64 st2, .slice aoO2 nO2 capO2]] w fun e w' => e = .returned (.bool true) ∧ Below w.heap.size w w' := by
  have hin0 : Hid (SigIn w aoH0 nH0 S0 aoR0 nR0 V0) := hin0Z
  have mD1 : Hid (∀ i, i < nH1 → (Hp1 i).len ≤ 9223372036854775807) := mD1Z
  have hr1 : Hid (InRange R1 nH1 Hp1) := hr1Z
  have hin1 : Hid (MachIn w aoR1 nR1 R1 aoH1 nH1 Hp1 aoO1 nO1 K1 V1) := hin1Z
  have mD2 : Hid (∀ i, i < nH2 → (Hp2 i).len ≤ 9223372036854775807) := mD2Z
  have hr2 : Hid (InRange R2 nH2 Hp2) := hr2Z
  have hin2 : Hid (MachIn w aoR2 nR2 R2 aoH2 nH2 Hp2 aoO2 nO2 K2 V2) := hin2Z
  clear hin0Z mD1Z hr1Z hin1Z mD2Z hr2Z hin2Z
  obtain ⟨ok, hok⟩ : ∃ ok, publicOK nH0 S0 nR0 V0 nR1 R1 z1 c1 hz1 hc1 nH1 Hp1 pc1 st1 nO1 K1 nR2 R2 z2 c2 hz2 hc2 nH2 Hp2 pc2 st2 nO2 K2 = ok := ⟨_, rfl⟩
  have hne : (ok != ok) = false := by simp
  have HOK : Hid (publicOK nH0 S0 nR0 V0 nR1 R1 z1 c1 hz1 hc1 nH1 Hp1 pc1 st1 nO1 K1 nR2 R2 z2 c2 hz2 hc2 nH2 Hp2 pc2 st2 nO2 K2 = ok) := hok
  clear hok
  go_enter Try.func9, Try.ntmps9
  go_wp2_with fail
  obtain ⟨u0, hw0, HBu0, P0u0, P1u0, P2u0⟩ : ∃ v, (((w.alloc (.cells #[.slice aoH0 nH0 cH0, .slice aoR0 nR0 cR0] 42)).alloc (.cells #[.slice aoR1 nR1 capR1, .bool z1, .bool c1, .bool hz1, .bool hc1, .slice aoH1 nH1 capH1, .int .i64 pc1, .int .i64 st1, .slice aoO1 nO1 capO1] 55)).alloc (.cells #[.slice aoR2 nR2 capR2, .bool z2, .bool c2, .bool hz2, .bool hc2, .slice aoH2 nH2 capH2, .int .i64 pc2, .int .i64 st2, .slice aoO2 nO2 capO2] 55)) = v ∧ Hid (Below w.heap.size w v) ∧ Hid (Cl v (w.heap.size) [.slice aoH0 nH0 cH0, .slice aoR0 nR0 cR0]) ∧ Hid (Cl v (w.heap.size + 1) [.slice aoR1 nR1 capR1, .bool z1, .bool c1, .bool hz1, .bool hc1, .slice aoH1 nH1 capH1, .int .i64 pc1, .int .i64 st1, .slice aoO1 nO1 capO1]) ∧ Hid (Cl v (w.heap.size + 1 + 1) [.slice aoR2 nR2 capR2, .bool z2, .bool c2, .bool hz2, .bool hc2, .slice aoH2 nH2 capH2, .int .i64 pc2, .int .i64 st2, .slice aoO2 nO2 capO2]) := by
    refine ⟨_, rfl, ?_, ?_, ?_, ?_⟩
    · exact (((Below.refl w.heap.size w).alloc (Nat.le_refl _) _).alloc (by simp) _).alloc (by simp; omega) _
    · exact ((Cl.new).below ((Below.refl _ _).alloc (Nat.le_refl _) _)).below ((Below.refl _ _).alloc (Nat.le_refl _) _)
    · have h := (Cl.new (w := w.alloc (.cells #[.slice aoH0 nH0 cH0, .slice aoR0 nR0 cR0] 42)) (vs := #[.slice aoR1 nR1 capR1, .bool z1, .bool c1, .bool hz1, .bool hc1, .slice aoH1 nH1 capH1, .int .i64 pc1, .int .i64 st1, .slice aoO1 nO1 capO1]) (t := 55)).below ((Below.refl _ _).alloc (Nat.le_refl _) (.cells #[.slice aoR2 nR2 capR2, .bool z2, .bool c2, .bool hz2, .bool hc2, .slice aoH2 nH2 capH2, .int .i64 pc2, .int .i64 st2, .slice aoO2 nO2 capO2] 55))
      simp only [World.size_alloc] at h
      exact h
    · have h := Cl.new (w := (w.alloc (.cells #[.slice aoH0 nH0 cH0, .slice aoR0 nR0 cR0] 42)).alloc (.cells #[.slice aoR1 nR1 capR1, .bool z1, .bool c1, .bool hz1, .bool hc1, .slice aoH1 nH1 capH1, .int .i64 pc1, .int .i64 st1, .slice aoO1 nO1 capO1] 55)) (vs := #[.slice aoR2 nR2 capR2, .bool z2, .bool c2, .bool hz2, .bool hc2, .slice aoH2 nH2 capH2, .int .i64 pc2, .int .i64 st2, .slice aoO2 nO2 capO2]) (t := 55)
      simp only [World.size_alloc] at h
      exact h
  rw [hw0]
  clear hw0
  refine (szSig_any _ _ _ _ _ _ _ _ (by omega) (by omega) mH0 mR0).mono ?_
  rintro e u1 ⟨r0, rfl, hl, hb⟩
  have HBu1 : Hid (Below w.heap.size w u1) := HBu0.out.trans (hb.mono HBu0.out.size)
  have P0u1 : Hid (Cl u1 (w.heap.size) [.slice aoH0 nH0 cH0, .slice aoR0 nR0 cR0]) := P0u0.out.below hb
  have P1u1 : Hid (Cl u1 (w.heap.size + 1) [.slice aoR1 nR1 capR1, .bool z1, .bool c1, .bool hz1, .bool hc1, .slice aoH1 nH1 capH1, .int .i64 pc1, .int .i64 st1, .slice aoO1 nO1 capO1]) := P1u0.out.below hb
  have P2u1 : Hid (Cl u1 (w.heap.size + 1 + 1) [.slice aoR2 nR2 capR2, .bool z2, .bool c2, .bool hz2, .bool hc2, .slice aoH2 nH2 capH2, .int .i64 pc2, .int .i64 st2, .slice aoO2 nO2 capO2]) := P2u0.out.below hb
  clear hb
  rcases hl with rfl | ⟨hr00, hr10, hs⟩
  · go_wp2
    go_ret
    exact ⟨rfl, HBu1.out⟩
  have HS0 : Hid (nH0 ≤ 1048576 ∧ nR0 ≤ 1048576) := hs
  clear hs
  have zP0 : w.heap.size < u1.heap.size := P0u1.out.1
  have cP00 : u1.cell? ⟨w.heap.size, 0, none⟩ = some (.slice aoH0 nH0 cH0) := P0u1.out.2 0 (by simp)
  have cP01 : u1.cell? ⟨w.heap.size, 1, none⟩ = some (.slice aoR0 nR0 cR0) := P0u1.out.2 1 (by simp)
  have zP1 : w.heap.size + 1 < u1.heap.size := P1u1.out.1
  have cP10 : u1.cell? ⟨w.heap.size + 1, 0, none⟩ = some (.slice aoR1 nR1 capR1) := P1u1.out.2 0 (by simp)
  have cP11 : u1.cell? ⟨w.heap.size + 1, 1, none⟩ = some (.bool z1) := P1u1.out.2 1 (by simp)
  have cP12 : u1.cell? ⟨w.heap.size + 1, 2, none⟩ = some (.bool c1) := P1u1.out.2 2 (by simp)
  have cP13 : u1.cell? ⟨w.heap.size + 1, 3, none⟩ = some (.bool hz1) := P1u1.out.2 3 (by simp)
  have cP14 : u1.cell? ⟨w.heap.size + 1, 4, none⟩ = some (.bool hc1) := P1u1.out.2 4 (by simp)
  have cP15 : u1.cell? ⟨w.heap.size + 1, 5, none⟩ = some (.slice aoH1 nH1 capH1) := P1u1.out.2 5 (by simp)
  have cP16 : u1.cell? ⟨w.heap.size + 1, 6, none⟩ = some (.int .i64 pc1) := P1u1.out.2 6 (by simp)
  have cP17 : u1.cell? ⟨w.heap.size + 1, 7, none⟩ = some (.int .i64 st1) := P1u1.out.2 7 (by simp)
  have cP18 : u1.cell? ⟨w.heap.size + 1, 8, none⟩ = some (.slice aoO1 nO1 capO1) := P1u1.out.2 8 (by simp)
  have zP2 : w.heap.size + 1 + 1 < u1.heap.size := P2u1.out.1
  have cP20 : u1.cell? ⟨w.heap.size + 1 + 1, 0, none⟩ = some (.slice aoR2 nR2 capR2) := P2u1.out.2 0 (by simp)
  have cP21 : u1.cell? ⟨w.heap.size + 1 + 1, 1, none⟩ = some (.bool z2) := P2u1.out.2 1 (by simp)
  have cP22 : u1.cell? ⟨w.heap.size + 1 + 1, 2, none⟩ = some (.bool c2) := P2u1.out.2 2 (by simp)
  have cP23 : u1.cell? ⟨w.heap.size + 1 + 1, 3, none⟩ = some (.bool hz2) := P2u1.out.2 3 (by simp)
  have cP24 : u1.cell? ⟨w.heap.size + 1 + 1, 4, none⟩ = some (.bool hc2) := P2u1.out.2 4 (by simp)
  have cP25 : u1.cell? ⟨w.heap.size + 1 + 1, 5, none⟩ = some (.slice aoH2 nH2 capH2) := P2u1.out.2 5 (by simp)
  have cP26 : u1.cell? ⟨w.heap.size + 1 + 1, 6, none⟩ = some (.int .i64 pc2) := P2u1.out.2 6 (by simp)
  have cP27 : u1.cell? ⟨w.heap.size + 1 + 1, 7, none⟩ = some (.int .i64 st2) := P2u1.out.2 7 (by simp)
  have cP28 : u1.cell? ⟨w.heap.size + 1 + 1, 8, none⟩ = some (.slice aoO2 nO2 capO2) := P2u1.out.2 8 (by simp)
  go_wp2_with fail
  refine (szMach_any _ _ _ _ _ _ _ _ _ _ Hp1 _ _ _ _ _ _ _ (by omega) (by omega) mR1 mH1 mD1.out mO1 (hin1.out.heaps.below (HBu1.out) (Nat.le_refl _))).mono ?_
  rintro e u2 ⟨r1, rfl, hl, hb⟩
  have HBu2 : Hid (Below w.heap.size w u2) := HBu1.out.trans (hb.mono HBu1.out.size)
  have P0u2 : Hid (Cl u2 (w.heap.size) [.slice aoH0 nH0 cH0, .slice aoR0 nR0 cR0]) := P0u1.out.below hb
  have P1u2 : Hid (Cl u2 (w.heap.size + 1) [.slice aoR1 nR1 capR1, .bool z1, .bool c1, .bool hz1, .bool hc1, .slice aoH1 nH1 capH1, .int .i64 pc1, .int .i64 st1, .slice aoO1 nO1 capO1]) := P1u1.out.below hb
  have P2u2 : Hid (Cl u2 (w.heap.size + 1 + 1) [.slice aoR2 nR2 capR2, .bool z2, .bool c2, .bool hz2, .bool hc2, .slice aoH2 nH2 capH2, .int .i64 pc2, .int .i64 st2, .slice aoO2 nO2 capO2]) := P2u1.out.below hb
  clear zP0 cP00 cP01 zP1 cP10 cP11 cP12 cP13 cP14 cP15 cP16 cP17 cP18 zP2 cP20 cP21 cP22 cP23 cP24 cP25 cP26 cP27 cP28
  clear hb
  rcases hl with rfl | ⟨hr01, hr11, hs⟩
  · go_wp2
    go_ret
    exact ⟨rfl, HBu2.out⟩
  have HS1 : Hid (Small nR1 nH1 Hp1 nO1) := hs
  clear hs
  have zP0 : w.heap.size < u2.heap.size := P0u2.out.1
  have cP00 : u2.cell? ⟨w.heap.size, 0, none⟩ = some (.slice aoH0 nH0 cH0) := P0u2.out.2 0 (by simp)
  have cP01 : u2.cell? ⟨w.heap.size, 1, none⟩ = some (.slice aoR0 nR0 cR0) := P0u2.out.2 1 (by simp)
  have zP1 : w.heap.size + 1 < u2.heap.size := P1u2.out.1
  have cP10 : u2.cell? ⟨w.heap.size + 1, 0, none⟩ = some (.slice aoR1 nR1 capR1) := P1u2.out.2 0 (by simp)
  have cP11 : u2.cell? ⟨w.heap.size + 1, 1, none⟩ = some (.bool z1) := P1u2.out.2 1 (by simp)
  have cP12 : u2.cell? ⟨w.heap.size + 1, 2, none⟩ = some (.bool c1) := P1u2.out.2 2 (by simp)
  have cP13 : u2.cell? ⟨w.heap.size + 1, 3, none⟩ = some (.bool hz1) := P1u2.out.2 3 (by simp)
  have cP14 : u2.cell? ⟨w.heap.size + 1, 4, none⟩ = some (.bool hc1) := P1u2.out.2 4 (by simp)
  have cP15 : u2.cell? ⟨w.heap.size + 1, 5, none⟩ = some (.slice aoH1 nH1 capH1) := P1u2.out.2 5 (by simp)
  have cP16 : u2.cell? ⟨w.heap.size + 1, 6, none⟩ = some (.int .i64 pc1) := P1u2.out.2 6 (by simp)
  have cP17 : u2.cell? ⟨w.heap.size + 1, 7, none⟩ = some (.int .i64 st1) := P1u2.out.2 7 (by simp)
  have cP18 : u2.cell? ⟨w.heap.size + 1, 8, none⟩ = some (.slice aoO1 nO1 capO1) := P1u2.out.2 8 (by simp)
  have zP2 : w.heap.size + 1 + 1 < u2.heap.size := P2u2.out.1
  have cP20 : u2.cell? ⟨w.heap.size + 1 + 1, 0, none⟩ = some (.slice aoR2 nR2 capR2) := P2u2.out.2 0 (by simp)
  have cP21 : u2.cell? ⟨w.heap.size + 1 + 1, 1, none⟩ = some (.bool z2) := P2u2.out.2 1 (by simp)
  have cP22 : u2.cell? ⟨w.heap.size + 1 + 1, 2, none⟩ = some (.bool c2) := P2u2.out.2 2 (by simp)
  have cP23 : u2.cell? ⟨w.heap.size + 1 + 1, 3, none⟩ = some (.bool hz2) := P2u2.out.2 3 (by simp)
  have cP24 : u2.cell? ⟨w.heap.size + 1 + 1, 4, none⟩ = some (.bool hc2) := P2u2.out.2 4 (by simp)
  have cP25 : u2.cell? ⟨w.heap.size + 1 + 1, 5, none⟩ = some (.slice aoH2 nH2 capH2) := P2u2.out.2 5 (by simp)
  have cP26 : u2.cell? ⟨w.heap.size + 1 + 1, 6, none⟩ = some (.int .i64 pc2) := P2u2.out.2 6 (by simp)
  have cP27 : u2.cell? ⟨w.heap.size + 1 + 1, 7, none⟩ = some (.int .i64 st2) := P2u2.out.2 7 (by simp)
  have cP28 : u2.cell? ⟨w.heap.size + 1 + 1, 8, none⟩ = some (.slice aoO2 nO2 capO2) := P2u2.out.2 8 (by simp)
  go_wp2_with fail
  refine (szMach_any _ _ _ _ _ _ _ _ _ _ Hp2 _ _ _ _ _ _ _ (by omega) (by omega) mR2 mH2 mD2.out mO2 (hin2.out.heaps.below (HBu2.out) (Nat.le_refl _))).mono ?_
  rintro e u3 ⟨r2, rfl, hl, hb⟩
  have HBu3 : Hid (Below w.heap.size w u3) := HBu2.out.trans (hb.mono HBu2.out.size)
  have P0u3 : Hid (Cl u3 (w.heap.size) [.slice aoH0 nH0 cH0, .slice aoR0 nR0 cR0]) := P0u2.out.below hb
  have P1u3 : Hid (Cl u3 (w.heap.size + 1) [.slice aoR1 nR1 capR1, .bool z1, .bool c1, .bool hz1, .bool hc1, .slice aoH1 nH1 capH1, .int .i64 pc1, .int .i64 st1, .slice aoO1 nO1 capO1]) := P1u2.out.below hb
  have P2u3 : Hid (Cl u3 (w.heap.size + 1 + 1) [.slice aoR2 nR2 capR2, .bool z2, .bool c2, .bool hz2, .bool hc2, .slice aoH2 nH2 capH2, .int .i64 pc2, .int .i64 st2, .slice aoO2 nO2 capO2]) := P2u2.out.below hb
  clear zP0 cP00 cP01 zP1 cP10 cP11 cP12 cP13 cP14 cP15 cP16 cP17 cP18 zP2 cP20 cP21 cP22 cP23 cP24 cP25 cP26 cP27 cP28
  clear hb
  rcases hl with rfl | ⟨hr02, hr12, hs⟩
  · go_wp2
    go_ret
    exact ⟨rfl, HBu3.out⟩
  have HS2 : Hid (Small nR2 nH2 Hp2 nO2) := hs
  clear hs
  have zP0 : w.heap.size < u3.heap.size := P0u3.out.1
  have cP00 : u3.cell? ⟨w.heap.size, 0, none⟩ = some (.slice aoH0 nH0 cH0) := P0u3.out.2 0 (by simp)
  have cP01 : u3.cell? ⟨w.heap.size, 1, none⟩ = some (.slice aoR0 nR0 cR0) := P0u3.out.2 1 (by simp)
  have zP1 : w.heap.size + 1 < u3.heap.size := P1u3.out.1
  have cP10 : u3.cell? ⟨w.heap.size + 1, 0, none⟩ = some (.slice aoR1 nR1 capR1) := P1u3.out.2 0 (by simp)
  have cP11 : u3.cell? ⟨w.heap.size + 1, 1, none⟩ = some (.bool z1) := P1u3.out.2 1 (by simp)
  have cP12 : u3.cell? ⟨w.heap.size + 1, 2, none⟩ = some (.bool c1) := P1u3.out.2 2 (by simp)
  have cP13 : u3.cell? ⟨w.heap.size + 1, 3, none⟩ = some (.bool hz1) := P1u3.out.2 3 (by simp)
  have cP14 : u3.cell? ⟨w.heap.size + 1, 4, none⟩ = some (.bool hc1) := P1u3.out.2 4 (by simp)
  have cP15 : u3.cell? ⟨w.heap.size + 1, 5, none⟩ = some (.slice aoH1 nH1 capH1) := P1u3.out.2 5 (by simp)
  have cP16 : u3.cell? ⟨w.heap.size + 1, 6, none⟩ = some (.int .i64 pc1) := P1u3.out.2 6 (by simp)
  have cP17 : u3.cell? ⟨w.heap.size + 1, 7, none⟩ = some (.int .i64 st1) := P1u3.out.2 7 (by simp)
  have cP18 : u3.cell? ⟨w.heap.size + 1, 8, none⟩ = some (.slice aoO1 nO1 capO1) := P1u3.out.2 8 (by simp)
  have zP2 : w.heap.size + 1 + 1 < u3.heap.size := P2u3.out.1
  have cP20 : u3.cell? ⟨w.heap.size + 1 + 1, 0, none⟩ = some (.slice aoR2 nR2 capR2) := P2u3.out.2 0 (by simp)
  have cP21 : u3.cell? ⟨w.heap.size + 1 + 1, 1, none⟩ = some (.bool z2) := P2u3.out.2 1 (by simp)
  have cP22 : u3.cell? ⟨w.heap.size + 1 + 1, 2, none⟩ = some (.bool c2) := P2u3.out.2 2 (by simp)
  have cP23 : u3.cell? ⟨w.heap.size + 1 + 1, 3, none⟩ = some (.bool hz2) := P2u3.out.2 3 (by simp)
  have cP24 : u3.cell? ⟨w.heap.size + 1 + 1, 4, none⟩ = some (.bool hc2) := P2u3.out.2 4 (by simp)
  have cP25 : u3.cell? ⟨w.heap.size + 1 + 1, 5, none⟩ = some (.slice aoH2 nH2 capH2) := P2u3.out.2 5 (by simp)
  have cP26 : u3.cell? ⟨w.heap.size + 1 + 1, 6, none⟩ = some (.int .i64 pc2) := P2u3.out.2 6 (by simp)
  have cP27 : u3.cell? ⟨w.heap.size + 1 + 1, 7, none⟩ = some (.int .i64 st2) := P2u3.out.2 7 (by simp)
  have cP28 : u3.cell? ⟨w.heap.size + 1 + 1, 8, none⟩ = some (.slice aoO2 nO2 capO2) := P2u3.out.2 8 (by simp)
  go_upto_region 11 with fail
  clear zP0 cP00 cP01 zP1 cP10 cP11 cP12 cP13 cP14 cP15 cP16 cP17 cP18 zP2 cP20 cP21 cP22 cP23 cP24 cP25 cP26 cP27 cP28
  have rP00 : ∀ w', Below u3.heap.size u3 w' → w'.cell? ⟨w.heap.size, 0, none⟩ = some (.slice aoH0 nH0 cH0) := fun w' h => (P0u3.out.below h).2 0 (by simp)
  have rP01 : ∀ w', Below u3.heap.size u3 w' → w'.cell? ⟨w.heap.size, 1, none⟩ = some (.slice aoR0 nR0 cR0) := fun w' h => (P0u3.out.below h).2 1 (by simp)
  have rP10 : ∀ w', Below u3.heap.size u3 w' → w'.cell? ⟨w.heap.size + 1, 0, none⟩ = some (.slice aoR1 nR1 capR1) := fun w' h => (P1u3.out.below h).2 0 (by simp)
  have rP11 : ∀ w', Below u3.heap.size u3 w' → w'.cell? ⟨w.heap.size + 1, 1, none⟩ = some (.bool z1) := fun w' h => (P1u3.out.below h).2 1 (by simp)
  have rP12 : ∀ w', Below u3.heap.size u3 w' → w'.cell? ⟨w.heap.size + 1, 2, none⟩ = some (.bool c1) := fun w' h => (P1u3.out.below h).2 2 (by simp)
  have rP13 : ∀ w', Below u3.heap.size u3 w' → w'.cell? ⟨w.heap.size + 1, 3, none⟩ = some (.bool hz1) := fun w' h => (P1u3.out.below h).2 3 (by simp)
  have rP14 : ∀ w', Below u3.heap.size u3 w' → w'.cell? ⟨w.heap.size + 1, 4, none⟩ = some (.bool hc1) := fun w' h => (P1u3.out.below h).2 4 (by simp)
  have rP15 : ∀ w', Below u3.heap.size u3 w' → w'.cell? ⟨w.heap.size + 1, 5, none⟩ = some (.slice aoH1 nH1 capH1) := fun w' h => (P1u3.out.below h).2 5 (by simp)
  have rP16 : ∀ w', Below u3.heap.size u3 w' → w'.cell? ⟨w.heap.size + 1, 6, none⟩ = some (.int .i64 pc1) := fun w' h => (P1u3.out.below h).2 6 (by simp)
  have rP17 : ∀ w', Below u3.heap.size u3 w' → w'.cell? ⟨w.heap.size + 1, 7, none⟩ = some (.int .i64 st1) := fun w' h => (P1u3.out.below h).2 7 (by simp)
  have rP18 : ∀ w', Below u3.heap.size u3 w' → w'.cell? ⟨w.heap.size + 1, 8, none⟩ = some (.slice aoO1 nO1 capO1) := fun w' h => (P1u3.out.below h).2 8 (by simp)
  have rP20 : ∀ w', Below u3.heap.size u3 w' → w'.cell? ⟨w.heap.size + 1 + 1, 0, none⟩ = some (.slice aoR2 nR2 capR2) := fun w' h => (P2u3.out.below h).2 0 (by simp)
  have rP21 : ∀ w', Below u3.heap.size u3 w' → w'.cell? ⟨w.heap.size + 1 + 1, 1, none⟩ = some (.bool z2) := fun w' h => (P2u3.out.below h).2 1 (by simp)
  have rP22 : ∀ w', Below u3.heap.size u3 w' → w'.cell? ⟨w.heap.size + 1 + 1, 2, none⟩ = some (.bool c2) := fun w' h => (P2u3.out.below h).2 2 (by simp)
  have rP23 : ∀ w', Below u3.heap.size u3 w' → w'.cell? ⟨w.heap.size + 1 + 1, 3, none⟩ = some (.bool hz2) := fun w' h => (P2u3.out.below h).2 3 (by simp)
  have rP24 : ∀ w', Below u3.heap.size u3 w' → w'.cell? ⟨w.heap.size + 1 + 1, 4, none⟩ = some (.bool hc2) := fun w' h => (P2u3.out.below h).2 4 (by simp)
  have rP25 : ∀ w', Below u3.heap.size u3 w' → w'.cell? ⟨w.heap.size + 1 + 1, 5, none⟩ = some (.slice aoH2 nH2 capH2) := fun w' h => (P2u3.out.below h).2 5 (by simp)
  have rP26 : ∀ w', Below u3.heap.size u3 w' → w'.cell? ⟨w.heap.size + 1 + 1, 6, none⟩ = some (.int .i64 pc2) := fun w' h => (P2u3.out.below h).2 6 (by simp)
  have rP27 : ∀ w', Below u3.heap.size u3 w' → w'.cell? ⟨w.heap.size + 1 + 1, 7, none⟩ = some (.int .i64 st2) := fun w' h => (P2u3.out.below h).2 7 (by simp)
  have rP28 : ∀ w', Below u3.heap.size u3 w' → w'.cell? ⟨w.heap.size + 1 + 1, 8, none⟩ = some (.slice aoO2 nO2 capO2) := fun w' h => (P2u3.out.below h).2 8 (by simp)
  refine wp_region_held_drew (S := fun w' => Below u3.heap.size u3 w') (by kernel_rfl) (Below.refl _ _).drew (fun _ => ?_)
  obtain ⟨u4, hd, hb⟩ : ∃ v, u3.drew = v ∧ Below u3.heap.size u3 v := ⟨_, rfl, (Below.refl _ _).drew⟩
  rw [hd]
  clear hd
  have HBu4 : Hid (Below w.heap.size w u4) := HBu3.out.trans (hb.mono HBu3.out.size)
  have P0u4 : Hid (Cl u4 (w.heap.size) [.slice aoH0 nH0 cH0, .slice aoR0 nR0 cR0]) := P0u3.out.below hb
  have P1u4 : Hid (Cl u4 (w.heap.size + 1) [.slice aoR1 nR1 capR1, .bool z1, .bool c1, .bool hz1, .bool hc1, .slice aoH1 nH1 capH1, .int .i64 pc1, .int .i64 st1, .slice aoO1 nO1 capO1]) := P1u3.out.below hb
  have P2u4 : Hid (Cl u4 (w.heap.size + 1 + 1) [.slice aoR2 nR2 capR2, .bool z2, .bool c2, .bool hz2, .bool hc2, .slice aoH2 nH2 capH2, .int .i64 pc2, .int .i64 st2, .slice aoO2 nO2 capO2]) := P2u3.out.below hb
  have HEu4 : Hid (Below u3.heap.size u3 u4) := hb
  have hbE := hb
  clear hb
  refine wpAnyH_tk 0 ?q1v rfl ?q1y ?q1r
  case q1y => (intro w hSw; (try dsimp only at hSw); go_simp; try with_reducible rfl)
  try go_frame
  refine wpAnyH_tk 2 ?q2v rfl ?q2y ?q2r
  case q2y => (intro w hSw; (try dsimp only at hSw); go_simp; try with_reducible rfl)
  try go_frame
  refine wpAnyH_tk 4 ?q3v rfl ?q3y ?q3r
  case q3y => (intro w hSw; (try dsimp only at hSw); go_simp; try with_reducible rfl)
  try go_frame
  refine wpAnyH_ready (rs := [1]) (by kernel_rfl) (by simp) ?_
  refine AllReadyH.cons rfl (fun KK hK => ?_) AllReadyH.nil
  go_simp
  refine (toSig_in _ _ _ S0 _ _ _ V0 _ HS0.out.1 HS0.out.2 (hin0.out.below (HBu4.out) (Nat.le_refl _))).mono ?_
  rintro e u5 ⟨bH0s, bR0s, gH0s, gR0s, rfl, hb, hcp⟩
  have HBu5 : Hid (Below w.heap.size w u5) := HBu4.out.trans (hb.mono HBu4.out.size)
  have P0u5 : Hid (Cl u5 (w.heap.size) [.slice aoH0 nH0 cH0, .slice aoR0 nR0 cR0]) := P0u4.out.below hb
  have P1u5 : Hid (Cl u5 (w.heap.size + 1) [.slice aoR1 nR1 capR1, .bool z1, .bool c1, .bool hz1, .bool hc1, .slice aoH1 nH1 capH1, .int .i64 pc1, .int .i64 st1, .slice aoO1 nO1 capO1]) := P1u4.out.below hb
  have P2u5 : Hid (Cl u5 (w.heap.size + 1 + 1) [.slice aoR2 nR2 capR2, .bool z2, .bool c2, .bool hz2, .bool hc2, .slice aoH2 nH2 capH2, .int .i64 pc2, .int .i64 st2, .slice aoO2 nO2 capO2]) := P2u4.out.below hb
  have HEu5 : Hid (Below u3.heap.size u3 u5) := HEu4.out.trans (hb.mono HEu4.out.size)
  have C0 : Hid (SigCp u5 bH0s nH0 S0 bR0s nR0 V0) := hcp
  clear hcp
  clear hb gH0s gR0s
  go_wp2_with fail
  refine hK.out _ _ HEu5.out (fun _ => ?_)
  clear hK KK
  try go_frame
  refine wpAnyH_ready (rs := [3]) (by kernel_rfl) (by simp) ?_
  refine AllReadyH.cons rfl (fun KK hK => ?_) AllReadyH.nil
  go_simp
  refine (toMach_any _ _ _ R1 _ _ _ _ _ _ _ Hp1 _ _ _ _ _ K1 V1 _ HS1.out (hin1.out.below (HBu5.out) (Nat.le_refl _))).mono ?_
  rintro e u6 ⟨bR1s, bH1s, blk1s, bO1s, g1s, rfl, hb, hcp⟩
  have HBu6 : Hid (Below w.heap.size w u6) := HBu5.out.trans (hb.mono HBu5.out.size)
  have P0u6 : Hid (Cl u6 (w.heap.size) [.slice aoH0 nH0 cH0, .slice aoR0 nR0 cR0]) := P0u5.out.below hb
  have P1u6 : Hid (Cl u6 (w.heap.size + 1) [.slice aoR1 nR1 capR1, .bool z1, .bool c1, .bool hz1, .bool hc1, .slice aoH1 nH1 capH1, .int .i64 pc1, .int .i64 st1, .slice aoO1 nO1 capO1]) := P1u5.out.below hb
  have P2u6 : Hid (Cl u6 (w.heap.size + 1 + 1) [.slice aoR2 nR2 capR2, .bool z2, .bool c2, .bool hz2, .bool hc2, .slice aoH2 nH2 capH2, .int .i64 pc2, .int .i64 st2, .slice aoO2 nO2 capO2]) := P2u5.out.below hb
  have C0' : Hid (SigCp u6 bH0s nH0 S0 bR0s nR0 V0) := C0.out.below hb
  clear C0
  have C0 := C0'
  clear C0'
  have HEu6 : Hid (Below u3.heap.size u3 u6) := HEu5.out.trans (hb.mono HEu5.out.size)
  have C1 : Hid (MachCp u6 bR1s nR1 R1 bH1s nH1 Hp1 blk1s bO1s nO1 K1 V1) := hcp
  clear hcp
  clear hb g1s
  go_wp2_with fail
  refine hK.out _ _ HEu6.out (fun _ => ?_)
  clear hK KK
  try go_frame
  refine wpAnyH_ready (rs := [5]) (by kernel_rfl) (by simp) ?_
  refine AllReadyH.cons rfl (fun KK hK => ?_) AllReadyH.nil
  go_simp
  refine (toMach_any _ _ _ R2 _ _ _ _ _ _ _ Hp2 _ _ _ _ _ K2 V2 _ HS2.out (hin2.out.below (HBu6.out) (Nat.le_refl _))).mono ?_
  rintro e u7 ⟨bR2s, bH2s, blk2s, bO2s, g2s, rfl, hb, hcp⟩
  have HBu7 : Hid (Below w.heap.size w u7) := HBu6.out.trans (hb.mono HBu6.out.size)
  have P0u7 : Hid (Cl u7 (w.heap.size) [.slice aoH0 nH0 cH0, .slice aoR0 nR0 cR0]) := P0u6.out.below hb
  have P1u7 : Hid (Cl u7 (w.heap.size + 1) [.slice aoR1 nR1 capR1, .bool z1, .bool c1, .bool hz1, .bool hc1, .slice aoH1 nH1 capH1, .int .i64 pc1, .int .i64 st1, .slice aoO1 nO1 capO1]) := P1u6.out.below hb
  have P2u7 : Hid (Cl u7 (w.heap.size + 1 + 1) [.slice aoR2 nR2 capR2, .bool z2, .bool c2, .bool hz2, .bool hc2, .slice aoH2 nH2 capH2, .int .i64 pc2, .int .i64 st2, .slice aoO2 nO2 capO2]) := P2u6.out.below hb
  have C0' : Hid (SigCp u7 bH0s nH0 S0 bR0s nR0 V0) := C0.out.below hb
  clear C0
  have C0 := C0'
  clear C0'
  have C1' : Hid (MachCp u7 bR1s nR1 R1 bH1s nH1 Hp1 blk1s bO1s nO1 K1 V1) := C1.out.below hb (Nat.le_refl _)
  clear C1
  have C1 := C1'
  clear C1'
  have HEu7 : Hid (Below u3.heap.size u3 u7) := HEu6.out.trans (hb.mono HEu6.out.size)
  have C2 : Hid (MachCp u7 bR2s nR2 R2 bH2s nH2 Hp2 blk2s bO2s nO2 K2 V2) := hcp
  clear hcp
  clear hb g2s
  go_wp2_with fail
  refine hK.out _ _ HEu7.out (fun _ => ?_)
  clear hK KK
  try go_frame
  refine wpAnyH_ready (rs := [6]) (by kernel_rfl) (by simp) ?_
  refine AllReadyH.cons rfl (fun KK hK => ?_) AllReadyH.nil
  go_simp
  refine (specPublic_any _ _ _ S0 _ _ _ V0 _ _ R1 _ _ _ _ _ _ Hp1 _ _ _ _ _ K1 V1 _ _ R2 _ _ _ _ _ _ Hp2 _ _ _ _ _ K2 V2 _ HS0.out.1 HS0.out.2 HS1.out HS2.out hr1.out hr2.out (C0.out) (C1.out) (C2.out)).mono ?_
  rintro e u8 ⟨rfl, hb⟩
  have HBu8 : Hid (Below w.heap.size w u8) := HBu7.out.trans (hb.mono HBu7.out.size)
  have P0u8 : Hid (Cl u8 (w.heap.size) [.slice aoH0 nH0 cH0, .slice aoR0 nR0 cR0]) := P0u7.out.below hb
  have P1u8 : Hid (Cl u8 (w.heap.size + 1) [.slice aoR1 nR1 capR1, .bool z1, .bool c1, .bool hz1, .bool hc1, .slice aoH1 nH1 capH1, .int .i64 pc1, .int .i64 st1, .slice aoO1 nO1 capO1]) := P1u7.out.below hb
  have P2u8 : Hid (Cl u8 (w.heap.size + 1 + 1) [.slice aoR2 nR2 capR2, .bool z2, .bool c2, .bool hz2, .bool hc2, .slice aoH2 nH2 capH2, .int .i64 pc2, .int .i64 st2, .slice aoO2 nO2 capO2]) := P2u7.out.below hb
  have C0' : Hid (SigCp u8 bH0s nH0 S0 bR0s nR0 V0) := C0.out.below hb
  clear C0
  have C0 := C0'
  clear C0'
  have C1' : Hid (MachCp u8 bR1s nR1 R1 bH1s nH1 Hp1 blk1s bO1s nO1 K1 V1) := C1.out.below hb (Nat.le_refl _)
  clear C1
  have C1 := C1'
  clear C1'
  have C2' : Hid (MachCp u8 bR2s nR2 R2 bH2s nH2 Hp2 blk2s bO2s nO2 K2 V2) := C2.out.below hb (Nat.le_refl _)
  clear C2
  have C2 := C2'
  clear C2'
  have HEu8 : Hid (Below u3.heap.size u3 u8) := HEu7.out.trans (hb.mono HEu7.out.size)
  clear hb
  go_wp2_with fail
  refine hK.out _ _ HEu8.out (fun _ => ?_)
  clear hK KK
  try go_frame
  rw [HOK.out]
  refine wpAnyH_tk 7 ?q4v rfl ?q4y ?q4r
  case q4y => (intro w hSw; (try dsimp only at hSw); go_simp; try with_reducible rfl)
  try go_frame
  refine wpAnyH_done (by kernel_rfl) ?_ _
  clear hbE rP00 rP01 rP10 rP11 rP12 rP13 rP14 rP15 rP16 rP17 rP18 rP20 rP21 rP22 rP23 rP24 rP25 rP26 rP27 rP28 C0 C1 C2
  have zP0 : w.heap.size < u8.heap.size := P0u8.out.1
  have cP00 : u8.cell? ⟨w.heap.size, 0, none⟩ = some (.slice aoH0 nH0 cH0) := P0u8.out.2 0 (by simp)
  have cP01 : u8.cell? ⟨w.heap.size, 1, none⟩ = some (.slice aoR0 nR0 cR0) := P0u8.out.2 1 (by simp)
  have zP1 : w.heap.size + 1 < u8.heap.size := P1u8.out.1
  have cP10 : u8.cell? ⟨w.heap.size + 1, 0, none⟩ = some (.slice aoR1 nR1 capR1) := P1u8.out.2 0 (by simp)
  have cP11 : u8.cell? ⟨w.heap.size + 1, 1, none⟩ = some (.bool z1) := P1u8.out.2 1 (by simp)
  have cP12 : u8.cell? ⟨w.heap.size + 1, 2, none⟩ = some (.bool c1) := P1u8.out.2 2 (by simp)
  have cP13 : u8.cell? ⟨w.heap.size + 1, 3, none⟩ = some (.bool hz1) := P1u8.out.2 3 (by simp)
  have cP14 : u8.cell? ⟨w.heap.size + 1, 4, none⟩ = some (.bool hc1) := P1u8.out.2 4 (by simp)
  have cP15 : u8.cell? ⟨w.heap.size + 1, 5, none⟩ = some (.slice aoH1 nH1 capH1) := P1u8.out.2 5 (by simp)
  have cP16 : u8.cell? ⟨w.heap.size + 1, 6, none⟩ = some (.int .i64 pc1) := P1u8.out.2 6 (by simp)
  have cP17 : u8.cell? ⟨w.heap.size + 1, 7, none⟩ = some (.int .i64 st1) := P1u8.out.2 7 (by simp)
  have cP18 : u8.cell? ⟨w.heap.size + 1, 8, none⟩ = some (.slice aoO1 nO1 capO1) := P1u8.out.2 8 (by simp)
  have zP2 : w.heap.size + 1 + 1 < u8.heap.size := P2u8.out.1
  have cP20 : u8.cell? ⟨w.heap.size + 1 + 1, 0, none⟩ = some (.slice aoR2 nR2 capR2) := P2u8.out.2 0 (by simp)
  have cP21 : u8.cell? ⟨w.heap.size + 1 + 1, 1, none⟩ = some (.bool z2) := P2u8.out.2 1 (by simp)
  have cP22 : u8.cell? ⟨w.heap.size + 1 + 1, 2, none⟩ = some (.bool c2) := P2u8.out.2 2 (by simp)
  have cP23 : u8.cell? ⟨w.heap.size + 1 + 1, 3, none⟩ = some (.bool hz2) := P2u8.out.2 3 (by simp)
  have cP24 : u8.cell? ⟨w.heap.size + 1 + 1, 4, none⟩ = some (.bool hc2) := P2u8.out.2 4 (by simp)
  have cP25 : u8.cell? ⟨w.heap.size + 1 + 1, 5, none⟩ = some (.slice aoH2 nH2 capH2) := P2u8.out.2 5 (by simp)
  have cP26 : u8.cell? ⟨w.heap.size + 1 + 1, 6, none⟩ = some (.int .i64 pc2) := P2u8.out.2 6 (by simp)
  have cP27 : u8.cell? ⟨w.heap.size + 1 + 1, 7, none⟩ = some (.int .i64 st2) := P2u8.out.2 7 (by simp)
  have cP28 : u8.cell? ⟨w.heap.size + 1 + 1, 8, none⟩ = some (.slice aoO2 nO2 capO2) := P2u8.out.2 8 (by simp)
  go_wp2_with fail
  refine (toSig_in _ _ _ S0 _ _ _ V0 _ HS0.out.1 HS0.out.2 (hin0.out.below (HBu8.out) (Nat.le_refl _))).mono ?_
  rintro e u9 ⟨bH0x, bR0x, gH0x, gR0x, rfl, hb, hcp⟩
  have HBu9 : Hid (Below w.heap.size w u9) := HBu8.out.trans (hb.mono HBu8.out.size)
  have P0u9 : Hid (Cl u9 (w.heap.size) [.slice aoH0 nH0 cH0, .slice aoR0 nR0 cR0]) := P0u8.out.below hb
  have P1u9 : Hid (Cl u9 (w.heap.size + 1) [.slice aoR1 nR1 capR1, .bool z1, .bool c1, .bool hz1, .bool hc1, .slice aoH1 nH1 capH1, .int .i64 pc1, .int .i64 st1, .slice aoO1 nO1 capO1]) := P1u8.out.below hb
  have P2u9 : Hid (Cl u9 (w.heap.size + 1 + 1) [.slice aoR2 nR2 capR2, .bool z2, .bool c2, .bool hz2, .bool hc2, .slice aoH2 nH2 capH2, .int .i64 pc2, .int .i64 st2, .slice aoO2 nO2 capO2]) := P2u8.out.below hb
  clear zP0 cP00 cP01 zP1 cP10 cP11 cP12 cP13 cP14 cP15 cP16 cP17 cP18 zP2 cP20 cP21 cP22 cP23 cP24 cP25 cP26 cP27 cP28
  have C0 : Hid (SigCp u9 bH0x nH0 S0 bR0x nR0 V0) := hcp
  clear hcp
  clear gH0x gR0x
  clear hb
  have zP0 : w.heap.size < u9.heap.size := P0u9.out.1
  have cP00 : u9.cell? ⟨w.heap.size, 0, none⟩ = some (.slice aoH0 nH0 cH0) := P0u9.out.2 0 (by simp)
  have cP01 : u9.cell? ⟨w.heap.size, 1, none⟩ = some (.slice aoR0 nR0 cR0) := P0u9.out.2 1 (by simp)
  have zP1 : w.heap.size + 1 < u9.heap.size := P1u9.out.1
  have cP10 : u9.cell? ⟨w.heap.size + 1, 0, none⟩ = some (.slice aoR1 nR1 capR1) := P1u9.out.2 0 (by simp)
  have cP11 : u9.cell? ⟨w.heap.size + 1, 1, none⟩ = some (.bool z1) := P1u9.out.2 1 (by simp)
  have cP12 : u9.cell? ⟨w.heap.size + 1, 2, none⟩ = some (.bool c1) := P1u9.out.2 2 (by simp)
  have cP13 : u9.cell? ⟨w.heap.size + 1, 3, none⟩ = some (.bool hz1) := P1u9.out.2 3 (by simp)
  have cP14 : u9.cell? ⟨w.heap.size + 1, 4, none⟩ = some (.bool hc1) := P1u9.out.2 4 (by simp)
  have cP15 : u9.cell? ⟨w.heap.size + 1, 5, none⟩ = some (.slice aoH1 nH1 capH1) := P1u9.out.2 5 (by simp)
  have cP16 : u9.cell? ⟨w.heap.size + 1, 6, none⟩ = some (.int .i64 pc1) := P1u9.out.2 6 (by simp)
  have cP17 : u9.cell? ⟨w.heap.size + 1, 7, none⟩ = some (.int .i64 st1) := P1u9.out.2 7 (by simp)
  have cP18 : u9.cell? ⟨w.heap.size + 1, 8, none⟩ = some (.slice aoO1 nO1 capO1) := P1u9.out.2 8 (by simp)
  have zP2 : w.heap.size + 1 + 1 < u9.heap.size := P2u9.out.1
  have cP20 : u9.cell? ⟨w.heap.size + 1 + 1, 0, none⟩ = some (.slice aoR2 nR2 capR2) := P2u9.out.2 0 (by simp)
  have cP21 : u9.cell? ⟨w.heap.size + 1 + 1, 1, none⟩ = some (.bool z2) := P2u9.out.2 1 (by simp)
  have cP22 : u9.cell? ⟨w.heap.size + 1 + 1, 2, none⟩ = some (.bool c2) := P2u9.out.2 2 (by simp)
  have cP23 : u9.cell? ⟨w.heap.size + 1 + 1, 3, none⟩ = some (.bool hz2) := P2u9.out.2 3 (by simp)
  have cP24 : u9.cell? ⟨w.heap.size + 1 + 1, 4, none⟩ = some (.bool hc2) := P2u9.out.2 4 (by simp)
  have cP25 : u9.cell? ⟨w.heap.size + 1 + 1, 5, none⟩ = some (.slice aoH2 nH2 capH2) := P2u9.out.2 5 (by simp)
  have cP26 : u9.cell? ⟨w.heap.size + 1 + 1, 6, none⟩ = some (.int .i64 pc2) := P2u9.out.2 6 (by simp)
  have cP27 : u9.cell? ⟨w.heap.size + 1 + 1, 7, none⟩ = some (.int .i64 st2) := P2u9.out.2 7 (by simp)
  have cP28 : u9.cell? ⟨w.heap.size + 1 + 1, 8, none⟩ = some (.slice aoO2 nO2 capO2) := P2u9.out.2 8 (by simp)
  go_wp2_with fail
  obtain ⟨u10, hv, hb, hx⟩ : ∃ v, u9.alloc (.cells #[.slice (some ⟨bH0x, 0, none⟩) nH0 nH0, .slice (some ⟨bR0x, 0, none⟩) nR0 nR0] 48) = v ∧ Below u9.heap.size u9 v ∧ Cl v u9.heap.size [.slice (some ⟨bH0x, 0, none⟩) nH0 nH0, .slice (some ⟨bR0x, 0, none⟩) nR0 nR0] := ⟨_, rfl, (Below.refl _ _).alloc (Nat.le_refl _) _, Cl.new⟩
  rw [hv]
  clear hv
  have HBu10 : Hid (Below w.heap.size w u10) := HBu9.out.trans (hb.mono HBu9.out.size)
  have P0u10 : Hid (Cl u10 (w.heap.size) [.slice aoH0 nH0 cH0, .slice aoR0 nR0 cR0]) := P0u9.out.below hb
  have P1u10 : Hid (Cl u10 (w.heap.size + 1) [.slice aoR1 nR1 capR1, .bool z1, .bool c1, .bool hz1, .bool hc1, .slice aoH1 nH1 capH1, .int .i64 pc1, .int .i64 st1, .slice aoO1 nO1 capO1]) := P1u9.out.below hb
  have P2u10 : Hid (Cl u10 (w.heap.size + 1 + 1) [.slice aoR2 nR2 capR2, .bool z2, .bool c2, .bool hz2, .bool hc2, .slice aoH2 nH2 capH2, .int .i64 pc2, .int .i64 st2, .slice aoO2 nO2 capO2]) := P2u9.out.below hb
  have C0' : Hid (SigCp u10 bH0x nH0 S0 bR0x nR0 V0) := C0.out.below hb
  clear C0
  have C0 := C0'
  clear C0'
  clear zP0 cP00 cP01 zP1 cP10 cP11 cP12 cP13 cP14 cP15 cP16 cP17 cP18 zP2 cP20 cP21 cP22 cP23 cP24 cP25 cP26 cP27 cP28
  have X0u10 : Hid (Cl u10 u9.heap.size [.slice (some ⟨bH0x, 0, none⟩) nH0 nH0, .slice (some ⟨bR0x, 0, none⟩) nR0 nR0]) := hx
  clear hx hb
  refine (toMach_any _ _ _ R1 _ _ _ _ _ _ _ Hp1 _ _ _ _ _ K1 V1 _ HS1.out (hin1.out.below (HBu10.out) (Nat.le_refl _))).mono ?_
  rintro e u11 ⟨bR1x, bH1x, blk1x, bO1x, g1x, rfl, hb, hcp⟩
  have HBu11 : Hid (Below w.heap.size w u11) := HBu10.out.trans (hb.mono HBu10.out.size)
  have P0u11 : Hid (Cl u11 (w.heap.size) [.slice aoH0 nH0 cH0, .slice aoR0 nR0 cR0]) := P0u10.out.below hb
  have P1u11 : Hid (Cl u11 (w.heap.size + 1) [.slice aoR1 nR1 capR1, .bool z1, .bool c1, .bool hz1, .bool hc1, .slice aoH1 nH1 capH1, .int .i64 pc1, .int .i64 st1, .slice aoO1 nO1 capO1]) := P1u10.out.below hb
  have P2u11 : Hid (Cl u11 (w.heap.size + 1 + 1) [.slice aoR2 nR2 capR2, .bool z2, .bool c2, .bool hz2, .bool hc2, .slice aoH2 nH2 capH2, .int .i64 pc2, .int .i64 st2, .slice aoO2 nO2 capO2]) := P2u10.out.below hb
  have X0u11 : Hid (Cl u11 (u9.heap.size) [.slice (some ⟨bH0x, 0, none⟩) nH0 nH0, .slice (some ⟨bR0x, 0, none⟩) nR0 nR0]) := X0u10.out.below hb
  have C0' : Hid (SigCp u11 bH0x nH0 S0 bR0x nR0 V0) := C0.out.below hb
  clear C0
  have C0 := C0'
  clear C0'
  have C1 : Hid (MachCp u11 bR1x nR1 R1 bH1x nH1 Hp1 blk1x bO1x nO1 K1 V1) := hcp
  clear hcp
  clear g1x
  clear hb
  have zP0 : w.heap.size < u11.heap.size := P0u11.out.1
  have cP00 : u11.cell? ⟨w.heap.size, 0, none⟩ = some (.slice aoH0 nH0 cH0) := P0u11.out.2 0 (by simp)
  have cP01 : u11.cell? ⟨w.heap.size, 1, none⟩ = some (.slice aoR0 nR0 cR0) := P0u11.out.2 1 (by simp)
  have zP1 : w.heap.size + 1 < u11.heap.size := P1u11.out.1
  have cP10 : u11.cell? ⟨w.heap.size + 1, 0, none⟩ = some (.slice aoR1 nR1 capR1) := P1u11.out.2 0 (by simp)
  have cP11 : u11.cell? ⟨w.heap.size + 1, 1, none⟩ = some (.bool z1) := P1u11.out.2 1 (by simp)
  have cP12 : u11.cell? ⟨w.heap.size + 1, 2, none⟩ = some (.bool c1) := P1u11.out.2 2 (by simp)
  have cP13 : u11.cell? ⟨w.heap.size + 1, 3, none⟩ = some (.bool hz1) := P1u11.out.2 3 (by simp)
  have cP14 : u11.cell? ⟨w.heap.size + 1, 4, none⟩ = some (.bool hc1) := P1u11.out.2 4 (by simp)
  have cP15 : u11.cell? ⟨w.heap.size + 1, 5, none⟩ = some (.slice aoH1 nH1 capH1) := P1u11.out.2 5 (by simp)
  have cP16 : u11.cell? ⟨w.heap.size + 1, 6, none⟩ = some (.int .i64 pc1) := P1u11.out.2 6 (by simp)
  have cP17 : u11.cell? ⟨w.heap.size + 1, 7, none⟩ = some (.int .i64 st1) := P1u11.out.2 7 (by simp)
  have cP18 : u11.cell? ⟨w.heap.size + 1, 8, none⟩ = some (.slice aoO1 nO1 capO1) := P1u11.out.2 8 (by simp)
  have zP2 : w.heap.size + 1 + 1 < u11.heap.size := P2u11.out.1
  have cP20 : u11.cell? ⟨w.heap.size + 1 + 1, 0, none⟩ = some (.slice aoR2 nR2 capR2) := P2u11.out.2 0 (by simp)
  have cP21 : u11.cell? ⟨w.heap.size + 1 + 1, 1, none⟩ = some (.bool z2) := P2u11.out.2 1 (by simp)
  have cP22 : u11.cell? ⟨w.heap.size + 1 + 1, 2, none⟩ = some (.bool c2) := P2u11.out.2 2 (by simp)
  have cP23 : u11.cell? ⟨w.heap.size + 1 + 1, 3, none⟩ = some (.bool hz2) := P2u11.out.2 3 (by simp)
  have cP24 : u11.cell? ⟨w.heap.size + 1 + 1, 4, none⟩ = some (.bool hc2) := P2u11.out.2 4 (by simp)
  have cP25 : u11.cell? ⟨w.heap.size + 1 + 1, 5, none⟩ = some (.slice aoH2 nH2 capH2) := P2u11.out.2 5 (by simp)
  have cP26 : u11.cell? ⟨w.heap.size + 1 + 1, 6, none⟩ = some (.int .i64 pc2) := P2u11.out.2 6 (by simp)
  have cP27 : u11.cell? ⟨w.heap.size + 1 + 1, 7, none⟩ = some (.int .i64 st2) := P2u11.out.2 7 (by simp)
  have cP28 : u11.cell? ⟨w.heap.size + 1 + 1, 8, none⟩ = some (.slice aoO2 nO2 capO2) := P2u11.out.2 8 (by simp)
  have zX0 : u9.heap.size < u11.heap.size := X0u11.out.1
  have cX00 : u11.cell? ⟨u9.heap.size, 0, none⟩ = some (.slice (some ⟨bH0x, 0, none⟩) nH0 nH0) := X0u11.out.2 0 (by simp)
  have cX01 : u11.cell? ⟨u9.heap.size, 1, none⟩ = some (.slice (some ⟨bR0x, 0, none⟩) nR0 nR0) := X0u11.out.2 1 (by simp)
  go_wp2_with fail
  obtain ⟨u12, hv, hb, hx⟩ : ∃ v, u11.alloc (.cells #[.slice (some ⟨bR1x, 0, none⟩) nR1 nR1, .bool z1, .bool c1, .bool hz1, .bool hc1, .slice (some ⟨bH1x, 0, none⟩) nH1 nH1, .int .i64 pc1, .int .i64 st1, .slice (some ⟨bO1x, 0, none⟩) nO1 nO1] 35) = v ∧ Below u11.heap.size u11 v ∧ Cl v u11.heap.size [.slice (some ⟨bR1x, 0, none⟩) nR1 nR1, .bool z1, .bool c1, .bool hz1, .bool hc1, .slice (some ⟨bH1x, 0, none⟩) nH1 nH1, .int .i64 pc1, .int .i64 st1, .slice (some ⟨bO1x, 0, none⟩) nO1 nO1] := ⟨_, rfl, (Below.refl _ _).alloc (Nat.le_refl _) _, Cl.new⟩
  rw [hv]
  clear hv
  have HBu12 : Hid (Below w.heap.size w u12) := HBu11.out.trans (hb.mono HBu11.out.size)
  have P0u12 : Hid (Cl u12 (w.heap.size) [.slice aoH0 nH0 cH0, .slice aoR0 nR0 cR0]) := P0u11.out.below hb
  have P1u12 : Hid (Cl u12 (w.heap.size + 1) [.slice aoR1 nR1 capR1, .bool z1, .bool c1, .bool hz1, .bool hc1, .slice aoH1 nH1 capH1, .int .i64 pc1, .int .i64 st1, .slice aoO1 nO1 capO1]) := P1u11.out.below hb
  have P2u12 : Hid (Cl u12 (w.heap.size + 1 + 1) [.slice aoR2 nR2 capR2, .bool z2, .bool c2, .bool hz2, .bool hc2, .slice aoH2 nH2 capH2, .int .i64 pc2, .int .i64 st2, .slice aoO2 nO2 capO2]) := P2u11.out.below hb
  have X0u12 : Hid (Cl u12 (u9.heap.size) [.slice (some ⟨bH0x, 0, none⟩) nH0 nH0, .slice (some ⟨bR0x, 0, none⟩) nR0 nR0]) := X0u11.out.below hb
  have C0' : Hid (SigCp u12 bH0x nH0 S0 bR0x nR0 V0) := C0.out.below hb
  clear C0
  have C0 := C0'
  clear C0'
  have C1' : Hid (MachCp u12 bR1x nR1 R1 bH1x nH1 Hp1 blk1x bO1x nO1 K1 V1) := C1.out.below hb (Nat.le_refl _)
  clear C1
  have C1 := C1'
  clear C1'
  clear zP0 cP00 cP01 zP1 cP10 cP11 cP12 cP13 cP14 cP15 cP16 cP17 cP18 zP2 cP20 cP21 cP22 cP23 cP24 cP25 cP26 cP27 cP28 zX0 cX00 cX01
  have X1u12 : Hid (Cl u12 u11.heap.size [.slice (some ⟨bR1x, 0, none⟩) nR1 nR1, .bool z1, .bool c1, .bool hz1, .bool hc1, .slice (some ⟨bH1x, 0, none⟩) nH1 nH1, .int .i64 pc1, .int .i64 st1, .slice (some ⟨bO1x, 0, none⟩) nO1 nO1]) := hx
  clear hx hb
  refine (toMach_any _ _ _ R2 _ _ _ _ _ _ _ Hp2 _ _ _ _ _ K2 V2 _ HS2.out (hin2.out.below (HBu12.out) (Nat.le_refl _))).mono ?_
  rintro e u13 ⟨bR2x, bH2x, blk2x, bO2x, g2x, rfl, hb, hcp⟩
  have HBu13 : Hid (Below w.heap.size w u13) := HBu12.out.trans (hb.mono HBu12.out.size)
  have P0u13 : Hid (Cl u13 (w.heap.size) [.slice aoH0 nH0 cH0, .slice aoR0 nR0 cR0]) := P0u12.out.below hb
  have P1u13 : Hid (Cl u13 (w.heap.size + 1) [.slice aoR1 nR1 capR1, .bool z1, .bool c1, .bool hz1, .bool hc1, .slice aoH1 nH1 capH1, .int .i64 pc1, .int .i64 st1, .slice aoO1 nO1 capO1]) := P1u12.out.below hb
  have P2u13 : Hid (Cl u13 (w.heap.size + 1 + 1) [.slice aoR2 nR2 capR2, .bool z2, .bool c2, .bool hz2, .bool hc2, .slice aoH2 nH2 capH2, .int .i64 pc2, .int .i64 st2, .slice aoO2 nO2 capO2]) := P2u12.out.below hb
  have X0u13 : Hid (Cl u13 (u9.heap.size) [.slice (some ⟨bH0x, 0, none⟩) nH0 nH0, .slice (some ⟨bR0x, 0, none⟩) nR0 nR0]) := X0u12.out.below hb
  have X1u13 : Hid (Cl u13 (u11.heap.size) [.slice (some ⟨bR1x, 0, none⟩) nR1 nR1, .bool z1, .bool c1, .bool hz1, .bool hc1, .slice (some ⟨bH1x, 0, none⟩) nH1 nH1, .int .i64 pc1, .int .i64 st1, .slice (some ⟨bO1x, 0, none⟩) nO1 nO1]) := X1u12.out.below hb
  have C0' : Hid (SigCp u13 bH0x nH0 S0 bR0x nR0 V0) := C0.out.below hb
  clear C0
  have C0 := C0'
  clear C0'
  have C1' : Hid (MachCp u13 bR1x nR1 R1 bH1x nH1 Hp1 blk1x bO1x nO1 K1 V1) := C1.out.below hb (Nat.le_refl _)
  clear C1
  have C1 := C1'
  clear C1'
  have C2 : Hid (MachCp u13 bR2x nR2 R2 bH2x nH2 Hp2 blk2x bO2x nO2 K2 V2) := hcp
  clear hcp
  clear g2x
  clear hb
  have zP0 : w.heap.size < u13.heap.size := P0u13.out.1
  have cP00 : u13.cell? ⟨w.heap.size, 0, none⟩ = some (.slice aoH0 nH0 cH0) := P0u13.out.2 0 (by simp)
  have cP01 : u13.cell? ⟨w.heap.size, 1, none⟩ = some (.slice aoR0 nR0 cR0) := P0u13.out.2 1 (by simp)
  have zP1 : w.heap.size + 1 < u13.heap.size := P1u13.out.1
  have cP10 : u13.cell? ⟨w.heap.size + 1, 0, none⟩ = some (.slice aoR1 nR1 capR1) := P1u13.out.2 0 (by simp)
  have cP11 : u13.cell? ⟨w.heap.size + 1, 1, none⟩ = some (.bool z1) := P1u13.out.2 1 (by simp)
  have cP12 : u13.cell? ⟨w.heap.size + 1, 2, none⟩ = some (.bool c1) := P1u13.out.2 2 (by simp)
  have cP13 : u13.cell? ⟨w.heap.size + 1, 3, none⟩ = some (.bool hz1) := P1u13.out.2 3 (by simp)
  have cP14 : u13.cell? ⟨w.heap.size + 1, 4, none⟩ = some (.bool hc1) := P1u13.out.2 4 (by simp)
  have cP15 : u13.cell? ⟨w.heap.size + 1, 5, none⟩ = some (.slice aoH1 nH1 capH1) := P1u13.out.2 5 (by simp)
  have cP16 : u13.cell? ⟨w.heap.size + 1, 6, none⟩ = some (.int .i64 pc1) := P1u13.out.2 6 (by simp)
  have cP17 : u13.cell? ⟨w.heap.size + 1, 7, none⟩ = some (.int .i64 st1) := P1u13.out.2 7 (by simp)
  have cP18 : u13.cell? ⟨w.heap.size + 1, 8, none⟩ = some (.slice aoO1 nO1 capO1) := P1u13.out.2 8 (by simp)
  have zP2 : w.heap.size + 1 + 1 < u13.heap.size := P2u13.out.1
  have cP20 : u13.cell? ⟨w.heap.size + 1 + 1, 0, none⟩ = some (.slice aoR2 nR2 capR2) := P2u13.out.2 0 (by simp)
  have cP21 : u13.cell? ⟨w.heap.size + 1 + 1, 1, none⟩ = some (.bool z2) := P2u13.out.2 1 (by simp)
  have cP22 : u13.cell? ⟨w.heap.size + 1 + 1, 2, none⟩ = some (.bool c2) := P2u13.out.2 2 (by simp)
  have cP23 : u13.cell? ⟨w.heap.size + 1 + 1, 3, none⟩ = some (.bool hz2) := P2u13.out.2 3 (by simp)
  have cP24 : u13.cell? ⟨w.heap.size + 1 + 1, 4, none⟩ = some (.bool hc2) := P2u13.out.2 4 (by simp)
  have cP25 : u13.cell? ⟨w.heap.size + 1 + 1, 5, none⟩ = some (.slice aoH2 nH2 capH2) := P2u13.out.2 5 (by simp)
  have cP26 : u13.cell? ⟨w.heap.size + 1 + 1, 6, none⟩ = some (.int .i64 pc2) := P2u13.out.2 6 (by simp)
  have cP27 : u13.cell? ⟨w.heap.size + 1 + 1, 7, none⟩ = some (.int .i64 st2) := P2u13.out.2 7 (by simp)
  have cP28 : u13.cell? ⟨w.heap.size + 1 + 1, 8, none⟩ = some (.slice aoO2 nO2 capO2) := P2u13.out.2 8 (by simp)
  have zX0 : u9.heap.size < u13.heap.size := X0u13.out.1
  have cX00 : u13.cell? ⟨u9.heap.size, 0, none⟩ = some (.slice (some ⟨bH0x, 0, none⟩) nH0 nH0) := X0u13.out.2 0 (by simp)
  have cX01 : u13.cell? ⟨u9.heap.size, 1, none⟩ = some (.slice (some ⟨bR0x, 0, none⟩) nR0 nR0) := X0u13.out.2 1 (by simp)
  have zX1 : u11.heap.size < u13.heap.size := X1u13.out.1
  have cX10 : u13.cell? ⟨u11.heap.size, 0, none⟩ = some (.slice (some ⟨bR1x, 0, none⟩) nR1 nR1) := X1u13.out.2 0 (by simp)
  have cX11 : u13.cell? ⟨u11.heap.size, 1, none⟩ = some (.bool z1) := X1u13.out.2 1 (by simp)
  have cX12 : u13.cell? ⟨u11.heap.size, 2, none⟩ = some (.bool c1) := X1u13.out.2 2 (by simp)
  have cX13 : u13.cell? ⟨u11.heap.size, 3, none⟩ = some (.bool hz1) := X1u13.out.2 3 (by simp)
  have cX14 : u13.cell? ⟨u11.heap.size, 4, none⟩ = some (.bool hc1) := X1u13.out.2 4 (by simp)
  have cX15 : u13.cell? ⟨u11.heap.size, 5, none⟩ = some (.slice (some ⟨bH1x, 0, none⟩) nH1 nH1) := X1u13.out.2 5 (by simp)
  have cX16 : u13.cell? ⟨u11.heap.size, 6, none⟩ = some (.int .i64 pc1) := X1u13.out.2 6 (by simp)
  have cX17 : u13.cell? ⟨u11.heap.size, 7, none⟩ = some (.int .i64 st1) := X1u13.out.2 7 (by simp)
  have cX18 : u13.cell? ⟨u11.heap.size, 8, none⟩ = some (.slice (some ⟨bO1x, 0, none⟩) nO1 nO1) := X1u13.out.2 8 (by simp)
  go_wp2_with fail
  obtain ⟨u14, hv, hb, hx⟩ : ∃ v, u13.alloc (.cells #[.slice (some ⟨bR2x, 0, none⟩) nR2 nR2, .bool z2, .bool c2, .bool hz2, .bool hc2, .slice (some ⟨bH2x, 0, none⟩) nH2 nH2, .int .i64 pc2, .int .i64 st2, .slice (some ⟨bO2x, 0, none⟩) nO2 nO2] 35) = v ∧ Below u13.heap.size u13 v ∧ Cl v u13.heap.size [.slice (some ⟨bR2x, 0, none⟩) nR2 nR2, .bool z2, .bool c2, .bool hz2, .bool hc2, .slice (some ⟨bH2x, 0, none⟩) nH2 nH2, .int .i64 pc2, .int .i64 st2, .slice (some ⟨bO2x, 0, none⟩) nO2 nO2] := ⟨_, rfl, (Below.refl _ _).alloc (Nat.le_refl _) _, Cl.new⟩
  rw [hv]
  clear hv
  have HBu14 : Hid (Below w.heap.size w u14) := HBu13.out.trans (hb.mono HBu13.out.size)
  have P0u14 : Hid (Cl u14 (w.heap.size) [.slice aoH0 nH0 cH0, .slice aoR0 nR0 cR0]) := P0u13.out.below hb
  have P1u14 : Hid (Cl u14 (w.heap.size + 1) [.slice aoR1 nR1 capR1, .bool z1, .bool c1, .bool hz1, .bool hc1, .slice aoH1 nH1 capH1, .int .i64 pc1, .int .i64 st1, .slice aoO1 nO1 capO1]) := P1u13.out.below hb
  have P2u14 : Hid (Cl u14 (w.heap.size + 1 + 1) [.slice aoR2 nR2 capR2, .bool z2, .bool c2, .bool hz2, .bool hc2, .slice aoH2 nH2 capH2, .int .i64 pc2, .int .i64 st2, .slice aoO2 nO2 capO2]) := P2u13.out.below hb
  have X0u14 : Hid (Cl u14 (u9.heap.size) [.slice (some ⟨bH0x, 0, none⟩) nH0 nH0, .slice (some ⟨bR0x, 0, none⟩) nR0 nR0]) := X0u13.out.below hb
  have X1u14 : Hid (Cl u14 (u11.heap.size) [.slice (some ⟨bR1x, 0, none⟩) nR1 nR1, .bool z1, .bool c1, .bool hz1, .bool hc1, .slice (some ⟨bH1x, 0, none⟩) nH1 nH1, .int .i64 pc1, .int .i64 st1, .slice (some ⟨bO1x, 0, none⟩) nO1 nO1]) := X1u13.out.below hb
  have C0' : Hid (SigCp u14 bH0x nH0 S0 bR0x nR0 V0) := C0.out.below hb
  clear C0
  have C0 := C0'
  clear C0'
  have C1' : Hid (MachCp u14 bR1x nR1 R1 bH1x nH1 Hp1 blk1x bO1x nO1 K1 V1) := C1.out.below hb (Nat.le_refl _)
  clear C1
  have C1 := C1'
  clear C1'
  have C2' : Hid (MachCp u14 bR2x nR2 R2 bH2x nH2 Hp2 blk2x bO2x nO2 K2 V2) := C2.out.below hb (Nat.le_refl _)
  clear C2
  have C2 := C2'
  clear C2'
  clear zP0 cP00 cP01 zP1 cP10 cP11 cP12 cP13 cP14 cP15 cP16 cP17 cP18 zP2 cP20 cP21 cP22 cP23 cP24 cP25 cP26 cP27 cP28 zX0 cX00 cX01 zX1 cX10 cX11 cX12 cX13 cX14 cX15 cX16 cX17 cX18
  have X2u14 : Hid (Cl u14 u13.heap.size [.slice (some ⟨bR2x, 0, none⟩) nR2 nR2, .bool z2, .bool c2, .bool hz2, .bool hc2, .slice (some ⟨bH2x, 0, none⟩) nH2 nH2, .int .i64 pc2, .int .i64 st2, .slice (some ⟨bO2x, 0, none⟩) nO2 nO2]) := hx
  clear hx hb
  refine (implPublic_any _ _ _ S0 _ _ _ V0 _ _ R1 _ _ _ _ _ _ Hp1 _ _ _ _ _ K1 V1 _ _ R2 _ _ _ _ _ _ Hp2 _ _ _ _ _ K2 V2 _ HS0.out.1 HS0.out.2 HS1.out HS2.out hr1.out hr2.out (C0.out) (C1.out) (C2.out)).mono ?_
  rintro e u15 ⟨rfl, hb⟩
  have HBu15 : Hid (Below w.heap.size w u15) := HBu14.out.trans (hb.mono HBu14.out.size)
  have P0u15 : Hid (Cl u15 (w.heap.size) [.slice aoH0 nH0 cH0, .slice aoR0 nR0 cR0]) := P0u14.out.below hb
  have P1u15 : Hid (Cl u15 (w.heap.size + 1) [.slice aoR1 nR1 capR1, .bool z1, .bool c1, .bool hz1, .bool hc1, .slice aoH1 nH1 capH1, .int .i64 pc1, .int .i64 st1, .slice aoO1 nO1 capO1]) := P1u14.out.below hb
  have P2u15 : Hid (Cl u15 (w.heap.size + 1 + 1) [.slice aoR2 nR2 capR2, .bool z2, .bool c2, .bool hz2, .bool hc2, .slice aoH2 nH2 capH2, .int .i64 pc2, .int .i64 st2, .slice aoO2 nO2 capO2]) := P2u14.out.below hb
  have X0u15 : Hid (Cl u15 (u9.heap.size) [.slice (some ⟨bH0x, 0, none⟩) nH0 nH0, .slice (some ⟨bR0x, 0, none⟩) nR0 nR0]) := X0u14.out.below hb
  have X1u15 : Hid (Cl u15 (u11.heap.size) [.slice (some ⟨bR1x, 0, none⟩) nR1 nR1, .bool z1, .bool c1, .bool hz1, .bool hc1, .slice (some ⟨bH1x, 0, none⟩) nH1 nH1, .int .i64 pc1, .int .i64 st1, .slice (some ⟨bO1x, 0, none⟩) nO1 nO1]) := X1u14.out.below hb
  have X2u15 : Hid (Cl u15 (u13.heap.size) [.slice (some ⟨bR2x, 0, none⟩) nR2 nR2, .bool z2, .bool c2, .bool hz2, .bool hc2, .slice (some ⟨bH2x, 0, none⟩) nH2 nH2, .int .i64 pc2, .int .i64 st2, .slice (some ⟨bO2x, 0, none⟩) nO2 nO2]) := X2u14.out.below hb
  have C0' : Hid (SigCp u15 bH0x nH0 S0 bR0x nR0 V0) := C0.out.below hb
  clear C0
  have C0 := C0'
  clear C0'
  have C1' : Hid (MachCp u15 bR1x nR1 R1 bH1x nH1 Hp1 blk1x bO1x nO1 K1 V1) := C1.out.below hb (Nat.le_refl _)
  clear C1
  have C1 := C1'
  clear C1'
  have C2' : Hid (MachCp u15 bR2x nR2 R2 bH2x nH2 Hp2 blk2x bO2x nO2 K2 V2) := C2.out.below hb (Nat.le_refl _)
  clear C2
  have C2 := C2'
  clear C2'
  clear hb
  rw [HOK.out]
  have zP0 : w.heap.size < u15.heap.size := P0u15.out.1
  have cP00 : u15.cell? ⟨w.heap.size, 0, none⟩ = some (.slice aoH0 nH0 cH0) := P0u15.out.2 0 (by simp)
  have cP01 : u15.cell? ⟨w.heap.size, 1, none⟩ = some (.slice aoR0 nR0 cR0) := P0u15.out.2 1 (by simp)
  have zP1 : w.heap.size + 1 < u15.heap.size := P1u15.out.1
  have cP10 : u15.cell? ⟨w.heap.size + 1, 0, none⟩ = some (.slice aoR1 nR1 capR1) := P1u15.out.2 0 (by simp)
  have cP11 : u15.cell? ⟨w.heap.size + 1, 1, none⟩ = some (.bool z1) := P1u15.out.2 1 (by simp)
  have cP12 : u15.cell? ⟨w.heap.size + 1, 2, none⟩ = some (.bool c1) := P1u15.out.2 2 (by simp)
  have cP13 : u15.cell? ⟨w.heap.size + 1, 3, none⟩ = some (.bool hz1) := P1u15.out.2 3 (by simp)
  have cP14 : u15.cell? ⟨w.heap.size + 1, 4, none⟩ = some (.bool hc1) := P1u15.out.2 4 (by simp)
  have cP15 : u15.cell? ⟨w.heap.size + 1, 5, none⟩ = some (.slice aoH1 nH1 capH1) := P1u15.out.2 5 (by simp)
  have cP16 : u15.cell? ⟨w.heap.size + 1, 6, none⟩ = some (.int .i64 pc1) := P1u15.out.2 6 (by simp)
  have cP17 : u15.cell? ⟨w.heap.size + 1, 7, none⟩ = some (.int .i64 st1) := P1u15.out.2 7 (by simp)
  have cP18 : u15.cell? ⟨w.heap.size + 1, 8, none⟩ = some (.slice aoO1 nO1 capO1) := P1u15.out.2 8 (by simp)
  have zP2 : w.heap.size + 1 + 1 < u15.heap.size := P2u15.out.1
  have cP20 : u15.cell? ⟨w.heap.size + 1 + 1, 0, none⟩ = some (.slice aoR2 nR2 capR2) := P2u15.out.2 0 (by simp)
  have cP21 : u15.cell? ⟨w.heap.size + 1 + 1, 1, none⟩ = some (.bool z2) := P2u15.out.2 1 (by simp)
  have cP22 : u15.cell? ⟨w.heap.size + 1 + 1, 2, none⟩ = some (.bool c2) := P2u15.out.2 2 (by simp)
  have cP23 : u15.cell? ⟨w.heap.size + 1 + 1, 3, none⟩ = some (.bool hz2) := P2u15.out.2 3 (by simp)
  have cP24 : u15.cell? ⟨w.heap.size + 1 + 1, 4, none⟩ = some (.bool hc2) := P2u15.out.2 4 (by simp)
  have cP25 : u15.cell? ⟨w.heap.size + 1 + 1, 5, none⟩ = some (.slice aoH2 nH2 capH2) := P2u15.out.2 5 (by simp)
  have cP26 : u15.cell? ⟨w.heap.size + 1 + 1, 6, none⟩ = some (.int .i64 pc2) := P2u15.out.2 6 (by simp)
  have cP27 : u15.cell? ⟨w.heap.size + 1 + 1, 7, none⟩ = some (.int .i64 st2) := P2u15.out.2 7 (by simp)
  have cP28 : u15.cell? ⟨w.heap.size + 1 + 1, 8, none⟩ = some (.slice aoO2 nO2 capO2) := P2u15.out.2 8 (by simp)
  have zX0 : u9.heap.size < u15.heap.size := X0u15.out.1
  have cX00 : u15.cell? ⟨u9.heap.size, 0, none⟩ = some (.slice (some ⟨bH0x, 0, none⟩) nH0 nH0) := X0u15.out.2 0 (by simp)
  have cX01 : u15.cell? ⟨u9.heap.size, 1, none⟩ = some (.slice (some ⟨bR0x, 0, none⟩) nR0 nR0) := X0u15.out.2 1 (by simp)
  have zX1 : u11.heap.size < u15.heap.size := X1u15.out.1
  have cX10 : u15.cell? ⟨u11.heap.size, 0, none⟩ = some (.slice (some ⟨bR1x, 0, none⟩) nR1 nR1) := X1u15.out.2 0 (by simp)
  have cX11 : u15.cell? ⟨u11.heap.size, 1, none⟩ = some (.bool z1) := X1u15.out.2 1 (by simp)
  have cX12 : u15.cell? ⟨u11.heap.size, 2, none⟩ = some (.bool c1) := X1u15.out.2 2 (by simp)
  have cX13 : u15.cell? ⟨u11.heap.size, 3, none⟩ = some (.bool hz1) := X1u15.out.2 3 (by simp)
  have cX14 : u15.cell? ⟨u11.heap.size, 4, none⟩ = some (.bool hc1) := X1u15.out.2 4 (by simp)
  have cX15 : u15.cell? ⟨u11.heap.size, 5, none⟩ = some (.slice (some ⟨bH1x, 0, none⟩) nH1 nH1) := X1u15.out.2 5 (by simp)
  have cX16 : u15.cell? ⟨u11.heap.size, 6, none⟩ = some (.int .i64 pc1) := X1u15.out.2 6 (by simp)
  have cX17 : u15.cell? ⟨u11.heap.size, 7, none⟩ = some (.int .i64 st1) := X1u15.out.2 7 (by simp)
  have cX18 : u15.cell? ⟨u11.heap.size, 8, none⟩ = some (.slice (some ⟨bO1x, 0, none⟩) nO1 nO1) := X1u15.out.2 8 (by simp)
  have zX2 : u13.heap.size < u15.heap.size := X2u15.out.1
  have cX20 : u15.cell? ⟨u13.heap.size, 0, none⟩ = some (.slice (some ⟨bR2x, 0, none⟩) nR2 nR2) := X2u15.out.2 0 (by simp)
  have cX21 : u15.cell? ⟨u13.heap.size, 1, none⟩ = some (.bool z2) := X2u15.out.2 1 (by simp)
  have cX22 : u15.cell? ⟨u13.heap.size, 2, none⟩ = some (.bool c2) := X2u15.out.2 2 (by simp)
  have cX23 : u15.cell? ⟨u13.heap.size, 3, none⟩ = some (.bool hz2) := X2u15.out.2 3 (by simp)
  have cX24 : u15.cell? ⟨u13.heap.size, 4, none⟩ = some (.bool hc2) := X2u15.out.2 4 (by simp)
  have cX25 : u15.cell? ⟨u13.heap.size, 5, none⟩ = some (.slice (some ⟨bH2x, 0, none⟩) nH2 nH2) := X2u15.out.2 5 (by simp)
  have cX26 : u15.cell? ⟨u13.heap.size, 6, none⟩ = some (.int .i64 pc2) := X2u15.out.2 6 (by simp)
  have cX27 : u15.cell? ⟨u13.heap.size, 7, none⟩ = some (.int .i64 st2) := X2u15.out.2 7 (by simp)
  have cX28 : u15.cell? ⟨u13.heap.size, 8, none⟩ = some (.slice (some ⟨bO2x, 0, none⟩) nO2 nO2) := X2u15.out.2 8 (by simp)
  go_upto_region 18 with fail
  clear zP0 cP00 cP01 zP1 cP10 cP11 cP12 cP13 cP14 cP15 cP16 cP17 cP18 zP2 cP20 cP21 cP22 cP23 cP24 cP25 cP26 cP27 cP28 zX0 cX00 cX01 zX1 cX10 cX11 cX12 cX13 cX14 cX15 cX16 cX17 cX18 zX2 cX20 cX21 cX22 cX23 cX24 cX25 cX26 cX27 cX28
  have rX00 : ∀ w', Below u15.heap.size u15 w' → w'.cell? ⟨u9.heap.size, 0, none⟩ = some (.slice (some ⟨bH0x, 0, none⟩) nH0 nH0) := fun w' h => (X0u15.out.below h).2 0 (by simp)
  have rX01 : ∀ w', Below u15.heap.size u15 w' → w'.cell? ⟨u9.heap.size, 1, none⟩ = some (.slice (some ⟨bR0x, 0, none⟩) nR0 nR0) := fun w' h => (X0u15.out.below h).2 1 (by simp)
  have rP00 : ∀ w', Below u15.heap.size u15 w' → w'.cell? ⟨w.heap.size, 0, none⟩ = some (.slice aoH0 nH0 cH0) := fun w' h => (P0u15.out.below h).2 0 (by simp)
  have rP01 : ∀ w', Below u15.heap.size u15 w' → w'.cell? ⟨w.heap.size, 1, none⟩ = some (.slice aoR0 nR0 cR0) := fun w' h => (P0u15.out.below h).2 1 (by simp)
  refine wp_region_held_drew (S := fun w' => Below u15.heap.size u15 w') (by kernel_rfl) (Below.refl _ _).drew (fun _ => ?_)
  obtain ⟨u16, hd, hb⟩ : ∃ v, u15.drew = v ∧ Below u15.heap.size u15 v := ⟨_, rfl, (Below.refl _ _).drew⟩
  rw [hd]
  clear hd
  have HBu16 : Hid (Below w.heap.size w u16) := HBu15.out.trans (hb.mono HBu15.out.size)
  have P0u16 : Hid (Cl u16 (w.heap.size) [.slice aoH0 nH0 cH0, .slice aoR0 nR0 cR0]) := P0u15.out.below hb
  have P1u16 : Hid (Cl u16 (w.heap.size + 1) [.slice aoR1 nR1 capR1, .bool z1, .bool c1, .bool hz1, .bool hc1, .slice aoH1 nH1 capH1, .int .i64 pc1, .int .i64 st1, .slice aoO1 nO1 capO1]) := P1u15.out.below hb
  have P2u16 : Hid (Cl u16 (w.heap.size + 1 + 1) [.slice aoR2 nR2 capR2, .bool z2, .bool c2, .bool hz2, .bool hc2, .slice aoH2 nH2 capH2, .int .i64 pc2, .int .i64 st2, .slice aoO2 nO2 capO2]) := P2u15.out.below hb
  have X0u16 : Hid (Cl u16 (u9.heap.size) [.slice (some ⟨bH0x, 0, none⟩) nH0 nH0, .slice (some ⟨bR0x, 0, none⟩) nR0 nR0]) := X0u15.out.below hb
  have X1u16 : Hid (Cl u16 (u11.heap.size) [.slice (some ⟨bR1x, 0, none⟩) nR1 nR1, .bool z1, .bool c1, .bool hz1, .bool hc1, .slice (some ⟨bH1x, 0, none⟩) nH1 nH1, .int .i64 pc1, .int .i64 st1, .slice (some ⟨bO1x, 0, none⟩) nO1 nO1]) := X1u15.out.below hb
  have X2u16 : Hid (Cl u16 (u13.heap.size) [.slice (some ⟨bR2x, 0, none⟩) nR2 nR2, .bool z2, .bool c2, .bool hz2, .bool hc2, .slice (some ⟨bH2x, 0, none⟩) nH2 nH2, .int .i64 pc2, .int .i64 st2, .slice (some ⟨bO2x, 0, none⟩) nO2 nO2]) := X2u15.out.below hb
  have C0' : Hid (SigCp u16 bH0x nH0 S0 bR0x nR0 V0) := C0.out.below hb
  clear C0
  have C0 := C0'
  clear C0'
  have C1' : Hid (MachCp u16 bR1x nR1 R1 bH1x nH1 Hp1 blk1x bO1x nO1 K1 V1) := C1.out.below hb (Nat.le_refl _)
  clear C1
  have C1 := C1'
  clear C1'
  have C2' : Hid (MachCp u16 bR2x nR2 R2 bH2x nH2 Hp2 blk2x bO2x nO2 K2 V2) := C2.out.below hb (Nat.le_refl _)
  clear C2
  have C2 := C2'
  clear C2'
  have HEu16 : Hid (Below u15.heap.size u15 u16) := hb
  have hbE := hb
  clear hb
  refine wpAnyH_tk 0 ?q5v rfl ?q5y ?q5r
  case q5y => (intro w hSw; (try dsimp only at hSw); go_simp; try with_reducible rfl)
  try go_frame
  refine wpAnyH_tk 1 ?q6v rfl ?q6y ?q6r
  case q6y => (intro w hSw; (try dsimp only at hSw); go_simp; try with_reducible rfl)
  try go_frame
  refine wpAnyH_ready (rs := [2]) (by kernel_rfl) (by simp) ?_
  refine AllReadyH.cons rfl (fun KK hK => ?_) AllReadyH.nil
  go_simp
  refine (toSig_in _ _ _ S0 _ _ _ V0 _ HS0.out.1 HS0.out.2 (hin0.out.below (HBu16.out) (Nat.le_refl _))).mono ?_
  rintro e u17 ⟨bH0y0, bR0y0, gH0y0, gR0y0, rfl, hb, hcp⟩
  have HBu17 : Hid (Below w.heap.size w u17) := HBu16.out.trans (hb.mono HBu16.out.size)
  have P0u17 : Hid (Cl u17 (w.heap.size) [.slice aoH0 nH0 cH0, .slice aoR0 nR0 cR0]) := P0u16.out.below hb
  have P1u17 : Hid (Cl u17 (w.heap.size + 1) [.slice aoR1 nR1 capR1, .bool z1, .bool c1, .bool hz1, .bool hc1, .slice aoH1 nH1 capH1, .int .i64 pc1, .int .i64 st1, .slice aoO1 nO1 capO1]) := P1u16.out.below hb
  have P2u17 : Hid (Cl u17 (w.heap.size + 1 + 1) [.slice aoR2 nR2 capR2, .bool z2, .bool c2, .bool hz2, .bool hc2, .slice aoH2 nH2 capH2, .int .i64 pc2, .int .i64 st2, .slice aoO2 nO2 capO2]) := P2u16.out.below hb
  have X0u17 : Hid (Cl u17 (u9.heap.size) [.slice (some ⟨bH0x, 0, none⟩) nH0 nH0, .slice (some ⟨bR0x, 0, none⟩) nR0 nR0]) := X0u16.out.below hb
  have X1u17 : Hid (Cl u17 (u11.heap.size) [.slice (some ⟨bR1x, 0, none⟩) nR1 nR1, .bool z1, .bool c1, .bool hz1, .bool hc1, .slice (some ⟨bH1x, 0, none⟩) nH1 nH1, .int .i64 pc1, .int .i64 st1, .slice (some ⟨bO1x, 0, none⟩) nO1 nO1]) := X1u16.out.below hb
  have X2u17 : Hid (Cl u17 (u13.heap.size) [.slice (some ⟨bR2x, 0, none⟩) nR2 nR2, .bool z2, .bool c2, .bool hz2, .bool hc2, .slice (some ⟨bH2x, 0, none⟩) nH2 nH2, .int .i64 pc2, .int .i64 st2, .slice (some ⟨bO2x, 0, none⟩) nO2 nO2]) := X2u16.out.below hb
  have C0' : Hid (SigCp u17 bH0x nH0 S0 bR0x nR0 V0) := C0.out.below hb
  clear C0
  have C0 := C0'
  clear C0'
  have C1' : Hid (MachCp u17 bR1x nR1 R1 bH1x nH1 Hp1 blk1x bO1x nO1 K1 V1) := C1.out.below hb (Nat.le_refl _)
  clear C1
  have C1 := C1'
  clear C1'
  have C2' : Hid (MachCp u17 bR2x nR2 R2 bH2x nH2 Hp2 blk2x bO2x nO2 K2 V2) := C2.out.below hb (Nat.le_refl _)
  clear C2
  have C2 := C2'
  clear C2'
  have HEu17 : Hid (Below u15.heap.size u15 u17) := HEu16.out.trans (hb.mono HEu16.out.size)
  have D : Hid (SigCp u17 bH0y0 nH0 S0 bR0y0 nR0 V0) := hcp
  clear hcp
  clear hb gH0y0 gR0y0
  go_wp2_with fail
  refine hK.out _ _ HEu17.out (fun _ => ?_)
  clear hK KK
  try go_frame
  refine wpAnyH_ready (rs := [3]) (by kernel_rfl) (by simp) ?_
  refine AllReadyH.cons rfl (fun KK hK => ?_) AllReadyH.nil
  go_simp
  refine (eqSig_same _ _ _ S0 _ _ _ V0 _ _ _ _ _ HS0.out.1 HS0.out.2 (C0.out) (D.out)).mono ?_
  rintro e u18 ⟨rfl, hb⟩
  have HBu18 : Hid (Below w.heap.size w u18) := HBu17.out.trans (hb.mono HBu17.out.size)
  have P0u18 : Hid (Cl u18 (w.heap.size) [.slice aoH0 nH0 cH0, .slice aoR0 nR0 cR0]) := P0u17.out.below hb
  have P1u18 : Hid (Cl u18 (w.heap.size + 1) [.slice aoR1 nR1 capR1, .bool z1, .bool c1, .bool hz1, .bool hc1, .slice aoH1 nH1 capH1, .int .i64 pc1, .int .i64 st1, .slice aoO1 nO1 capO1]) := P1u17.out.below hb
  have P2u18 : Hid (Cl u18 (w.heap.size + 1 + 1) [.slice aoR2 nR2 capR2, .bool z2, .bool c2, .bool hz2, .bool hc2, .slice aoH2 nH2 capH2, .int .i64 pc2, .int .i64 st2, .slice aoO2 nO2 capO2]) := P2u17.out.below hb
  have X0u18 : Hid (Cl u18 (u9.heap.size) [.slice (some ⟨bH0x, 0, none⟩) nH0 nH0, .slice (some ⟨bR0x, 0, none⟩) nR0 nR0]) := X0u17.out.below hb
  have X1u18 : Hid (Cl u18 (u11.heap.size) [.slice (some ⟨bR1x, 0, none⟩) nR1 nR1, .bool z1, .bool c1, .bool hz1, .bool hc1, .slice (some ⟨bH1x, 0, none⟩) nH1 nH1, .int .i64 pc1, .int .i64 st1, .slice (some ⟨bO1x, 0, none⟩) nO1 nO1]) := X1u17.out.below hb
  have X2u18 : Hid (Cl u18 (u13.heap.size) [.slice (some ⟨bR2x, 0, none⟩) nR2 nR2, .bool z2, .bool c2, .bool hz2, .bool hc2, .slice (some ⟨bH2x, 0, none⟩) nH2 nH2, .int .i64 pc2, .int .i64 st2, .slice (some ⟨bO2x, 0, none⟩) nO2 nO2]) := X2u17.out.below hb
  have C0' : Hid (SigCp u18 bH0x nH0 S0 bR0x nR0 V0) := C0.out.below hb
  clear C0
  have C0 := C0'
  clear C0'
  have C1' : Hid (MachCp u18 bR1x nR1 R1 bH1x nH1 Hp1 blk1x bO1x nO1 K1 V1) := C1.out.below hb (Nat.le_refl _)
  clear C1
  have C1 := C1'
  clear C1'
  have C2' : Hid (MachCp u18 bR2x nR2 R2 bH2x nH2 Hp2 blk2x bO2x nO2 K2 V2) := C2.out.below hb (Nat.le_refl _)
  clear C2
  have C2 := C2'
  clear C2'
  have D' : Hid (SigCp u18 bH0y0 nH0 S0 bR0y0 nR0 V0) := D.out.below hb
  clear D
  have D := D'
  clear D'
  have HEu18 : Hid (Below u15.heap.size u15 u18) := HEu17.out.trans (hb.mono HEu17.out.size)
  clear hb
  go_wp2_with fail
  refine hK.out _ _ HEu18.out (fun _ => ?_)
  clear hK KK
  try go_frame
  refine wpAnyH_tk 4 ?q7v rfl ?q7y ?q7r
  case q7y => (intro w hSw; (try dsimp only at hSw); go_simp; try with_reducible rfl)
  try go_frame
  refine wpAnyH_done (by kernel_rfl) ?_ _
  clear hbE D rX00 rX01 rP00 rP01
  have zP0 : w.heap.size < u18.heap.size := P0u18.out.1
  have cP00 : u18.cell? ⟨w.heap.size, 0, none⟩ = some (.slice aoH0 nH0 cH0) := P0u18.out.2 0 (by simp)
  have cP01 : u18.cell? ⟨w.heap.size, 1, none⟩ = some (.slice aoR0 nR0 cR0) := P0u18.out.2 1 (by simp)
  have zP1 : w.heap.size + 1 < u18.heap.size := P1u18.out.1
  have cP10 : u18.cell? ⟨w.heap.size + 1, 0, none⟩ = some (.slice aoR1 nR1 capR1) := P1u18.out.2 0 (by simp)
  have cP11 : u18.cell? ⟨w.heap.size + 1, 1, none⟩ = some (.bool z1) := P1u18.out.2 1 (by simp)
  have cP12 : u18.cell? ⟨w.heap.size + 1, 2, none⟩ = some (.bool c1) := P1u18.out.2 2 (by simp)
  have cP13 : u18.cell? ⟨w.heap.size + 1, 3, none⟩ = some (.bool hz1) := P1u18.out.2 3 (by simp)
  have cP14 : u18.cell? ⟨w.heap.size + 1, 4, none⟩ = some (.bool hc1) := P1u18.out.2 4 (by simp)
  have cP15 : u18.cell? ⟨w.heap.size + 1, 5, none⟩ = some (.slice aoH1 nH1 capH1) := P1u18.out.2 5 (by simp)
  have cP16 : u18.cell? ⟨w.heap.size + 1, 6, none⟩ = some (.int .i64 pc1) := P1u18.out.2 6 (by simp)
  have cP17 : u18.cell? ⟨w.heap.size + 1, 7, none⟩ = some (.int .i64 st1) := P1u18.out.2 7 (by simp)
  have cP18 : u18.cell? ⟨w.heap.size + 1, 8, none⟩ = some (.slice aoO1 nO1 capO1) := P1u18.out.2 8 (by simp)
  have zP2 : w.heap.size + 1 + 1 < u18.heap.size := P2u18.out.1
  have cP20 : u18.cell? ⟨w.heap.size + 1 + 1, 0, none⟩ = some (.slice aoR2 nR2 capR2) := P2u18.out.2 0 (by simp)
  have cP21 : u18.cell? ⟨w.heap.size + 1 + 1, 1, none⟩ = some (.bool z2) := P2u18.out.2 1 (by simp)
  have cP22 : u18.cell? ⟨w.heap.size + 1 + 1, 2, none⟩ = some (.bool c2) := P2u18.out.2 2 (by simp)
  have cP23 : u18.cell? ⟨w.heap.size + 1 + 1, 3, none⟩ = some (.bool hz2) := P2u18.out.2 3 (by simp)
  have cP24 : u18.cell? ⟨w.heap.size + 1 + 1, 4, none⟩ = some (.bool hc2) := P2u18.out.2 4 (by simp)
  have cP25 : u18.cell? ⟨w.heap.size + 1 + 1, 5, none⟩ = some (.slice aoH2 nH2 capH2) := P2u18.out.2 5 (by simp)
  have cP26 : u18.cell? ⟨w.heap.size + 1 + 1, 6, none⟩ = some (.int .i64 pc2) := P2u18.out.2 6 (by simp)
  have cP27 : u18.cell? ⟨w.heap.size + 1 + 1, 7, none⟩ = some (.int .i64 st2) := P2u18.out.2 7 (by simp)
  have cP28 : u18.cell? ⟨w.heap.size + 1 + 1, 8, none⟩ = some (.slice aoO2 nO2 capO2) := P2u18.out.2 8 (by simp)
  have zX0 : u9.heap.size < u18.heap.size := X0u18.out.1
  have cX00 : u18.cell? ⟨u9.heap.size, 0, none⟩ = some (.slice (some ⟨bH0x, 0, none⟩) nH0 nH0) := X0u18.out.2 0 (by simp)
  have cX01 : u18.cell? ⟨u9.heap.size, 1, none⟩ = some (.slice (some ⟨bR0x, 0, none⟩) nR0 nR0) := X0u18.out.2 1 (by simp)
  have zX1 : u11.heap.size < u18.heap.size := X1u18.out.1
  have cX10 : u18.cell? ⟨u11.heap.size, 0, none⟩ = some (.slice (some ⟨bR1x, 0, none⟩) nR1 nR1) := X1u18.out.2 0 (by simp)
  have cX11 : u18.cell? ⟨u11.heap.size, 1, none⟩ = some (.bool z1) := X1u18.out.2 1 (by simp)
  have cX12 : u18.cell? ⟨u11.heap.size, 2, none⟩ = some (.bool c1) := X1u18.out.2 2 (by simp)
  have cX13 : u18.cell? ⟨u11.heap.size, 3, none⟩ = some (.bool hz1) := X1u18.out.2 3 (by simp)
  have cX14 : u18.cell? ⟨u11.heap.size, 4, none⟩ = some (.bool hc1) := X1u18.out.2 4 (by simp)
  have cX15 : u18.cell? ⟨u11.heap.size, 5, none⟩ = some (.slice (some ⟨bH1x, 0, none⟩) nH1 nH1) := X1u18.out.2 5 (by simp)
  have cX16 : u18.cell? ⟨u11.heap.size, 6, none⟩ = some (.int .i64 pc1) := X1u18.out.2 6 (by simp)
  have cX17 : u18.cell? ⟨u11.heap.size, 7, none⟩ = some (.int .i64 st1) := X1u18.out.2 7 (by simp)
  have cX18 : u18.cell? ⟨u11.heap.size, 8, none⟩ = some (.slice (some ⟨bO1x, 0, none⟩) nO1 nO1) := X1u18.out.2 8 (by simp)
  have zX2 : u13.heap.size < u18.heap.size := X2u18.out.1
  have cX20 : u18.cell? ⟨u13.heap.size, 0, none⟩ = some (.slice (some ⟨bR2x, 0, none⟩) nR2 nR2) := X2u18.out.2 0 (by simp)
  have cX21 : u18.cell? ⟨u13.heap.size, 1, none⟩ = some (.bool z2) := X2u18.out.2 1 (by simp)
  have cX22 : u18.cell? ⟨u13.heap.size, 2, none⟩ = some (.bool c2) := X2u18.out.2 2 (by simp)
  have cX23 : u18.cell? ⟨u13.heap.size, 3, none⟩ = some (.bool hz2) := X2u18.out.2 3 (by simp)
  have cX24 : u18.cell? ⟨u13.heap.size, 4, none⟩ = some (.bool hc2) := X2u18.out.2 4 (by simp)
  have cX25 : u18.cell? ⟨u13.heap.size, 5, none⟩ = some (.slice (some ⟨bH2x, 0, none⟩) nH2 nH2) := X2u18.out.2 5 (by simp)
  have cX26 : u18.cell? ⟨u13.heap.size, 6, none⟩ = some (.int .i64 pc2) := X2u18.out.2 6 (by simp)
  have cX27 : u18.cell? ⟨u13.heap.size, 7, none⟩ = some (.int .i64 st2) := X2u18.out.2 7 (by simp)
  have cX28 : u18.cell? ⟨u13.heap.size, 8, none⟩ = some (.slice (some ⟨bO2x, 0, none⟩) nO2 nO2) := X2u18.out.2 8 (by simp)
  go_upto_region 20 with fail
  clear zP0 cP00 cP01 zP1 cP10 cP11 cP12 cP13 cP14 cP15 cP16 cP17 cP18 zP2 cP20 cP21 cP22 cP23 cP24 cP25 cP26 cP27 cP28 zX0 cX00 cX01 zX1 cX10 cX11 cX12 cX13 cX14 cX15 cX16 cX17 cX18 zX2 cX20 cX21 cX22 cX23 cX24 cX25 cX26 cX27 cX28
  have rX10 : ∀ w', Below u18.heap.size u18 w' → w'.cell? ⟨u11.heap.size, 0, none⟩ = some (.slice (some ⟨bR1x, 0, none⟩) nR1 nR1) := fun w' h => (X1u18.out.below h).2 0 (by simp)
  have rX11 : ∀ w', Below u18.heap.size u18 w' → w'.cell? ⟨u11.heap.size, 1, none⟩ = some (.bool z1) := fun w' h => (X1u18.out.below h).2 1 (by simp)
  have rX12 : ∀ w', Below u18.heap.size u18 w' → w'.cell? ⟨u11.heap.size, 2, none⟩ = some (.bool c1) := fun w' h => (X1u18.out.below h).2 2 (by simp)
  have rX13 : ∀ w', Below u18.heap.size u18 w' → w'.cell? ⟨u11.heap.size, 3, none⟩ = some (.bool hz1) := fun w' h => (X1u18.out.below h).2 3 (by simp)
  have rX14 : ∀ w', Below u18.heap.size u18 w' → w'.cell? ⟨u11.heap.size, 4, none⟩ = some (.bool hc1) := fun w' h => (X1u18.out.below h).2 4 (by simp)
  have rX15 : ∀ w', Below u18.heap.size u18 w' → w'.cell? ⟨u11.heap.size, 5, none⟩ = some (.slice (some ⟨bH1x, 0, none⟩) nH1 nH1) := fun w' h => (X1u18.out.below h).2 5 (by simp)
  have rX16 : ∀ w', Below u18.heap.size u18 w' → w'.cell? ⟨u11.heap.size, 6, none⟩ = some (.int .i64 pc1) := fun w' h => (X1u18.out.below h).2 6 (by simp)
  have rX17 : ∀ w', Below u18.heap.size u18 w' → w'.cell? ⟨u11.heap.size, 7, none⟩ = some (.int .i64 st1) := fun w' h => (X1u18.out.below h).2 7 (by simp)
  have rX18 : ∀ w', Below u18.heap.size u18 w' → w'.cell? ⟨u11.heap.size, 8, none⟩ = some (.slice (some ⟨bO1x, 0, none⟩) nO1 nO1) := fun w' h => (X1u18.out.below h).2 8 (by simp)
  have rP10 : ∀ w', Below u18.heap.size u18 w' → w'.cell? ⟨w.heap.size + 1, 0, none⟩ = some (.slice aoR1 nR1 capR1) := fun w' h => (P1u18.out.below h).2 0 (by simp)
  have rP11 : ∀ w', Below u18.heap.size u18 w' → w'.cell? ⟨w.heap.size + 1, 1, none⟩ = some (.bool z1) := fun w' h => (P1u18.out.below h).2 1 (by simp)
  have rP12 : ∀ w', Below u18.heap.size u18 w' → w'.cell? ⟨w.heap.size + 1, 2, none⟩ = some (.bool c1) := fun w' h => (P1u18.out.below h).2 2 (by simp)
  have rP13 : ∀ w', Below u18.heap.size u18 w' → w'.cell? ⟨w.heap.size + 1, 3, none⟩ = some (.bool hz1) := fun w' h => (P1u18.out.below h).2 3 (by simp)
  have rP14 : ∀ w', Below u18.heap.size u18 w' → w'.cell? ⟨w.heap.size + 1, 4, none⟩ = some (.bool hc1) := fun w' h => (P1u18.out.below h).2 4 (by simp)
  have rP15 : ∀ w', Below u18.heap.size u18 w' → w'.cell? ⟨w.heap.size + 1, 5, none⟩ = some (.slice aoH1 nH1 capH1) := fun w' h => (P1u18.out.below h).2 5 (by simp)
  have rP16 : ∀ w', Below u18.heap.size u18 w' → w'.cell? ⟨w.heap.size + 1, 6, none⟩ = some (.int .i64 pc1) := fun w' h => (P1u18.out.below h).2 6 (by simp)
  have rP17 : ∀ w', Below u18.heap.size u18 w' → w'.cell? ⟨w.heap.size + 1, 7, none⟩ = some (.int .i64 st1) := fun w' h => (P1u18.out.below h).2 7 (by simp)
  have rP18 : ∀ w', Below u18.heap.size u18 w' → w'.cell? ⟨w.heap.size + 1, 8, none⟩ = some (.slice aoO1 nO1 capO1) := fun w' h => (P1u18.out.below h).2 8 (by simp)
  refine wp_region_held_drew (S := fun w' => Below u18.heap.size u18 w') (by kernel_rfl) (Below.refl _ _).drew (fun _ => ?_)
  obtain ⟨u19, hd, hb⟩ : ∃ v, u18.drew = v ∧ Below u18.heap.size u18 v := ⟨_, rfl, (Below.refl _ _).drew⟩
  rw [hd]
  clear hd
  have HBu19 : Hid (Below w.heap.size w u19) := HBu18.out.trans (hb.mono HBu18.out.size)
  have P0u19 : Hid (Cl u19 (w.heap.size) [.slice aoH0 nH0 cH0, .slice aoR0 nR0 cR0]) := P0u18.out.below hb
  have P1u19 : Hid (Cl u19 (w.heap.size + 1) [.slice aoR1 nR1 capR1, .bool z1, .bool c1, .bool hz1, .bool hc1, .slice aoH1 nH1 capH1, .int .i64 pc1, .int .i64 st1, .slice aoO1 nO1 capO1]) := P1u18.out.below hb
  have P2u19 : Hid (Cl u19 (w.heap.size + 1 + 1) [.slice aoR2 nR2 capR2, .bool z2, .bool c2, .bool hz2, .bool hc2, .slice aoH2 nH2 capH2, .int .i64 pc2, .int .i64 st2, .slice aoO2 nO2 capO2]) := P2u18.out.below hb
  have X0u19 : Hid (Cl u19 (u9.heap.size) [.slice (some ⟨bH0x, 0, none⟩) nH0 nH0, .slice (some ⟨bR0x, 0, none⟩) nR0 nR0]) := X0u18.out.below hb
  have X1u19 : Hid (Cl u19 (u11.heap.size) [.slice (some ⟨bR1x, 0, none⟩) nR1 nR1, .bool z1, .bool c1, .bool hz1, .bool hc1, .slice (some ⟨bH1x, 0, none⟩) nH1 nH1, .int .i64 pc1, .int .i64 st1, .slice (some ⟨bO1x, 0, none⟩) nO1 nO1]) := X1u18.out.below hb
  have X2u19 : Hid (Cl u19 (u13.heap.size) [.slice (some ⟨bR2x, 0, none⟩) nR2 nR2, .bool z2, .bool c2, .bool hz2, .bool hc2, .slice (some ⟨bH2x, 0, none⟩) nH2 nH2, .int .i64 pc2, .int .i64 st2, .slice (some ⟨bO2x, 0, none⟩) nO2 nO2]) := X2u18.out.below hb
  have C0' : Hid (SigCp u19 bH0x nH0 S0 bR0x nR0 V0) := C0.out.below hb
  clear C0
  have C0 := C0'
  clear C0'
  have C1' : Hid (MachCp u19 bR1x nR1 R1 bH1x nH1 Hp1 blk1x bO1x nO1 K1 V1) := C1.out.below hb (Nat.le_refl _)
  clear C1
  have C1 := C1'
  clear C1'
  have C2' : Hid (MachCp u19 bR2x nR2 R2 bH2x nH2 Hp2 blk2x bO2x nO2 K2 V2) := C2.out.below hb (Nat.le_refl _)
  clear C2
  have C2 := C2'
  clear C2'
  have HEu19 : Hid (Below u18.heap.size u18 u19) := hb
  have hbE := hb
  clear hb
  refine wpAnyH_tk 0 ?q8v rfl ?q8y ?q8r
  case q8y => (intro w hSw; (try dsimp only at hSw); go_simp; try with_reducible rfl)
  try go_frame
  refine wpAnyH_tk 1 ?q9v rfl ?q9y ?q9r
  case q9y => (intro w hSw; (try dsimp only at hSw); go_simp; try with_reducible rfl)
  try go_frame
  refine wpAnyH_ready (rs := [2]) (by kernel_rfl) (by simp) ?_
  refine AllReadyH.cons rfl (fun KK hK => ?_) AllReadyH.nil
  go_simp
  refine (toMach_any _ _ _ R1 _ _ _ _ _ _ _ Hp1 _ _ _ _ _ K1 V1 _ HS1.out (hin1.out.below (HBu19.out) (Nat.le_refl _))).mono ?_
  rintro e u20 ⟨bR1y1, bH1y1, blk1y1, bO1y1, g1y1, rfl, hb, hcp⟩
  have HBu20 : Hid (Below w.heap.size w u20) := HBu19.out.trans (hb.mono HBu19.out.size)
  have P0u20 : Hid (Cl u20 (w.heap.size) [.slice aoH0 nH0 cH0, .slice aoR0 nR0 cR0]) := P0u19.out.below hb
  have P1u20 : Hid (Cl u20 (w.heap.size + 1) [.slice aoR1 nR1 capR1, .bool z1, .bool c1, .bool hz1, .bool hc1, .slice aoH1 nH1 capH1, .int .i64 pc1, .int .i64 st1, .slice aoO1 nO1 capO1]) := P1u19.out.below hb
  have P2u20 : Hid (Cl u20 (w.heap.size + 1 + 1) [.slice aoR2 nR2 capR2, .bool z2, .bool c2, .bool hz2, .bool hc2, .slice aoH2 nH2 capH2, .int .i64 pc2, .int .i64 st2, .slice aoO2 nO2 capO2]) := P2u19.out.below hb
  have X0u20 : Hid (Cl u20 (u9.heap.size) [.slice (some ⟨bH0x, 0, none⟩) nH0 nH0, .slice (some ⟨bR0x, 0, none⟩) nR0 nR0]) := X0u19.out.below hb
  have X1u20 : Hid (Cl u20 (u11.heap.size) [.slice (some ⟨bR1x, 0, none⟩) nR1 nR1, .bool z1, .bool c1, .bool hz1, .bool hc1, .slice (some ⟨bH1x, 0, none⟩) nH1 nH1, .int .i64 pc1, .int .i64 st1, .slice (some ⟨bO1x, 0, none⟩) nO1 nO1]) := X1u19.out.below hb
  have X2u20 : Hid (Cl u20 (u13.heap.size) [.slice (some ⟨bR2x, 0, none⟩) nR2 nR2, .bool z2, .bool c2, .bool hz2, .bool hc2, .slice (some ⟨bH2x, 0, none⟩) nH2 nH2, .int .i64 pc2, .int .i64 st2, .slice (some ⟨bO2x, 0, none⟩) nO2 nO2]) := X2u19.out.below hb
  have C0' : Hid (SigCp u20 bH0x nH0 S0 bR0x nR0 V0) := C0.out.below hb
  clear C0
  have C0 := C0'
  clear C0'
  have C1' : Hid (MachCp u20 bR1x nR1 R1 bH1x nH1 Hp1 blk1x bO1x nO1 K1 V1) := C1.out.below hb (Nat.le_refl _)
  clear C1
  have C1 := C1'
  clear C1'
  have C2' : Hid (MachCp u20 bR2x nR2 R2 bH2x nH2 Hp2 blk2x bO2x nO2 K2 V2) := C2.out.below hb (Nat.le_refl _)
  clear C2
  have C2 := C2'
  clear C2'
  have HEu20 : Hid (Below u18.heap.size u18 u20) := HEu19.out.trans (hb.mono HEu19.out.size)
  have D : Hid (MachCp u20 bR1y1 nR1 R1 bH1y1 nH1 Hp1 blk1y1 bO1y1 nO1 K1 V1) := hcp
  clear hcp
  clear hb g1y1
  go_wp2_with fail
  refine hK.out _ _ HEu20.out (fun _ => ?_)
  clear hK KK
  try go_frame
  refine wpAnyH_ready (rs := [3]) (by kernel_rfl) (by simp) ?_
  refine AllReadyH.cons rfl (fun KK hK => ?_) AllReadyH.nil
  go_simp
  refine (eqMach_same _ _ R1 _ _ _ _ _ _ Hp1 _ _ _ _ _ K1 V1 _ _ _ _ _ HS1.out (C1.out) (D.out)).mono ?_
  rintro e u21 ⟨rfl, hb⟩
  have HBu21 : Hid (Below w.heap.size w u21) := HBu20.out.trans (hb.mono HBu20.out.size)
  have P0u21 : Hid (Cl u21 (w.heap.size) [.slice aoH0 nH0 cH0, .slice aoR0 nR0 cR0]) := P0u20.out.below hb
  have P1u21 : Hid (Cl u21 (w.heap.size + 1) [.slice aoR1 nR1 capR1, .bool z1, .bool c1, .bool hz1, .bool hc1, .slice aoH1 nH1 capH1, .int .i64 pc1, .int .i64 st1, .slice aoO1 nO1 capO1]) := P1u20.out.below hb
  have P2u21 : Hid (Cl u21 (w.heap.size + 1 + 1) [.slice aoR2 nR2 capR2, .bool z2, .bool c2, .bool hz2, .bool hc2, .slice aoH2 nH2 capH2, .int .i64 pc2, .int .i64 st2, .slice aoO2 nO2 capO2]) := P2u20.out.below hb
  have X0u21 : Hid (Cl u21 (u9.heap.size) [.slice (some ⟨bH0x, 0, none⟩) nH0 nH0, .slice (some ⟨bR0x, 0, none⟩) nR0 nR0]) := X0u20.out.below hb
  have X1u21 : Hid (Cl u21 (u11.heap.size) [.slice (some ⟨bR1x, 0, none⟩) nR1 nR1, .bool z1, .bool c1, .bool hz1, .bool hc1, .slice (some ⟨bH1x, 0, none⟩) nH1 nH1, .int .i64 pc1, .int .i64 st1, .slice (some ⟨bO1x, 0, none⟩) nO1 nO1]) := X1u20.out.below hb
  have X2u21 : Hid (Cl u21 (u13.heap.size) [.slice (some ⟨bR2x, 0, none⟩) nR2 nR2, .bool z2, .bool c2, .bool hz2, .bool hc2, .slice (some ⟨bH2x, 0, none⟩) nH2 nH2, .int .i64 pc2, .int .i64 st2, .slice (some ⟨bO2x, 0, none⟩) nO2 nO2]) := X2u20.out.below hb
  have C0' : Hid (SigCp u21 bH0x nH0 S0 bR0x nR0 V0) := C0.out.below hb
  clear C0
  have C0 := C0'
  clear C0'
  have C1' : Hid (MachCp u21 bR1x nR1 R1 bH1x nH1 Hp1 blk1x bO1x nO1 K1 V1) := C1.out.below hb (Nat.le_refl _)
  clear C1
  have C1 := C1'
  clear C1'
  have C2' : Hid (MachCp u21 bR2x nR2 R2 bH2x nH2 Hp2 blk2x bO2x nO2 K2 V2) := C2.out.below hb (Nat.le_refl _)
  clear C2
  have C2 := C2'
  clear C2'
  have D' : Hid (MachCp u21 bR1y1 nR1 R1 bH1y1 nH1 Hp1 blk1y1 bO1y1 nO1 K1 V1) := D.out.below hb (Nat.le_refl _)
  clear D
  have D := D'
  clear D'
  have HEu21 : Hid (Below u18.heap.size u18 u21) := HEu20.out.trans (hb.mono HEu20.out.size)
  clear hb
  go_wp2_with fail
  refine hK.out _ _ HEu21.out (fun _ => ?_)
  clear hK KK
  try go_frame
  refine wpAnyH_tk 4 ?q10v rfl ?q10y ?q10r
  case q10y => (intro w hSw; (try dsimp only at hSw); go_simp; try with_reducible rfl)
  try go_frame
  refine wpAnyH_done (by kernel_rfl) ?_ _
  clear hbE D rX10 rX11 rX12 rX13 rX14 rX15 rX16 rX17 rX18 rP10 rP11 rP12 rP13 rP14 rP15 rP16 rP17 rP18
  have zP0 : w.heap.size < u21.heap.size := P0u21.out.1
  have cP00 : u21.cell? ⟨w.heap.size, 0, none⟩ = some (.slice aoH0 nH0 cH0) := P0u21.out.2 0 (by simp)
  have cP01 : u21.cell? ⟨w.heap.size, 1, none⟩ = some (.slice aoR0 nR0 cR0) := P0u21.out.2 1 (by simp)
  have zP1 : w.heap.size + 1 < u21.heap.size := P1u21.out.1
  have cP10 : u21.cell? ⟨w.heap.size + 1, 0, none⟩ = some (.slice aoR1 nR1 capR1) := P1u21.out.2 0 (by simp)
  have cP11 : u21.cell? ⟨w.heap.size + 1, 1, none⟩ = some (.bool z1) := P1u21.out.2 1 (by simp)
  have cP12 : u21.cell? ⟨w.heap.size + 1, 2, none⟩ = some (.bool c1) := P1u21.out.2 2 (by simp)
  have cP13 : u21.cell? ⟨w.heap.size + 1, 3, none⟩ = some (.bool hz1) := P1u21.out.2 3 (by simp)
  have cP14 : u21.cell? ⟨w.heap.size + 1, 4, none⟩ = some (.bool hc1) := P1u21.out.2 4 (by simp)
  have cP15 : u21.cell? ⟨w.heap.size + 1, 5, none⟩ = some (.slice aoH1 nH1 capH1) := P1u21.out.2 5 (by simp)
  have cP16 : u21.cell? ⟨w.heap.size + 1, 6, none⟩ = some (.int .i64 pc1) := P1u21.out.2 6 (by simp)
  have cP17 : u21.cell? ⟨w.heap.size + 1, 7, none⟩ = some (.int .i64 st1) := P1u21.out.2 7 (by simp)
  have cP18 : u21.cell? ⟨w.heap.size + 1, 8, none⟩ = some (.slice aoO1 nO1 capO1) := P1u21.out.2 8 (by simp)
  have zP2 : w.heap.size + 1 + 1 < u21.heap.size := P2u21.out.1
  have cP20 : u21.cell? ⟨w.heap.size + 1 + 1, 0, none⟩ = some (.slice aoR2 nR2 capR2) := P2u21.out.2 0 (by simp)
  have cP21 : u21.cell? ⟨w.heap.size + 1 + 1, 1, none⟩ = some (.bool z2) := P2u21.out.2 1 (by simp)
  have cP22 : u21.cell? ⟨w.heap.size + 1 + 1, 2, none⟩ = some (.bool c2) := P2u21.out.2 2 (by simp)
  have cP23 : u21.cell? ⟨w.heap.size + 1 + 1, 3, none⟩ = some (.bool hz2) := P2u21.out.2 3 (by simp)
  have cP24 : u21.cell? ⟨w.heap.size + 1 + 1, 4, none⟩ = some (.bool hc2) := P2u21.out.2 4 (by simp)
  have cP25 : u21.cell? ⟨w.heap.size + 1 + 1, 5, none⟩ = some (.slice aoH2 nH2 capH2) := P2u21.out.2 5 (by simp)
  have cP26 : u21.cell? ⟨w.heap.size + 1 + 1, 6, none⟩ = some (.int .i64 pc2) := P2u21.out.2 6 (by simp)
  have cP27 : u21.cell? ⟨w.heap.size + 1 + 1, 7, none⟩ = some (.int .i64 st2) := P2u21.out.2 7 (by simp)
  have cP28 : u21.cell? ⟨w.heap.size + 1 + 1, 8, none⟩ = some (.slice aoO2 nO2 capO2) := P2u21.out.2 8 (by simp)
  have zX0 : u9.heap.size < u21.heap.size := X0u21.out.1
  have cX00 : u21.cell? ⟨u9.heap.size, 0, none⟩ = some (.slice (some ⟨bH0x, 0, none⟩) nH0 nH0) := X0u21.out.2 0 (by simp)
  have cX01 : u21.cell? ⟨u9.heap.size, 1, none⟩ = some (.slice (some ⟨bR0x, 0, none⟩) nR0 nR0) := X0u21.out.2 1 (by simp)
  have zX1 : u11.heap.size < u21.heap.size := X1u21.out.1
  have cX10 : u21.cell? ⟨u11.heap.size, 0, none⟩ = some (.slice (some ⟨bR1x, 0, none⟩) nR1 nR1) := X1u21.out.2 0 (by simp)
  have cX11 : u21.cell? ⟨u11.heap.size, 1, none⟩ = some (.bool z1) := X1u21.out.2 1 (by simp)
  have cX12 : u21.cell? ⟨u11.heap.size, 2, none⟩ = some (.bool c1) := X1u21.out.2 2 (by simp)
  have cX13 : u21.cell? ⟨u11.heap.size, 3, none⟩ = some (.bool hz1) := X1u21.out.2 3 (by simp)
  have cX14 : u21.cell? ⟨u11.heap.size, 4, none⟩ = some (.bool hc1) := X1u21.out.2 4 (by simp)
  have cX15 : u21.cell? ⟨u11.heap.size, 5, none⟩ = some (.slice (some ⟨bH1x, 0, none⟩) nH1 nH1) := X1u21.out.2 5 (by simp)
  have cX16 : u21.cell? ⟨u11.heap.size, 6, none⟩ = some (.int .i64 pc1) := X1u21.out.2 6 (by simp)
  have cX17 : u21.cell? ⟨u11.heap.size, 7, none⟩ = some (.int .i64 st1) := X1u21.out.2 7 (by simp)
  have cX18 : u21.cell? ⟨u11.heap.size, 8, none⟩ = some (.slice (some ⟨bO1x, 0, none⟩) nO1 nO1) := X1u21.out.2 8 (by simp)
  have zX2 : u13.heap.size < u21.heap.size := X2u21.out.1
  have cX20 : u21.cell? ⟨u13.heap.size, 0, none⟩ = some (.slice (some ⟨bR2x, 0, none⟩) nR2 nR2) := X2u21.out.2 0 (by simp)
  have cX21 : u21.cell? ⟨u13.heap.size, 1, none⟩ = some (.bool z2) := X2u21.out.2 1 (by simp)
  have cX22 : u21.cell? ⟨u13.heap.size, 2, none⟩ = some (.bool c2) := X2u21.out.2 2 (by simp)
  have cX23 : u21.cell? ⟨u13.heap.size, 3, none⟩ = some (.bool hz2) := X2u21.out.2 3 (by simp)
  have cX24 : u21.cell? ⟨u13.heap.size, 4, none⟩ = some (.bool hc2) := X2u21.out.2 4 (by simp)
  have cX25 : u21.cell? ⟨u13.heap.size, 5, none⟩ = some (.slice (some ⟨bH2x, 0, none⟩) nH2 nH2) := X2u21.out.2 5 (by simp)
  have cX26 : u21.cell? ⟨u13.heap.size, 6, none⟩ = some (.int .i64 pc2) := X2u21.out.2 6 (by simp)
  have cX27 : u21.cell? ⟨u13.heap.size, 7, none⟩ = some (.int .i64 st2) := X2u21.out.2 7 (by simp)
  have cX28 : u21.cell? ⟨u13.heap.size, 8, none⟩ = some (.slice (some ⟨bO2x, 0, none⟩) nO2 nO2) := X2u21.out.2 8 (by simp)
  go_upto_region 22 with fail
  clear zP0 cP00 cP01 zP1 cP10 cP11 cP12 cP13 cP14 cP15 cP16 cP17 cP18 zP2 cP20 cP21 cP22 cP23 cP24 cP25 cP26 cP27 cP28 zX0 cX00 cX01 zX1 cX10 cX11 cX12 cX13 cX14 cX15 cX16 cX17 cX18 zX2 cX20 cX21 cX22 cX23 cX24 cX25 cX26 cX27 cX28
  have rX20 : ∀ w', Below u21.heap.size u21 w' → w'.cell? ⟨u13.heap.size, 0, none⟩ = some (.slice (some ⟨bR2x, 0, none⟩) nR2 nR2) := fun w' h => (X2u21.out.below h).2 0 (by simp)
  have rX21 : ∀ w', Below u21.heap.size u21 w' → w'.cell? ⟨u13.heap.size, 1, none⟩ = some (.bool z2) := fun w' h => (X2u21.out.below h).2 1 (by simp)
  have rX22 : ∀ w', Below u21.heap.size u21 w' → w'.cell? ⟨u13.heap.size, 2, none⟩ = some (.bool c2) := fun w' h => (X2u21.out.below h).2 2 (by simp)
  have rX23 : ∀ w', Below u21.heap.size u21 w' → w'.cell? ⟨u13.heap.size, 3, none⟩ = some (.bool hz2) := fun w' h => (X2u21.out.below h).2 3 (by simp)
  have rX24 : ∀ w', Below u21.heap.size u21 w' → w'.cell? ⟨u13.heap.size, 4, none⟩ = some (.bool hc2) := fun w' h => (X2u21.out.below h).2 4 (by simp)
  have rX25 : ∀ w', Below u21.heap.size u21 w' → w'.cell? ⟨u13.heap.size, 5, none⟩ = some (.slice (some ⟨bH2x, 0, none⟩) nH2 nH2) := fun w' h => (X2u21.out.below h).2 5 (by simp)
  have rX26 : ∀ w', Below u21.heap.size u21 w' → w'.cell? ⟨u13.heap.size, 6, none⟩ = some (.int .i64 pc2) := fun w' h => (X2u21.out.below h).2 6 (by simp)
  have rX27 : ∀ w', Below u21.heap.size u21 w' → w'.cell? ⟨u13.heap.size, 7, none⟩ = some (.int .i64 st2) := fun w' h => (X2u21.out.below h).2 7 (by simp)
  have rX28 : ∀ w', Below u21.heap.size u21 w' → w'.cell? ⟨u13.heap.size, 8, none⟩ = some (.slice (some ⟨bO2x, 0, none⟩) nO2 nO2) := fun w' h => (X2u21.out.below h).2 8 (by simp)
  have rP20 : ∀ w', Below u21.heap.size u21 w' → w'.cell? ⟨w.heap.size + 1 + 1, 0, none⟩ = some (.slice aoR2 nR2 capR2) := fun w' h => (P2u21.out.below h).2 0 (by simp)
  have rP21 : ∀ w', Below u21.heap.size u21 w' → w'.cell? ⟨w.heap.size + 1 + 1, 1, none⟩ = some (.bool z2) := fun w' h => (P2u21.out.below h).2 1 (by simp)
  have rP22 : ∀ w', Below u21.heap.size u21 w' → w'.cell? ⟨w.heap.size + 1 + 1, 2, none⟩ = some (.bool c2) := fun w' h => (P2u21.out.below h).2 2 (by simp)
  have rP23 : ∀ w', Below u21.heap.size u21 w' → w'.cell? ⟨w.heap.size + 1 + 1, 3, none⟩ = some (.bool hz2) := fun w' h => (P2u21.out.below h).2 3 (by simp)
  have rP24 : ∀ w', Below u21.heap.size u21 w' → w'.cell? ⟨w.heap.size + 1 + 1, 4, none⟩ = some (.bool hc2) := fun w' h => (P2u21.out.below h).2 4 (by simp)
  have rP25 : ∀ w', Below u21.heap.size u21 w' → w'.cell? ⟨w.heap.size + 1 + 1, 5, none⟩ = some (.slice aoH2 nH2 capH2) := fun w' h => (P2u21.out.below h).2 5 (by simp)
  have rP26 : ∀ w', Below u21.heap.size u21 w' → w'.cell? ⟨w.heap.size + 1 + 1, 6, none⟩ = some (.int .i64 pc2) := fun w' h => (P2u21.out.below h).2 6 (by simp)
  have rP27 : ∀ w', Below u21.heap.size u21 w' → w'.cell? ⟨w.heap.size + 1 + 1, 7, none⟩ = some (.int .i64 st2) := fun w' h => (P2u21.out.below h).2 7 (by simp)
  have rP28 : ∀ w', Below u21.heap.size u21 w' → w'.cell? ⟨w.heap.size + 1 + 1, 8, none⟩ = some (.slice aoO2 nO2 capO2) := fun w' h => (P2u21.out.below h).2 8 (by simp)
  refine wp_region_held_drew (S := fun w' => Below u21.heap.size u21 w') (by kernel_rfl) (Below.refl _ _).drew (fun _ => ?_)
  obtain ⟨u22, hd, hb⟩ : ∃ v, u21.drew = v ∧ Below u21.heap.size u21 v := ⟨_, rfl, (Below.refl _ _).drew⟩
  rw [hd]
  clear hd
  have HBu22 : Hid (Below w.heap.size w u22) := HBu21.out.trans (hb.mono HBu21.out.size)
  have P0u22 : Hid (Cl u22 (w.heap.size) [.slice aoH0 nH0 cH0, .slice aoR0 nR0 cR0]) := P0u21.out.below hb
  have P1u22 : Hid (Cl u22 (w.heap.size + 1) [.slice aoR1 nR1 capR1, .bool z1, .bool c1, .bool hz1, .bool hc1, .slice aoH1 nH1 capH1, .int .i64 pc1, .int .i64 st1, .slice aoO1 nO1 capO1]) := P1u21.out.below hb
  have P2u22 : Hid (Cl u22 (w.heap.size + 1 + 1) [.slice aoR2 nR2 capR2, .bool z2, .bool c2, .bool hz2, .bool hc2, .slice aoH2 nH2 capH2, .int .i64 pc2, .int .i64 st2, .slice aoO2 nO2 capO2]) := P2u21.out.below hb
  have X0u22 : Hid (Cl u22 (u9.heap.size) [.slice (some ⟨bH0x, 0, none⟩) nH0 nH0, .slice (some ⟨bR0x, 0, none⟩) nR0 nR0]) := X0u21.out.below hb
  have X1u22 : Hid (Cl u22 (u11.heap.size) [.slice (some ⟨bR1x, 0, none⟩) nR1 nR1, .bool z1, .bool c1, .bool hz1, .bool hc1, .slice (some ⟨bH1x, 0, none⟩) nH1 nH1, .int .i64 pc1, .int .i64 st1, .slice (some ⟨bO1x, 0, none⟩) nO1 nO1]) := X1u21.out.below hb
  have X2u22 : Hid (Cl u22 (u13.heap.size) [.slice (some ⟨bR2x, 0, none⟩) nR2 nR2, .bool z2, .bool c2, .bool hz2, .bool hc2, .slice (some ⟨bH2x, 0, none⟩) nH2 nH2, .int .i64 pc2, .int .i64 st2, .slice (some ⟨bO2x, 0, none⟩) nO2 nO2]) := X2u21.out.below hb
  have C0' : Hid (SigCp u22 bH0x nH0 S0 bR0x nR0 V0) := C0.out.below hb
  clear C0
  have C0 := C0'
  clear C0'
  have C1' : Hid (MachCp u22 bR1x nR1 R1 bH1x nH1 Hp1 blk1x bO1x nO1 K1 V1) := C1.out.below hb (Nat.le_refl _)
  clear C1
  have C1 := C1'
  clear C1'
  have C2' : Hid (MachCp u22 bR2x nR2 R2 bH2x nH2 Hp2 blk2x bO2x nO2 K2 V2) := C2.out.below hb (Nat.le_refl _)
  clear C2
  have C2 := C2'
  clear C2'
  have HEu22 : Hid (Below u21.heap.size u21 u22) := hb
  have hbE := hb
  clear hb
  refine wpAnyH_tk 0 ?q11v rfl ?q11y ?q11r
  case q11y => (intro w hSw; (try dsimp only at hSw); go_simp; try with_reducible rfl)
  try go_frame
  refine wpAnyH_tk 1 ?q12v rfl ?q12y ?q12r
  case q12y => (intro w hSw; (try dsimp only at hSw); go_simp; try with_reducible rfl)
  try go_frame
  refine wpAnyH_ready (rs := [2]) (by kernel_rfl) (by simp) ?_
  refine AllReadyH.cons rfl (fun KK hK => ?_) AllReadyH.nil
  go_simp
  refine (toMach_any _ _ _ R2 _ _ _ _ _ _ _ Hp2 _ _ _ _ _ K2 V2 _ HS2.out (hin2.out.below (HBu22.out) (Nat.le_refl _))).mono ?_
  rintro e u23 ⟨bR2y2, bH2y2, blk2y2, bO2y2, g2y2, rfl, hb, hcp⟩
  have HBu23 : Hid (Below w.heap.size w u23) := HBu22.out.trans (hb.mono HBu22.out.size)
  have P0u23 : Hid (Cl u23 (w.heap.size) [.slice aoH0 nH0 cH0, .slice aoR0 nR0 cR0]) := P0u22.out.below hb
  have P1u23 : Hid (Cl u23 (w.heap.size + 1) [.slice aoR1 nR1 capR1, .bool z1, .bool c1, .bool hz1, .bool hc1, .slice aoH1 nH1 capH1, .int .i64 pc1, .int .i64 st1, .slice aoO1 nO1 capO1]) := P1u22.out.below hb
  have P2u23 : Hid (Cl u23 (w.heap.size + 1 + 1) [.slice aoR2 nR2 capR2, .bool z2, .bool c2, .bool hz2, .bool hc2, .slice aoH2 nH2 capH2, .int .i64 pc2, .int .i64 st2, .slice aoO2 nO2 capO2]) := P2u22.out.below hb
  have X0u23 : Hid (Cl u23 (u9.heap.size) [.slice (some ⟨bH0x, 0, none⟩) nH0 nH0, .slice (some ⟨bR0x, 0, none⟩) nR0 nR0]) := X0u22.out.below hb
  have X1u23 : Hid (Cl u23 (u11.heap.size) [.slice (some ⟨bR1x, 0, none⟩) nR1 nR1, .bool z1, .bool c1, .bool hz1, .bool hc1, .slice (some ⟨bH1x, 0, none⟩) nH1 nH1, .int .i64 pc1, .int .i64 st1, .slice (some ⟨bO1x, 0, none⟩) nO1 nO1]) := X1u22.out.below hb
  have X2u23 : Hid (Cl u23 (u13.heap.size) [.slice (some ⟨bR2x, 0, none⟩) nR2 nR2, .bool z2, .bool c2, .bool hz2, .bool hc2, .slice (some ⟨bH2x, 0, none⟩) nH2 nH2, .int .i64 pc2, .int .i64 st2, .slice (some ⟨bO2x, 0, none⟩) nO2 nO2]) := X2u22.out.below hb
  have C0' : Hid (SigCp u23 bH0x nH0 S0 bR0x nR0 V0) := C0.out.below hb
  clear C0
  have C0 := C0'
  clear C0'
  have C1' : Hid (MachCp u23 bR1x nR1 R1 bH1x nH1 Hp1 blk1x bO1x nO1 K1 V1) := C1.out.below hb (Nat.le_refl _)
  clear C1
  have C1 := C1'
  clear C1'
  have C2' : Hid (MachCp u23 bR2x nR2 R2 bH2x nH2 Hp2 blk2x bO2x nO2 K2 V2) := C2.out.below hb (Nat.le_refl _)
  clear C2
  have C2 := C2'
  clear C2'
  have HEu23 : Hid (Below u21.heap.size u21 u23) := HEu22.out.trans (hb.mono HEu22.out.size)
  have D : Hid (MachCp u23 bR2y2 nR2 R2 bH2y2 nH2 Hp2 blk2y2 bO2y2 nO2 K2 V2) := hcp
  clear hcp
  clear hb g2y2
  go_wp2_with fail
  refine hK.out _ _ HEu23.out (fun _ => ?_)
  clear hK KK
  try go_frame
  refine wpAnyH_ready (rs := [3]) (by kernel_rfl) (by simp) ?_
  refine AllReadyH.cons rfl (fun KK hK => ?_) AllReadyH.nil
  go_simp
  refine (eqMach_same _ _ R2 _ _ _ _ _ _ Hp2 _ _ _ _ _ K2 V2 _ _ _ _ _ HS2.out (C2.out) (D.out)).mono ?_
  rintro e u24 ⟨rfl, hb⟩
  have HBu24 : Hid (Below w.heap.size w u24) := HBu23.out.trans (hb.mono HBu23.out.size)
  have P0u24 : Hid (Cl u24 (w.heap.size) [.slice aoH0 nH0 cH0, .slice aoR0 nR0 cR0]) := P0u23.out.below hb
  have P1u24 : Hid (Cl u24 (w.heap.size + 1) [.slice aoR1 nR1 capR1, .bool z1, .bool c1, .bool hz1, .bool hc1, .slice aoH1 nH1 capH1, .int .i64 pc1, .int .i64 st1, .slice aoO1 nO1 capO1]) := P1u23.out.below hb
  have P2u24 : Hid (Cl u24 (w.heap.size + 1 + 1) [.slice aoR2 nR2 capR2, .bool z2, .bool c2, .bool hz2, .bool hc2, .slice aoH2 nH2 capH2, .int .i64 pc2, .int .i64 st2, .slice aoO2 nO2 capO2]) := P2u23.out.below hb
  have X0u24 : Hid (Cl u24 (u9.heap.size) [.slice (some ⟨bH0x, 0, none⟩) nH0 nH0, .slice (some ⟨bR0x, 0, none⟩) nR0 nR0]) := X0u23.out.below hb
  have X1u24 : Hid (Cl u24 (u11.heap.size) [.slice (some ⟨bR1x, 0, none⟩) nR1 nR1, .bool z1, .bool c1, .bool hz1, .bool hc1, .slice (some ⟨bH1x, 0, none⟩) nH1 nH1, .int .i64 pc1, .int .i64 st1, .slice (some ⟨bO1x, 0, none⟩) nO1 nO1]) := X1u23.out.below hb
  have X2u24 : Hid (Cl u24 (u13.heap.size) [.slice (some ⟨bR2x, 0, none⟩) nR2 nR2, .bool z2, .bool c2, .bool hz2, .bool hc2, .slice (some ⟨bH2x, 0, none⟩) nH2 nH2, .int .i64 pc2, .int .i64 st2, .slice (some ⟨bO2x, 0, none⟩) nO2 nO2]) := X2u23.out.below hb
  have C0' : Hid (SigCp u24 bH0x nH0 S0 bR0x nR0 V0) := C0.out.below hb
  clear C0
  have C0 := C0'
  clear C0'
  have C1' : Hid (MachCp u24 bR1x nR1 R1 bH1x nH1 Hp1 blk1x bO1x nO1 K1 V1) := C1.out.below hb (Nat.le_refl _)
  clear C1
  have C1 := C1'
  clear C1'
  have C2' : Hid (MachCp u24 bR2x nR2 R2 bH2x nH2 Hp2 blk2x bO2x nO2 K2 V2) := C2.out.below hb (Nat.le_refl _)
  clear C2
  have C2 := C2'
  clear C2'
  have D' : Hid (MachCp u24 bR2y2 nR2 R2 bH2y2 nH2 Hp2 blk2y2 bO2y2 nO2 K2 V2) := D.out.below hb (Nat.le_refl _)
  clear D
  have D := D'
  clear D'
  have HEu24 : Hid (Below u21.heap.size u21 u24) := HEu23.out.trans (hb.mono HEu23.out.size)
  clear hb
  go_wp2_with fail
  refine hK.out _ _ HEu24.out (fun _ => ?_)
  clear hK KK
  try go_frame
  refine wpAnyH_tk 4 ?q13v rfl ?q13y ?q13r
  case q13y => (intro w hSw; (try dsimp only at hSw); go_simp; try with_reducible rfl)
  try go_frame
  refine wpAnyH_done (by kernel_rfl) ?_ _
  clear hbE D rX20 rX21 rX22 rX23 rX24 rX25 rX26 rX27 rX28 rP20 rP21 rP22 rP23 rP24 rP25 rP26 rP27 rP28
  have zP0 : w.heap.size < u24.heap.size := P0u24.out.1
  have cP00 : u24.cell? ⟨w.heap.size, 0, none⟩ = some (.slice aoH0 nH0 cH0) := P0u24.out.2 0 (by simp)
  have cP01 : u24.cell? ⟨w.heap.size, 1, none⟩ = some (.slice aoR0 nR0 cR0) := P0u24.out.2 1 (by simp)
  have zP1 : w.heap.size + 1 < u24.heap.size := P1u24.out.1
  have cP10 : u24.cell? ⟨w.heap.size + 1, 0, none⟩ = some (.slice aoR1 nR1 capR1) := P1u24.out.2 0 (by simp)
  have cP11 : u24.cell? ⟨w.heap.size + 1, 1, none⟩ = some (.bool z1) := P1u24.out.2 1 (by simp)
  have cP12 : u24.cell? ⟨w.heap.size + 1, 2, none⟩ = some (.bool c1) := P1u24.out.2 2 (by simp)
  have cP13 : u24.cell? ⟨w.heap.size + 1, 3, none⟩ = some (.bool hz1) := P1u24.out.2 3 (by simp)
  have cP14 : u24.cell? ⟨w.heap.size + 1, 4, none⟩ = some (.bool hc1) := P1u24.out.2 4 (by simp)
  have cP15 : u24.cell? ⟨w.heap.size + 1, 5, none⟩ = some (.slice aoH1 nH1 capH1) := P1u24.out.2 5 (by simp)
  have cP16 : u24.cell? ⟨w.heap.size + 1, 6, none⟩ = some (.int .i64 pc1) := P1u24.out.2 6 (by simp)
  have cP17 : u24.cell? ⟨w.heap.size + 1, 7, none⟩ = some (.int .i64 st1) := P1u24.out.2 7 (by simp)
  have cP18 : u24.cell? ⟨w.heap.size + 1, 8, none⟩ = some (.slice aoO1 nO1 capO1) := P1u24.out.2 8 (by simp)
  have zP2 : w.heap.size + 1 + 1 < u24.heap.size := P2u24.out.1
  have cP20 : u24.cell? ⟨w.heap.size + 1 + 1, 0, none⟩ = some (.slice aoR2 nR2 capR2) := P2u24.out.2 0 (by simp)
  have cP21 : u24.cell? ⟨w.heap.size + 1 + 1, 1, none⟩ = some (.bool z2) := P2u24.out.2 1 (by simp)
  have cP22 : u24.cell? ⟨w.heap.size + 1 + 1, 2, none⟩ = some (.bool c2) := P2u24.out.2 2 (by simp)
  have cP23 : u24.cell? ⟨w.heap.size + 1 + 1, 3, none⟩ = some (.bool hz2) := P2u24.out.2 3 (by simp)
  have cP24 : u24.cell? ⟨w.heap.size + 1 + 1, 4, none⟩ = some (.bool hc2) := P2u24.out.2 4 (by simp)
  have cP25 : u24.cell? ⟨w.heap.size + 1 + 1, 5, none⟩ = some (.slice aoH2 nH2 capH2) := P2u24.out.2 5 (by simp)
  have cP26 : u24.cell? ⟨w.heap.size + 1 + 1, 6, none⟩ = some (.int .i64 pc2) := P2u24.out.2 6 (by simp)
  have cP27 : u24.cell? ⟨w.heap.size + 1 + 1, 7, none⟩ = some (.int .i64 st2) := P2u24.out.2 7 (by simp)
  have cP28 : u24.cell? ⟨w.heap.size + 1 + 1, 8, none⟩ = some (.slice aoO2 nO2 capO2) := P2u24.out.2 8 (by simp)
  have zX0 : u9.heap.size < u24.heap.size := X0u24.out.1
  have cX00 : u24.cell? ⟨u9.heap.size, 0, none⟩ = some (.slice (some ⟨bH0x, 0, none⟩) nH0 nH0) := X0u24.out.2 0 (by simp)
  have cX01 : u24.cell? ⟨u9.heap.size, 1, none⟩ = some (.slice (some ⟨bR0x, 0, none⟩) nR0 nR0) := X0u24.out.2 1 (by simp)
  have zX1 : u11.heap.size < u24.heap.size := X1u24.out.1
  have cX10 : u24.cell? ⟨u11.heap.size, 0, none⟩ = some (.slice (some ⟨bR1x, 0, none⟩) nR1 nR1) := X1u24.out.2 0 (by simp)
  have cX11 : u24.cell? ⟨u11.heap.size, 1, none⟩ = some (.bool z1) := X1u24.out.2 1 (by simp)
  have cX12 : u24.cell? ⟨u11.heap.size, 2, none⟩ = some (.bool c1) := X1u24.out.2 2 (by simp)
  have cX13 : u24.cell? ⟨u11.heap.size, 3, none⟩ = some (.bool hz1) := X1u24.out.2 3 (by simp)
  have cX14 : u24.cell? ⟨u11.heap.size, 4, none⟩ = some (.bool hc1) := X1u24.out.2 4 (by simp)
  have cX15 : u24.cell? ⟨u11.heap.size, 5, none⟩ = some (.slice (some ⟨bH1x, 0, none⟩) nH1 nH1) := X1u24.out.2 5 (by simp)
  have cX16 : u24.cell? ⟨u11.heap.size, 6, none⟩ = some (.int .i64 pc1) := X1u24.out.2 6 (by simp)
  have cX17 : u24.cell? ⟨u11.heap.size, 7, none⟩ = some (.int .i64 st1) := X1u24.out.2 7 (by simp)
  have cX18 : u24.cell? ⟨u11.heap.size, 8, none⟩ = some (.slice (some ⟨bO1x, 0, none⟩) nO1 nO1) := X1u24.out.2 8 (by simp)
  have zX2 : u13.heap.size < u24.heap.size := X2u24.out.1
  have cX20 : u24.cell? ⟨u13.heap.size, 0, none⟩ = some (.slice (some ⟨bR2x, 0, none⟩) nR2 nR2) := X2u24.out.2 0 (by simp)
  have cX21 : u24.cell? ⟨u13.heap.size, 1, none⟩ = some (.bool z2) := X2u24.out.2 1 (by simp)
  have cX22 : u24.cell? ⟨u13.heap.size, 2, none⟩ = some (.bool c2) := X2u24.out.2 2 (by simp)
  have cX23 : u24.cell? ⟨u13.heap.size, 3, none⟩ = some (.bool hz2) := X2u24.out.2 3 (by simp)
  have cX24 : u24.cell? ⟨u13.heap.size, 4, none⟩ = some (.bool hc2) := X2u24.out.2 4 (by simp)
  have cX25 : u24.cell? ⟨u13.heap.size, 5, none⟩ = some (.slice (some ⟨bH2x, 0, none⟩) nH2 nH2) := X2u24.out.2 5 (by simp)
  have cX26 : u24.cell? ⟨u13.heap.size, 6, none⟩ = some (.int .i64 pc2) := X2u24.out.2 6 (by simp)
  have cX27 : u24.cell? ⟨u13.heap.size, 7, none⟩ = some (.int .i64 st2) := X2u24.out.2 7 (by simp)
  have cX28 : u24.cell? ⟨u13.heap.size, 8, none⟩ = some (.slice (some ⟨bO2x, 0, none⟩) nO2 nO2) := X2u24.out.2 8 (by simp)
  go_wp2
  go_ret
  exact ⟨rfl, HBu24.out⟩

set_option maxRecDepth 100000 in
theorem lawSamePublic_lifted (os : Os) (started : os.Started) (H : Type) (enc : TypeId × Value → H) :
    ReturnsInHanded {} Try.checked os 9 .any (Rows.fnExactSamePublicSpec.pre6 enc Try.prog Try.f9 Rows.fnExactSamePublicRow.domain false) (Rows.fnExactSamePublicSpec.post enc Try.prog Try.f9 false true false false) := by
  refine returnsInHanded_of_change (C := Try.checked) (by kernel_rfl : ownKnob Try.prog.godebug = none) started (by kernel_rfl) Try.func9
    (ChangeSpec.witness6 (enc := enc) (C := Try.checked) false ⟨#[], #[.agg #[.slice none 0 0, .slice none 0 0], .agg #[.slice none 0 0, .bool false, .bool false, .bool false, .bool false, .slice none 0 0, .int .i64 0, .int .i64 0, .slice none 0 0], .agg #[.slice none 0 0, .bool false, .bool false, .bool false, .bool false, .slice none 0 0, .int .i64 0, .int .i64 0, .slice none 0 0]], []⟩ 8 (by kernel_rfl) (by kernel_rfl) (by kernel_rfl) (by kernel_rfl)) ?_
  intro W base args ds gs before hval0 hW _ _
  have hval : ∀ (j : Nat) t v, Try.f9.params[j]? = some t → args[j]? = some v → Value.okWide Try.prog W .any base t v := hval0
  have hW' := hW
  obtain ⟨p, q, hA0, hV, rfl, _, _⟩ := hW
  have hA : DataW.TrodAll enc Try.prog W 0 (fun _ => true) true Try.f9.params.toList args.toList ds p := hA0
  rw [Try.params9] at hA hval
  obtain ⟨v0, v1, v2, d0, d1, d2, p0, p1, p2, rfl, rfl, rfl, h0, h1, h2⟩ := trodAll_three hA
  obtain ⟨rfl, rfl⟩ := trodVars_none hV
  obtain ⟨cs0, rfl, _⟩ := okWide_struct Try.underlying42 (hval 0 42 v0 rfl rfl)
  obtain ⟨cs1, rfl, _⟩ := okWide_struct Try.underlying55 (hval 1 55 v1 rfl rfl)
  obtain ⟨cs2, rfl, _⟩ := okWide_struct Try.underlying55 (hval 2 55 v2 rfl rfl)
  have k0 := h0
  have lt0 : ∀ x ∈ p0, x.block < W.heap.size := by obtain ⟨m, hm⟩ := k0; exact DataW.trod_lt m _ _ _ hm
  obtain ⟨fuel0, hf0⟩ := h0
  obtain ⟨aoH0, nH0, cH0, S0, aoR0, nR0, cR0, V0, hcs0, mH0, mR0, hin0⟩ := open_sig hf0
  have : cs0 = #[.slice aoH0 nH0 cH0, .slice aoR0 nR0 cR0] := by
    cases cs0; simpa [Value.cells] using hcs0
  subst this
  have k1 := h1
  have lt1 : ∀ x ∈ p1, x.block < W.heap.size := by obtain ⟨m, hm⟩ := k1; exact DataW.trod_lt m _ _ _ hm
  obtain ⟨fuel1, hf1⟩ := h1
  obtain ⟨aoR1, nR1, capR1, R1, z1, c1, hz1, hc1, aoH1, nH1, capH1, Hp1, pc1, st1, aoO1, nO1, capO1, K1, V1, hcs1, mR1, mH1, mD1, mO1, hr1, hin1⟩ := open_machR hf1
  have : cs1 = #[.slice aoR1 nR1 capR1, .bool z1, .bool c1, .bool hz1, .bool hc1, .slice aoH1 nH1 capH1, .int .i64 pc1, .int .i64 st1, .slice aoO1 nO1 capO1] := by
    cases cs1; simpa [Value.cells] using hcs1
  subst this
  have k2 := h2
  have lt2 : ∀ x ∈ p2, x.block < W.heap.size := by obtain ⟨m, hm⟩ := k2; exact DataW.trod_lt m _ _ _ hm
  obtain ⟨fuel2, hf2⟩ := h2
  obtain ⟨aoR2, nR2, capR2, R2, z2, c2, hz2, hc2, aoH2, nH2, capH2, Hp2, pc2, st2, aoO2, nO2, capO2, K2, V2, hcs2, mR2, mH2, mD2, mO2, hr2, hin2⟩ := open_machR hf2
  have : cs2 = #[.slice aoR2 nR2 capR2, .bool z2, .bool c2, .bool hz2, .bool hc2, .slice aoH2 nH2 capH2, .int .i64 pc2, .int .i64 st2, .slice aoO2 nO2 capO2] := by
    cases cs2; simpa [Value.cells] using hcs2
  subst this
  clear hA0 hval0
  refine (lawSamePublic_walk _ _ _ _ _ _ _ _ _ _ _ _ _ _ _ _ _ _ _ _ _ _ _ _ _ _ _ _ _ _ _ _ _ _ _ _ _ _ _ _ _ _ _ _ _ _ W mH0 mR0 hin0 mR1 mH1 mD1 mO1 hr1 hin1 mR2 mH2 mD2 mO2 hr2 hin2).mono fun e W' ⟨he, bel⟩ => ?_
  subst he
  exact ⟨_, rfl, _, _, _, [], _, [], hW', trodAll_mk1 (shut_bool Try.underlying4 _), trodAll_mk3 (Below.trod (by kernel_rfl : laidOutB Try.prog = true) (by kernel_rfl) (of_decide_eq_true (by kernel_rfl)) k0 bel lt0) (Below.trod (by kernel_rfl : laidOutB Try.prog = true) (by kernel_rfl) (of_decide_eq_true (by kernel_rfl)) k1 bel lt1) (Below.trod (by kernel_rfl : laidOutB Try.prog = true) (by kernel_rfl) (of_decide_eq_true (by kernel_rfl)) k2 bel lt2), rfl, bel.frame _, fun h => by cases h⟩

theorem samePublic_holds : Rows.FnExactSamePublicSaid :=
  OpenClaim.holds_of_wide 9 Try.f9 rfl rfl rfl rfl rfl rfl rfl ⟨rfl, rfl, rfl, rfl, rfl⟩ rfl rfl rfl rfl rfl (by kernel_rfl) Try.func9 (by kernel_rfl)
    (of_decide_eq_true (by kernel_rfl)) (by unfold Func.isWrapper; first | (rw [if_pos (by decide +kernel)]; kernel_rfl) | (rw [if_neg (by decide +kernel)]; exact ⟨rfl, rfl⟩))
    (fun os started H enc _ => lawSamePublic_lifted os started H enc)
end Go.Proofs.Ytjnooklalbcamaa
