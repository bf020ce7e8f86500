/- FnExactFits: proved. -/
import Derived.Test.YtjnooklalbcamaaFitsAll
import Derived.Test.YtjnooklalbcamaaOpenMachR
import Derived.Test.YtjnooklalbcamaaOpenAbs
import Derived.Test.YtjnooklalbcamaaCl
import Derived.Test.YtjnooklalbcamaaRegL
import Derived.Deep.RegionHeld3
import Derived.Deep.Cut
import Derived.Deep.DeepCutAuto
import Derived.OpenShut
import Derived.ChangeOld
import Derived.Below
namespace Go.Proofs.Ytjnooklalbcamaa
open Go.ChangeShapes Go.WideShapes Go.ChangeAt Go.RowKit Go.Deep

set_option maxRecDepth 20000 in
set_option maxHeartbeats 8000000 in
theorem lawFits_walk (aoH0 : Option Addr) (nH0 cH0 : Nat) (S0 : Nat → HS) (aoR0 : Option Addr) (nR0 cR0 : Nat) (V0 : Nat → VV) (aoR1 : Option Addr) (nR1 capR1 : Nat) (R1 : Nat → Int) (z1 c1 hz1 hc1 : Bool) (aoH1 : Option Addr) (nH1 capH1 : Nat) (Hp1 : Nat → HeapV) (pc1 st1 : Int) (aoO1 : Option Addr) (nO1 capO1 : Nat) (K1 V1 : Nat → Int) (w : World) (mH0 : nH0 ≤ 9223372036854775807) (mR0 : nR0 ≤ 9223372036854775807) (hin0Z : SigIn w aoH0 nH0 S0 aoR0 nR0 V0) (mR1 : nR1 ≤ 9223372036854775807) (mH1 : nH1 ≤ 9223372036854775807) (mD1Z : ∀ i, i < nH1 → (Hp1 i).len ≤ 9223372036854775807) (mO1 : nO1 ≤ 9223372036854775807) (hr1Z : InRange R1 nH1 Hp1) (hin1Z : MachIn w aoR1 nR1 R1 aoH1 nH1 Hp1 aoO1 nO1 K1 V1) :
    Calls Try.prog 5 #[.agg #[.slice aoH0 nH0 cH0, .slice aoR0 nR0 cR0], .agg #[.slice aoR1 nR1 capR1, .bool z1, .bool c1, .bool hz1, .bool hc1, .slice aoH1 nH1 capH1, .int .i64 pc1, .int .i64 st1, .slice aoO1 nO1 capO1]] w fun e w' => e = .returned (.bool true) ∧ Below w.heap.size w w' := by
  have hin0 : Hid (SigIn w aoH0 nH0 S0 aoR0 nR0 V0) := hin0Z
  have mD1 : Hid (∀ i, i < nH1 → (Hp1 i).len ≤ 9223372036854775807) := mD1Z
  have hr1 : Hid (InRange R1 nH1 Hp1) := hr1Z
  have hin1 : Hid (MachIn w aoR1 nR1 R1 aoH1 nH1 Hp1 aoO1 nO1 K1 V1) := hin1Z
  clear hin0Z mD1Z hr1Z hin1Z
  obtain ⟨ok, hok⟩ : ∃ ok, fitsOK nH0 S0 nR0 V0 nR1 R1 z1 c1 hz1 hc1 nH1 Hp1 pc1 st1 nO1 K1 = ok := ⟨_, rfl⟩
  have hne : (ok != ok) = false := by simp
  have HOK : Hid (fitsOK nH0 S0 nR0 V0 nR1 R1 z1 c1 hz1 hc1 nH1 Hp1 pc1 st1 nO1 K1 = ok) := hok
  clear hok
  go_enter Try.func5, Try.ntmps5
  go_wp2_with fail
  obtain ⟨u0, hw0, HBu0, P0u0, P1u0⟩ : ∃ v, ((w.alloc (.cells #[.slice aoH0 nH0 cH0, .slice aoR0 nR0 cR0] 42)).alloc (.cells #[.slice aoR1 nR1 capR1, .bool z1, .bool c1, .bool hz1, .bool hc1, .slice aoH1 nH1 capH1, .int .i64 pc1, .int .i64 st1, .slice aoO1 nO1 capO1] 55)) = v ∧ Hid (Below w.heap.size w v) ∧ Hid (Cl v (w.heap.size) [.slice aoH0 nH0 cH0, .slice aoR0 nR0 cR0]) ∧ Hid (Cl v (w.heap.size + 1) [.slice aoR1 nR1 capR1, .bool z1, .bool c1, .bool hz1, .bool hc1, .slice aoH1 nH1 capH1, .int .i64 pc1, .int .i64 st1, .slice aoO1 nO1 capO1]) := by
    refine ⟨_, rfl, ?_, ?_, ?_⟩
    · exact ((Below.refl w.heap.size w).alloc (Nat.le_refl _) _).alloc (by simp) _
    · exact (Cl.new).below ((Below.refl _ _).alloc (Nat.le_refl _) _)
    · have h := Cl.new (w := w.alloc (.cells #[.slice aoH0 nH0 cH0, .slice aoR0 nR0 cR0] 42)) (vs := #[.slice aoR1 nR1 capR1, .bool z1, .bool c1, .bool hz1, .bool hc1, .slice aoH1 nH1 capH1, .int .i64 pc1, .int .i64 st1, .slice aoO1 nO1 capO1]) (t := 55)
      simp only [World.size_alloc] at h
      exact h
  rw [hw0]
  clear hw0
  refine (szSig_any _ _ _ _ _ _ _ _ (by omega) (by omega) mH0 mR0).mono ?_
  rintro e u1 ⟨r0, rfl, hl, hb⟩
  have HBu1 : Hid (Below w.heap.size w u1) := HBu0.out.trans (hb.mono HBu0.out.size)
  have P0u1 : Hid (Cl u1 (w.heap.size) [.slice aoH0 nH0 cH0, .slice aoR0 nR0 cR0]) := P0u0.out.below hb
  have P1u1 : Hid (Cl u1 (w.heap.size + 1) [.slice aoR1 nR1 capR1, .bool z1, .bool c1, .bool hz1, .bool hc1, .slice aoH1 nH1 capH1, .int .i64 pc1, .int .i64 st1, .slice aoO1 nO1 capO1]) := P1u0.out.below hb
  clear hb
  rcases hl with rfl | ⟨hr00, hr10, hs⟩
  · go_wp2
    go_ret
    exact ⟨rfl, HBu1.out⟩
  have HS0 : Hid (nH0 ≤ 1048576 ∧ nR0 ≤ 1048576) := hs
  clear hs
  have zP0 : w.heap.size < u1.heap.size := P0u1.out.1
  have cP00 : u1.cell? ⟨w.heap.size, 0, none⟩ = some (.slice aoH0 nH0 cH0) := P0u1.out.2 0 (by simp)
  have cP01 : u1.cell? ⟨w.heap.size, 1, none⟩ = some (.slice aoR0 nR0 cR0) := P0u1.out.2 1 (by simp)
  have zP1 : w.heap.size + 1 < u1.heap.size := P1u1.out.1
  have cP10 : u1.cell? ⟨w.heap.size + 1, 0, none⟩ = some (.slice aoR1 nR1 capR1) := P1u1.out.2 0 (by simp)
  have cP11 : u1.cell? ⟨w.heap.size + 1, 1, none⟩ = some (.bool z1) := P1u1.out.2 1 (by simp)
  have cP12 : u1.cell? ⟨w.heap.size + 1, 2, none⟩ = some (.bool c1) := P1u1.out.2 2 (by simp)
  have cP13 : u1.cell? ⟨w.heap.size + 1, 3, none⟩ = some (.bool hz1) := P1u1.out.2 3 (by simp)
  have cP14 : u1.cell? ⟨w.heap.size + 1, 4, none⟩ = some (.bool hc1) := P1u1.out.2 4 (by simp)
  have cP15 : u1.cell? ⟨w.heap.size + 1, 5, none⟩ = some (.slice aoH1 nH1 capH1) := P1u1.out.2 5 (by simp)
  have cP16 : u1.cell? ⟨w.heap.size + 1, 6, none⟩ = some (.int .i64 pc1) := P1u1.out.2 6 (by simp)
  have cP17 : u1.cell? ⟨w.heap.size + 1, 7, none⟩ = some (.int .i64 st1) := P1u1.out.2 7 (by simp)
  have cP18 : u1.cell? ⟨w.heap.size + 1, 8, none⟩ = some (.slice aoO1 nO1 capO1) := P1u1.out.2 8 (by simp)
  go_wp2_with fail
  refine (szMach_any _ _ _ _ _ _ _ _ _ _ Hp1 _ _ _ _ _ _ _ (by omega) (by omega) mR1 mH1 mD1.out mO1 (hin1.out.heaps.below (HBu1.out) (Nat.le_refl _))).mono ?_
  rintro e u2 ⟨r1, rfl, hl, hb⟩
  have HBu2 : Hid (Below w.heap.size w u2) := HBu1.out.trans (hb.mono HBu1.out.size)
  have P0u2 : Hid (Cl u2 (w.heap.size) [.slice aoH0 nH0 cH0, .slice aoR0 nR0 cR0]) := P0u1.out.below hb
  have P1u2 : Hid (Cl u2 (w.heap.size + 1) [.slice aoR1 nR1 capR1, .bool z1, .bool c1, .bool hz1, .bool hc1, .slice aoH1 nH1 capH1, .int .i64 pc1, .int .i64 st1, .slice aoO1 nO1 capO1]) := P1u1.out.below hb
  clear zP0 cP00 cP01 zP1 cP10 cP11 cP12 cP13 cP14 cP15 cP16 cP17 cP18
  clear hb
  rcases hl with rfl | ⟨hr01, hr11, hs⟩
  · go_wp2
    go_ret
    exact ⟨rfl, HBu2.out⟩
  have HS1 : Hid (Small nR1 nH1 Hp1 nO1) := hs
  clear hs
  have zP0 : w.heap.size < u2.heap.size := P0u2.out.1
  have cP00 : u2.cell? ⟨w.heap.size, 0, none⟩ = some (.slice aoH0 nH0 cH0) := P0u2.out.2 0 (by simp)
  have cP01 : u2.cell? ⟨w.heap.size, 1, none⟩ = some (.slice aoR0 nR0 cR0) := P0u2.out.2 1 (by simp)
  have zP1 : w.heap.size + 1 < u2.heap.size := P1u2.out.1
  have cP10 : u2.cell? ⟨w.heap.size + 1, 0, none⟩ = some (.slice aoR1 nR1 capR1) := P1u2.out.2 0 (by simp)
  have cP11 : u2.cell? ⟨w.heap.size + 1, 1, none⟩ = some (.bool z1) := P1u2.out.2 1 (by simp)
  have cP12 : u2.cell? ⟨w.heap.size + 1, 2, none⟩ = some (.bool c1) := P1u2.out.2 2 (by simp)
  have cP13 : u2.cell? ⟨w.heap.size + 1, 3, none⟩ = some (.bool hz1) := P1u2.out.2 3 (by simp)
  have cP14 : u2.cell? ⟨w.heap.size + 1, 4, none⟩ = some (.bool hc1) := P1u2.out.2 4 (by simp)
  have cP15 : u2.cell? ⟨w.heap.size + 1, 5, none⟩ = some (.slice aoH1 nH1 capH1) := P1u2.out.2 5 (by simp)
  have cP16 : u2.cell? ⟨w.heap.size + 1, 6, none⟩ = some (.int .i64 pc1) := P1u2.out.2 6 (by simp)
  have cP17 : u2.cell? ⟨w.heap.size + 1, 7, none⟩ = some (.int .i64 st1) := P1u2.out.2 7 (by simp)
  have cP18 : u2.cell? ⟨w.heap.size + 1, 8, none⟩ = some (.slice aoO1 nO1 capO1) := P1u2.out.2 8 (by simp)
  go_upto_region 8 with fail
  clear zP0 cP00 cP01 zP1 cP10 cP11 cP12 cP13 cP14 cP15 cP16 cP17 cP18
  have rP00 : ∀ w', Below u2.heap.size u2 w' → w'.cell? ⟨w.heap.size, 0, none⟩ = some (.slice aoH0 nH0 cH0) := fun w' h => (P0u2.out.below h).2 0 (by simp)
  have rP01 : ∀ w', Below u2.heap.size u2 w' → w'.cell? ⟨w.heap.size, 1, none⟩ = some (.slice aoR0 nR0 cR0) := fun w' h => (P0u2.out.below h).2 1 (by simp)
  have rP10 : ∀ w', Below u2.heap.size u2 w' → w'.cell? ⟨w.heap.size + 1, 0, none⟩ = some (.slice aoR1 nR1 capR1) := fun w' h => (P1u2.out.below h).2 0 (by simp)
  have rP11 : ∀ w', Below u2.heap.size u2 w' → w'.cell? ⟨w.heap.size + 1, 1, none⟩ = some (.bool z1) := fun w' h => (P1u2.out.below h).2 1 (by simp)
  have rP12 : ∀ w', Below u2.heap.size u2 w' → w'.cell? ⟨w.heap.size + 1, 2, none⟩ = some (.bool c1) := fun w' h => (P1u2.out.below h).2 2 (by simp)
  have rP13 : ∀ w', Below u2.heap.size u2 w' → w'.cell? ⟨w.heap.size + 1, 3, none⟩ = some (.bool hz1) := fun w' h => (P1u2.out.below h).2 3 (by simp)
  have rP14 : ∀ w', Below u2.heap.size u2 w' → w'.cell? ⟨w.heap.size + 1, 4, none⟩ = some (.bool hc1) := fun w' h => (P1u2.out.below h).2 4 (by simp)
  have rP15 : ∀ w', Below u2.heap.size u2 w' → w'.cell? ⟨w.heap.size + 1, 5, none⟩ = some (.slice aoH1 nH1 capH1) := fun w' h => (P1u2.out.below h).2 5 (by simp)
  have rP16 : ∀ w', Below u2.heap.size u2 w' → w'.cell? ⟨w.heap.size + 1, 6, none⟩ = some (.int .i64 pc1) := fun w' h => (P1u2.out.below h).2 6 (by simp)
  have rP17 : ∀ w', Below u2.heap.size u2 w' → w'.cell? ⟨w.heap.size + 1, 7, none⟩ = some (.int .i64 st1) := fun w' h => (P1u2.out.below h).2 7 (by simp)
  have rP18 : ∀ w', Below u2.heap.size u2 w' → w'.cell? ⟨w.heap.size + 1, 8, none⟩ = some (.slice aoO1 nO1 capO1) := fun w' h => (P1u2.out.below h).2 8 (by simp)
  refine wp_region_held_drew (S := fun w' => Below u2.heap.size u2 w') (by kernel_rfl) (Below.refl _ _).drew (fun _ => ?_)
  obtain ⟨u3, hd, hb⟩ : ∃ v, u2.drew = v ∧ Below u2.heap.size u2 v := ⟨_, rfl, (Below.refl _ _).drew⟩
  rw [hd]
  clear hd
  have HBu3 : Hid (Below w.heap.size w u3) := HBu2.out.trans (hb.mono HBu2.out.size)
  have P0u3 : Hid (Cl u3 (w.heap.size) [.slice aoH0 nH0 cH0, .slice aoR0 nR0 cR0]) := P0u2.out.below hb
  have P1u3 : Hid (Cl u3 (w.heap.size + 1) [.slice aoR1 nR1 capR1, .bool z1, .bool c1, .bool hz1, .bool hc1, .slice aoH1 nH1 capH1, .int .i64 pc1, .int .i64 st1, .slice aoO1 nO1 capO1]) := P1u2.out.below hb
  have HEu3 : Hid (Below u2.heap.size u2 u3) := hb
  have hbE := hb
  clear hb
  refine wpAnyH_tk 0 ?q1v rfl ?q1y ?q1r
  case q1y => (intro w hSw; (try dsimp only at hSw); go_simp; try with_reducible rfl)
  try go_frame
  refine wpAnyH_tk 2 ?q2v rfl ?q2y ?q2r
  case q2y => (intro w hSw; (try dsimp only at hSw); go_simp; try with_reducible rfl)
  try go_frame
  refine wpAnyH_ready (rs := [1]) (by kernel_rfl) (by simp) ?_
  refine AllReadyH.cons rfl (fun KK hK => ?_) AllReadyH.nil
  go_simp
  refine (toSig_in _ _ _ S0 _ _ _ V0 _ HS0.out.1 HS0.out.2 (hin0.out.below (HBu3.out) (Nat.le_refl _))).mono ?_
  rintro e u4 ⟨bH0s, bR0s, gH0s, gR0s, rfl, hb, hcp⟩
  have HBu4 : Hid (Below w.heap.size w u4) := HBu3.out.trans (hb.mono HBu3.out.size)
  have P0u4 : Hid (Cl u4 (w.heap.size) [.slice aoH0 nH0 cH0, .slice aoR0 nR0 cR0]) := P0u3.out.below hb
  have P1u4 : Hid (Cl u4 (w.heap.size + 1) [.slice aoR1 nR1 capR1, .bool z1, .bool c1, .bool hz1, .bool hc1, .slice aoH1 nH1 capH1, .int .i64 pc1, .int .i64 st1, .slice aoO1 nO1 capO1]) := P1u3.out.below hb
  have HEu4 : Hid (Below u2.heap.size u2 u4) := HEu3.out.trans (hb.mono HEu3.out.size)
  have C0 : Hid (SigCp u4 bH0s nH0 S0 bR0s nR0 V0) := hcp
  clear hcp
  clear hb gH0s gR0s
  go_wp2_with fail
  refine hK.out _ _ HEu4.out (fun _ => ?_)
  clear hK KK
  try go_frame
  refine wpAnyH_ready (rs := [3]) (by kernel_rfl) (by simp) ?_
  refine AllReadyH.cons rfl (fun KK hK => ?_) AllReadyH.nil
  go_simp
  refine (toMach_any _ _ _ R1 _ _ _ _ _ _ _ Hp1 _ _ _ _ _ K1 V1 _ HS1.out (hin1.out.below (HBu4.out) (Nat.le_refl _))).mono ?_
  rintro e u5 ⟨bR1s, bH1s, blk1s, bO1s, g1s, rfl, hb, hcp⟩
  have HBu5 : Hid (Below w.heap.size w u5) := HBu4.out.trans (hb.mono HBu4.out.size)
  have P0u5 : Hid (Cl u5 (w.heap.size) [.slice aoH0 nH0 cH0, .slice aoR0 nR0 cR0]) := P0u4.out.below hb
  have P1u5 : Hid (Cl u5 (w.heap.size + 1) [.slice aoR1 nR1 capR1, .bool z1, .bool c1, .bool hz1, .bool hc1, .slice aoH1 nH1 capH1, .int .i64 pc1, .int .i64 st1, .slice aoO1 nO1 capO1]) := P1u4.out.below hb
  have C0' : Hid (SigCp u5 bH0s nH0 S0 bR0s nR0 V0) := C0.out.below hb
  clear C0
  have C0 := C0'
  clear C0'
  have HEu5 : Hid (Below u2.heap.size u2 u5) := HEu4.out.trans (hb.mono HEu4.out.size)
  have C1 : Hid (MachCp u5 bR1s nR1 R1 bH1s nH1 Hp1 blk1s bO1s nO1 K1 V1) := hcp
  clear hcp
  clear hb g1s
  go_wp2_with fail
  refine hK.out _ _ HEu5.out (fun _ => ?_)
  clear hK KK
  try go_frame
  refine wpAnyH_ready (rs := [4]) (by kernel_rfl) (by simp) ?_
  refine AllReadyH.cons rfl (fun KK hK => ?_) AllReadyH.nil
  go_simp
  refine (specFits_any _ _ _ S0 _ _ _ V0 _ _ R1 _ _ _ _ _ _ Hp1 _ _ _ _ _ K1 V1 _ HS0.out.1 HS0.out.2 HS1.out hr1.out (C0.out) (C1.out)).mono ?_
  rintro e u6 ⟨rfl, hb⟩
  have HBu6 : Hid (Below w.heap.size w u6) := HBu5.out.trans (hb.mono HBu5.out.size)
  have P0u6 : Hid (Cl u6 (w.heap.size) [.slice aoH0 nH0 cH0, .slice aoR0 nR0 cR0]) := P0u5.out.below hb
  have P1u6 : Hid (Cl u6 (w.heap.size + 1) [.slice aoR1 nR1 capR1, .bool z1, .bool c1, .bool hz1, .bool hc1, .slice aoH1 nH1 capH1, .int .i64 pc1, .int .i64 st1, .slice aoO1 nO1 capO1]) := P1u5.out.below hb
  have C0' : Hid (SigCp u6 bH0s nH0 S0 bR0s nR0 V0) := C0.out.below hb
  clear C0
  have C0 := C0'
  clear C0'
  have C1' : Hid (MachCp u6 bR1s nR1 R1 bH1s nH1 Hp1 blk1s bO1s nO1 K1 V1) := C1.out.below hb (Nat.le_refl _)
  clear C1
  have C1 := C1'
  clear C1'
  have HEu6 : Hid (Below u2.heap.size u2 u6) := HEu5.out.trans (hb.mono HEu5.out.size)
  clear hb
  go_wp2_with fail
  refine hK.out _ _ HEu6.out (fun _ => ?_)
  clear hK KK
  try go_frame
  rw [HOK.out]
  refine wpAnyH_tk 5 ?q3v rfl ?q3y ?q3r
  case q3y => (intro w hSw; (try dsimp only at hSw); go_simp; try with_reducible rfl)
  try go_frame
  refine wpAnyH_done (by kernel_rfl) ?_ _
  clear hbE rP00 rP01 rP10 rP11 rP12 rP13 rP14 rP15 rP16 rP17 rP18 C0 C1
  have zP0 : w.heap.size < u6.heap.size := P0u6.out.1
  have cP00 : u6.cell? ⟨w.heap.size, 0, none⟩ = some (.slice aoH0 nH0 cH0) := P0u6.out.2 0 (by simp)
  have cP01 : u6.cell? ⟨w.heap.size, 1, none⟩ = some (.slice aoR0 nR0 cR0) := P0u6.out.2 1 (by simp)
  have zP1 : w.heap.size + 1 < u6.heap.size := P1u6.out.1
  have cP10 : u6.cell? ⟨w.heap.size + 1, 0, none⟩ = some (.slice aoR1 nR1 capR1) := P1u6.out.2 0 (by simp)
  have cP11 : u6.cell? ⟨w.heap.size + 1, 1, none⟩ = some (.bool z1) := P1u6.out.2 1 (by simp)
  have cP12 : u6.cell? ⟨w.heap.size + 1, 2, none⟩ = some (.bool c1) := P1u6.out.2 2 (by simp)
  have cP13 : u6.cell? ⟨w.heap.size + 1, 3, none⟩ = some (.bool hz1) := P1u6.out.2 3 (by simp)
  have cP14 : u6.cell? ⟨w.heap.size + 1, 4, none⟩ = some (.bool hc1) := P1u6.out.2 4 (by simp)
  have cP15 : u6.cell? ⟨w.heap.size + 1, 5, none⟩ = some (.slice aoH1 nH1 capH1) := P1u6.out.2 5 (by simp)
  have cP16 : u6.cell? ⟨w.heap.size + 1, 6, none⟩ = some (.int .i64 pc1) := P1u6.out.2 6 (by simp)
  have cP17 : u6.cell? ⟨w.heap.size + 1, 7, none⟩ = some (.int .i64 st1) := P1u6.out.2 7 (by simp)
  have cP18 : u6.cell? ⟨w.heap.size + 1, 8, none⟩ = some (.slice aoO1 nO1 capO1) := P1u6.out.2 8 (by simp)
  go_wp2_with fail
  refine (toSig_in _ _ _ S0 _ _ _ V0 _ HS0.out.1 HS0.out.2 (hin0.out.below (HBu6.out) (Nat.le_refl _))).mono ?_
  rintro e u7 ⟨bH0x, bR0x, gH0x, gR0x, rfl, hb, hcp⟩
  have HBu7 : Hid (Below w.heap.size w u7) := HBu6.out.trans (hb.mono HBu6.out.size)
  have P0u7 : Hid (Cl u7 (w.heap.size) [.slice aoH0 nH0 cH0, .slice aoR0 nR0 cR0]) := P0u6.out.below hb
  have P1u7 : Hid (Cl u7 (w.heap.size + 1) [.slice aoR1 nR1 capR1, .bool z1, .bool c1, .bool hz1, .bool hc1, .slice aoH1 nH1 capH1, .int .i64 pc1, .int .i64 st1, .slice aoO1 nO1 capO1]) := P1u6.out.below hb
  clear zP0 cP00 cP01 zP1 cP10 cP11 cP12 cP13 cP14 cP15 cP16 cP17 cP18
  have C0 : Hid (SigCp u7 bH0x nH0 S0 bR0x nR0 V0) := hcp
  clear hcp
  clear gH0x gR0x
  clear hb
  have zP0 : w.heap.size < u7.heap.size := P0u7.out.1
  have cP00 : u7.cell? ⟨w.heap.size, 0, none⟩ = some (.slice aoH0 nH0 cH0) := P0u7.out.2 0 (by simp)
  have cP01 : u7.cell? ⟨w.heap.size, 1, none⟩ = some (.slice aoR0 nR0 cR0) := P0u7.out.2 1 (by simp)
  have zP1 : w.heap.size + 1 < u7.heap.size := P1u7.out.1
  have cP10 : u7.cell? ⟨w.heap.size + 1, 0, none⟩ = some (.slice aoR1 nR1 capR1) := P1u7.out.2 0 (by simp)
  have cP11 : u7.cell? ⟨w.heap.size + 1, 1, none⟩ = some (.bool z1) := P1u7.out.2 1 (by simp)
  have cP12 : u7.cell? ⟨w.heap.size + 1, 2, none⟩ = some (.bool c1) := P1u7.out.2 2 (by simp)
  have cP13 : u7.cell? ⟨w.heap.size + 1, 3, none⟩ = some (.bool hz1) := P1u7.out.2 3 (by simp)
  have cP14 : u7.cell? ⟨w.heap.size + 1, 4, none⟩ = some (.bool hc1) := P1u7.out.2 4 (by simp)
  have cP15 : u7.cell? ⟨w.heap.size + 1, 5, none⟩ = some (.slice aoH1 nH1 capH1) := P1u7.out.2 5 (by simp)
  have cP16 : u7.cell? ⟨w.heap.size + 1, 6, none⟩ = some (.int .i64 pc1) := P1u7.out.2 6 (by simp)
  have cP17 : u7.cell? ⟨w.heap.size + 1, 7, none⟩ = some (.int .i64 st1) := P1u7.out.2 7 (by simp)
  have cP18 : u7.cell? ⟨w.heap.size + 1, 8, none⟩ = some (.slice aoO1 nO1 capO1) := P1u7.out.2 8 (by simp)
  go_wp2_with fail
  obtain ⟨u8, hv, hb, hx⟩ : ∃ v, u7.alloc (.cells #[.slice (some ⟨bH0x, 0, none⟩) nH0 nH0, .slice (some ⟨bR0x, 0, none⟩) nR0 nR0] 48) = v ∧ Below u7.heap.size u7 v ∧ Cl v u7.heap.size [.slice (some ⟨bH0x, 0, none⟩) nH0 nH0, .slice (some ⟨bR0x, 0, none⟩) nR0 nR0] := ⟨_, rfl, (Below.refl _ _).alloc (Nat.le_refl _) _, Cl.new⟩
  rw [hv]
  clear hv
  have HBu8 : Hid (Below w.heap.size w u8) := HBu7.out.trans (hb.mono HBu7.out.size)
  have P0u8 : Hid (Cl u8 (w.heap.size) [.slice aoH0 nH0 cH0, .slice aoR0 nR0 cR0]) := P0u7.out.below hb
  have P1u8 : Hid (Cl u8 (w.heap.size + 1) [.slice aoR1 nR1 capR1, .bool z1, .bool c1, .bool hz1, .bool hc1, .slice aoH1 nH1 capH1, .int .i64 pc1, .int .i64 st1, .slice aoO1 nO1 capO1]) := P1u7.out.below hb
  have C0' : Hid (SigCp u8 bH0x nH0 S0 bR0x nR0 V0) := C0.out.below hb
  clear C0
  have C0 := C0'
  clear C0'
  clear zP0 cP00 cP01 zP1 cP10 cP11 cP12 cP13 cP14 cP15 cP16 cP17 cP18
  have X0u8 : Hid (Cl u8 u7.heap.size [.slice (some ⟨bH0x, 0, none⟩) nH0 nH0, .slice (some ⟨bR0x, 0, none⟩) nR0 nR0]) := hx
  clear hx hb
  refine (toMach_any _ _ _ R1 _ _ _ _ _ _ _ Hp1 _ _ _ _ _ K1 V1 _ HS1.out (hin1.out.below (HBu8.out) (Nat.le_refl _))).mono ?_
  rintro e u9 ⟨bR1x, bH1x, blk1x, bO1x, g1x, rfl, hb, hcp⟩
  have HBu9 : Hid (Below w.heap.size w u9) := HBu8.out.trans (hb.mono HBu8.out.size)
  have P0u9 : Hid (Cl u9 (w.heap.size) [.slice aoH0 nH0 cH0, .slice aoR0 nR0 cR0]) := P0u8.out.below hb
  have P1u9 : Hid (Cl u9 (w.heap.size + 1) [.slice aoR1 nR1 capR1, .bool z1, .bool c1, .bool hz1, .bool hc1, .slice aoH1 nH1 capH1, .int .i64 pc1, .int .i64 st1, .slice aoO1 nO1 capO1]) := P1u8.out.below hb
  have X0u9 : Hid (Cl u9 (u7.heap.size) [.slice (some ⟨bH0x, 0, none⟩) nH0 nH0, .slice (some ⟨bR0x, 0, none⟩) nR0 nR0]) := X0u8.out.below hb
  have C0' : Hid (SigCp u9 bH0x nH0 S0 bR0x nR0 V0) := C0.out.below hb
  clear C0
  have C0 := C0'
  clear C0'
  have C1 : Hid (MachCp u9 bR1x nR1 R1 bH1x nH1 Hp1 blk1x bO1x nO1 K1 V1) := hcp
  clear hcp
  clear g1x
  clear hb
  have zP0 : w.heap.size < u9.heap.size := P0u9.out.1
  have cP00 : u9.cell? ⟨w.heap.size, 0, none⟩ = some (.slice aoH0 nH0 cH0) := P0u9.out.2 0 (by simp)
  have cP01 : u9.cell? ⟨w.heap.size, 1, none⟩ = some (.slice aoR0 nR0 cR0) := P0u9.out.2 1 (by simp)
  have zP1 : w.heap.size + 1 < u9.heap.size := P1u9.out.1
  have cP10 : u9.cell? ⟨w.heap.size + 1, 0, none⟩ = some (.slice aoR1 nR1 capR1) := P1u9.out.2 0 (by simp)
  have cP11 : u9.cell? ⟨w.heap.size + 1, 1, none⟩ = some (.bool z1) := P1u9.out.2 1 (by simp)
  have cP12 : u9.cell? ⟨w.heap.size + 1, 2, none⟩ = some (.bool c1) := P1u9.out.2 2 (by simp)
  have cP13 : u9.cell? ⟨w.heap.size + 1, 3, none⟩ = some (.bool hz1) := P1u9.out.2 3 (by simp)
  have cP14 : u9.cell? ⟨w.heap.size + 1, 4, none⟩ = some (.bool hc1) := P1u9.out.2 4 (by simp)
  have cP15 : u9.cell? ⟨w.heap.size + 1, 5, none⟩ = some (.slice aoH1 nH1 capH1) := P1u9.out.2 5 (by simp)
  have cP16 : u9.cell? ⟨w.heap.size + 1, 6, none⟩ = some (.int .i64 pc1) := P1u9.out.2 6 (by simp)
  have cP17 : u9.cell? ⟨w.heap.size + 1, 7, none⟩ = some (.int .i64 st1) := P1u9.out.2 7 (by simp)
  have cP18 : u9.cell? ⟨w.heap.size + 1, 8, none⟩ = some (.slice aoO1 nO1 capO1) := P1u9.out.2 8 (by simp)
  have zX0 : u7.heap.size < u9.heap.size := X0u9.out.1
  have cX00 : u9.cell? ⟨u7.heap.size, 0, none⟩ = some (.slice (some ⟨bH0x, 0, none⟩) nH0 nH0) := X0u9.out.2 0 (by simp)
  have cX01 : u9.cell? ⟨u7.heap.size, 1, none⟩ = some (.slice (some ⟨bR0x, 0, none⟩) nR0 nR0) := X0u9.out.2 1 (by simp)
  go_wp2_with fail
  obtain ⟨u10, hv, hb, hx⟩ : ∃ v, u9.alloc (.cells #[.slice (some ⟨bR1x, 0, none⟩) nR1 nR1, .bool z1, .bool c1, .bool hz1, .bool hc1, .slice (some ⟨bH1x, 0, none⟩) nH1 nH1, .int .i64 pc1, .int .i64 st1, .slice (some ⟨bO1x, 0, none⟩) nO1 nO1] 35) = v ∧ Below u9.heap.size u9 v ∧ Cl v u9.heap.size [.slice (some ⟨bR1x, 0, none⟩) nR1 nR1, .bool z1, .bool c1, .bool hz1, .bool hc1, .slice (some ⟨bH1x, 0, none⟩) nH1 nH1, .int .i64 pc1, .int .i64 st1, .slice (some ⟨bO1x, 0, none⟩) nO1 nO1] := ⟨_, rfl, (Below.refl _ _).alloc (Nat.le_refl _) _, Cl.new⟩
  rw [hv]
  clear hv
  have HBu10 : Hid (Below w.heap.size w u10) := HBu9.out.trans (hb.mono HBu9.out.size)
  have P0u10 : Hid (Cl u10 (w.heap.size) [.slice aoH0 nH0 cH0, .slice aoR0 nR0 cR0]) := P0u9.out.below hb
  have P1u10 : Hid (Cl u10 (w.heap.size + 1) [.slice aoR1 nR1 capR1, .bool z1, .bool c1, .bool hz1, .bool hc1, .slice aoH1 nH1 capH1, .int .i64 pc1, .int .i64 st1, .slice aoO1 nO1 capO1]) := P1u9.out.below hb
  have X0u10 : Hid (Cl u10 (u7.heap.size) [.slice (some ⟨bH0x, 0, none⟩) nH0 nH0, .slice (some ⟨bR0x, 0, none⟩) nR0 nR0]) := X0u9.out.below hb
  have C0' : Hid (SigCp u10 bH0x nH0 S0 bR0x nR0 V0) := C0.out.below hb
  clear C0
  have C0 := C0'
  clear C0'
  have C1' : Hid (MachCp u10 bR1x nR1 R1 bH1x nH1 Hp1 blk1x bO1x nO1 K1 V1) := C1.out.below hb (Nat.le_refl _)
  clear C1
  have C1 := C1'
  clear C1'
  clear zP0 cP00 cP01 zP1 cP10 cP11 cP12 cP13 cP14 cP15 cP16 cP17 cP18 zX0 cX00 cX01
  have X1u10 : Hid (Cl u10 u9.heap.size [.slice (some ⟨bR1x, 0, none⟩) nR1 nR1, .bool z1, .bool c1, .bool hz1, .bool hc1, .slice (some ⟨bH1x, 0, none⟩) nH1 nH1, .int .i64 pc1, .int .i64 st1, .slice (some ⟨bO1x, 0, none⟩) nO1 nO1]) := hx
  clear hx hb
  refine (implFits_any _ _ _ S0 _ _ _ V0 _ _ R1 _ _ _ _ _ _ Hp1 _ _ _ _ _ K1 V1 _ HS0.out.1 HS0.out.2 HS1.out hr1.out (C0.out) (C1.out)).mono ?_
  rintro e u11 ⟨rfl, hb⟩
  have HBu11 : Hid (Below w.heap.size w u11) := HBu10.out.trans (hb.mono HBu10.out.size)
  have P0u11 : Hid (Cl u11 (w.heap.size) [.slice aoH0 nH0 cH0, .slice aoR0 nR0 cR0]) := P0u10.out.below hb
  have P1u11 : Hid (Cl u11 (w.heap.size + 1) [.slice aoR1 nR1 capR1, .bool z1, .bool c1, .bool hz1, .bool hc1, .slice aoH1 nH1 capH1, .int .i64 pc1, .int .i64 st1, .slice aoO1 nO1 capO1]) := P1u10.out.below hb
  have X0u11 : Hid (Cl u11 (u7.heap.size) [.slice (some ⟨bH0x, 0, none⟩) nH0 nH0, .slice (some ⟨bR0x, 0, none⟩) nR0 nR0]) := X0u10.out.below hb
  have X1u11 : Hid (Cl u11 (u9.heap.size) [.slice (some ⟨bR1x, 0, none⟩) nR1 nR1, .bool z1, .bool c1, .bool hz1, .bool hc1, .slice (some ⟨bH1x, 0, none⟩) nH1 nH1, .int .i64 pc1, .int .i64 st1, .slice (some ⟨bO1x, 0, none⟩) nO1 nO1]) := X1u10.out.below hb
  have C0' : Hid (SigCp u11 bH0x nH0 S0 bR0x nR0 V0) := C0.out.below hb
  clear C0
  have C0 := C0'
  clear C0'
  have C1' : Hid (MachCp u11 bR1x nR1 R1 bH1x nH1 Hp1 blk1x bO1x nO1 K1 V1) := C1.out.below hb (Nat.le_refl _)
  clear C1
  have C1 := C1'
  clear C1'
  clear hb
  rw [HOK.out]
  have zP0 : w.heap.size < u11.heap.size := P0u11.out.1
  have cP00 : u11.cell? ⟨w.heap.size, 0, none⟩ = some (.slice aoH0 nH0 cH0) := P0u11.out.2 0 (by simp)
  have cP01 : u11.cell? ⟨w.heap.size, 1, none⟩ = some (.slice aoR0 nR0 cR0) := P0u11.out.2 1 (by simp)
  have zP1 : w.heap.size + 1 < u11.heap.size := P1u11.out.1
  have cP10 : u11.cell? ⟨w.heap.size + 1, 0, none⟩ = some (.slice aoR1 nR1 capR1) := P1u11.out.2 0 (by simp)
  have cP11 : u11.cell? ⟨w.heap.size + 1, 1, none⟩ = some (.bool z1) := P1u11.out.2 1 (by simp)
  have cP12 : u11.cell? ⟨w.heap.size + 1, 2, none⟩ = some (.bool c1) := P1u11.out.2 2 (by simp)
  have cP13 : u11.cell? ⟨w.heap.size + 1, 3, none⟩ = some (.bool hz1) := P1u11.out.2 3 (by simp)
  have cP14 : u11.cell? ⟨w.heap.size + 1, 4, none⟩ = some (.bool hc1) := P1u11.out.2 4 (by simp)
  have cP15 : u11.cell? ⟨w.heap.size + 1, 5, none⟩ = some (.slice aoH1 nH1 capH1) := P1u11.out.2 5 (by simp)
  have cP16 : u11.cell? ⟨w.heap.size + 1, 6, none⟩ = some (.int .i64 pc1) := P1u11.out.2 6 (by simp)
  have cP17 : u11.cell? ⟨w.heap.size + 1, 7, none⟩ = some (.int .i64 st1) := P1u11.out.2 7 (by simp)
  have cP18 : u11.cell? ⟨w.heap.size + 1, 8, none⟩ = some (.slice aoO1 nO1 capO1) := P1u11.out.2 8 (by simp)
  have zX0 : u7.heap.size < u11.heap.size := X0u11.out.1
  have cX00 : u11.cell? ⟨u7.heap.size, 0, none⟩ = some (.slice (some ⟨bH0x, 0, none⟩) nH0 nH0) := X0u11.out.2 0 (by simp)
  have cX01 : u11.cell? ⟨u7.heap.size, 1, none⟩ = some (.slice (some ⟨bR0x, 0, none⟩) nR0 nR0) := X0u11.out.2 1 (by simp)
  have zX1 : u9.heap.size < u11.heap.size := X1u11.out.1
  have cX10 : u11.cell? ⟨u9.heap.size, 0, none⟩ = some (.slice (some ⟨bR1x, 0, none⟩) nR1 nR1) := X1u11.out.2 0 (by simp)
  have cX11 : u11.cell? ⟨u9.heap.size, 1, none⟩ = some (.bool z1) := X1u11.out.2 1 (by simp)
  have cX12 : u11.cell? ⟨u9.heap.size, 2, none⟩ = some (.bool c1) := X1u11.out.2 2 (by simp)
  have cX13 : u11.cell? ⟨u9.heap.size, 3, none⟩ = some (.bool hz1) := X1u11.out.2 3 (by simp)
  have cX14 : u11.cell? ⟨u9.heap.size, 4, none⟩ = some (.bool hc1) := X1u11.out.2 4 (by simp)
  have cX15 : u11.cell? ⟨u9.heap.size, 5, none⟩ = some (.slice (some ⟨bH1x, 0, none⟩) nH1 nH1) := X1u11.out.2 5 (by simp)
  have cX16 : u11.cell? ⟨u9.heap.size, 6, none⟩ = some (.int .i64 pc1) := X1u11.out.2 6 (by simp)
  have cX17 : u11.cell? ⟨u9.heap.size, 7, none⟩ = some (.int .i64 st1) := X1u11.out.2 7 (by simp)
  have cX18 : u11.cell? ⟨u9.heap.size, 8, none⟩ = some (.slice (some ⟨bO1x, 0, none⟩) nO1 nO1) := X1u11.out.2 8 (by simp)
  go_upto_region 14 with fail
  clear zP0 cP00 cP01 zP1 cP10 cP11 cP12 cP13 cP14 cP15 cP16 cP17 cP18 zX0 cX00 cX01 zX1 cX10 cX11 cX12 cX13 cX14 cX15 cX16 cX17 cX18
  have rX00 : ∀ w', Below u11.heap.size u11 w' → w'.cell? ⟨u7.heap.size, 0, none⟩ = some (.slice (some ⟨bH0x, 0, none⟩) nH0 nH0) := fun w' h => (X0u11.out.below h).2 0 (by simp)
  have rX01 : ∀ w', Below u11.heap.size u11 w' → w'.cell? ⟨u7.heap.size, 1, none⟩ = some (.slice (some ⟨bR0x, 0, none⟩) nR0 nR0) := fun w' h => (X0u11.out.below h).2 1 (by simp)
  have rP00 : ∀ w', Below u11.heap.size u11 w' → w'.cell? ⟨w.heap.size, 0, none⟩ = some (.slice aoH0 nH0 cH0) := fun w' h => (P0u11.out.below h).2 0 (by simp)
  have rP01 : ∀ w', Below u11.heap.size u11 w' → w'.cell? ⟨w.heap.size, 1, none⟩ = some (.slice aoR0 nR0 cR0) := fun w' h => (P0u11.out.below h).2 1 (by simp)
  refine wp_region_held_drew (S := fun w' => Below u11.heap.size u11 w') (by kernel_rfl) (Below.refl _ _).drew (fun _ => ?_)
  obtain ⟨u12, hd, hb⟩ : ∃ v, u11.drew = v ∧ Below u11.heap.size u11 v := ⟨_, rfl, (Below.refl _ _).drew⟩
  rw [hd]
  clear hd
  have HBu12 : Hid (Below w.heap.size w u12) := HBu11.out.trans (hb.mono HBu11.out.size)
  have P0u12 : Hid (Cl u12 (w.heap.size) [.slice aoH0 nH0 cH0, .slice aoR0 nR0 cR0]) := P0u11.out.below hb
  have P1u12 : Hid (Cl u12 (w.heap.size + 1) [.slice aoR1 nR1 capR1, .bool z1, .bool c1, .bool hz1, .bool hc1, .slice aoH1 nH1 capH1, .int .i64 pc1, .int .i64 st1, .slice aoO1 nO1 capO1]) := P1u11.out.below hb
  have X0u12 : Hid (Cl u12 (u7.heap.size) [.slice (some ⟨bH0x, 0, none⟩) nH0 nH0, .slice (some ⟨bR0x, 0, none⟩) nR0 nR0]) := X0u11.out.below hb
  have X1u12 : Hid (Cl u12 (u9.heap.size) [.slice (some ⟨bR1x, 0, none⟩) nR1 nR1, .bool z1, .bool c1, .bool hz1, .bool hc1, .slice (some ⟨bH1x, 0, none⟩) nH1 nH1, .int .i64 pc1, .int .i64 st1, .slice (some ⟨bO1x, 0, none⟩) nO1 nO1]) := X1u11.out.below hb
  have C0' : Hid (SigCp u12 bH0x nH0 S0 bR0x nR0 V0) := C0.out.below hb
  clear C0
  have C0 := C0'
  clear C0'
  have C1' : Hid (MachCp u12 bR1x nR1 R1 bH1x nH1 Hp1 blk1x bO1x nO1 K1 V1) := C1.out.below hb (Nat.le_refl _)
  clear C1
  have C1 := C1'
  clear C1'
  have HEu12 : Hid (Below u11.heap.size u11 u12) := hb
  have hbE := hb
  clear hb
  refine wpAnyH_tk 0 ?q4v rfl ?q4y ?q4r
  case q4y => (intro w hSw; (try dsimp only at hSw); go_simp; try with_reducible rfl)
  try go_frame
  refine wpAnyH_tk 1 ?q5v rfl ?q5y ?q5r
  case q5y => (intro w hSw; (try dsimp only at hSw); go_simp; try with_reducible rfl)
  try go_frame
  refine wpAnyH_ready (rs := [2]) (by kernel_rfl) (by simp) ?_
  refine AllReadyH.cons rfl (fun KK hK => ?_) AllReadyH.nil
  go_simp
  refine (toSig_in _ _ _ S0 _ _ _ V0 _ HS0.out.1 HS0.out.2 (hin0.out.below (HBu12.out) (Nat.le_refl _))).mono ?_
  rintro e u13 ⟨bH0y0, bR0y0, gH0y0, gR0y0, rfl, hb, hcp⟩
  have HBu13 : Hid (Below w.heap.size w u13) := HBu12.out.trans (hb.mono HBu12.out.size)
  have P0u13 : Hid (Cl u13 (w.heap.size) [.slice aoH0 nH0 cH0, .slice aoR0 nR0 cR0]) := P0u12.out.below hb
  have P1u13 : Hid (Cl u13 (w.heap.size + 1) [.slice aoR1 nR1 capR1, .bool z1, .bool c1, .bool hz1, .bool hc1, .slice aoH1 nH1 capH1, .int .i64 pc1, .int .i64 st1, .slice aoO1 nO1 capO1]) := P1u12.out.below hb
  have X0u13 : Hid (Cl u13 (u7.heap.size) [.slice (some ⟨bH0x, 0, none⟩) nH0 nH0, .slice (some ⟨bR0x, 0, none⟩) nR0 nR0]) := X0u12.out.below hb
  have X1u13 : Hid (Cl u13 (u9.heap.size) [.slice (some ⟨bR1x, 0, none⟩) nR1 nR1, .bool z1, .bool c1, .bool hz1, .bool hc1, .slice (some ⟨bH1x, 0, none⟩) nH1 nH1, .int .i64 pc1, .int .i64 st1, .slice (some ⟨bO1x, 0, none⟩) nO1 nO1]) := X1u12.out.below hb
  have C0' : Hid (SigCp u13 bH0x nH0 S0 bR0x nR0 V0) := C0.out.below hb
  clear C0
  have C0 := C0'
  clear C0'
  have C1' : Hid (MachCp u13 bR1x nR1 R1 bH1x nH1 Hp1 blk1x bO1x nO1 K1 V1) := C1.out.below hb (Nat.le_refl _)
  clear C1
  have C1 := C1'
  clear C1'
  have HEu13 : Hid (Below u11.heap.size u11 u13) := HEu12.out.trans (hb.mono HEu12.out.size)
  have D : Hid (SigCp u13 bH0y0 nH0 S0 bR0y0 nR0 V0) := hcp
  clear hcp
  clear hb gH0y0 gR0y0
  go_wp2_with fail
  refine hK.out _ _ HEu13.out (fun _ => ?_)
  clear hK KK
  try go_frame
  refine wpAnyH_ready (rs := [3]) (by kernel_rfl) (by simp) ?_
  refine AllReadyH.cons rfl (fun KK hK => ?_) AllReadyH.nil
  go_simp
  refine (eqSig_same _ _ _ S0 _ _ _ V0 _ _ _ _ _ HS0.out.1 HS0.out.2 (C0.out) (D.out)).mono ?_
  rintro e u14 ⟨rfl, hb⟩
  have HBu14 : Hid (Below w.heap.size w u14) := HBu13.out.trans (hb.mono HBu13.out.size)
  have P0u14 : Hid (Cl u14 (w.heap.size) [.slice aoH0 nH0 cH0, .slice aoR0 nR0 cR0]) := P0u13.out.below hb
  have P1u14 : Hid (Cl u14 (w.heap.size + 1) [.slice aoR1 nR1 capR1, .bool z1, .bool c1, .bool hz1, .bool hc1, .slice aoH1 nH1 capH1, .int .i64 pc1, .int .i64 st1, .slice aoO1 nO1 capO1]) := P1u13.out.below hb
  have X0u14 : Hid (Cl u14 (u7.heap.size) [.slice (some ⟨bH0x, 0, none⟩) nH0 nH0, .slice (some ⟨bR0x, 0, none⟩) nR0 nR0]) := X0u13.out.below hb
  have X1u14 : Hid (Cl u14 (u9.heap.size) [.slice (some ⟨bR1x, 0, none⟩) nR1 nR1, .bool z1, .bool c1, .bool hz1, .bool hc1, .slice (some ⟨bH1x, 0, none⟩) nH1 nH1, .int .i64 pc1, .int .i64 st1, .slice (some ⟨bO1x, 0, none⟩) nO1 nO1]) := X1u13.out.below hb
  have C0' : Hid (SigCp u14 bH0x nH0 S0 bR0x nR0 V0) := C0.out.below hb
  clear C0
  have C0 := C0'
  clear C0'
  have C1' : Hid (MachCp u14 bR1x nR1 R1 bH1x nH1 Hp1 blk1x bO1x nO1 K1 V1) := C1.out.below hb (Nat.le_refl _)
  clear C1
  have C1 := C1'
  clear C1'
  have D' : Hid (SigCp u14 bH0y0 nH0 S0 bR0y0 nR0 V0) := D.out.below hb
  clear D
  have D := D'
  clear D'
  have HEu14 : Hid (Below u11.heap.size u11 u14) := HEu13.out.trans (hb.mono HEu13.out.size)
  clear hb
  go_wp2_with fail
  refine hK.out _ _ HEu14.out (fun _ => ?_)
  clear hK KK
  try go_frame
  refine wpAnyH_tk 4 ?q6v rfl ?q6y ?q6r
  case q6y => (intro w hSw; (try dsimp only at hSw); go_simp; try with_reducible rfl)
  try go_frame
  refine wpAnyH_done (by kernel_rfl) ?_ _
  clear hbE D rX00 rX01 rP00 rP01
  have zP0 : w.heap.size < u14.heap.size := P0u14.out.1
  have cP00 : u14.cell? ⟨w.heap.size, 0, none⟩ = some (.slice aoH0 nH0 cH0) := P0u14.out.2 0 (by simp)
  have cP01 : u14.cell? ⟨w.heap.size, 1, none⟩ = some (.slice aoR0 nR0 cR0) := P0u14.out.2 1 (by simp)
  have zP1 : w.heap.size + 1 < u14.heap.size := P1u14.out.1
  have cP10 : u14.cell? ⟨w.heap.size + 1, 0, none⟩ = some (.slice aoR1 nR1 capR1) := P1u14.out.2 0 (by simp)
  have cP11 : u14.cell? ⟨w.heap.size + 1, 1, none⟩ = some (.bool z1) := P1u14.out.2 1 (by simp)
  have cP12 : u14.cell? ⟨w.heap.size + 1, 2, none⟩ = some (.bool c1) := P1u14.out.2 2 (by simp)
  have cP13 : u14.cell? ⟨w.heap.size + 1, 3, none⟩ = some (.bool hz1) := P1u14.out.2 3 (by simp)
  have cP14 : u14.cell? ⟨w.heap.size + 1, 4, none⟩ = some (.bool hc1) := P1u14.out.2 4 (by simp)
  have cP15 : u14.cell? ⟨w.heap.size + 1, 5, none⟩ = some (.slice aoH1 nH1 capH1) := P1u14.out.2 5 (by simp)
  have cP16 : u14.cell? ⟨w.heap.size + 1, 6, none⟩ = some (.int .i64 pc1) := P1u14.out.2 6 (by simp)
  have cP17 : u14.cell? ⟨w.heap.size + 1, 7, none⟩ = some (.int .i64 st1) := P1u14.out.2 7 (by simp)
  have cP18 : u14.cell? ⟨w.heap.size + 1, 8, none⟩ = some (.slice aoO1 nO1 capO1) := P1u14.out.2 8 (by simp)
  have zX0 : u7.heap.size < u14.heap.size := X0u14.out.1
  have cX00 : u14.cell? ⟨u7.heap.size, 0, none⟩ = some (.slice (some ⟨bH0x, 0, none⟩) nH0 nH0) := X0u14.out.2 0 (by simp)
  have cX01 : u14.cell? ⟨u7.heap.size, 1, none⟩ = some (.slice (some ⟨bR0x, 0, none⟩) nR0 nR0) := X0u14.out.2 1 (by simp)
  have zX1 : u9.heap.size < u14.heap.size := X1u14.out.1
  have cX10 : u14.cell? ⟨u9.heap.size, 0, none⟩ = some (.slice (some ⟨bR1x, 0, none⟩) nR1 nR1) := X1u14.out.2 0 (by simp)
  have cX11 : u14.cell? ⟨u9.heap.size, 1, none⟩ = some (.bool z1) := X1u14.out.2 1 (by simp)
  have cX12 : u14.cell? ⟨u9.heap.size, 2, none⟩ = some (.bool c1) := X1u14.out.2 2 (by simp)
  have cX13 : u14.cell? ⟨u9.heap.size, 3, none⟩ = some (.bool hz1) := X1u14.out.2 3 (by simp)
  have cX14 : u14.cell? ⟨u9.heap.size, 4, none⟩ = some (.bool hc1) := X1u14.out.2 4 (by simp)
  have cX15 : u14.cell? ⟨u9.heap.size, 5, none⟩ = some (.slice (some ⟨bH1x, 0, none⟩) nH1 nH1) := X1u14.out.2 5 (by simp)
  have cX16 : u14.cell? ⟨u9.heap.size, 6, none⟩ = some (.int .i64 pc1) := X1u14.out.2 6 (by simp)
  have cX17 : u14.cell? ⟨u9.heap.size, 7, none⟩ = some (.int .i64 st1) := X1u14.out.2 7 (by simp)
  have cX18 : u14.cell? ⟨u9.heap.size, 8, none⟩ = some (.slice (some ⟨bO1x, 0, none⟩) nO1 nO1) := X1u14.out.2 8 (by simp)
  go_upto_region 16 with fail
  clear zP0 cP00 cP01 zP1 cP10 cP11 cP12 cP13 cP14 cP15 cP16 cP17 cP18 zX0 cX00 cX01 zX1 cX10 cX11 cX12 cX13 cX14 cX15 cX16 cX17 cX18
  have rX10 : ∀ w', Below u14.heap.size u14 w' → w'.cell? ⟨u9.heap.size, 0, none⟩ = some (.slice (some ⟨bR1x, 0, none⟩) nR1 nR1) := fun w' h => (X1u14.out.below h).2 0 (by simp)
  have rX11 : ∀ w', Below u14.heap.size u14 w' → w'.cell? ⟨u9.heap.size, 1, none⟩ = some (.bool z1) := fun w' h => (X1u14.out.below h).2 1 (by simp)
  have rX12 : ∀ w', Below u14.heap.size u14 w' → w'.cell? ⟨u9.heap.size, 2, none⟩ = some (.bool c1) := fun w' h => (X1u14.out.below h).2 2 (by simp)
  have rX13 : ∀ w', Below u14.heap.size u14 w' → w'.cell? ⟨u9.heap.size, 3, none⟩ = some (.bool hz1) := fun w' h => (X1u14.out.below h).2 3 (by simp)
  have rX14 : ∀ w', Below u14.heap.size u14 w' → w'.cell? ⟨u9.heap.size, 4, none⟩ = some (.bool hc1) := fun w' h => (X1u14.out.below h).2 4 (by simp)
  have rX15 : ∀ w', Below u14.heap.size u14 w' → w'.cell? ⟨u9.heap.size, 5, none⟩ = some (.slice (some ⟨bH1x, 0, none⟩) nH1 nH1) := fun w' h => (X1u14.out.below h).2 5 (by simp)
  have rX16 : ∀ w', Below u14.heap.size u14 w' → w'.cell? ⟨u9.heap.size, 6, none⟩ = some (.int .i64 pc1) := fun w' h => (X1u14.out.below h).2 6 (by simp)
  have rX17 : ∀ w', Below u14.heap.size u14 w' → w'.cell? ⟨u9.heap.size, 7, none⟩ = some (.int .i64 st1) := fun w' h => (X1u14.out.below h).2 7 (by simp)
  have rX18 : ∀ w', Below u14.heap.size u14 w' → w'.cell? ⟨u9.heap.size, 8, none⟩ = some (.slice (some ⟨bO1x, 0, none⟩) nO1 nO1) := fun w' h => (X1u14.out.below h).2 8 (by simp)
  have rP10 : ∀ w', Below u14.heap.size u14 w' → w'.cell? ⟨w.heap.size + 1, 0, none⟩ = some (.slice aoR1 nR1 capR1) := fun w' h => (P1u14.out.below h).2 0 (by simp)
  have rP11 : ∀ w', Below u14.heap.size u14 w' → w'.cell? ⟨w.heap.size + 1, 1, none⟩ = some (.bool z1) := fun w' h => (P1u14.out.below h).2 1 (by simp)
  have rP12 : ∀ w', Below u14.heap.size u14 w' → w'.cell? ⟨w.heap.size + 1, 2, none⟩ = some (.bool c1) := fun w' h => (P1u14.out.below h).2 2 (by simp)
  have rP13 : ∀ w', Below u14.heap.size u14 w' → w'.cell? ⟨w.heap.size + 1, 3, none⟩ = some (.bool hz1) := fun w' h => (P1u14.out.below h).2 3 (by simp)
  have rP14 : ∀ w', Below u14.heap.size u14 w' → w'.cell? ⟨w.heap.size + 1, 4, none⟩ = some (.bool hc1) := fun w' h => (P1u14.out.below h).2 4 (by simp)
  have rP15 : ∀ w', Below u14.heap.size u14 w' → w'.cell? ⟨w.heap.size + 1, 5, none⟩ = some (.slice aoH1 nH1 capH1) := fun w' h => (P1u14.out.below h).2 5 (by simp)
  have rP16 : ∀ w', Below u14.heap.size u14 w' → w'.cell? ⟨w.heap.size + 1, 6, none⟩ = some (.int .i64 pc1) := fun w' h => (P1u14.out.below h).2 6 (by simp)
  have rP17 : ∀ w', Below u14.heap.size u14 w' → w'.cell? ⟨w.heap.size + 1, 7, none⟩ = some (.int .i64 st1) := fun w' h => (P1u14.out.below h).2 7 (by simp)
  have rP18 : ∀ w', Below u14.heap.size u14 w' → w'.cell? ⟨w.heap.size + 1, 8, none⟩ = some (.slice aoO1 nO1 capO1) := fun w' h => (P1u14.out.below h).2 8 (by simp)
  refine wp_region_held_drew (S := fun w' => Below u14.heap.size u14 w') (by kernel_rfl) (Below.refl _ _).drew (fun _ => ?_)
  obtain ⟨u15, hd, hb⟩ : ∃ v, u14.drew = v ∧ Below u14.heap.size u14 v := ⟨_, rfl, (Below.refl _ _).drew⟩
  rw [hd]
  clear hd
  have HBu15 : Hid (Below w.heap.size w u15) := HBu14.out.trans (hb.mono HBu14.out.size)
  have P0u15 : Hid (Cl u15 (w.heap.size) [.slice aoH0 nH0 cH0, .slice aoR0 nR0 cR0]) := P0u14.out.below hb
  have P1u15 : Hid (Cl u15 (w.heap.size + 1) [.slice aoR1 nR1 capR1, .bool z1, .bool c1, .bool hz1, .bool hc1, .slice aoH1 nH1 capH1, .int .i64 pc1, .int .i64 st1, .slice aoO1 nO1 capO1]) := P1u14.out.below hb
  have X0u15 : Hid (Cl u15 (u7.heap.size) [.slice (some ⟨bH0x, 0, none⟩) nH0 nH0, .slice (some ⟨bR0x, 0, none⟩) nR0 nR0]) := X0u14.out.below hb
  have X1u15 : Hid (Cl u15 (u9.heap.size) [.slice (some ⟨bR1x, 0, none⟩) nR1 nR1, .bool z1, .bool c1, .bool hz1, .bool hc1, .slice (some ⟨bH1x, 0, none⟩) nH1 nH1, .int .i64 pc1, .int .i64 st1, .slice (some ⟨bO1x, 0, none⟩) nO1 nO1]) := X1u14.out.below hb
  have C0' : Hid (SigCp u15 bH0x nH0 S0 bR0x nR0 V0) := C0.out.below hb
  clear C0
  have C0 := C0'
  clear C0'
  have C1' : Hid (MachCp u15 bR1x nR1 R1 bH1x nH1 Hp1 blk1x bO1x nO1 K1 V1) := C1.out.below hb (Nat.le_refl _)
  clear C1
  have C1 := C1'
  clear C1'
  have HEu15 : Hid (Below u14.heap.size u14 u15) := hb
  have hbE := hb
  clear hb
  refine wpAnyH_tk 0 ?q7v rfl ?q7y ?q7r
  case q7y => (intro w hSw; (try dsimp only at hSw); go_simp; try with_reducible rfl)
  try go_frame
  refine wpAnyH_tk 1 ?q8v rfl ?q8y ?q8r
  case q8y => (intro w hSw; (try dsimp only at hSw); go_simp; try with_reducible rfl)
  try go_frame
  refine wpAnyH_ready (rs := [2]) (by kernel_rfl) (by simp) ?_
  refine AllReadyH.cons rfl (fun KK hK => ?_) AllReadyH.nil
  go_simp
  refine (toMach_any _ _ _ R1 _ _ _ _ _ _ _ Hp1 _ _ _ _ _ K1 V1 _ HS1.out (hin1.out.below (HBu15.out) (Nat.le_refl _))).mono ?_
  rintro e u16 ⟨bR1y1, bH1y1, blk1y1, bO1y1, g1y1, rfl, hb, hcp⟩
  have HBu16 : Hid (Below w.heap.size w u16) := HBu15.out.trans (hb.mono HBu15.out.size)
  have P0u16 : Hid (Cl u16 (w.heap.size) [.slice aoH0 nH0 cH0, .slice aoR0 nR0 cR0]) := P0u15.out.below hb
  have P1u16 : Hid (Cl u16 (w.heap.size + 1) [.slice aoR1 nR1 capR1, .bool z1, .bool c1, .bool hz1, .bool hc1, .slice aoH1 nH1 capH1, .int .i64 pc1, .int .i64 st1, .slice aoO1 nO1 capO1]) := P1u15.out.below hb
  have X0u16 : Hid (Cl u16 (u7.heap.size) [.slice (some ⟨bH0x, 0, none⟩) nH0 nH0, .slice (some ⟨bR0x, 0, none⟩) nR0 nR0]) := X0u15.out.below hb
  have X1u16 : Hid (Cl u16 (u9.heap.size) [.slice (some ⟨bR1x, 0, none⟩) nR1 nR1, .bool z1, .bool c1, .bool hz1, .bool hc1, .slice (some ⟨bH1x, 0, none⟩) nH1 nH1, .int .i64 pc1, .int .i64 st1, .slice (some ⟨bO1x, 0, none⟩) nO1 nO1]) := X1u15.out.below hb
  have C0' : Hid (SigCp u16 bH0x nH0 S0 bR0x nR0 V0) := C0.out.below hb
  clear C0
  have C0 := C0'
  clear C0'
  have C1' : Hid (MachCp u16 bR1x nR1 R1 bH1x nH1 Hp1 blk1x bO1x nO1 K1 V1) := C1.out.below hb (Nat.le_refl _)
  clear C1
  have C1 := C1'
  clear C1'
  have HEu16 : Hid (Below u14.heap.size u14 u16) := HEu15.out.trans (hb.mono HEu15.out.size)
  have D : Hid (MachCp u16 bR1y1 nR1 R1 bH1y1 nH1 Hp1 blk1y1 bO1y1 nO1 K1 V1) := hcp
  clear hcp
  clear hb g1y1
  go_wp2_with fail
  refine hK.out _ _ HEu16.out (fun _ => ?_)
  clear hK KK
  try go_frame
  refine wpAnyH_ready (rs := [3]) (by kernel_rfl) (by simp) ?_
  refine AllReadyH.cons rfl (fun KK hK => ?_) AllReadyH.nil
  go_simp
  refine (eqMach_same _ _ R1 _ _ _ _ _ _ Hp1 _ _ _ _ _ K1 V1 _ _ _ _ _ HS1.out (C1.out) (D.out)).mono ?_
  rintro e u17 ⟨rfl, hb⟩
  have HBu17 : Hid (Below w.heap.size w u17) := HBu16.out.trans (hb.mono HBu16.out.size)
  have P0u17 : Hid (Cl u17 (w.heap.size) [.slice aoH0 nH0 cH0, .slice aoR0 nR0 cR0]) := P0u16.out.below hb
  have P1u17 : Hid (Cl u17 (w.heap.size + 1) [.slice aoR1 nR1 capR1, .bool z1, .bool c1, .bool hz1, .bool hc1, .slice aoH1 nH1 capH1, .int .i64 pc1, .int .i64 st1, .slice aoO1 nO1 capO1]) := P1u16.out.below hb
  have X0u17 : Hid (Cl u17 (u7.heap.size) [.slice (some ⟨bH0x, 0, none⟩) nH0 nH0, .slice (some ⟨bR0x, 0, none⟩) nR0 nR0]) := X0u16.out.below hb
  have X1u17 : Hid (Cl u17 (u9.heap.size) [.slice (some ⟨bR1x, 0, none⟩) nR1 nR1, .bool z1, .bool c1, .bool hz1, .bool hc1, .slice (some ⟨bH1x, 0, none⟩) nH1 nH1, .int .i64 pc1, .int .i64 st1, .slice (some ⟨bO1x, 0, none⟩) nO1 nO1]) := X1u16.out.below hb
  have C0' : Hid (SigCp u17 bH0x nH0 S0 bR0x nR0 V0) := C0.out.below hb
  clear C0
  have C0 := C0'
  clear C0'
  have C1' : Hid (MachCp u17 bR1x nR1 R1 bH1x nH1 Hp1 blk1x bO1x nO1 K1 V1) := C1.out.below hb (Nat.le_refl _)
  clear C1
  have C1 := C1'
  clear C1'
  have D' : Hid (MachCp u17 bR1y1 nR1 R1 bH1y1 nH1 Hp1 blk1y1 bO1y1 nO1 K1 V1) := D.out.below hb (Nat.le_refl _)
  clear D
  have D := D'
  clear D'
  have HEu17 : Hid (Below u14.heap.size u14 u17) := HEu16.out.trans (hb.mono HEu16.out.size)
  clear hb
  go_wp2_with fail
  refine hK.out _ _ HEu17.out (fun _ => ?_)
  clear hK KK
  try go_frame
  refine wpAnyH_tk 4 ?q9v rfl ?q9y ?q9r
  case q9y => (intro w hSw; (try dsimp only at hSw); go_simp; try with_reducible rfl)
  try go_frame
  refine wpAnyH_done (by kernel_rfl) ?_ _
  clear hbE D rX10 rX11 rX12 rX13 rX14 rX15 rX16 rX17 rX18 rP10 rP11 rP12 rP13 rP14 rP15 rP16 rP17 rP18
  have zP0 : w.heap.size < u17.heap.size := P0u17.out.1
  have cP00 : u17.cell? ⟨w.heap.size, 0, none⟩ = some (.slice aoH0 nH0 cH0) := P0u17.out.2 0 (by simp)
  have cP01 : u17.cell? ⟨w.heap.size, 1, none⟩ = some (.slice aoR0 nR0 cR0) := P0u17.out.2 1 (by simp)
  have zP1 : w.heap.size + 1 < u17.heap.size := P1u17.out.1
  have cP10 : u17.cell? ⟨w.heap.size + 1, 0, none⟩ = some (.slice aoR1 nR1 capR1) := P1u17.out.2 0 (by simp)
  have cP11 : u17.cell? ⟨w.heap.size + 1, 1, none⟩ = some (.bool z1) := P1u17.out.2 1 (by simp)
  have cP12 : u17.cell? ⟨w.heap.size + 1, 2, none⟩ = some (.bool c1) := P1u17.out.2 2 (by simp)
  have cP13 : u17.cell? ⟨w.heap.size + 1, 3, none⟩ = some (.bool hz1) := P1u17.out.2 3 (by simp)
  have cP14 : u17.cell? ⟨w.heap.size + 1, 4, none⟩ = some (.bool hc1) := P1u17.out.2 4 (by simp)
  have cP15 : u17.cell? ⟨w.heap.size + 1, 5, none⟩ = some (.slice aoH1 nH1 capH1) := P1u17.out.2 5 (by simp)
  have cP16 : u17.cell? ⟨w.heap.size + 1, 6, none⟩ = some (.int .i64 pc1) := P1u17.out.2 6 (by simp)
  have cP17 : u17.cell? ⟨w.heap.size + 1, 7, none⟩ = some (.int .i64 st1) := P1u17.out.2 7 (by simp)
  have cP18 : u17.cell? ⟨w.heap.size + 1, 8, none⟩ = some (.slice aoO1 nO1 capO1) := P1u17.out.2 8 (by simp)
  have zX0 : u7.heap.size < u17.heap.size := X0u17.out.1
  have cX00 : u17.cell? ⟨u7.heap.size, 0, none⟩ = some (.slice (some ⟨bH0x, 0, none⟩) nH0 nH0) := X0u17.out.2 0 (by simp)
  have cX01 : u17.cell? ⟨u7.heap.size, 1, none⟩ = some (.slice (some ⟨bR0x, 0, none⟩) nR0 nR0) := X0u17.out.2 1 (by simp)
  have zX1 : u9.heap.size < u17.heap.size := X1u17.out.1
  have cX10 : u17.cell? ⟨u9.heap.size, 0, none⟩ = some (.slice (some ⟨bR1x, 0, none⟩) nR1 nR1) := X1u17.out.2 0 (by simp)
  have cX11 : u17.cell? ⟨u9.heap.size, 1, none⟩ = some (.bool z1) := X1u17.out.2 1 (by simp)
  have cX12 : u17.cell? ⟨u9.heap.size, 2, none⟩ = some (.bool c1) := X1u17.out.2 2 (by simp)
  have cX13 : u17.cell? ⟨u9.heap.size, 3, none⟩ = some (.bool hz1) := X1u17.out.2 3 (by simp)
  have cX14 : u17.cell? ⟨u9.heap.size, 4, none⟩ = some (.bool hc1) := X1u17.out.2 4 (by simp)
  have cX15 : u17.cell? ⟨u9.heap.size, 5, none⟩ = some (.slice (some ⟨bH1x, 0, none⟩) nH1 nH1) := X1u17.out.2 5 (by simp)
  have cX16 : u17.cell? ⟨u9.heap.size, 6, none⟩ = some (.int .i64 pc1) := X1u17.out.2 6 (by simp)
  have cX17 : u17.cell? ⟨u9.heap.size, 7, none⟩ = some (.int .i64 st1) := X1u17.out.2 7 (by simp)
  have cX18 : u17.cell? ⟨u9.heap.size, 8, none⟩ = some (.slice (some ⟨bO1x, 0, none⟩) nO1 nO1) := X1u17.out.2 8 (by simp)
  go_wp2
  go_ret
  exact ⟨rfl, HBu17.out⟩

set_option maxRecDepth 100000 in
theorem lawFits_lifted (os : Os) (started : os.Started) (H : Type) (enc : TypeId × Value → H) :
    ReturnsInHanded {} Try.checked os 5 .any (Rows.fnExactFitsSpec.pre6 enc Try.prog Try.f5 Rows.fnExactFitsRow.domain false) (Rows.fnExactFitsSpec.post enc Try.prog Try.f5 false true false false) := by
  refine returnsInHanded_of_change (C := Try.checked) (by kernel_rfl : ownKnob Try.prog.godebug = none) started (by kernel_rfl) Try.func5
    (ChangeSpec.witness6 (enc := enc) (C := Try.checked) false ⟨#[], #[.agg #[.slice none 0 0, .slice none 0 0], .agg #[.slice none 0 0, .bool false, .bool false, .bool false, .bool false, .slice none 0 0, .int .i64 0, .int .i64 0, .slice none 0 0]], []⟩ 8 (by kernel_rfl) (by kernel_rfl) (by kernel_rfl) (by kernel_rfl)) ?_
  intro W base args ds gs before hval0 hW _ _
  have hval : ∀ (j : Nat) t v, Try.f5.params[j]? = some t → args[j]? = some v → Value.okWide Try.prog W .any base t v := hval0
  have hW' := hW
  obtain ⟨p, q, hA0, hV, rfl, _, _⟩ := hW
  have hA : DataW.TrodAll enc Try.prog W 0 (fun _ => true) true Try.f5.params.toList args.toList ds p := hA0
  rw [Try.params5] at hA hval
  obtain ⟨v0, v1, d0, d1, p0, p1, rfl, rfl, rfl, h0, h1⟩ := trodAll_two hA
  obtain ⟨rfl, rfl⟩ := trodVars_none hV
  obtain ⟨cs0, rfl, _⟩ := okWide_struct Try.underlying42 (hval 0 42 v0 rfl rfl)
  obtain ⟨cs1, rfl, _⟩ := okWide_struct Try.underlying55 (hval 1 55 v1 rfl rfl)
  have k0 := h0
  have lt0 : ∀ x ∈ p0, x.block < W.heap.size := by obtain ⟨m, hm⟩ := k0; exact DataW.trod_lt m _ _ _ hm
  obtain ⟨fuel0, hf0⟩ := h0
  obtain ⟨aoH0, nH0, cH0, S0, aoR0, nR0, cR0, V0, hcs0, mH0, mR0, hin0⟩ := open_sig hf0
  have : cs0 = #[.slice aoH0 nH0 cH0, .slice aoR0 nR0 cR0] := by
    cases cs0; simpa [Value.cells] using hcs0
  subst this
  have k1 := h1
  have lt1 : ∀ x ∈ p1, x.block < W.heap.size := by obtain ⟨m, hm⟩ := k1; exact DataW.trod_lt m _ _ _ hm
  obtain ⟨fuel1, hf1⟩ := h1
  obtain ⟨aoR1, nR1, capR1, R1, z1, c1, hz1, hc1, aoH1, nH1, capH1, Hp1, pc1, st1, aoO1, nO1, capO1, K1, V1, hcs1, mR1, mH1, mD1, mO1, hr1, hin1⟩ := open_machR hf1
  have : cs1 = #[.slice aoR1 nR1 capR1, .bool z1, .bool c1, .bool hz1, .bool hc1, .slice aoH1 nH1 capH1, .int .i64 pc1, .int .i64 st1, .slice aoO1 nO1 capO1] := by
    cases cs1; simpa [Value.cells] using hcs1
  subst this
  clear hA0 hval0
  refine (lawFits_walk _ _ _ _ _ _ _ _ _ _ _ _ _ _ _ _ _ _ _ _ _ _ _ _ _ _ _ W mH0 mR0 hin0 mR1 mH1 mD1 mO1 hr1 hin1).mono fun e W' ⟨he, bel⟩ => ?_
  subst he
  exact ⟨_, rfl, _, _, _, [], _, [], hW', trodAll_mk1 (shut_bool Try.underlying4 _), trodAll_mk2 (Below.trod (by kernel_rfl : laidOutB Try.prog = true) (by kernel_rfl) (of_decide_eq_true (by kernel_rfl)) k0 bel lt0) (Below.trod (by kernel_rfl : laidOutB Try.prog = true) (by kernel_rfl) (of_decide_eq_true (by kernel_rfl)) k1 bel lt1), rfl, bel.frame _, fun h => by cases h⟩

theorem fits_holds : Rows.FnExactFitsSaid :=
  OpenClaim.holds_of_wide 5 Try.f5 rfl rfl rfl rfl rfl rfl rfl ⟨rfl, rfl, rfl, rfl, rfl⟩ rfl rfl rfl rfl rfl (by kernel_rfl) Try.func5 (by kernel_rfl)
    (of_decide_eq_true (by kernel_rfl)) (by unfold Func.isWrapper; first | (rw [if_pos (by decide +kernel)]; kernel_rfl) | (rw [if_neg (by decide +kernel)]; exact ⟨rfl, rfl⟩))
    (fun os started H enc _ => lawFits_lifted os started H enc)
end Go.Proofs.Ytjnooklalbcamaa
