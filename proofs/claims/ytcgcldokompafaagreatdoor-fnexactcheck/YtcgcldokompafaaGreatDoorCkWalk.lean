import Derived.Test.YtcgcldokompafaaGreatDoorCkMark
import Derived.Test.YtcgcldokompafaaGreatDoorCkSpec
import Derived.Test.YtcgcldokompafaaGreatDoorCkImpl
import Derived.Deep.Cut
/- FnExactCheck: its walk. -/
namespace Go.Proofs.YtcgcldokompafaaGreatDoor
open Go.RowKit Go.Deep
structure LkP (w u : World) (aoH : Option Addr) (nH cH : Nat) (aoR : Option Addr) (nR cR : Nat) : Prop where
 bel : Below w.heap.size w u
 S : Cl u w.heap.size [.slice aoH nH cH, .slice aoR nR cR]
theorem LkP.below {w u v : World} {aoH : Option Addr} {nH cH : Nat} {aoR : Option Addr} {nR cR : Nat} (p : LkP w u aoH nH cH aoR nR cR) (hb : Below u.heap.size u v) : LkP w v aoH nH cH aoR nR cR := ⟨p.bel.trans (hb.mono p.bel.size), p.S.below hb⟩
theorem LkP.fv {w u v : World} {F : Nat -> Prop} {aoH : Option Addr} {nH cH : Nat} {aoR : Option Addr} {nR cR : Nat} (p : LkP w u aoH nH cH aoR nR cR) (hf : Fv F u v) (hs : ∀ k, F k -> w.heap.size + 1 <= k) : LkP w v aoH nH cH aoR nR cR :=
 ⟨hf.below p.bel (fun k hk => by have := hs k hk; omega) p.bel.size, hf.cl p.S (fun q => by have := hs _ q; omega)⟩
theorem Ft.fv {b : Nat} {u v : World} (h : Ft b u v) : Fv (fun q => q = b) u v := ⟨h.os, h.tape, h.output, h.size, h.block⟩
set_option maxRecDepth 20000 in
set_option maxHeartbeats 16000000 in
theorem lawCheck_walk (HTR : TrSpec) (aoH : Option Addr) (nH cH : Nat) (S : Nat -> HS) (aoR : Option Addr) (nR cR : Nat) (V : Nat -> VV) (aoL : Option Addr) (n cL : Nat) (Ls : Nat -> SV) (w : World) (mH : nH <= 9223372036854775807) (mR : nR <= 9223372036854775807) (mL : n <= 9223372036854775807) (hinZ : SigIn w aoH nH S aoR nR V) (hinLZ : InRow w aoL (n * 11) (stF Ls)) (hgZ : w.cell? ⟨0, 0, none⟩ = some (.iface 165 (.agg #[.pointer (some ⟨1, 80, none⟩)]))) (h0Z : 0 < w.heap.size) :
  Calls Tryz.prog 3 #[.agg #[.slice aoH nH cH, .slice aoR nR cR], .slice aoL n cL] w fun e w' => e = .returned (.bool true) /\ Below w.heap.size w w' := by
 have hin : Hid (SigIn w aoH nH S aoR nR V) := hinZ
 have hinL : Hid (InRow w aoL (n * 11) (stF Ls)) := hinLZ
 have HG : Hid (w.cell? ⟨0, 0, none⟩ = some (.iface 165 (.agg #[.pointer (some ⟨1, 80, none⟩)])) /\ 0 < w.heap.size) := ⟨hgZ, h0Z⟩
 clear hinZ hinLZ hgZ h0Z
 obtain ⟨err, at2, nn, W, zz, cc, hp⟩ := par_of (chkR nH S nR V Ls n)
 have hn8 := hp.n8
 have HP : Hid (ParK (chkR nH S nR V Ls n) err at2 nn W zz cc) := hp
 clear hp
 go_enter Tryz.func3, Tryz.ntmps3
 go_upto_region 1 with fail
 obtain ⟨u0, hu, hz0, pu⟩ : ∃ y, w.alloc (.cells #[.slice aoH nH cH, .slice aoR nR cR] 25) = y /\ y.heap.size = w.heap.size + 1 /\ LkP w y aoH nH cH aoR nR cR := ⟨_, rfl, by simp, (Below.refl _ _).alloc (Nat.le_refl _) _, Cl.new⟩
 rw [hu]
 have P_u0 : Hid (LkP w u0 aoH nH cH aoR nR cR) := pu
 clear hu pu
 have zps := P_u0.out.S.1
 have cps0 : u0.cell? ⟨w.heap.size, 0, none⟩ = some (.slice aoH nH cH) := P_u0.out.S.2 0 (by simp)
 have cps1 : u0.cell? ⟨w.heap.size, 1, none⟩ = some (.slice aoR nR cR) := P_u0.out.S.2 1 (by simp)
 go_wp2_with fail
 refine (szSig_any _ _ _ _ _ _ _ _ (by omega) (by omega) mH mR).mono ?_
 rintro e wd1 ⟨r0, rfl, hl, hb⟩
 clear zps cps0 cps1
 have P_wd1 : Hid (LkP w wd1 aoH nH cH aoR nR cR) := P_u0.out.below hb
 clear P_u0
 have hswd1 : u0.heap.size <= wd1.heap.size := hb.size
 clear hb
 rcases hl with rfl | ⟨hr00, hr10, hs⟩
 ·go_wp2
  go_ret
  exact ⟨rfl, P_wd1.out.bel⟩
 have HS0 : Hid (nH <= 1048576 /\ nR <= 1048576) := hs
 clear hs
 have zps := P_wd1.out.S.1
 have cps0 : wd1.cell? ⟨w.heap.size, 0, none⟩ = some (.slice aoH nH cH) := P_wd1.out.S.2 0 (by simp)
 have cps1 : wd1.cell? ⟨w.heap.size, 1, none⟩ = some (.slice aoR nR cR) := P_wd1.out.S.2 1 (by simp)
 go_wp2_with fail
 refine (szSt_any _ _ _ _ _ (by omega) (by omega) mL).mono ?_
 rintro e wd2 ⟨r1, rfl, hl, hb⟩
 clear zps cps0 cps1
 have P_wd2 : Hid (LkP w wd2 aoH nH cH aoR nR cR) := P_wd1.out.below hb
 clear P_wd1
 have hswd2 : wd1.heap.size <= wd2.heap.size := hb.size
 clear hb
 rcases hl with rfl | ⟨hr01, hr11, hs⟩
 ·go_wp2
  go_ret
  exact ⟨rfl, P_wd2.out.bel⟩
 have HS1 : Hid (n <= 1048576) := hs
 clear hs
 have zps := P_wd2.out.S.1
 have cps0 : wd2.cell? ⟨w.heap.size, 0, none⟩ = some (.slice aoH nH cH) := P_wd2.out.S.2 0 (by simp)
 have cps1 : wd2.cell? ⟨w.heap.size, 1, none⟩ = some (.slice aoR nR cR) := P_wd2.out.S.2 1 (by simp)
 go_wp2_with fail
 refine (toSig_in _ _ _ S _ _ _ V _ HS0.out.1 HS0.out.2 (hin.out.below P_wd2.out.bel (Nat.le_refl _))).mono ?_
 rintro e wd3 ⟨bHa, bRa, gHa, gRa, rfl, hb, hcp⟩
 clear zps cps0 cps1
 have P_wd3 : Hid (LkP w wd3 aoH nH cH aoR nR cR) := P_wd2.out.below hb
 clear P_wd2
 have hswd3 : wd2.heap.size <= wd3.heap.size := hb.size
 clear hb
 have Ca_wd3 : Hid (SigCp wd3 bHa nH S bRa nR V) := hcp
 have lHa : bHa < wd3.heap.size := hcp.h.lt
 have lRa : bRa < wd3.heap.size := hcp.r.lt
 clear hcp
 have zps := P_wd3.out.S.1
 have cps0 : wd3.cell? ⟨w.heap.size, 0, none⟩ = some (.slice aoH nH cH) := P_wd3.out.S.2 0 (by simp)
 have cps1 : wd3.cell? ⟨w.heap.size, 1, none⟩ = some (.slice aoR nR cR) := P_wd3.out.S.2 1 (by simp)
 go_wp2_with fail
 refine (toStmtS_in _ _ _ Ls _ HS1.out (hinL.out.below P_wd3.out.bel (Nat.le_refl _))).mono ?_
 rintro e wd4 ⟨rfl, hb, hcp⟩
 clear zps cps0 cps1
 have P_wd4 : Hid (LkP w wd4 aoH nH cH aoR nR cR) := P_wd3.out.below hb
 have Ca_wd4 : Hid (SigCp wd4 bHa nH S bRa nR V) := Ca_wd3.out.below hb
 clear P_wd3 Ca_wd3
 have hswd4 : wd3.heap.size <= wd4.heap.size := hb.size
 clear hb
 obtain ⟨bLa, hbL⟩ : ∃ x, wd3.heap.size = x := ⟨_, rfl⟩
 rw [hbL] at hcp ⊢
 have gLa : wd3.heap.size <= bLa := by omega
 have Aa_wd4 : Hid (Arr wd4 bLa (n * 11) (stF Ls)) := hcp
 have lLa : bLa < wd4.heap.size := hcp.lt
 clear hcp hbL
 have zps := P_wd4.out.S.1
 have cps0 : wd4.cell? ⟨w.heap.size, 0, none⟩ = some (.slice aoH nH cH) := P_wd4.out.S.2 0 (by simp)
 have cps1 : wd4.cell? ⟨w.heap.size, 1, none⟩ = some (.slice aoR nR cR) := P_wd4.out.S.2 1 (by simp)
 go_wp2_with fail
 refine (specCheck_any HTR _ _ _ S _ _ _ V _ _ _ Ls _ HS0.out.1 HS0.out.2 HS1.out (Nat.le_refl _) Ca_wd4.out Aa_wd4.out).mono ?_
 intro e wd5 hx
 obtain ⟨ao6, cap6, rfl, hv, hl, hb⟩ := HP.out.v _ _ _ hx
 clear hx
 clear zps cps0 cps1
 have P_wd5 : Hid (LkP w wd5 aoH nH cH aoR nR cR) := P_wd4.out.below hb
 have Ca_wd5 : Hid (SigCp wd5 bHa nH S bRa nR V) := Ca_wd4.out.below hb
 have Aa_wd5 : Hid (Arr wd5 bLa (n * 11) (stF Ls)) := Aa_wd4.out.below hb Aa_wd4.out.lt
 clear P_wd4 Ca_wd4 Aa_wd4
 have hswd5 : wd4.heap.size <= wd5.heap.size := hb.size
 have V6_wd5 : Hid (WV wd5 ao6 nn W) := hv
 have HL6 : Hid (Lie ao6 nn wd4.heap.size wd5.heap.size) := hl
 clear hv hl hb
 go_upto_region 9 with fail
 obtain ⟨wd6, hx, hb, hc⟩ : ∃ y, wd5.alloc (.cells #[.int .i64 err, .int .i64 at2, .slice ao6 nn cap6, .int .i64 zz, .int .i64 cc] 33) = y /\ Below wd5.heap.size wd5 y /\ Cl y wd5.heap.size [.int .i64 err, .int .i64 at2, .slice ao6 nn cap6, .int .i64 zz, .int .i64 cc] := ⟨_, rfl, (Below.refl _ _).alloc (Nat.le_refl _) _, Cl.new⟩
 rw [hx]
 have P_wd6 : Hid (LkP w wd6 aoH nH cH aoR nR cR) := P_wd5.out.below hb
 have Ca_wd6 : Hid (SigCp wd6 bHa nH S bRa nR V) := Ca_wd5.out.below hb
 have Aa_wd6 : Hid (Arr wd6 bLa (n * 11) (stF Ls)) := Aa_wd5.out.below hb Aa_wd5.out.lt
 have V6_wd6 : Hid (WV wd6 ao6 nn W) := V6_wd5.out.below hb
 clear P_wd5 Ca_wd5 Aa_wd5 V6_wd5
 have hswd6 : wd5.heap.size <= wd6.heap.size := hb.size
 obtain ⟨B6, hB6⟩ : ∃ x, wd5.heap.size = x := ⟨_, rfl⟩
 rw [hB6] at hc ⊢
 have lB6 : B6 < wd6.heap.size := hc.1
 have gB6 : wd5.heap.size <= B6 := by omega
 have X6_wd6 : Hid (Cl wd6 B6 [.int .i64 err, .int .i64 at2, .slice ao6 nn cap6, .int .i64 zz, .int .i64 cc]) := hc
 clear hx hb hc hB6
 clear Ca_wd6 Aa_wd6
 have zps := P_wd6.out.S.1
 have cps0 : wd6.cell? ⟨w.heap.size, 0, none⟩ = some (.slice aoH nH cH) := P_wd6.out.S.2 0 (by simp)
 have cps1 : wd6.cell? ⟨w.heap.size, 1, none⟩ = some (.slice aoR nR cR) := P_wd6.out.S.2 1 (by simp)
 go_wp2_with fail
 refine (toSig_in _ _ _ S _ _ _ V _ HS0.out.1 HS0.out.2 (hin.out.below P_wd6.out.bel (Nat.le_refl _))).mono ?_
 rintro e wd7 ⟨bH7, bR7, gH7, gR7, rfl, hb, hcp⟩
 clear zps cps0 cps1
 have P_wd7 : Hid (LkP w wd7 aoH nH cH aoR nR cR) := P_wd6.out.below hb
 have V6_wd7 : Hid (WV wd7 ao6 nn W) := V6_wd6.out.below hb
 have X6_wd7 : Hid (Cl wd7 B6 [.int .i64 err, .int .i64 at2, .slice ao6 nn cap6, .int .i64 zz, .int .i64 cc]) := X6_wd6.out.below hb
 clear P_wd6 V6_wd6 X6_wd6
 have hswd7 : wd6.heap.size <= wd7.heap.size := hb.size
 clear hb
 have C7_wd7 : Hid (SigCp wd7 bH7 nH S bR7 nR V) := hcp
 have lH7 : bH7 < wd7.heap.size := hcp.h.lt
 have lR7 : bR7 < wd7.heap.size := hcp.r.lt
 clear hcp
 go_upto_region 10 with fail
 obtain ⟨wd8, hx, hb, hc⟩ : ∃ y, wd7.alloc (.cells #[.slice (some ⟨bH7, 0, none⟩) nH nH, .slice (some ⟨bR7, 0, none⟩) nR nR] 37) = y /\ Below wd7.heap.size wd7 y /\ Cl y wd7.heap.size [.slice (some ⟨bH7, 0, none⟩) nH nH, .slice (some ⟨bR7, 0, none⟩) nR nR] := ⟨_, rfl, (Below.refl _ _).alloc (Nat.le_refl _) _, Cl.new⟩
 rw [hx]
 have P_wd8 : Hid (LkP w wd8 aoH nH cH aoR nR cR) := P_wd7.out.below hb
 have V6_wd8 : Hid (WV wd8 ao6 nn W) := V6_wd7.out.below hb
 have X6_wd8 : Hid (Cl wd8 B6 [.int .i64 err, .int .i64 at2, .slice ao6 nn cap6, .int .i64 zz, .int .i64 cc]) := X6_wd7.out.below hb
 have C7_wd8 : Hid (SigCp wd8 bH7 nH S bR7 nR V) := C7_wd7.out.below hb
 clear P_wd7 V6_wd7 X6_wd7 C7_wd7
 have hswd8 : wd7.heap.size <= wd8.heap.size := hb.size
 obtain ⟨B7, hB7⟩ : ∃ x, wd7.heap.size = x := ⟨_, rfl⟩
 rw [hB7] at hc ⊢
 have lB7 : B7 < wd8.heap.size := hc.1
 have gB7 : wd7.heap.size <= B7 := by omega
 have X7_wd8 : Hid (Cl wd8 B7 [.slice (some ⟨bH7, 0, none⟩) nH nH, .slice (some ⟨bR7, 0, none⟩) nR nR]) := hc
 clear hx hb hc hB7
 go_wp2_with fail
 refine (toStmtS_in _ _ _ Ls _ HS1.out (hinL.out.below P_wd8.out.bel (Nat.le_refl _))).mono ?_
 rintro e wd9 ⟨rfl, hb, hcp⟩
 have P_wd9 : Hid (LkP w wd9 aoH nH cH aoR nR cR) := P_wd8.out.below hb
 have V6_wd9 : Hid (WV wd9 ao6 nn W) := V6_wd8.out.below hb
 have X6_wd9 : Hid (Cl wd9 B6 [.int .i64 err, .int .i64 at2, .slice ao6 nn cap6, .int .i64 zz, .int .i64 cc]) := X6_wd8.out.below hb
 have C7_wd9 : Hid (SigCp wd9 bH7 nH S bR7 nR V) := C7_wd8.out.below hb
 have X7_wd9 : Hid (Cl wd9 B7 [.slice (some ⟨bH7, 0, none⟩) nH nH, .slice (some ⟨bR7, 0, none⟩) nR nR]) := X7_wd8.out.below hb
 clear P_wd8 V6_wd8 X6_wd8 C7_wd8 X7_wd8
 have hswd9 : wd8.heap.size <= wd9.heap.size := hb.size
 clear hb
 obtain ⟨bL8, hbL⟩ : ∃ x, wd8.heap.size = x := ⟨_, rfl⟩
 rw [hbL] at hcp ⊢
 have gL8 : wd8.heap.size <= bL8 := by omega
 have A8_wd9 : Hid (Arr wd9 bL8 (n * 11) (stF Ls)) := hcp
 have lL8 : bL8 < wd9.heap.size := hcp.lt
 clear hcp hbL
 have zx7 := X7_wd9.out.1
 have cx70 : wd9.cell? ⟨B7, 0, none⟩ = some (.slice (some ⟨bH7, 0, none⟩) nH nH) := X7_wd9.out.2 0 (by simp)
 have cx71 : wd9.cell? ⟨B7, 1, none⟩ = some (.slice (some ⟨bR7, 0, none⟩) nR nR) := X7_wd9.out.2 1 (by simp)
 go_wp2_with fail
 refine (implCheck_any _ _ _ S _ _ _ V _ _ _ Ls _ HS0.out.1 HS0.out.2 HS1.out C7_wd9.out A8_wd9.out ((P_wd9.out.bel.cell (p := ⟨0, 0, none⟩) HG.out.2).trans HG.out.1) (Nat.lt_of_lt_of_le HG.out.2 P_wd9.out.bel.size)).mono ?_
 intro e wd10 hx
 obtain ⟨ao9, cap9, rfl, hv, hl, hb⟩ := HP.out.v _ _ _ hx
 clear hx
 clear zx7 cx70 cx71
 have P_wd10 : Hid (LkP w wd10 aoH nH cH aoR nR cR) := P_wd9.out.below hb
 have V6_wd10 : Hid (WV wd10 ao6 nn W) := V6_wd9.out.below hb
 have X6_wd10 : Hid (Cl wd10 B6 [.int .i64 err, .int .i64 at2, .slice ao6 nn cap6, .int .i64 zz, .int .i64 cc]) := X6_wd9.out.below hb
 have C7_wd10 : Hid (SigCp wd10 bH7 nH S bR7 nR V) := C7_wd9.out.below hb
 have X7_wd10 : Hid (Cl wd10 B7 [.slice (some ⟨bH7, 0, none⟩) nH nH, .slice (some ⟨bR7, 0, none⟩) nR nR]) := X7_wd9.out.below hb
 have A8_wd10 : Hid (Arr wd10 bL8 (n * 11) (stF Ls)) := A8_wd9.out.below hb A8_wd9.out.lt
 clear P_wd9 V6_wd9 X6_wd9 C7_wd9 X7_wd9 A8_wd9
 have hswd10 : wd9.heap.size <= wd10.heap.size := hb.size
 have V9_wd10 : Hid (WV wd10 ao9 nn W) := hv
 have HL9 : Hid (Lie ao9 nn wd9.heap.size wd10.heap.size) := hl
 clear hv hl hb
 go_upto_region 12 with fail
 obtain ⟨wd11, hx, hb, hc⟩ : ∃ y, wd10.alloc (.cells #[.int .i64 err, .int .i64 at2, .slice ao9 nn cap9, .int .i64 zz, .int .i64 cc] 33) = y /\ Below wd10.heap.size wd10 y /\ Cl y wd10.heap.size [.int .i64 err, .int .i64 at2, .slice ao9 nn cap9, .int .i64 zz, .int .i64 cc] := ⟨_, rfl, (Below.refl _ _).alloc (Nat.le_refl _) _, Cl.new⟩
 rw [hx]
 have P_wd11 : Hid (LkP w wd11 aoH nH cH aoR nR cR) := P_wd10.out.below hb
 have V6_wd11 : Hid (WV wd11 ao6 nn W) := V6_wd10.out.below hb
 have X6_wd11 : Hid (Cl wd11 B6 [.int .i64 err, .int .i64 at2, .slice ao6 nn cap6, .int .i64 zz, .int .i64 cc]) := X6_wd10.out.below hb
 have C7_wd11 : Hid (SigCp wd11 bH7 nH S bR7 nR V) := C7_wd10.out.below hb
 have X7_wd11 : Hid (Cl wd11 B7 [.slice (some ⟨bH7, 0, none⟩) nH nH, .slice (some ⟨bR7, 0, none⟩) nR nR]) := X7_wd10.out.below hb
 have A8_wd11 : Hid (Arr wd11 bL8 (n * 11) (stF Ls)) := A8_wd10.out.below hb A8_wd10.out.lt
 have V9_wd11 : Hid (WV wd11 ao9 nn W) := V9_wd10.out.below hb
 clear P_wd10 V6_wd10 X6_wd10 C7_wd10 X7_wd10 A8_wd10 V9_wd10
 have hswd11 : wd10.heap.size <= wd11.heap.size := hb.size
 obtain ⟨B9, hB9⟩ : ∃ x, wd10.heap.size = x := ⟨_, rfl⟩
 rw [hB9] at hc ⊢
 have lB9 : B9 < wd11.heap.size := hc.1
 have gB9 : wd10.heap.size <= B9 := by omega
 have X9_wd11 : Hid (Cl wd11 B9 [.int .i64 err, .int .i64 at2, .slice ao9 nn cap9, .int .i64 zz, .int .i64 cc]) := hc
 clear hx hb hc hB9
 have zx9 := X9_wd11.out.1
 have cx90 : wd11.cell? ⟨B9, 0, none⟩ = some (.int .i64 err) := X9_wd11.out.2 0 (by simp)
 have cx91 : wd11.cell? ⟨B9, 1, none⟩ = some (.int .i64 at2) := X9_wd11.out.2 1 (by simp)
 have cx92 : wd11.cell? ⟨B9, 2, none⟩ = some (.slice ao9 nn cap9) := X9_wd11.out.2 2 (by simp)
 have cx93 : wd11.cell? ⟨B9, 3, none⟩ = some (.int .i64 zz) := X9_wd11.out.2 3 (by simp)
 have cx94 : wd11.cell? ⟨B9, 4, none⟩ = some (.int .i64 cc) := X9_wd11.out.2 4 (by simp)
 have zx6 := X6_wd11.out.1
 have cx60 : wd11.cell? ⟨B6, 0, none⟩ = some (.int .i64 err) := X6_wd11.out.2 0 (by simp)
 have cx61 : wd11.cell? ⟨B6, 1, none⟩ = some (.int .i64 at2) := X6_wd11.out.2 1 (by simp)
 have cx62 : wd11.cell? ⟨B6, 2, none⟩ = some (.slice ao6 nn cap6) := X6_wd11.out.2 2 (by simp)
 have cx63 : wd11.cell? ⟨B6, 3, none⟩ = some (.int .i64 zz) := X6_wd11.out.2 3 (by simp)
 have cx64 : wd11.cell? ⟨B6, 4, none⟩ = some (.int .i64 cc) := X6_wd11.out.2 4 (by simp)
 go_wp2_with fail
 refine (eqCk_view err at2 _ _ nn _ _ W zz cc _ (by omega) V9_wd11.out V6_wd11.out).mono ?_
 rintro e wd12 ⟨rfl, hb⟩
 clear zx9 cx90 cx91 cx92 cx93 cx94 zx6 cx60 cx61 cx62 cx63 cx64
 have P_wd12 : Hid (LkP w wd12 aoH nH cH aoR nR cR) := P_wd11.out.below hb
 have V6_wd12 : Hid (WV wd12 ao6 nn W) := V6_wd11.out.below hb
 have X6_wd12 : Hid (Cl wd12 B6 [.int .i64 err, .int .i64 at2, .slice ao6 nn cap6, .int .i64 zz, .int .i64 cc]) := X6_wd11.out.below hb
 have C7_wd12 : Hid (SigCp wd12 bH7 nH S bR7 nR V) := C7_wd11.out.below hb
 have X7_wd12 : Hid (Cl wd12 B7 [.slice (some ⟨bH7, 0, none⟩) nH nH, .slice (some ⟨bR7, 0, none⟩) nR nR]) := X7_wd11.out.below hb
 have A8_wd12 : Hid (Arr wd12 bL8 (n * 11) (stF Ls)) := A8_wd11.out.below hb A8_wd11.out.lt
 have V9_wd12 : Hid (WV wd12 ao9 nn W) := V9_wd11.out.below hb
 have X9_wd12 : Hid (Cl wd12 B9 [.int .i64 err, .int .i64 at2, .slice ao9 nn cap9, .int .i64 zz, .int .i64 cc]) := X9_wd11.out.below hb
 clear P_wd11 V6_wd11 X6_wd11 C7_wd11 X7_wd11 A8_wd11 V9_wd11 X9_wd11
 have hswd12 : wd11.heap.size <= wd12.heap.size := hb.size
 clear hb
 go_upto_region 14 with fail
 have rx70 : ∀ w', Below wd12.heap.size wd12 w' -> w'.cell? ⟨B7, 0, none⟩ = some (.slice (some ⟨bH7, 0, none⟩) nH nH) := fun w' h => (X7_wd12.out.below h).2 0 (by simp)
 have rx71 : ∀ w', Below wd12.heap.size wd12 w' -> w'.cell? ⟨B7, 1, none⟩ = some (.slice (some ⟨bR7, 0, none⟩) nR nR) := fun w' h => (X7_wd12.out.below h).2 1 (by simp)
 have rps0 : ∀ w', Below wd12.heap.size wd12 w' -> w'.cell? ⟨w.heap.size, 0, none⟩ = some (.slice aoH nH cH) := fun w' h => (P_wd12.out.S.below h).2 0 (by simp)
 have rps1 : ∀ w', Below wd12.heap.size wd12 w' -> w'.cell? ⟨w.heap.size, 1, none⟩ = some (.slice aoR nR cR) := fun w' h => (P_wd12.out.S.below h).2 1 (by simp)
 refine wp_region_held_drew (S := fun w' => Below wd12.heap.size wd12 w') (by kernel_rfl) (Below.refl _ _).drew (fun hd0 => ?_)
 generalize wd12.drew = t0 at hd0 ⊢
 refine wpAnyH_ta 0 rfl ?_
 refine wpAnyH_ta 1 rfl ?_
 refine wpAnyH_ready (rs := [2]) (by kernel_rfl) (by simp) ?_
 refine AllReadyH.cons rfl (fun KK hK => ?_) AllReadyH.nil
 go_simp
 refine (toSig_in _ _ _ S _ _ _ V _ HS0.out.1 HS0.out.2 (hin.out.below (P_wd12.out.bel.trans (hd0.mono P_wd12.out.bel.size)) (Nat.le_refl _))).mono ?_
 rintro e t1 ⟨bH2, bR2, _, _, rfl, hb, hcp⟩
 have hd1 : Below wd12.heap.size wd12 t1 := hd0.trans (hb.mono hd0.size)
 clear hb
 go_wp2_with fail
 refine hK.out _ _ hd1 (fun hHeld => ?_)
 clear hK KK
 try simp only [Act.put, List.getElem_toArray, List.getElem_cons_zero, List.getElem_cons_succ, List.setIfInBounds_toArray, List.set_cons_zero, List.set_cons_succ]
 refine wpAnyH_ready (rs := [3]) (by kernel_rfl) (by simp) ?_
 refine AllReadyH.cons rfl (fun KK hK => ?_) AllReadyH.nil
 go_simp
 refine (eqSig_same _ _ _ S _ _ _ V _ _ _ _ _ HS0.out.1 HS0.out.2 (C7_wd12.out.below hd1) hcp).mono ?_
 rintro e wd13 ⟨rfl, hb⟩
 have hd2 : Below wd12.heap.size wd12 wd13 := hd1.trans (hb.mono hd1.size)
 clear hb hcp
 go_wp2_with fail
 refine hK.out _ _ hd2 (fun hHeld2 => ?_)
 clear hK KK
 try simp only [Act.put, List.getElem_toArray, List.getElem_cons_zero, List.getElem_cons_succ, List.setIfInBounds_toArray, List.set_cons_zero, List.set_cons_succ]
 refine wpAnyH_ta 4 rfl ?_
 refine wpAnyH_done (by kernel_rfl) ?_ _
 clear rx70 rx71 rps0 rps1
 have P_wd13 : Hid (LkP w wd13 aoH nH cH aoR nR cR) := P_wd12.out.below hd2
 have V6_wd13 : Hid (WV wd13 ao6 nn W) := V6_wd12.out.below hd2
 have X6_wd13 : Hid (Cl wd13 B6 [.int .i64 err, .int .i64 at2, .slice ao6 nn cap6, .int .i64 zz, .int .i64 cc]) := X6_wd12.out.below hd2
 have C7_wd13 : Hid (SigCp wd13 bH7 nH S bR7 nR V) := C7_wd12.out.below hd2
 have X7_wd13 : Hid (Cl wd13 B7 [.slice (some ⟨bH7, 0, none⟩) nH nH, .slice (some ⟨bR7, 0, none⟩) nR nR]) := X7_wd12.out.below hd2
 have A8_wd13 : Hid (Arr wd13 bL8 (n * 11) (stF Ls)) := A8_wd12.out.below hd2 A8_wd12.out.lt
 have V9_wd13 : Hid (WV wd13 ao9 nn W) := V9_wd12.out.below hd2
 have X9_wd13 : Hid (Cl wd13 B9 [.int .i64 err, .int .i64 at2, .slice ao9 nn cap9, .int .i64 zz, .int .i64 cc]) := X9_wd12.out.below hd2
 clear P_wd12 V6_wd12 X6_wd12 C7_wd12 X7_wd12 A8_wd12 V9_wd12 X9_wd12
 have hswd13 : wd12.heap.size <= wd13.heap.size := hd2.size
 clear hd0 hd1 hd2 hHeld hHeld2
 go_wp2_with fail
 refine (toStmtS_in _ _ _ Ls _ HS1.out (hinL.out.below P_wd13.out.bel (Nat.le_refl _))).mono ?_
 rintro e wd14 ⟨rfl, hb, hcp⟩
 have P_wd14 : Hid (LkP w wd14 aoH nH cH aoR nR cR) := P_wd13.out.below hb
 have V6_wd14 : Hid (WV wd14 ao6 nn W) := V6_wd13.out.below hb
 have X6_wd14 : Hid (Cl wd14 B6 [.int .i64 err, .int .i64 at2, .slice ao6 nn cap6, .int .i64 zz, .int .i64 cc]) := X6_wd13.out.below hb
 have C7_wd14 : Hid (SigCp wd14 bH7 nH S bR7 nR V) := C7_wd13.out.below hb
 have X7_wd14 : Hid (Cl wd14 B7 [.slice (some ⟨bH7, 0, none⟩) nH nH, .slice (some ⟨bR7, 0, none⟩) nR nR]) := X7_wd13.out.below hb
 have A8_wd14 : Hid (Arr wd14 bL8 (n * 11) (stF Ls)) := A8_wd13.out.below hb A8_wd13.out.lt
 have V9_wd14 : Hid (WV wd14 ao9 nn W) := V9_wd13.out.below hb
 have X9_wd14 : Hid (Cl wd14 B9 [.int .i64 err, .int .i64 at2, .slice ao9 nn cap9, .int .i64 zz, .int .i64 cc]) := X9_wd13.out.below hb
 clear P_wd13 V6_wd13 X6_wd13 C7_wd13 X7_wd13 A8_wd13 V9_wd13 X9_wd13
 have hswd14 : wd13.heap.size <= wd14.heap.size := hb.size
 clear hb
 obtain ⟨bLb, hbL⟩ : ∃ x, wd13.heap.size = x := ⟨_, rfl⟩
 rw [hbL] at hcp ⊢
 have gLb : wd13.heap.size <= bLb := by omega
 have Ab_wd14 : Hid (Arr wd14 bLb (n * 11) (stF Ls)) := hcp
 have lLb : bLb < wd14.heap.size := hcp.lt
 clear hcp hbL
 go_wp2_with fail
 refine (eqStmtS_same _ _ _ _ _ _ _ Ls _ HS1.out A8_wd14.out.at Ab_wd14.out.at).mono ?_
 rintro e wd15 ⟨rfl, hb⟩
 have P_wd15 : Hid (LkP w wd15 aoH nH cH aoR nR cR) := P_wd14.out.below hb
 have V6_wd15 : Hid (WV wd15 ao6 nn W) := V6_wd14.out.below hb
 have X6_wd15 : Hid (Cl wd15 B6 [.int .i64 err, .int .i64 at2, .slice ao6 nn cap6, .int .i64 zz, .int .i64 cc]) := X6_wd14.out.below hb
 have C7_wd15 : Hid (SigCp wd15 bH7 nH S bR7 nR V) := C7_wd14.out.below hb
 have X7_wd15 : Hid (Cl wd15 B7 [.slice (some ⟨bH7, 0, none⟩) nH nH, .slice (some ⟨bR7, 0, none⟩) nR nR]) := X7_wd14.out.below hb
 have A8_wd15 : Hid (Arr wd15 bL8 (n * 11) (stF Ls)) := A8_wd14.out.below hb A8_wd14.out.lt
 have V9_wd15 : Hid (WV wd15 ao9 nn W) := V9_wd14.out.below hb
 have X9_wd15 : Hid (Cl wd15 B9 [.int .i64 err, .int .i64 at2, .slice ao9 nn cap9, .int .i64 zz, .int .i64 cc]) := X9_wd14.out.below hb
 have Ab_wd15 : Hid (Arr wd15 bLb (n * 11) (stF Ls)) := Ab_wd14.out.below hb Ab_wd14.out.lt
 clear P_wd14 V6_wd14 X6_wd14 C7_wd14 X7_wd14 A8_wd14 V9_wd14 X9_wd14 Ab_wd14
 have hswd15 : wd14.heap.size <= wd15.heap.size := hb.size
 clear hb
 clear Ab_wd15
 have zx7 := X7_wd15.out.1
 have cx70 : wd15.cell? ⟨B7, 0, none⟩ = some (.slice (some ⟨bH7, 0, none⟩) nH nH) := X7_wd15.out.2 0 (by simp)
 have cx71 : wd15.cell? ⟨B7, 1, none⟩ = some (.slice (some ⟨bR7, 0, none⟩) nR nR) := X7_wd15.out.2 1 (by simp)
 go_wp2_with fail
 refine (markSig_any bH7 nH nH S bR7 nR nR V 1 _ HS0.out.1 HS0.out.2 (by omega) (by omega) C7_wd15.out).mono ?_
 rintro e wd16 ⟨rfl, hf⟩
 clear zx7 cx70 cx71
 have P_wd16 : Hid (LkP w wd16 aoH nH cH aoR nR cR) := P_wd15.out.fv hf (fun k hk => by rcases hk with rfl | rfl <;> omega)
 have X6_wd16 : Hid (Cl wd16 B6 [.int .i64 err, .int .i64 at2, .slice ao6 nn cap6, .int .i64 zz, .int .i64 cc]) := hf.cl X6_wd15.out (fun hk => by rcases hk with hk | hk <;> omega)
 have V6_wd16 : Hid (WV wd16 ao6 nn W) := V6_wd15.out.fv HL6.out hf (fun q hk => by rcases hk with rfl | rfl <;> omega)
 have A8_wd16 : Hid (Arr wd16 bL8 (n * 11) (stF Ls)) := hf.arr A8_wd15.out (fun hk => by rcases hk with hk | hk <;> omega)
 have X9_wd16 : Hid (Cl wd16 B9 [.int .i64 err, .int .i64 at2, .slice ao9 nn cap9, .int .i64 zz, .int .i64 cc]) := hf.cl X9_wd15.out (fun hk => by rcases hk with hk | hk <;> omega)
 have V9_wd16 : Hid (WV wd16 ao9 nn W) := V9_wd15.out.fv HL9.out hf (fun q hk => by rcases hk with rfl | rfl <;> omega)
 clear P_wd15 V6_wd15 X6_wd15 C7_wd15 X7_wd15 A8_wd15 V9_wd15 X9_wd15
 have hswd16 : wd15.heap.size <= wd16.heap.size := hf.size
 clear hf
 go_wp2_with fail
 refine (markSt_at bL8 n n _ (1 + 3 * (nH : Int) + 6 * (nR : Int)) _ HS1.out (by omega) (by have := HS0.out; omega) A8_wd16.out).mono ?_
 rintro e wd17 ⟨rfl, hft, _⟩
 have hf := Ft.fv hft
 clear hft
 have P_wd17 : Hid (LkP w wd17 aoH nH cH aoR nR cR) := P_wd16.out.fv hf (fun k hk => by omega)
 have X6_wd17 : Hid (Cl wd17 B6 [.int .i64 err, .int .i64 at2, .slice ao6 nn cap6, .int .i64 zz, .int .i64 cc]) := hf.cl X6_wd16.out (fun hk => by omega)
 have V6_wd17 : Hid (WV wd17 ao6 nn W) := V6_wd16.out.fv HL6.out hf (fun q hk => by omega)
 have X9_wd17 : Hid (Cl wd17 B9 [.int .i64 err, .int .i64 at2, .slice ao9 nn cap9, .int .i64 zz, .int .i64 cc]) := hf.cl X9_wd16.out (fun hk => by omega)
 have V9_wd17 : Hid (WV wd17 ao9 nn W) := V9_wd16.out.fv HL9.out hf (fun q hk => by omega)
 clear P_wd16 V6_wd16 X6_wd16 A8_wd16 V9_wd16 X9_wd16
 have hswd17 : wd16.heap.size <= wd17.heap.size := hf.size
 clear hf
 have hk0 : decide (1 + 3 * (nH : Int) + 6 * (nR : Int) + 11 * (n : Int) < 0) = false := by simp; omega
 have zx9 := X9_wd17.out.1
 have cx90 : wd17.cell? ⟨B9, 0, none⟩ = some (.int .i64 err) := X9_wd17.out.2 0 (by simp)
 have cx91 : wd17.cell? ⟨B9, 1, none⟩ = some (.int .i64 at2) := X9_wd17.out.2 1 (by simp)
 have cx92 : wd17.cell? ⟨B9, 2, none⟩ = some (.slice ao9 nn cap9) := X9_wd17.out.2 2 (by simp)
 have cx93 : wd17.cell? ⟨B9, 3, none⟩ = some (.int .i64 zz) := X9_wd17.out.2 3 (by simp)
 have cx94 : wd17.cell? ⟨B9, 4, none⟩ = some (.int .i64 cc) := X9_wd17.out.2 4 (by simp)
 have zx6 := X6_wd17.out.1
 have cx60 : wd17.cell? ⟨B6, 0, none⟩ = some (.int .i64 err) := X6_wd17.out.2 0 (by simp)
 have cx61 : wd17.cell? ⟨B6, 1, none⟩ = some (.int .i64 at2) := X6_wd17.out.2 1 (by simp)
 have cx62 : wd17.cell? ⟨B6, 2, none⟩ = some (.slice ao6 nn cap6) := X6_wd17.out.2 2 (by simp)
 have cx63 : wd17.cell? ⟨B6, 3, none⟩ = some (.int .i64 zz) := X6_wd17.out.2 3 (by simp)
 have cx64 : wd17.cell? ⟨B6, 4, none⟩ = some (.int .i64 cc) := X6_wd17.out.2 4 (by simp)
 go_wp2_with fail
 refine (eqCk_view err at2 _ _ nn _ _ W zz cc _ (by omega) V9_wd17.out V6_wd17.out).mono ?_
 rintro e wd18 ⟨rfl, hb⟩
 clear zx9 cx90 cx91 cx92 cx93 cx94 zx6 cx60 cx61 cx62 cx63 cx64
 have P_wd18 : Hid (LkP w wd18 aoH nH cH aoR nR cR) := P_wd17.out.below hb
 have V6_wd18 : Hid (WV wd18 ao6 nn W) := V6_wd17.out.below hb
 have X6_wd18 : Hid (Cl wd18 B6 [.int .i64 err, .int .i64 at2, .slice ao6 nn cap6, .int .i64 zz, .int .i64 cc]) := X6_wd17.out.below hb
 have V9_wd18 : Hid (WV wd18 ao9 nn W) := V9_wd17.out.below hb
 have X9_wd18 : Hid (Cl wd18 B9 [.int .i64 err, .int .i64 at2, .slice ao9 nn cap9, .int .i64 zz, .int .i64 cc]) := X9_wd17.out.below hb
 clear P_wd17 V6_wd17 X6_wd17 V9_wd17 X9_wd17
 have hswd18 : wd17.heap.size <= wd18.heap.size := hb.size
 clear hb
 have zx9 := X9_wd18.out.1
 have cx90 : wd18.cell? ⟨B9, 0, none⟩ = some (.int .i64 err) := X9_wd18.out.2 0 (by simp)
 have cx91 : wd18.cell? ⟨B9, 1, none⟩ = some (.int .i64 at2) := X9_wd18.out.2 1 (by simp)
 have cx92 : wd18.cell? ⟨B9, 2, none⟩ = some (.slice ao9 nn cap9) := X9_wd18.out.2 2 (by simp)
 have cx93 : wd18.cell? ⟨B9, 3, none⟩ = some (.int .i64 zz) := X9_wd18.out.2 3 (by simp)
 have cx94 : wd18.cell? ⟨B9, 4, none⟩ = some (.int .i64 cc) := X9_wd18.out.2 4 (by simp)
 go_wp2_with fail
 refine (markCk_any err at2 ao9 nn cap9 W zz cc 1 _ (by omega) (by omega) (by omega) V9_wd18.out).mono ?_
 rintro e wd19 ⟨rfl, hf, hm⟩
 clear zx9 cx90 cx91 cx92 cx93 cx94
 have P_wd19 : Hid (LkP w wd19 aoH nH cH aoR nR cR) := P_wd18.out.fv hf (fun k hk => by have := HL9.out _ hk.2 hk.1; omega)
 have X6_wd19 : Hid (Cl wd19 B6 [.int .i64 err, .int .i64 at2, .slice ao6 nn cap6, .int .i64 zz, .int .i64 cc]) := hf.cl X6_wd18.out (fun hk => by have := HL9.out _ hk.2 hk.1; omega)
 have V6_wd19 : Hid (WV wd19 ao6 nn W) := V6_wd18.out.fv HL6.out hf (fun q hk => by have := HL9.out _ hk.2 hk.1; omega)
 have X9_wd19 : Hid (Cl wd19 B9 [.int .i64 err, .int .i64 at2, .slice ao9 nn cap9, .int .i64 zz, .int .i64 cc]) := hf.cl X9_wd18.out (fun hk => by have := HL9.out _ hk.2 hk.1; omega)
 clear P_wd18 V6_wd18 X6_wd18 V9_wd18 X9_wd18
 have hswd19 : wd18.heap.size <= wd19.heap.size := hf.size
 have M9_wd19 : Hid (WV wd19 ao9 nn (mV 1)) := hm
 clear hf hm
 have zx9 := X9_wd19.out.1
 have cx90 : wd19.cell? ⟨B9, 0, none⟩ = some (.int .i64 err) := X9_wd19.out.2 0 (by simp)
 have cx91 : wd19.cell? ⟨B9, 1, none⟩ = some (.int .i64 at2) := X9_wd19.out.2 1 (by simp)
 have cx92 : wd19.cell? ⟨B9, 2, none⟩ = some (.slice ao9 nn cap9) := X9_wd19.out.2 2 (by simp)
 have cx93 : wd19.cell? ⟨B9, 3, none⟩ = some (.int .i64 zz) := X9_wd19.out.2 3 (by simp)
 have cx94 : wd19.cell? ⟨B9, 4, none⟩ = some (.int .i64 cc) := X9_wd19.out.2 4 (by simp)
 go_wp2_with fail
 refine (heldCk_any err at2 ao9 nn cap9 zz cc 1 _ (by omega) (by omega) (by omega) M9_wd19.out).mono ?_
 rintro e wd20 ⟨rfl, hb⟩
 clear zx9 cx90 cx91 cx92 cx93 cx94
 have P_wd20 : Hid (LkP w wd20 aoH nH cH aoR nR cR) := P_wd19.out.below hb
 have V6_wd20 : Hid (WV wd20 ao6 nn W) := V6_wd19.out.below hb
 have X6_wd20 : Hid (Cl wd20 B6 [.int .i64 err, .int .i64 at2, .slice ao6 nn cap6, .int .i64 zz, .int .i64 cc]) := X6_wd19.out.below hb
 have X9_wd20 : Hid (Cl wd20 B9 [.int .i64 err, .int .i64 at2, .slice ao9 nn cap9, .int .i64 zz, .int .i64 cc]) := X9_wd19.out.below hb
 have M9_wd20 : Hid (WV wd20 ao9 nn (mV 1)) := M9_wd19.out.below hb
 clear P_wd19 V6_wd19 X6_wd19 X9_wd19 M9_wd19
 have hswd20 : wd19.heap.size <= wd20.heap.size := hb.size
 clear hb
 clear X9_wd20 M9_wd20
 have hk1 : decide (1 + 6 * (nn : Int) < 0) = false := by simp; omega
 have hk2 : (1 + 6 * (nn : Int) != 1 + 6 * (nn : Int)) = false := by simp
 have zps := P_wd20.out.S.1
 have cps0 : wd20.cell? ⟨w.heap.size, 0, none⟩ = some (.slice aoH nH cH) := P_wd20.out.S.2 0 (by simp)
 have cps1 : wd20.cell? ⟨w.heap.size, 1, none⟩ = some (.slice aoR nR cR) := P_wd20.out.S.2 1 (by simp)
 go_wp2_with fail
 refine (toSig_in _ _ _ S _ _ _ V _ HS0.out.1 HS0.out.2 (hin.out.below P_wd20.out.bel (Nat.le_refl _))).mono ?_
 rintro e wd21 ⟨bHc, bRc, gHc, gRc, rfl, hb, hcp⟩
 clear zps cps0 cps1
 have P_wd21 : Hid (LkP w wd21 aoH nH cH aoR nR cR) := P_wd20.out.below hb
 have V6_wd21 : Hid (WV wd21 ao6 nn W) := V6_wd20.out.below hb
 have X6_wd21 : Hid (Cl wd21 B6 [.int .i64 err, .int .i64 at2, .slice ao6 nn cap6, .int .i64 zz, .int .i64 cc]) := X6_wd20.out.below hb
 clear P_wd20 V6_wd20 X6_wd20
 have hswd21 : wd20.heap.size <= wd21.heap.size := hb.size
 clear hb
 have Cc_wd21 : Hid (SigCp wd21 bHc nH S bRc nR V) := hcp
 have lHc : bHc < wd21.heap.size := hcp.h.lt
 have lRc : bRc < wd21.heap.size := hcp.r.lt
 clear hcp
 clear hk0 hk1 hk2
 go_wp2_with fail
 refine (toStmtS_in _ _ _ Ls _ HS1.out (hinL.out.below P_wd21.out.bel (Nat.le_refl _))).mono ?_
 rintro e wd22 ⟨rfl, hb, hcp⟩
 have P_wd22 : Hid (LkP w wd22 aoH nH cH aoR nR cR) := P_wd21.out.below hb
 have V6_wd22 : Hid (WV wd22 ao6 nn W) := V6_wd21.out.below hb
 have X6_wd22 : Hid (Cl wd22 B6 [.int .i64 err, .int .i64 at2, .slice ao6 nn cap6, .int .i64 zz, .int .i64 cc]) := X6_wd21.out.below hb
 have Cc_wd22 : Hid (SigCp wd22 bHc nH S bRc nR V) := Cc_wd21.out.below hb
 clear P_wd21 V6_wd21 X6_wd21 Cc_wd21
 have hswd22 : wd21.heap.size <= wd22.heap.size := hb.size
 clear hb
 obtain ⟨bLc, hbL⟩ : ∃ x, wd21.heap.size = x := ⟨_, rfl⟩
 rw [hbL] at hcp ⊢
 have gLc : wd21.heap.size <= bLc := by omega
 have Ac_wd22 : Hid (Arr wd22 bLc (n * 11) (stF Ls)) := hcp
 have lLc : bLc < wd22.heap.size := hcp.lt
 clear hcp hbL
 go_wp2_with fail
 refine (implCheck_any _ _ _ S _ _ _ V _ _ _ Ls _ HS0.out.1 HS0.out.2 HS1.out Cc_wd22.out Ac_wd22.out ((P_wd22.out.bel.cell (p := ⟨0, 0, none⟩) HG.out.2).trans HG.out.1) (Nat.lt_of_lt_of_le HG.out.2 P_wd22.out.bel.size)).mono ?_
 intro e wd23 hx
 obtain ⟨ao13, cap13, rfl, hv, hl, hb⟩ := HP.out.v _ _ _ hx
 clear hx
 have P_wd23 : Hid (LkP w wd23 aoH nH cH aoR nR cR) := P_wd22.out.below hb
 have V6_wd23 : Hid (WV wd23 ao6 nn W) := V6_wd22.out.below hb
 have X6_wd23 : Hid (Cl wd23 B6 [.int .i64 err, .int .i64 at2, .slice ao6 nn cap6, .int .i64 zz, .int .i64 cc]) := X6_wd22.out.below hb
 have Cc_wd23 : Hid (SigCp wd23 bHc nH S bRc nR V) := Cc_wd22.out.below hb
 have Ac_wd23 : Hid (Arr wd23 bLc (n * 11) (stF Ls)) := Ac_wd22.out.below hb Ac_wd22.out.lt
 clear P_wd22 V6_wd22 X6_wd22 Cc_wd22 Ac_wd22
 have hswd23 : wd22.heap.size <= wd23.heap.size := hb.size
 have V13_wd23 : Hid (WV wd23 ao13 nn W) := hv
 have HL13 : Hid (Lie ao13 nn wd22.heap.size wd23.heap.size) := hl
 clear hv hl hb
 go_upto_region 32 with fail
 obtain ⟨wd24, hx, hb, hc⟩ : ∃ y, wd23.alloc (.cells #[.int .i64 err, .int .i64 at2, .slice ao13 nn cap13, .int .i64 zz, .int .i64 cc] 33) = y /\ Below wd23.heap.size wd23 y /\ Cl y wd23.heap.size [.int .i64 err, .int .i64 at2, .slice ao13 nn cap13, .int .i64 zz, .int .i64 cc] := ⟨_, rfl, (Below.refl _ _).alloc (Nat.le_refl _) _, Cl.new⟩
 rw [hx]
 have P_wd24 : Hid (LkP w wd24 aoH nH cH aoR nR cR) := P_wd23.out.below hb
 have V6_wd24 : Hid (WV wd24 ao6 nn W) := V6_wd23.out.below hb
 have X6_wd24 : Hid (Cl wd24 B6 [.int .i64 err, .int .i64 at2, .slice ao6 nn cap6, .int .i64 zz, .int .i64 cc]) := X6_wd23.out.below hb
 have Cc_wd24 : Hid (SigCp wd24 bHc nH S bRc nR V) := Cc_wd23.out.below hb
 have Ac_wd24 : Hid (Arr wd24 bLc (n * 11) (stF Ls)) := Ac_wd23.out.below hb Ac_wd23.out.lt
 have V13_wd24 : Hid (WV wd24 ao13 nn W) := V13_wd23.out.below hb
 clear P_wd23 V6_wd23 X6_wd23 Cc_wd23 Ac_wd23 V13_wd23
 have hswd24 : wd23.heap.size <= wd24.heap.size := hb.size
 obtain ⟨B13, hB13⟩ : ∃ x, wd23.heap.size = x := ⟨_, rfl⟩
 rw [hB13] at hc ⊢
 have lB13 : B13 < wd24.heap.size := hc.1
 have gB13 : wd23.heap.size <= B13 := by omega
 have X13_wd24 : Hid (Cl wd24 B13 [.int .i64 err, .int .i64 at2, .slice ao13 nn cap13, .int .i64 zz, .int .i64 cc]) := hc
 clear hx hb hc hB13
 have zx13 := X13_wd24.out.1
 have cx130 : wd24.cell? ⟨B13, 0, none⟩ = some (.int .i64 err) := X13_wd24.out.2 0 (by simp)
 have cx131 : wd24.cell? ⟨B13, 1, none⟩ = some (.int .i64 at2) := X13_wd24.out.2 1 (by simp)
 have cx132 : wd24.cell? ⟨B13, 2, none⟩ = some (.slice ao13 nn cap13) := X13_wd24.out.2 2 (by simp)
 have cx133 : wd24.cell? ⟨B13, 3, none⟩ = some (.int .i64 zz) := X13_wd24.out.2 3 (by simp)
 have cx134 : wd24.cell? ⟨B13, 4, none⟩ = some (.int .i64 cc) := X13_wd24.out.2 4 (by simp)
 have zx6 := X6_wd24.out.1
 have cx60 : wd24.cell? ⟨B6, 0, none⟩ = some (.int .i64 err) := X6_wd24.out.2 0 (by simp)
 have cx61 : wd24.cell? ⟨B6, 1, none⟩ = some (.int .i64 at2) := X6_wd24.out.2 1 (by simp)
 have cx62 : wd24.cell? ⟨B6, 2, none⟩ = some (.slice ao6 nn cap6) := X6_wd24.out.2 2 (by simp)
 have cx63 : wd24.cell? ⟨B6, 3, none⟩ = some (.int .i64 zz) := X6_wd24.out.2 3 (by simp)
 have cx64 : wd24.cell? ⟨B6, 4, none⟩ = some (.int .i64 cc) := X6_wd24.out.2 4 (by simp)
 go_wp2_with fail
 refine (eqCk_view err at2 _ _ nn _ _ W zz cc _ (by omega) V13_wd24.out V6_wd24.out).mono ?_
 rintro e wd25 ⟨rfl, hb⟩
 clear zx13 cx130 cx131 cx132 cx133 cx134 zx6 cx60 cx61 cx62 cx63 cx64
 have P_wd25 : Hid (LkP w wd25 aoH nH cH aoR nR cR) := P_wd24.out.below hb
 have V6_wd25 : Hid (WV wd25 ao6 nn W) := V6_wd24.out.below hb
 have X6_wd25 : Hid (Cl wd25 B6 [.int .i64 err, .int .i64 at2, .slice ao6 nn cap6, .int .i64 zz, .int .i64 cc]) := X6_wd24.out.below hb
 have Cc_wd25 : Hid (SigCp wd25 bHc nH S bRc nR V) := Cc_wd24.out.below hb
 have Ac_wd25 : Hid (Arr wd25 bLc (n * 11) (stF Ls)) := Ac_wd24.out.below hb Ac_wd24.out.lt
 have V13_wd25 : Hid (WV wd25 ao13 nn W) := V13_wd24.out.below hb
 have X13_wd25 : Hid (Cl wd25 B13 [.int .i64 err, .int .i64 at2, .slice ao13 nn cap13, .int .i64 zz, .int .i64 cc]) := X13_wd24.out.below hb
 clear P_wd24 V6_wd24 X6_wd24 Cc_wd24 Ac_wd24 V13_wd24 X13_wd24
 have hswd25 : wd24.heap.size <= wd25.heap.size := hb.size
 clear hb
 go_wp2
 go_ret
 exact ⟨rfl, P_wd25.out.bel⟩
end Go.Proofs.YtcgcldokompafaaGreatDoor
