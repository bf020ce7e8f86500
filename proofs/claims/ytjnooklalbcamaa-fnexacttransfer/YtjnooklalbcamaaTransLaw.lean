import Derived.Test.YtjnooklalbcamaaOfTransResB
import Derived.Test.YtjnooklalbcamaaTransSpAll
import Derived.Test.YtjnooklalbcamaaOpenAbs
import Derived.Test.YtjnooklalbcamaaOfTransMath
import Derived.Deep.RegionHeld3
import Derived.Deep.Cut
import Derived.Deep.DeepCutAuto
/- FnExactTransfer: its walk. -/
namespace Go.Proofs.Ytjnooklalbcamaa
open Go.RowKit Go.Deep
/-- What both Transfers answer, in numbers. -/
structure Par (nH : Nat) (S : Nat → HS) (nR : Nat) (V0 : Nat → VV) (nA : Nat) (V : Nat → VV) (z c op d ra rb imm h : Int) (err : Int) (nn : Nat) (W : Nat → VV) (zz cc : Int) : Prop where
  pe : trE nH S nR V0 nA V z c op d ra rb imm h = err
  pn : (if err = 0 then 8 else 0) = nn
  pw : trW S V z c op d ra rb imm h = W
  pz : (if err = 0 then trZ V z c op ra rb z else 0) = zz
  pc : (if err = 0 then trZ V z c op ra rb c else 0) = cc
theorem tr_view {w w' : World} {e : Ending} {nH : Nat} {S : Nat → HS} {nR : Nat} {V0 : Nat → VV} {nA : Nat} {V : Nat → VV} {z c op d ra rb imm h err : Int} {nn : Nat} {W : Nat → VV} {zz cc : Int} (p : Par nH S nR V0 nA V z c op d ra rb imm h err nn W zz cc) (hx : TrAns w w' e (trE nH S nR V0 nA V z c op d ra rb imm h) (trW S V z c op d ra rb imm h) (trZ V z c op ra rb z) (trZ V z c op ra rb c) ∧ Below w.heap.size w w') :
    ∃ ao cap, e = .returned (.agg #[.int .i64 err, .slice ao nn cap, .int .i64 zz, .int .i64 cc]) ∧ WV w' ao nn W ∧ Lie ao nn w.heap.size w'.heap.size ∧ Below w.heap.size w w' := by
  obtain ⟨ao, cap, h1, h2, h3⟩ := hx.1.view
  rw [p.pe, p.pn, p.pz, p.pc] at h1
  rw [p.pe, p.pn, p.pw] at h2
  rw [p.pe, p.pn] at h3
  exact ⟨ao, cap, h1, h2, h3, hx.2⟩
/-- Where the law stands: its arguments. -/
structure LwP (w u : World) (aoH0 : Option Addr) (nH0 cH0 : Nat) (aoR0 : Option Addr) (nR0 cR0 : Nat) (aoA1 : Option Addr) (nA1 cA1 : Nat) (zA1 cF1 op d ra rb imm h : Int) : Prop where
  bel : Below w.heap.size w u
  S : Cl u w.heap.size [.slice aoH0 nH0 cH0, .slice aoR0 nR0 cR0]
  A : Cl u (w.heap.size + 1) [.slice aoA1 nA1 cA1, .int .i64 zA1, .int .i64 cF1]
  I : Cl u (w.heap.size + 1 + 1) [.int .i64 op, .int .i64 d, .int .i64 ra, .int .i64 rb, .int .i64 imm, .int .i64 h]
theorem LwP.below {w u v : World} {aoH0 : Option Addr} {nH0 cH0 : Nat} {aoR0 : Option Addr} {nR0 cR0 : Nat} {aoA1 : Option Addr} {nA1 cA1 : Nat} {zA1 cF1 op d ra rb imm h : Int} (p : LwP w u aoH0 nH0 cH0 aoR0 nR0 cR0 aoA1 nA1 cA1 zA1 cF1 op d ra rb imm h) (hb : Below u.heap.size u v) : LwP w v aoH0 nH0 cH0 aoR0 nR0 cR0 aoA1 nA1 cA1 zA1 cF1 op d ra rb imm h :=
  ⟨p.bel.trans (hb.mono p.bel.size), p.S.below hb, p.A.below hb, p.I.below hb⟩
theorem LwP.fv {w u v : World} {F : Nat → Prop} {aoH0 : Option Addr} {nH0 cH0 : Nat} {aoR0 : Option Addr} {nR0 cR0 : Nat} {aoA1 : Option Addr} {nA1 cA1 : Nat} {zA1 cF1 op d ra rb imm h : Int} (p : LwP w u aoH0 nH0 cH0 aoR0 nR0 cR0 aoA1 nA1 cA1 zA1 cF1 op d ra rb imm h) (hf : Fv F u v) (hs : ∀ k, F k → w.heap.size + 1 + 1 + 1 ≤ k) : LwP w v aoH0 nH0 cH0 aoR0 nR0 cR0 aoA1 nA1 cA1 zA1 cF1 op d ra rb imm h :=
  ⟨hf.below p.bel (fun k hk => by have := hs k hk; omega) p.bel.size, hf.cl p.S (fun q => by have := hs _ q; omega), hf.cl p.A (fun q => by have := hs _ q; omega), hf.cl p.I (fun q => by have := hs _ q; omega)⟩
theorem lw_pre (w : World) (aoH0 : Option Addr) (nH0 cH0 : Nat) (aoR0 : Option Addr) (nR0 cR0 : Nat) (aoA1 : Option Addr) (nA1 cA1 : Nat) (zA1 cF1 op d ra rb imm h : Int) : ∃ u, ((w.alloc (.cells #[.slice aoH0 nH0 cH0, .slice aoR0 nR0 cR0] 42)).alloc (.cells #[.slice aoA1 nA1 cA1, .int .i64 zA1, .int .i64 cF1] 62)).alloc (.cells #[.int .i64 op, .int .i64 d, .int .i64 ra, .int .i64 rb, .int .i64 imm, .int .i64 h] 75) = u ∧ u.heap.size = w.heap.size + 1 + 1 + 1 ∧ LwP w u aoH0 nH0 cH0 aoR0 nR0 cR0 aoA1 nA1 cA1 zA1 cF1 op d ra rb imm h := by
  have e0 := Cl.new (w := w) (vs := #[.slice aoH0 nH0 cH0, .slice aoR0 nR0 cR0]) (t := 42)
  generalize hx : w.alloc (.cells #[.slice aoH0 nH0 cH0, .slice aoR0 nR0 cR0] 42) = x at *
  have s0 : x.heap.size = w.heap.size + 1 := by rw [← hx]; simp
  have b0 : Below w.heap.size w x := by rw [← hx]; exact (Below.refl _ _).alloc (Nat.le_refl _) _
  clear hx
  have e1 := Cl.new (w := x) (vs := #[.slice aoA1 nA1 cA1, .int .i64 zA1, .int .i64 cF1]) (t := 62)
  generalize hy : x.alloc (.cells #[.slice aoA1 nA1 cA1, .int .i64 zA1, .int .i64 cF1] 62) = y at *
  have s1 : y.heap.size = w.heap.size + 1 + 1 := by rw [← hy]; simp [s0]
  have b1 : Below x.heap.size x y := by rw [← hy]; exact (Below.refl _ _).alloc (Nat.le_refl _) _
  clear hy
  have e2 := Cl.new (w := y) (vs := #[.int .i64 op, .int .i64 d, .int .i64 ra, .int .i64 rb, .int .i64 imm, .int .i64 h]) (t := 75)
  have b2 : Below y.heap.size y (y.alloc (.cells #[.int .i64 op, .int .i64 d, .int .i64 ra, .int .i64 rb, .int .i64 imm, .int .i64 h] 75)) := (Below.refl _ _).alloc (Nat.le_refl _) _
  have c1 := e1.below b2
  rw [s0] at c1
  rw [s1] at e2
  exact ⟨_, rfl, by simp [s1], (b0.trans (b1.mono (by omega))).trans (b2.mono (by omega)), (e0.below b1).below b2, c1, e2⟩
theorem cl4_put {w : World} {b : Nat} {v0 v1 v2 v3 a0 a1 a2 a3 : Value} (h : Cl w b [v0, v1, v2, v3]) : Cl ((((w.setCell ⟨b, 0, none⟩ a0).setCell ⟨b, 1, none⟩ a1).setCell ⟨b, 2, none⟩ a2).setCell ⟨b, 3, none⟩ a3) b [a0, a1, a2, a3] := by
  obtain ⟨c0, c1, c2, c3⟩ := clg4 h
  refine ⟨by simpa using h.1, fun i hi => ?_⟩
  match i, hi with
  | 0, _ => simp [go_sem, c0]
  | 1, _ => simp [go_sem, c1]
  | 2, _ => simp [go_sem, c2]
  | 3, _ => simp [go_sem, c3]
theorem wv_put {w : World} {nb : Nat} {a0 a1 a2 a3 : Value} {ao : Option Addr} {n : Nat} {V : Nat → VV} (h : WV w ao n V) (hne : ∀ b, ao = some ⟨b, 0, none⟩ → n ≠ 0 → b ≠ nb) : WV ((((w.setCell ⟨nb, 0, none⟩ a0).setCell ⟨nb, 1, none⟩ a1).setCell ⟨nb, 2, none⟩ a2).setCell ⟨nb, 3, none⟩ a3) ao n V := by
  by_cases h0 : n = 0
  · exact .inl h0
  · rcases h with h | ⟨b, rfl, h⟩
    · exact .inl h
    · have e := hne b rfl h0
      exact .inr ⟨b, rfl, (((h.other (show nb ≠ b from fun q => e q.symm) _).other (show nb ≠ b from fun q => e q.symm) _).other (show nb ≠ b from fun q => e q.symm) _).other (show nb ≠ b from fun q => e q.symm) _⟩

set_option maxRecDepth 20000 in
set_option maxHeartbeats 16000000 in
theorem lawTransfer_walk (aoH0 : Option Addr) (nH0 cH0 : Nat) (S0 : Nat → HS) (aoR0 : Option Addr) (nR0 cR0 : Nat) (V0 : Nat → VV) (aoA1 : Option Addr) (nA1 cA1 : Nat) (U1 : Nat → VV) (zA1 cF1 op d ra rb imm h : Int) (w : World) (mH0 : nH0 ≤ 9223372036854775807) (mR0 : nR0 ≤ 9223372036854775807) (hin0Z : SigIn w aoH0 nH0 S0 aoR0 nR0 V0) (mA1 : nA1 ≤ 9223372036854775807) (hin1Z : InRow w aoA1 (nA1 * 6) (vF U1)) :
    Calls Try.prog 8 #[.agg #[.slice aoH0 nH0 cH0, .slice aoR0 nR0 cR0], .agg #[.slice aoA1 nA1 cA1, .int .i64 zA1, .int .i64 cF1], .agg #[.int .i64 op, .int .i64 d, .int .i64 ra, .int .i64 rb, .int .i64 imm, .int .i64 h]] w fun e w' => e = .returned (.bool true) ∧ Below w.heap.size w w' := by
  have hin0 : Hid (SigIn w aoH0 nH0 S0 aoR0 nR0 V0) := hin0Z
  have hin1 : Hid (InRow w aoA1 (nA1 * 6) (vF U1)) := hin1Z
  clear hin0Z hin1Z
  obtain ⟨err, nn, W, zz, cc, hp⟩ : ∃ err nn W zz cc, Par nH0 S0 nR0 V0 nA1 U1 zA1 cF1 op d ra rb imm h err nn W zz cc := ⟨_, _, _, _, _, rfl, rfl, rfl, rfl, rfl⟩
  have hn8 : nn ≤ 8 := by rw [← hp.pn]; split <;> omega
  have HP : Hid (Par nH0 S0 nR0 V0 nA1 U1 zA1 cF1 op d ra rb imm h err nn W zz cc) := hp
  clear hp
  go_enter Try.func8, Try.ntmps8
  go_upto_region 1 with fail
  obtain ⟨u0, hu, hz0, pu⟩ := lw_pre w aoH0 nH0 cH0 aoR0 nR0 cR0 aoA1 nA1 cA1 zA1 cF1 op d ra rb imm h
  rw [hu]
  have P_u0 : Hid (LwP w u0 aoH0 nH0 cH0 aoR0 nR0 cR0 aoA1 nA1 cA1 zA1 cF1 op d ra rb imm h) := pu
  clear hu pu
  have zps := P_u0.out.S.1
  have cps0 : u0.cell? ⟨w.heap.size, 0, none⟩ = some (.slice aoH0 nH0 cH0) := P_u0.out.S.2 0 (by simp)
  have cps1 : u0.cell? ⟨w.heap.size, 1, none⟩ = some (.slice aoR0 nR0 cR0) := P_u0.out.S.2 1 (by simp)
  have zpa := P_u0.out.A.1
  have cpa0 : u0.cell? ⟨w.heap.size + 1, 0, none⟩ = some (.slice aoA1 nA1 cA1) := P_u0.out.A.2 0 (by simp)
  have cpa1 : u0.cell? ⟨w.heap.size + 1, 1, none⟩ = some (.int .i64 zA1) := P_u0.out.A.2 1 (by simp)
  have cpa2 : u0.cell? ⟨w.heap.size + 1, 2, none⟩ = some (.int .i64 cF1) := P_u0.out.A.2 2 (by simp)
  have zpi := P_u0.out.I.1
  have cpi0 : u0.cell? ⟨w.heap.size + 1 + 1, 0, none⟩ = some (.int .i64 op) := P_u0.out.I.2 0 (by simp)
  have cpi1 : u0.cell? ⟨w.heap.size + 1 + 1, 1, none⟩ = some (.int .i64 d) := P_u0.out.I.2 1 (by simp)
  have cpi2 : u0.cell? ⟨w.heap.size + 1 + 1, 2, none⟩ = some (.int .i64 ra) := P_u0.out.I.2 2 (by simp)
  have cpi3 : u0.cell? ⟨w.heap.size + 1 + 1, 3, none⟩ = some (.int .i64 rb) := P_u0.out.I.2 3 (by simp)
  have cpi4 : u0.cell? ⟨w.heap.size + 1 + 1, 4, none⟩ = some (.int .i64 imm) := P_u0.out.I.2 4 (by simp)
  have cpi5 : u0.cell? ⟨w.heap.size + 1 + 1, 5, none⟩ = some (.int .i64 h) := P_u0.out.I.2 5 (by simp)
  go_wp2_with fail
  refine (szSig_any _ _ _ _ _ _ _ _ (by omega) (by omega) mH0 mR0).mono ?_
  rintro e wd1 ⟨r0, rfl, hl, hb⟩
  clear zps cps0 cps1 zpa cpa0 cpa1 cpa2 zpi cpi0 cpi1 cpi2 cpi3 cpi4 cpi5
  have P_wd1 : Hid (LwP w wd1 aoH0 nH0 cH0 aoR0 nR0 cR0 aoA1 nA1 cA1 zA1 cF1 op d ra rb imm h) := P_u0.out.below hb
  clear P_u0
  have hzwd1 : w.heap.size + 1 + 1 + 1 ≤ wd1.heap.size := by have := hb.size; omega
  clear hb
  rcases hl with rfl | ⟨hr00, hr10, hs⟩
  · go_wp2
    go_ret
    exact ⟨rfl, P_wd1.out.bel⟩
  have HS0 : Hid (nH0 ≤ 1048576 ∧ nR0 ≤ 1048576) := hs
  clear hs
  have zps := P_wd1.out.S.1
  have cps0 : wd1.cell? ⟨w.heap.size, 0, none⟩ = some (.slice aoH0 nH0 cH0) := P_wd1.out.S.2 0 (by simp)
  have cps1 : wd1.cell? ⟨w.heap.size, 1, none⟩ = some (.slice aoR0 nR0 cR0) := P_wd1.out.S.2 1 (by simp)
  have zpa := P_wd1.out.A.1
  have cpa0 : wd1.cell? ⟨w.heap.size + 1, 0, none⟩ = some (.slice aoA1 nA1 cA1) := P_wd1.out.A.2 0 (by simp)
  have cpa1 : wd1.cell? ⟨w.heap.size + 1, 1, none⟩ = some (.int .i64 zA1) := P_wd1.out.A.2 1 (by simp)
  have cpa2 : wd1.cell? ⟨w.heap.size + 1, 2, none⟩ = some (.int .i64 cF1) := P_wd1.out.A.2 2 (by simp)
  have zpi := P_wd1.out.I.1
  have cpi0 : wd1.cell? ⟨w.heap.size + 1 + 1, 0, none⟩ = some (.int .i64 op) := P_wd1.out.I.2 0 (by simp)
  have cpi1 : wd1.cell? ⟨w.heap.size + 1 + 1, 1, none⟩ = some (.int .i64 d) := P_wd1.out.I.2 1 (by simp)
  have cpi2 : wd1.cell? ⟨w.heap.size + 1 + 1, 2, none⟩ = some (.int .i64 ra) := P_wd1.out.I.2 2 (by simp)
  have cpi3 : wd1.cell? ⟨w.heap.size + 1 + 1, 3, none⟩ = some (.int .i64 rb) := P_wd1.out.I.2 3 (by simp)
  have cpi4 : wd1.cell? ⟨w.heap.size + 1 + 1, 4, none⟩ = some (.int .i64 imm) := P_wd1.out.I.2 4 (by simp)
  have cpi5 : wd1.cell? ⟨w.heap.size + 1 + 1, 5, none⟩ = some (.int .i64 h) := P_wd1.out.I.2 5 (by simp)
  go_wp2_with fail
  refine (szAbs_any _ _ _ _ _ _ _ (by omega) (by omega) mA1).mono ?_
  rintro e wd2 ⟨r1, rfl, hl, hb⟩
  clear zps cps0 cps1 zpa cpa0 cpa1 cpa2 zpi cpi0 cpi1 cpi2 cpi3 cpi4 cpi5
  have P_wd2 : Hid (LwP w wd2 aoH0 nH0 cH0 aoR0 nR0 cR0 aoA1 nA1 cA1 zA1 cF1 op d ra rb imm h) := P_wd1.out.below hb
  clear P_wd1
  have hzwd2 : w.heap.size + 1 + 1 + 1 ≤ wd2.heap.size := by have := hb.size; omega
  clear hb
  rcases hl with rfl | ⟨hr01, hr11, hs⟩
  · go_wp2
    go_ret
    exact ⟨rfl, P_wd2.out.bel⟩
  have HS1 : Hid (nA1 ≤ 1048576) := hs
  clear hs
  have zps := P_wd2.out.S.1
  have cps0 : wd2.cell? ⟨w.heap.size, 0, none⟩ = some (.slice aoH0 nH0 cH0) := P_wd2.out.S.2 0 (by simp)
  have cps1 : wd2.cell? ⟨w.heap.size, 1, none⟩ = some (.slice aoR0 nR0 cR0) := P_wd2.out.S.2 1 (by simp)
  have zpa := P_wd2.out.A.1
  have cpa0 : wd2.cell? ⟨w.heap.size + 1, 0, none⟩ = some (.slice aoA1 nA1 cA1) := P_wd2.out.A.2 0 (by simp)
  have cpa1 : wd2.cell? ⟨w.heap.size + 1, 1, none⟩ = some (.int .i64 zA1) := P_wd2.out.A.2 1 (by simp)
  have cpa2 : wd2.cell? ⟨w.heap.size + 1, 2, none⟩ = some (.int .i64 cF1) := P_wd2.out.A.2 2 (by simp)
  have zpi := P_wd2.out.I.1
  have cpi0 : wd2.cell? ⟨w.heap.size + 1 + 1, 0, none⟩ = some (.int .i64 op) := P_wd2.out.I.2 0 (by simp)
  have cpi1 : wd2.cell? ⟨w.heap.size + 1 + 1, 1, none⟩ = some (.int .i64 d) := P_wd2.out.I.2 1 (by simp)
  have cpi2 : wd2.cell? ⟨w.heap.size + 1 + 1, 2, none⟩ = some (.int .i64 ra) := P_wd2.out.I.2 2 (by simp)
  have cpi3 : wd2.cell? ⟨w.heap.size + 1 + 1, 3, none⟩ = some (.int .i64 rb) := P_wd2.out.I.2 3 (by simp)
  have cpi4 : wd2.cell? ⟨w.heap.size + 1 + 1, 4, none⟩ = some (.int .i64 imm) := P_wd2.out.I.2 4 (by simp)
  have cpi5 : wd2.cell? ⟨w.heap.size + 1 + 1, 5, none⟩ = some (.int .i64 h) := P_wd2.out.I.2 5 (by simp)
  go_upto_region 8 with fail
  clear zps cps0 cps1 zpa cpa0 cpa1 cpa2 zpi cpi0 cpi1 cpi2 cpi3 cpi4 cpi5
  have rps0 : ∀ w', Below wd2.heap.size wd2 w' → w'.cell? ⟨w.heap.size, 0, none⟩ = some (.slice aoH0 nH0 cH0) := fun w' h => (P_wd2.out.S.below h).2 0 (by simp)
  have rps1 : ∀ w', Below wd2.heap.size wd2 w' → w'.cell? ⟨w.heap.size, 1, none⟩ = some (.slice aoR0 nR0 cR0) := fun w' h => (P_wd2.out.S.below h).2 1 (by simp)
  have rpa0 : ∀ w', Below wd2.heap.size wd2 w' → w'.cell? ⟨w.heap.size + 1, 0, none⟩ = some (.slice aoA1 nA1 cA1) := fun w' h => (P_wd2.out.A.below h).2 0 (by simp)
  have rpa1 : ∀ w', Below wd2.heap.size wd2 w' → w'.cell? ⟨w.heap.size + 1, 1, none⟩ = some (.int .i64 zA1) := fun w' h => (P_wd2.out.A.below h).2 1 (by simp)
  have rpa2 : ∀ w', Below wd2.heap.size wd2 w' → w'.cell? ⟨w.heap.size + 1, 2, none⟩ = some (.int .i64 cF1) := fun w' h => (P_wd2.out.A.below h).2 2 (by simp)
  have rpi0 : ∀ w', Below wd2.heap.size wd2 w' → w'.cell? ⟨w.heap.size + 1 + 1, 0, none⟩ = some (.int .i64 op) := fun w' h => (P_wd2.out.I.below h).2 0 (by simp)
  have rpi1 : ∀ w', Below wd2.heap.size wd2 w' → w'.cell? ⟨w.heap.size + 1 + 1, 1, none⟩ = some (.int .i64 d) := fun w' h => (P_wd2.out.I.below h).2 1 (by simp)
  have rpi2 : ∀ w', Below wd2.heap.size wd2 w' → w'.cell? ⟨w.heap.size + 1 + 1, 2, none⟩ = some (.int .i64 ra) := fun w' h => (P_wd2.out.I.below h).2 2 (by simp)
  have rpi3 : ∀ w', Below wd2.heap.size wd2 w' → w'.cell? ⟨w.heap.size + 1 + 1, 3, none⟩ = some (.int .i64 rb) := fun w' h => (P_wd2.out.I.below h).2 3 (by simp)
  have rpi4 : ∀ w', Below wd2.heap.size wd2 w' → w'.cell? ⟨w.heap.size + 1 + 1, 4, none⟩ = some (.int .i64 imm) := fun w' h => (P_wd2.out.I.below h).2 4 (by simp)
  have rpi5 : ∀ w', Below wd2.heap.size wd2 w' → w'.cell? ⟨w.heap.size + 1 + 1, 5, none⟩ = some (.int .i64 h) := fun w' h => (P_wd2.out.I.below h).2 5 (by simp)
  go_cut [8] (fun s wx => ∃ (B : Nat) (ao : Option Addr) (cap : Nat), s = .pointer (some ⟨B, 0, none⟩) ∧ Below wd2.heap.size wd2 wx ∧ wd2.heap.size ≤ B ∧ Cl wx B [.int .i64 err, .slice ao nn cap, .int .i64 zz, .int .i64 cc] ∧ WV wx ao nn W ∧ Lie ao nn wd2.heap.size wx.heap.size ∧ (∀ b, ao = some ⟨b, 0, none⟩ → nn ≠ 0 → b ≠ B))
  case first =>
    refine wp_region_held_drew (S := fun w' => Below wd2.heap.size wd2 w') (by kernel_rfl) (Below.refl _ _).drew (fun hd0 => ?_)
    generalize wd2.drew = v0 at hd0 ⊢
    refine wpAnyH_tk 0 ?k1v rfl ?k1y ?k1r
    case k1y => (intro w hSw; (try dsimp only at hSw); go_simp; try with_reducible rfl)
    try simp only [Act.put, List.getElem_toArray, List.getElem_cons_zero, List.setIfInBounds_toArray, List.set_cons_zero, List.set_cons_succ]
    refine wpAnyH_tk 2 ?k2v rfl ?k2y ?k2r
    case k2y => (intro w hSw; (try dsimp only at hSw); go_simp; try with_reducible rfl)
    try simp only [Act.put, List.getElem_toArray, List.getElem_cons_zero, List.getElem_cons_succ, List.setIfInBounds_toArray, List.set_cons_zero, List.set_cons_succ]
    refine wpAnyH_tk 4 ?k3v rfl ?k3y ?k3r
    case k3y => (intro w hSw; (try dsimp only at hSw); go_simp; try with_reducible rfl)
    try simp only [Act.put, List.getElem_toArray, List.getElem_cons_zero, List.getElem_cons_succ, List.setIfInBounds_toArray, List.set_cons_zero, List.set_cons_succ]
    refine wpAnyH_ready (rs := [1, 7]) (by kernel_rfl) (by simp) ?_
    refine AllReadyH.cons rfl (fun KK hK => ?_) (AllReadyH.cons rfl (fun KK hK => ?_) AllReadyH.nil)
    · go_simp
      refine (toSig_in _ _ _ S0 _ _ _ V0 _ HS0.out.1 HS0.out.2 (hin0.out.below (P_wd2.out.bel.trans (hd0.mono P_wd2.out.bel.size)) (Nat.le_refl _))).mono ?_
      rintro e v1 ⟨bH, bR, _, _, rfl, hb, hcp⟩
      have Bv1 : Below wd2.heap.size wd2 v1 := hd0.trans (hb.mono hd0.size)
      have C0v1 := hcp
      clear hcp
      clear hb
      go_wp2_with fail
      refine hK.out _ _ Bv1 (fun hHeld => ?_)
      clear hK KK
      try simp only [Act.put, List.getElem_toArray, List.getElem_cons_zero, List.getElem_cons_succ, List.setIfInBounds_toArray, List.set_cons_zero, List.set_cons_succ]
      refine wpAnyH_ready (rs := [3, 7]) (by kernel_rfl) (by simp) ?_
      refine AllReadyH.cons rfl (fun KK hK => ?_) (AllReadyH.cons rfl (fun KK hK => ?_) AllReadyH.nil)
      · go_simp
        refine (toAbs_in _ _ _ U1 _ _ _ HS1.out (hin1.out.below (P_wd2.out.bel.trans (Bv1.mono P_wd2.out.bel.size)) (Nat.le_refl _))).mono ?_
        rintro e v2 ⟨bA, _, rfl, hb, hcp⟩
        have Bv2 : Below wd2.heap.size wd2 v2 := Bv1.trans (hb.mono Bv1.size)
        have C0v2 := C0v1.below hb
        have C1v2 := hcp
        clear hcp
        clear hb
        go_wp2_with fail
        refine hK.out _ _ Bv2 (fun hHeld => ?_)
        clear hK KK
        try simp only [Act.put, List.getElem_toArray, List.getElem_cons_zero, List.getElem_cons_succ, List.setIfInBounds_toArray, List.set_cons_zero, List.set_cons_succ]
        refine wpAnyH_ready (rs := [5, 7]) (by kernel_rfl) (by simp) ?_
        refine AllReadyH.cons rfl (fun KK hK => ?_) (AllReadyH.cons rfl (fun KK hK => ?_) AllReadyH.nil)
        · go_simp
          refine (toIns_any op d ra rb imm h _).mono ?_
          rintro e v3 ⟨rfl, hb⟩
          have Bv3 : Below wd2.heap.size wd2 v3 := Bv2.trans (hb.mono Bv2.size)
          have C0v3 := C0v2.below hb
          have C1v3 := C1v2.below hb C1v2.lt
          clear hb
          go_wp2_with fail
          refine hK.out _ _ Bv3 (fun hHeld => ?_)
          clear hK KK
          try simp only [Act.put, List.getElem_toArray, List.getElem_cons_zero, List.getElem_cons_succ, List.setIfInBounds_toArray, List.set_cons_zero, List.set_cons_succ]
          refine wpAnyH_ready (rs := [6, 7]) (by kernel_rfl) (by simp) ?_
          refine AllReadyH.cons rfl (fun KK hK => ?_) (AllReadyH.cons rfl (fun KK hK => ?_) AllReadyH.nil)
          · go_simp
            refine (specTransfer_any _ _ _ S0 _ _ _ V0 _ _ _ U1 _ _ _ _ _ _ _ _ _ HS0.out.1 HS0.out.2 HS1.out C0v3 C1v3).mono ?_
            intro e v4 hx
            obtain ⟨ao, cap, rfl, hwv, hli, hb⟩ := tr_view HP.out hx
            clear hx
            have Bv4 : Below wd2.heap.size wd2 v4 := Bv3.trans (hb.mono Bv3.size)
            have hlv4 : Lie ao nn wd2.heap.size v4.heap.size := fun b e n0 => by have := hli b e n0; have := Bv3.size; omega
            clear hli
            clear hb
            go_wp2_with fail
            refine hK.out _ _ Bv4 (fun hHeld => ?_)
            clear hK KK
            try simp only [Act.put, List.getElem_toArray, List.getElem_cons_zero, List.getElem_cons_succ, List.setIfInBounds_toArray, List.set_cons_zero, List.set_cons_succ]
            refine wpAnyH_ready (rs := [7]) (by kernel_rfl) (by simp) ?_
            refine AllReadyH.cons rfl (fun KK hK => ?_) AllReadyH.nil
            go_simp
            obtain ⟨v5, hx, hb, Xv5, Fv5⟩ : ∃ y, v4.alloc (.cells #[.int .i64 0, .slice none 0 0, .int .i64 0, .int .i64 0] 77) = y ∧ Below v4.heap.size v4 y ∧ Cl y v4.heap.size [.int .i64 0, .slice none 0 0, .int .i64 0, .int .i64 0] ∧ (∀ i, y.frozen? ⟨v4.heap.size, i, none⟩ = false) := ⟨_, rfl, (Below.refl _ _).alloc (Nat.le_refl _) _, Cl.new, fun i => by simp [go_sem]⟩
            rw [hx]
            clear hx
            have Bv5 : Below wd2.heap.size wd2 v5 := Bv4.trans (hb.mono Bv4.size)
            have wvv5 := hwv.below hb
            have hlv5 : Lie ao nn wd2.heap.size v5.heap.size := fun b e n0 => by have := hlv4 b e n0; have := hb.size; omega
            have lnv5 : Lie ao nn wd2.heap.size v4.heap.size := hlv4
            have Nv5 : wd2.heap.size ≤ v4.heap.size := Bv4.size
            clear hb
            generalize v4.heap.size = nb at *
            refine hK.out _ _ Bv5 (fun hHeld => ?_)
            clear hK KK
            try simp only [Act.put, List.getElem_toArray, List.getElem_cons_zero, List.getElem_cons_succ, List.setIfInBounds_toArray, List.set_cons_zero, List.set_cons_succ]
            refine wpAnyH_ready (rs := [8]) (by kernel_rfl) (by simp) ?_
            refine AllReadyH.cons rfl (fun KK hK => ?_) AllReadyH.nil
            obtain ⟨c0, c1, c2, c3⟩ := clg4 Xv5
            have cf := Fv5
            have cz := Xv5.1
            go_simp
            have hne : ∀ b, ao = some ⟨b, 0, none⟩ → nn ≠ 0 → b ≠ nb := fun b e n0 => by have := lnv5 b e n0; omega
            obtain ⟨y, hy, hby, hcy, hay⟩ : ∃ y, (((v5.setCell ⟨nb, 0, none⟩ (.int .i64 err)).setCell ⟨nb, 1, none⟩ (.slice ao nn cap)).setCell ⟨nb, 2, none⟩ (.int .i64 zz)).setCell ⟨nb, 3, none⟩ (.int .i64 cc) = y ∧ Below wd2.heap.size wd2 y ∧ Cl y nb [.int .i64 err, .slice ao nn cap, .int .i64 zz, .int .i64 cc] ∧ WV y ao nn W := ⟨_, rfl, (((Bv5.setCell (p := ⟨nb, 0, none⟩) Nv5 _).setCell (p := ⟨nb, 1, none⟩) Nv5 _).setCell (p := ⟨nb, 2, none⟩) Nv5 _).setCell (p := ⟨nb, 3, none⟩) Nv5 _, cl4_put Xv5, wv_put wvv5 hne⟩
            have hsz : y.heap.size = v5.heap.size := by rw [← hy]; simp
            rw [hy]
            have hly : Lie ao nn wd2.heap.size y.heap.size := by rw [hsz]; exact hlv5
            clear hy hsz c0 c1 c2 c3 cf cz
            refine hK.out _ _ hby (fun hHeld => ?_)
            clear hK KK
            refine wpAnyH_done (by kernel_rfl) ?_ _
            clear rps0 rps1 rpa0 rpa1 rpa2 rpi0 rpi1 rpi2 rpi3 rpi4 rpi5
            go_wp2_with fail
            go_meet
            exact ⟨nb, ao, cap, rfl, hby, Nv5, hcy, hay, hly, hne⟩
          · go_simp
            obtain ⟨v6, hx, hb, Xv6, Fv6⟩ : ∃ y, v3.alloc (.cells #[.int .i64 0, .slice none 0 0, .int .i64 0, .int .i64 0] 77) = y ∧ Below v3.heap.size v3 y ∧ Cl y v3.heap.size [.int .i64 0, .slice none 0 0, .int .i64 0, .int .i64 0] ∧ (∀ i, y.frozen? ⟨v3.heap.size, i, none⟩ = false) := ⟨_, rfl, (Below.refl _ _).alloc (Nat.le_refl _) _, Cl.new, fun i => by simp [go_sem]⟩
            rw [hx]
            clear hx
            have Bv6 : Below wd2.heap.size wd2 v6 := Bv3.trans (hb.mono Bv3.size)
            have C0v6 := C0v3.below hb
            have C1v6 := C1v3.below hb C1v3.lt
            have Nv6 : wd2.heap.size ≤ v3.heap.size := Bv3.size
            clear hb
            generalize v3.heap.size = nb at *
            refine hK.out _ _ Bv6 (fun hHeld => ?_)
            clear hK KK
            try simp only [Act.put, List.getElem_toArray, List.getElem_cons_zero, List.getElem_cons_succ, List.setIfInBounds_toArray, List.set_cons_zero, List.set_cons_succ]
            refine wpAnyH_ready (rs := [6]) (by kernel_rfl) (by simp) ?_
            refine AllReadyH.cons rfl (fun KK hK => ?_) AllReadyH.nil
            have hnbX := Xv6.1
            go_simp
            refine (specTransfer_any _ _ _ S0 _ _ _ V0 _ _ _ U1 _ _ _ _ _ _ _ _ _ HS0.out.1 HS0.out.2 HS1.out C0v6 C1v6).mono ?_
            intro e v7 hx
            obtain ⟨ao, cap, rfl, hwv, hli, hb⟩ := tr_view HP.out hx
            have hliX := hli
            clear hx
            have Bv7 : Below wd2.heap.size wd2 v7 := Bv6.trans (hb.mono Bv6.size)
            have hlv7 : Lie ao nn wd2.heap.size v7.heap.size := fun b e n0 => by have := hli b e n0; have := Bv6.size; omega
            clear hli
            have Xv7 := Xv6.below hb
            have Fv7 : ∀ i, v7.frozen? ⟨nb, i, none⟩ = false := fun i => (hb.frozen (p := ⟨nb, i, none⟩) Xv6.1).trans (Fv6 i)
            clear hb
            go_wp2_with fail
            refine hK.out _ _ Bv7 (fun hHeld => ?_)
            clear hK KK
            try simp only [Act.put, List.getElem_toArray, List.getElem_cons_zero, List.getElem_cons_succ, List.setIfInBounds_toArray, List.set_cons_zero, List.set_cons_succ]
            refine wpAnyH_ready (rs := [8]) (by kernel_rfl) (by simp) ?_
            refine AllReadyH.cons rfl (fun KK hK => ?_) AllReadyH.nil
            obtain ⟨c0, c1, c2, c3⟩ := clg4 Xv7
            have cf := Fv7
            have cz := Xv7.1
            go_simp
            have hne : ∀ b, ao = some ⟨b, 0, none⟩ → nn ≠ 0 → b ≠ nb := fun b e n0 => by have := hliX b e n0; have := hnbX; omega
            obtain ⟨y, hy, hby, hcy, hay⟩ : ∃ y, (((v7.setCell ⟨nb, 0, none⟩ (.int .i64 err)).setCell ⟨nb, 1, none⟩ (.slice ao nn cap)).setCell ⟨nb, 2, none⟩ (.int .i64 zz)).setCell ⟨nb, 3, none⟩ (.int .i64 cc) = y ∧ Below wd2.heap.size wd2 y ∧ Cl y nb [.int .i64 err, .slice ao nn cap, .int .i64 zz, .int .i64 cc] ∧ WV y ao nn W := ⟨_, rfl, (((Bv7.setCell (p := ⟨nb, 0, none⟩) Nv6 _).setCell (p := ⟨nb, 1, none⟩) Nv6 _).setCell (p := ⟨nb, 2, none⟩) Nv6 _).setCell (p := ⟨nb, 3, none⟩) Nv6 _, cl4_put Xv7, wv_put hwv hne⟩
            have hsz : y.heap.size = v7.heap.size := by rw [← hy]; simp
            rw [hy]
            have hly : Lie ao nn wd2.heap.size y.heap.size := by rw [hsz]; exact hlv7
            clear hy hsz c0 c1 c2 c3 cf cz
            refine hK.out _ _ hby (fun hHeld => ?_)
            clear hK KK
            refine wpAnyH_done (by kernel_rfl) ?_ _
            clear rps0 rps1 rpa0 rpa1 rpa2 rpi0 rpi1 rpi2 rpi3 rpi4 rpi5
            go_wp2_with fail
            go_meet
            exact ⟨nb, ao, cap, rfl, hby, Nv6, hcy, hay, hly, hne⟩
        · go_simp
          obtain ⟨v8, hx, hb, Xv8, Fv8⟩ : ∃ y, v2.alloc (.cells #[.int .i64 0, .slice none 0 0, .int .i64 0, .int .i64 0] 77) = y ∧ Below v2.heap.size v2 y ∧ Cl y v2.heap.size [.int .i64 0, .slice none 0 0, .int .i64 0, .int .i64 0] ∧ (∀ i, y.frozen? ⟨v2.heap.size, i, none⟩ = false) := ⟨_, rfl, (Below.refl _ _).alloc (Nat.le_refl _) _, Cl.new, fun i => by simp [go_sem]⟩
          rw [hx]
          clear hx
          have Bv8 : Below wd2.heap.size wd2 v8 := Bv2.trans (hb.mono Bv2.size)
          have C0v8 := C0v2.below hb
          have C1v8 := C1v2.below hb C1v2.lt
          have Nv8 : wd2.heap.size ≤ v2.heap.size := Bv2.size
          clear hb
          generalize v2.heap.size = nb at *
          refine hK.out _ _ Bv8 (fun hHeld => ?_)
          clear hK KK
          try simp only [Act.put, List.getElem_toArray, List.getElem_cons_zero, List.getElem_cons_succ, List.setIfInBounds_toArray, List.set_cons_zero, List.set_cons_succ]
          refine wpAnyH_ready (rs := [5]) (by kernel_rfl) (by simp) ?_
          refine AllReadyH.cons rfl (fun KK hK => ?_) AllReadyH.nil
          go_simp
          refine (toIns_any op d ra rb imm h _).mono ?_
          rintro e v9 ⟨rfl, hb⟩
          have Bv9 : Below wd2.heap.size wd2 v9 := Bv8.trans (hb.mono Bv8.size)
          have C0v9 := C0v8.below hb
          have C1v9 := C1v8.below hb C1v8.lt
          have Xv9 := Xv8.below hb
          have Fv9 : ∀ i, v9.frozen? ⟨nb, i, none⟩ = false := fun i => (hb.frozen (p := ⟨nb, i, none⟩) Xv8.1).trans (Fv8 i)
          clear hb
          go_wp2_with fail
          refine hK.out _ _ Bv9 (fun hHeld => ?_)
          clear hK KK
          try simp only [Act.put, List.getElem_toArray, List.getElem_cons_zero, List.getElem_cons_succ, List.setIfInBounds_toArray, List.set_cons_zero, List.set_cons_succ]
          refine wpAnyH_ready (rs := [6]) (by kernel_rfl) (by simp) ?_
          refine AllReadyH.cons rfl (fun KK hK => ?_) AllReadyH.nil
          have hnbX := Xv9.1
          go_simp
          refine (specTransfer_any _ _ _ S0 _ _ _ V0 _ _ _ U1 _ _ _ _ _ _ _ _ _ HS0.out.1 HS0.out.2 HS1.out C0v9 C1v9).mono ?_
          intro e v10 hx
          obtain ⟨ao, cap, rfl, hwv, hli, hb⟩ := tr_view HP.out hx
          have hliX := hli
          clear hx
          have Bv10 : Below wd2.heap.size wd2 v10 := Bv9.trans (hb.mono Bv9.size)
          have hlv10 : Lie ao nn wd2.heap.size v10.heap.size := fun b e n0 => by have := hli b e n0; have := Bv9.size; omega
          clear hli
          have Xv10 := Xv9.below hb
          have Fv10 : ∀ i, v10.frozen? ⟨nb, i, none⟩ = false := fun i => (hb.frozen (p := ⟨nb, i, none⟩) Xv9.1).trans (Fv9 i)
          clear hb
          go_wp2_with fail
          refine hK.out _ _ Bv10 (fun hHeld => ?_)
          clear hK KK
          try simp only [Act.put, List.getElem_toArray, List.getElem_cons_zero, List.getElem_cons_succ, List.setIfInBounds_toArray, List.set_cons_zero, List.set_cons_succ]
          refine wpAnyH_ready (rs := [8]) (by kernel_rfl) (by simp) ?_
          refine AllReadyH.cons rfl (fun KK hK => ?_) AllReadyH.nil
          obtain ⟨c0, c1, c2, c3⟩ := clg4 Xv10
          have cf := Fv10
          have cz := Xv10.1
          go_simp
          have hne : ∀ b, ao = some ⟨b, 0, none⟩ → nn ≠ 0 → b ≠ nb := fun b e n0 => by have := hliX b e n0; have := hnbX; omega
          obtain ⟨y, hy, hby, hcy, hay⟩ : ∃ y, (((v10.setCell ⟨nb, 0, none⟩ (.int .i64 err)).setCell ⟨nb, 1, none⟩ (.slice ao nn cap)).setCell ⟨nb, 2, none⟩ (.int .i64 zz)).setCell ⟨nb, 3, none⟩ (.int .i64 cc) = y ∧ Below wd2.heap.size wd2 y ∧ Cl y nb [.int .i64 err, .slice ao nn cap, .int .i64 zz, .int .i64 cc] ∧ WV y ao nn W := ⟨_, rfl, (((Bv10.setCell (p := ⟨nb, 0, none⟩) Nv8 _).setCell (p := ⟨nb, 1, none⟩) Nv8 _).setCell (p := ⟨nb, 2, none⟩) Nv8 _).setCell (p := ⟨nb, 3, none⟩) Nv8 _, cl4_put Xv10, wv_put hwv hne⟩
          have hsz : y.heap.size = v10.heap.size := by rw [← hy]; simp
          rw [hy]
          have hly : Lie ao nn wd2.heap.size y.heap.size := by rw [hsz]; exact hlv10
          clear hy hsz c0 c1 c2 c3 cf cz
          refine hK.out _ _ hby (fun hHeld => ?_)
          clear hK KK
          refine wpAnyH_done (by kernel_rfl) ?_ _
          clear rps0 rps1 rpa0 rpa1 rpa2 rpi0 rpi1 rpi2 rpi3 rpi4 rpi5
          go_wp2_with fail
          go_meet
          exact ⟨nb, ao, cap, rfl, hby, Nv8, hcy, hay, hly, hne⟩
      · go_simp
        obtain ⟨v11, hx, hb, Xv11, Fv11⟩ : ∃ y, v1.alloc (.cells #[.int .i64 0, .slice none 0 0, .int .i64 0, .int .i64 0] 77) = y ∧ Below v1.heap.size v1 y ∧ Cl y v1.heap.size [.int .i64 0, .slice none 0 0, .int .i64 0, .int .i64 0] ∧ (∀ i, y.frozen? ⟨v1.heap.size, i, none⟩ = false) := ⟨_, rfl, (Below.refl _ _).alloc (Nat.le_refl _) _, Cl.new, fun i => by simp [go_sem]⟩
        rw [hx]
        clear hx
        have Bv11 : Below wd2.heap.size wd2 v11 := Bv1.trans (hb.mono Bv1.size)
        have C0v11 := C0v1.below hb
        have Nv11 : wd2.heap.size ≤ v1.heap.size := Bv1.size
        clear hb
        generalize v1.heap.size = nb at *
        refine hK.out _ _ Bv11 (fun hHeld => ?_)
        clear hK KK
        try simp only [Act.put, List.getElem_toArray, List.getElem_cons_zero, List.getElem_cons_succ, List.setIfInBounds_toArray, List.set_cons_zero, List.set_cons_succ]
        refine wpAnyH_ready (rs := [3]) (by kernel_rfl) (by simp) ?_
        refine AllReadyH.cons rfl (fun KK hK => ?_) AllReadyH.nil
        go_simp
        refine (toAbs_in _ _ _ U1 _ _ _ HS1.out (hin1.out.below (P_wd2.out.bel.trans (Bv11.mono P_wd2.out.bel.size)) (Nat.le_refl _))).mono ?_
        rintro e v12 ⟨bA, _, rfl, hb, hcp⟩
        have Bv12 : Below wd2.heap.size wd2 v12 := Bv11.trans (hb.mono Bv11.size)
        have C0v12 := C0v11.below hb
        have C1v12 := hcp
        clear hcp
        have Xv12 := Xv11.below hb
        have Fv12 : ∀ i, v12.frozen? ⟨nb, i, none⟩ = false := fun i => (hb.frozen (p := ⟨nb, i, none⟩) Xv11.1).trans (Fv11 i)
        clear hb
        go_wp2_with fail
        refine hK.out _ _ Bv12 (fun hHeld => ?_)
        clear hK KK
        try simp only [Act.put, List.getElem_toArray, List.getElem_cons_zero, List.getElem_cons_succ, List.setIfInBounds_toArray, List.set_cons_zero, List.set_cons_succ]
        refine wpAnyH_ready (rs := [5]) (by kernel_rfl) (by simp) ?_
        refine AllReadyH.cons rfl (fun KK hK => ?_) AllReadyH.nil
        go_simp
        refine (toIns_any op d ra rb imm h _).mono ?_
        rintro e v13 ⟨rfl, hb⟩
        have Bv13 : Below wd2.heap.size wd2 v13 := Bv12.trans (hb.mono Bv12.size)
        have C0v13 := C0v12.below hb
        have C1v13 := C1v12.below hb C1v12.lt
        have Xv13 := Xv12.below hb
        have Fv13 : ∀ i, v13.frozen? ⟨nb, i, none⟩ = false := fun i => (hb.frozen (p := ⟨nb, i, none⟩) Xv12.1).trans (Fv12 i)
        clear hb
        go_wp2_with fail
        refine hK.out _ _ Bv13 (fun hHeld => ?_)
        clear hK KK
        try simp only [Act.put, List.getElem_toArray, List.getElem_cons_zero, List.getElem_cons_succ, List.setIfInBounds_toArray, List.set_cons_zero, List.set_cons_succ]
        refine wpAnyH_ready (rs := [6]) (by kernel_rfl) (by simp) ?_
        refine AllReadyH.cons rfl (fun KK hK => ?_) AllReadyH.nil
        have hnbX := Xv13.1
        go_simp
        refine (specTransfer_any _ _ _ S0 _ _ _ V0 _ _ _ U1 _ _ _ _ _ _ _ _ _ HS0.out.1 HS0.out.2 HS1.out C0v13 C1v13).mono ?_
        intro e v14 hx
        obtain ⟨ao, cap, rfl, hwv, hli, hb⟩ := tr_view HP.out hx
        have hliX := hli
        clear hx
        have Bv14 : Below wd2.heap.size wd2 v14 := Bv13.trans (hb.mono Bv13.size)
        have hlv14 : Lie ao nn wd2.heap.size v14.heap.size := fun b e n0 => by have := hli b e n0; have := Bv13.size; omega
        clear hli
        have Xv14 := Xv13.below hb
        have Fv14 : ∀ i, v14.frozen? ⟨nb, i, none⟩ = false := fun i => (hb.frozen (p := ⟨nb, i, none⟩) Xv13.1).trans (Fv13 i)
        clear hb
        go_wp2_with fail
        refine hK.out _ _ Bv14 (fun hHeld => ?_)
        clear hK KK
        try simp only [Act.put, List.getElem_toArray, List.getElem_cons_zero, List.getElem_cons_succ, List.setIfInBounds_toArray, List.set_cons_zero, List.set_cons_succ]
        refine wpAnyH_ready (rs := [8]) (by kernel_rfl) (by simp) ?_
        refine AllReadyH.cons rfl (fun KK hK => ?_) AllReadyH.nil
        obtain ⟨c0, c1, c2, c3⟩ := clg4 Xv14
        have cf := Fv14
        have cz := Xv14.1
        go_simp
        have hne : ∀ b, ao = some ⟨b, 0, none⟩ → nn ≠ 0 → b ≠ nb := fun b e n0 => by have := hliX b e n0; have := hnbX; omega
        obtain ⟨y, hy, hby, hcy, hay⟩ : ∃ y, (((v14.setCell ⟨nb, 0, none⟩ (.int .i64 err)).setCell ⟨nb, 1, none⟩ (.slice ao nn cap)).setCell ⟨nb, 2, none⟩ (.int .i64 zz)).setCell ⟨nb, 3, none⟩ (.int .i64 cc) = y ∧ Below wd2.heap.size wd2 y ∧ Cl y nb [.int .i64 err, .slice ao nn cap, .int .i64 zz, .int .i64 cc] ∧ WV y ao nn W := ⟨_, rfl, (((Bv14.setCell (p := ⟨nb, 0, none⟩) Nv11 _).setCell (p := ⟨nb, 1, none⟩) Nv11 _).setCell (p := ⟨nb, 2, none⟩) Nv11 _).setCell (p := ⟨nb, 3, none⟩) Nv11 _, cl4_put Xv14, wv_put hwv hne⟩
        have hsz : y.heap.size = v14.heap.size := by rw [← hy]; simp
        rw [hy]
        have hly : Lie ao nn wd2.heap.size y.heap.size := by rw [hsz]; exact hlv14
        clear hy hsz c0 c1 c2 c3 cf cz
        refine hK.out _ _ hby (fun hHeld => ?_)
        clear hK KK
        refine wpAnyH_done (by kernel_rfl) ?_ _
        clear rps0 rps1 rpa0 rpa1 rpa2 rpi0 rpi1 rpi2 rpi3 rpi4 rpi5
        go_wp2_with fail
        go_meet
        exact ⟨nb, ao, cap, rfl, hby, Nv11, hcy, hay, hly, hne⟩
    · go_simp
      obtain ⟨v15, hx, hb, Xv15, Fv15⟩ : ∃ y, v0.alloc (.cells #[.int .i64 0, .slice none 0 0, .int .i64 0, .int .i64 0] 77) = y ∧ Below v0.heap.size v0 y ∧ Cl y v0.heap.size [.int .i64 0, .slice none 0 0, .int .i64 0, .int .i64 0] ∧ (∀ i, y.frozen? ⟨v0.heap.size, i, none⟩ = false) := ⟨_, rfl, (Below.refl _ _).alloc (Nat.le_refl _) _, Cl.new, fun i => by simp [go_sem]⟩
      rw [hx]
      clear hx
      have Bv15 : Below wd2.heap.size wd2 v15 := hd0.trans (hb.mono hd0.size)
      have Nv15 : wd2.heap.size ≤ v0.heap.size := hd0.size
      clear hb
      generalize v0.heap.size = nb at *
      refine hK.out _ _ Bv15 (fun hHeld => ?_)
      clear hK KK
      try simp only [Act.put, List.getElem_toArray, List.getElem_cons_zero, List.getElem_cons_succ, List.setIfInBounds_toArray, List.set_cons_zero, List.set_cons_succ]
      refine wpAnyH_ready (rs := [1]) (by kernel_rfl) (by simp) ?_
      refine AllReadyH.cons rfl (fun KK hK => ?_) AllReadyH.nil
      go_simp
      refine (toSig_in _ _ _ S0 _ _ _ V0 _ HS0.out.1 HS0.out.2 (hin0.out.below (P_wd2.out.bel.trans (Bv15.mono P_wd2.out.bel.size)) (Nat.le_refl _))).mono ?_
      rintro e v16 ⟨bH, bR, _, _, rfl, hb, hcp⟩
      have Bv16 : Below wd2.heap.size wd2 v16 := Bv15.trans (hb.mono Bv15.size)
      have C0v16 := hcp
      clear hcp
      have Xv16 := Xv15.below hb
      have Fv16 : ∀ i, v16.frozen? ⟨nb, i, none⟩ = false := fun i => (hb.frozen (p := ⟨nb, i, none⟩) Xv15.1).trans (Fv15 i)
      clear hb
      go_wp2_with fail
      refine hK.out _ _ Bv16 (fun hHeld => ?_)
      clear hK KK
      try simp only [Act.put, List.getElem_toArray, List.getElem_cons_zero, List.getElem_cons_succ, List.setIfInBounds_toArray, List.set_cons_zero, List.set_cons_succ]
      refine wpAnyH_ready (rs := [3]) (by kernel_rfl) (by simp) ?_
      refine AllReadyH.cons rfl (fun KK hK => ?_) AllReadyH.nil
      go_simp
      refine (toAbs_in _ _ _ U1 _ _ _ HS1.out (hin1.out.below (P_wd2.out.bel.trans (Bv16.mono P_wd2.out.bel.size)) (Nat.le_refl _))).mono ?_
      rintro e v17 ⟨bA, _, rfl, hb, hcp⟩
      have Bv17 : Below wd2.heap.size wd2 v17 := Bv16.trans (hb.mono Bv16.size)
      have C0v17 := C0v16.below hb
      have C1v17 := hcp
      clear hcp
      have Xv17 := Xv16.below hb
      have Fv17 : ∀ i, v17.frozen? ⟨nb, i, none⟩ = false := fun i => (hb.frozen (p := ⟨nb, i, none⟩) Xv16.1).trans (Fv16 i)
      clear hb
      go_wp2_with fail
      refine hK.out _ _ Bv17 (fun hHeld => ?_)
      clear hK KK
      try simp only [Act.put, List.getElem_toArray, List.getElem_cons_zero, List.getElem_cons_succ, List.setIfInBounds_toArray, List.set_cons_zero, List.set_cons_succ]
      refine wpAnyH_ready (rs := [5]) (by kernel_rfl) (by simp) ?_
      refine AllReadyH.cons rfl (fun KK hK => ?_) AllReadyH.nil
      go_simp
      refine (toIns_any op d ra rb imm h _).mono ?_
      rintro e v18 ⟨rfl, hb⟩
      have Bv18 : Below wd2.heap.size wd2 v18 := Bv17.trans (hb.mono Bv17.size)
      have C0v18 := C0v17.below hb
      have C1v18 := C1v17.below hb C1v17.lt
      have Xv18 := Xv17.below hb
      have Fv18 : ∀ i, v18.frozen? ⟨nb, i, none⟩ = false := fun i => (hb.frozen (p := ⟨nb, i, none⟩) Xv17.1).trans (Fv17 i)
      clear hb
      go_wp2_with fail
      refine hK.out _ _ Bv18 (fun hHeld => ?_)
      clear hK KK
      try simp only [Act.put, List.getElem_toArray, List.getElem_cons_zero, List.getElem_cons_succ, List.setIfInBounds_toArray, List.set_cons_zero, List.set_cons_succ]
      refine wpAnyH_ready (rs := [6]) (by kernel_rfl) (by simp) ?_
      refine AllReadyH.cons rfl (fun KK hK => ?_) AllReadyH.nil
      have hnbX := Xv18.1
      go_simp
      refine (specTransfer_any _ _ _ S0 _ _ _ V0 _ _ _ U1 _ _ _ _ _ _ _ _ _ HS0.out.1 HS0.out.2 HS1.out C0v18 C1v18).mono ?_
      intro e v19 hx
      obtain ⟨ao, cap, rfl, hwv, hli, hb⟩ := tr_view HP.out hx
      have hliX := hli
      clear hx
      have Bv19 : Below wd2.heap.size wd2 v19 := Bv18.trans (hb.mono Bv18.size)
      have hlv19 : Lie ao nn wd2.heap.size v19.heap.size := fun b e n0 => by have := hli b e n0; have := Bv18.size; omega
      clear hli
      have Xv19 := Xv18.below hb
      have Fv19 : ∀ i, v19.frozen? ⟨nb, i, none⟩ = false := fun i => (hb.frozen (p := ⟨nb, i, none⟩) Xv18.1).trans (Fv18 i)
      clear hb
      go_wp2_with fail
      refine hK.out _ _ Bv19 (fun hHeld => ?_)
      clear hK KK
      try simp only [Act.put, List.getElem_toArray, List.getElem_cons_zero, List.getElem_cons_succ, List.setIfInBounds_toArray, List.set_cons_zero, List.set_cons_succ]
      refine wpAnyH_ready (rs := [8]) (by kernel_rfl) (by simp) ?_
      refine AllReadyH.cons rfl (fun KK hK => ?_) AllReadyH.nil
      obtain ⟨c0, c1, c2, c3⟩ := clg4 Xv19
      have cf := Fv19
      have cz := Xv19.1
      go_simp
      have hne : ∀ b, ao = some ⟨b, 0, none⟩ → nn ≠ 0 → b ≠ nb := fun b e n0 => by have := hliX b e n0; have := hnbX; omega
      obtain ⟨y, hy, hby, hcy, hay⟩ : ∃ y, (((v19.setCell ⟨nb, 0, none⟩ (.int .i64 err)).setCell ⟨nb, 1, none⟩ (.slice ao nn cap)).setCell ⟨nb, 2, none⟩ (.int .i64 zz)).setCell ⟨nb, 3, none⟩ (.int .i64 cc) = y ∧ Below wd2.heap.size wd2 y ∧ Cl y nb [.int .i64 err, .slice ao nn cap, .int .i64 zz, .int .i64 cc] ∧ WV y ao nn W := ⟨_, rfl, (((Bv19.setCell (p := ⟨nb, 0, none⟩) Nv15 _).setCell (p := ⟨nb, 1, none⟩) Nv15 _).setCell (p := ⟨nb, 2, none⟩) Nv15 _).setCell (p := ⟨nb, 3, none⟩) Nv15 _, cl4_put Xv19, wv_put hwv hne⟩
      have hsz : y.heap.size = v19.heap.size := by rw [← hy]; simp
      rw [hy]
      have hly : Lie ao nn wd2.heap.size y.heap.size := by rw [hsz]; exact hlv19
      clear hy hsz c0 c1 c2 c3 cf cz
      refine hK.out _ _ hby (fun hHeld => ?_)
      clear hK KK
      refine wpAnyH_done (by kernel_rfl) ?_ _
      clear rps0 rps1 rpa0 rpa1 rpa2 rpi0 rpi1 rpi2 rpi3 rpi4 rpi5
      go_wp2_with fail
      go_meet
      exact ⟨nb, ao, cap, rfl, hby, Nv15, hcy, hay, hly, hne⟩
  case rest =>
    clear rps0 rps1 rpa0 rpa1 rpa2 rpi0 rpi1 rpi2 rpi3 rpi4 rpi5
    revert wc
    intro wd3 hcut
    obtain ⟨B8, ao8, cap8, rfl, hb, hB8, hc, hv, hl8, hne⟩ := hcut
    have P_wd3 : Hid (LwP w wd3 aoH0 nH0 cH0 aoR0 nR0 cR0 aoA1 nA1 cA1 zA1 cF1 op d ra rb imm h) := P_wd2.out.below hb
    clear P_wd2
    have X8_wd3 : Hid (Cl wd3 B8 [.int .i64 err, .slice ao8 nn cap8, .int .i64 zz, .int .i64 cc]) := hc
    have V8_wd3 : Hid (WV wd3 ao8 nn W) := hv
    have hswd3 : wd2.heap.size ≤ wd3.heap.size := hb.size
    have hx8 : B8 < wd3.heap.size := hc.1
    have HL8 : Hid (Lie ao8 nn wd2.heap.size wd3.heap.size) := hl8
    have NE8 : Hid (∀ b, ao8 = some ⟨b, 0, none⟩ → nn ≠ 0 → b ≠ B8) := hne
    clear hb hc hv hne hl8
    have zps := P_wd3.out.S.1
    have cps0 : wd3.cell? ⟨w.heap.size, 0, none⟩ = some (.slice aoH0 nH0 cH0) := P_wd3.out.S.2 0 (by simp)
    have cps1 : wd3.cell? ⟨w.heap.size, 1, none⟩ = some (.slice aoR0 nR0 cR0) := P_wd3.out.S.2 1 (by simp)
    have zpa := P_wd3.out.A.1
    have cpa0 : wd3.cell? ⟨w.heap.size + 1, 0, none⟩ = some (.slice aoA1 nA1 cA1) := P_wd3.out.A.2 0 (by simp)
    have cpa1 : wd3.cell? ⟨w.heap.size + 1, 1, none⟩ = some (.int .i64 zA1) := P_wd3.out.A.2 1 (by simp)
    have cpa2 : wd3.cell? ⟨w.heap.size + 1, 2, none⟩ = some (.int .i64 cF1) := P_wd3.out.A.2 2 (by simp)
    have zpi := P_wd3.out.I.1
    have cpi0 : wd3.cell? ⟨w.heap.size + 1 + 1, 0, none⟩ = some (.int .i64 op) := P_wd3.out.I.2 0 (by simp)
    have cpi1 : wd3.cell? ⟨w.heap.size + 1 + 1, 1, none⟩ = some (.int .i64 d) := P_wd3.out.I.2 1 (by simp)
    have cpi2 : wd3.cell? ⟨w.heap.size + 1 + 1, 2, none⟩ = some (.int .i64 ra) := P_wd3.out.I.2 2 (by simp)
    have cpi3 : wd3.cell? ⟨w.heap.size + 1 + 1, 3, none⟩ = some (.int .i64 rb) := P_wd3.out.I.2 3 (by simp)
    have cpi4 : wd3.cell? ⟨w.heap.size + 1 + 1, 4, none⟩ = some (.int .i64 imm) := P_wd3.out.I.2 4 (by simp)
    have cpi5 : wd3.cell? ⟨w.heap.size + 1 + 1, 5, none⟩ = some (.int .i64 h) := P_wd3.out.I.2 5 (by simp)
    have zx8 := X8_wd3.out.1
    have cx80 : wd3.cell? ⟨B8, 0, none⟩ = some (.int .i64 err) := X8_wd3.out.2 0 (by simp)
    have cx81 : wd3.cell? ⟨B8, 1, none⟩ = some (.slice ao8 nn cap8) := X8_wd3.out.2 1 (by simp)
    have cx82 : wd3.cell? ⟨B8, 2, none⟩ = some (.int .i64 zz) := X8_wd3.out.2 2 (by simp)
    have cx83 : wd3.cell? ⟨B8, 3, none⟩ = some (.int .i64 cc) := X8_wd3.out.2 3 (by simp)
    go_wp2_with fail
    refine (toSig_in _ _ _ S0 _ _ _ V0 _ HS0.out.1 HS0.out.2 (hin0.out.below (P_wd3.out.bel) (Nat.le_refl _))).mono ?_
    rintro e wd4 ⟨bH, bR, gH, gR, rfl, hb, hcp⟩
    clear zps cps0 cps1 zpa cpa0 cpa1 cpa2 zpi cpi0 cpi1 cpi2 cpi3 cpi4 cpi5 zx8 cx80 cx81 cx82 cx83
    have P_wd4 : Hid (LwP w wd4 aoH0 nH0 cH0 aoR0 nR0 cR0 aoA1 nA1 cA1 zA1 cF1 op d ra rb imm h) := P_wd3.out.below hb
    have X8_wd4 : Hid (Cl wd4 B8 [.int .i64 err, .slice ao8 nn cap8, .int .i64 zz, .int .i64 cc]) := X8_wd3.out.below hb
    have V8_wd4 : Hid (WV wd4 ao8 nn W) := V8_wd3.out.below hb
    clear P_wd3 X8_wd3 V8_wd3
    have hswd4 : wd3.heap.size ≤ wd4.heap.size := hb.size
    have C0_wd4 : Hid (SigCp wd4 bH nH0 S0 bR nR0 V0) := hcp
    have lbH : bH < wd4.heap.size := hcp.h.lt
    have lbR : bR < wd4.heap.size := hcp.r.lt
    clear hb hcp
    have zps := P_wd4.out.S.1
    have cps0 : wd4.cell? ⟨w.heap.size, 0, none⟩ = some (.slice aoH0 nH0 cH0) := P_wd4.out.S.2 0 (by simp)
    have cps1 : wd4.cell? ⟨w.heap.size, 1, none⟩ = some (.slice aoR0 nR0 cR0) := P_wd4.out.S.2 1 (by simp)
    have zpa := P_wd4.out.A.1
    have cpa0 : wd4.cell? ⟨w.heap.size + 1, 0, none⟩ = some (.slice aoA1 nA1 cA1) := P_wd4.out.A.2 0 (by simp)
    have cpa1 : wd4.cell? ⟨w.heap.size + 1, 1, none⟩ = some (.int .i64 zA1) := P_wd4.out.A.2 1 (by simp)
    have cpa2 : wd4.cell? ⟨w.heap.size + 1, 2, none⟩ = some (.int .i64 cF1) := P_wd4.out.A.2 2 (by simp)
    have zpi := P_wd4.out.I.1
    have cpi0 : wd4.cell? ⟨w.heap.size + 1 + 1, 0, none⟩ = some (.int .i64 op) := P_wd4.out.I.2 0 (by simp)
    have cpi1 : wd4.cell? ⟨w.heap.size + 1 + 1, 1, none⟩ = some (.int .i64 d) := P_wd4.out.I.2 1 (by simp)
    have cpi2 : wd4.cell? ⟨w.heap.size + 1 + 1, 2, none⟩ = some (.int .i64 ra) := P_wd4.out.I.2 2 (by simp)
    have cpi3 : wd4.cell? ⟨w.heap.size + 1 + 1, 3, none⟩ = some (.int .i64 rb) := P_wd4.out.I.2 3 (by simp)
    have cpi4 : wd4.cell? ⟨w.heap.size + 1 + 1, 4, none⟩ = some (.int .i64 imm) := P_wd4.out.I.2 4 (by simp)
    have cpi5 : wd4.cell? ⟨w.heap.size + 1 + 1, 5, none⟩ = some (.int .i64 h) := P_wd4.out.I.2 5 (by simp)
    go_upto_region 10 with fail
    clear zps cps0 cps1 zpa cpa0 cpa1 cpa2 zpi cpi0 cpi1 cpi2 cpi3 cpi4 cpi5
    obtain ⟨wd5, hx, hb, hc⟩ : ∃ y, wd4.alloc (.cells #[.slice (some ⟨bH, 0, none⟩) nH0 nH0, .slice (some ⟨bR, 0, none⟩) nR0 nR0] 48) = y ∧ Below wd4.heap.size wd4 y ∧ Cl y wd4.heap.size [.slice (some ⟨bH, 0, none⟩) nH0 nH0, .slice (some ⟨bR, 0, none⟩) nR0 nR0] := ⟨_, rfl, (Below.refl _ _).alloc (Nat.le_refl _) _, Cl.new⟩
    rw [hx]
    have P_wd5 : Hid (LwP w wd5 aoH0 nH0 cH0 aoR0 nR0 cR0 aoA1 nA1 cA1 zA1 cF1 op d ra rb imm h) := P_wd4.out.below hb
    have X8_wd5 : Hid (Cl wd5 B8 [.int .i64 err, .slice ao8 nn cap8, .int .i64 zz, .int .i64 cc]) := X8_wd4.out.below hb
    have V8_wd5 : Hid (WV wd5 ao8 nn W) := V8_wd4.out.below hb
    have C0_wd5 : Hid (SigCp wd5 bH nH0 S0 bR nR0 V0) := C0_wd4.out.below hb
    clear P_wd4 X8_wd4 V8_wd4 C0_wd4
    have hswd5 : wd4.heap.size ≤ wd5.heap.size := hb.size
    obtain ⟨B9, hB9⟩ : ∃ x, wd4.heap.size = x := ⟨_, rfl⟩
    rw [hB9] at hc ⊢
    have lB9 : B9 < wd5.heap.size := hc.1
    have gB9 : wd4.heap.size ≤ B9 := by omega
    have X9_wd5 : Hid (Cl wd5 B9 [.slice (some ⟨bH, 0, none⟩) nH0 nH0, .slice (some ⟨bR, 0, none⟩) nR0 nR0]) := hc
    clear hx hb hc hB9
    have zps := P_wd5.out.S.1
    have cps0 : wd5.cell? ⟨w.heap.size, 0, none⟩ = some (.slice aoH0 nH0 cH0) := P_wd5.out.S.2 0 (by simp)
    have cps1 : wd5.cell? ⟨w.heap.size, 1, none⟩ = some (.slice aoR0 nR0 cR0) := P_wd5.out.S.2 1 (by simp)
    have zpa := P_wd5.out.A.1
    have cpa0 : wd5.cell? ⟨w.heap.size + 1, 0, none⟩ = some (.slice aoA1 nA1 cA1) := P_wd5.out.A.2 0 (by simp)
    have cpa1 : wd5.cell? ⟨w.heap.size + 1, 1, none⟩ = some (.int .i64 zA1) := P_wd5.out.A.2 1 (by simp)
    have cpa2 : wd5.cell? ⟨w.heap.size + 1, 2, none⟩ = some (.int .i64 cF1) := P_wd5.out.A.2 2 (by simp)
    have zpi := P_wd5.out.I.1
    have cpi0 : wd5.cell? ⟨w.heap.size + 1 + 1, 0, none⟩ = some (.int .i64 op) := P_wd5.out.I.2 0 (by simp)
    have cpi1 : wd5.cell? ⟨w.heap.size + 1 + 1, 1, none⟩ = some (.int .i64 d) := P_wd5.out.I.2 1 (by simp)
    have cpi2 : wd5.cell? ⟨w.heap.size + 1 + 1, 2, none⟩ = some (.int .i64 ra) := P_wd5.out.I.2 2 (by simp)
    have cpi3 : wd5.cell? ⟨w.heap.size + 1 + 1, 3, none⟩ = some (.int .i64 rb) := P_wd5.out.I.2 3 (by simp)
    have cpi4 : wd5.cell? ⟨w.heap.size + 1 + 1, 4, none⟩ = some (.int .i64 imm) := P_wd5.out.I.2 4 (by simp)
    have cpi5 : wd5.cell? ⟨w.heap.size + 1 + 1, 5, none⟩ = some (.int .i64 h) := P_wd5.out.I.2 5 (by simp)
    go_wp2_with fail
    refine (toAbs_in _ _ _ U1 _ _ _ HS1.out (hin1.out.below (P_wd5.out.bel) (Nat.le_refl _))).mono ?_
    rintro e wd6 ⟨bA, gA, rfl, hb, hcp⟩
    clear zps cps0 cps1 zpa cpa0 cpa1 cpa2 zpi cpi0 cpi1 cpi2 cpi3 cpi4 cpi5
    have P_wd6 : Hid (LwP w wd6 aoH0 nH0 cH0 aoR0 nR0 cR0 aoA1 nA1 cA1 zA1 cF1 op d ra rb imm h) := P_wd5.out.below hb
    have X8_wd6 : Hid (Cl wd6 B8 [.int .i64 err, .slice ao8 nn cap8, .int .i64 zz, .int .i64 cc]) := X8_wd5.out.below hb
    have V8_wd6 : Hid (WV wd6 ao8 nn W) := V8_wd5.out.below hb
    have C0_wd6 : Hid (SigCp wd6 bH nH0 S0 bR nR0 V0) := C0_wd5.out.below hb
    have X9_wd6 : Hid (Cl wd6 B9 [.slice (some ⟨bH, 0, none⟩) nH0 nH0, .slice (some ⟨bR, 0, none⟩) nR0 nR0]) := X9_wd5.out.below hb
    clear P_wd5 X8_wd5 V8_wd5 C0_wd5 X9_wd5
    have hswd6 : wd5.heap.size ≤ wd6.heap.size := hb.size
    have C1_wd6 : Hid (Arr wd6 bA (nA1 * 6) (vF U1)) := hcp
    have lbA : bA < wd6.heap.size := hcp.lt
    clear hb hcp
    have zps := P_wd6.out.S.1
    have cps0 : wd6.cell? ⟨w.heap.size, 0, none⟩ = some (.slice aoH0 nH0 cH0) := P_wd6.out.S.2 0 (by simp)
    have cps1 : wd6.cell? ⟨w.heap.size, 1, none⟩ = some (.slice aoR0 nR0 cR0) := P_wd6.out.S.2 1 (by simp)
    have zpa := P_wd6.out.A.1
    have cpa0 : wd6.cell? ⟨w.heap.size + 1, 0, none⟩ = some (.slice aoA1 nA1 cA1) := P_wd6.out.A.2 0 (by simp)
    have cpa1 : wd6.cell? ⟨w.heap.size + 1, 1, none⟩ = some (.int .i64 zA1) := P_wd6.out.A.2 1 (by simp)
    have cpa2 : wd6.cell? ⟨w.heap.size + 1, 2, none⟩ = some (.int .i64 cF1) := P_wd6.out.A.2 2 (by simp)
    have zpi := P_wd6.out.I.1
    have cpi0 : wd6.cell? ⟨w.heap.size + 1 + 1, 0, none⟩ = some (.int .i64 op) := P_wd6.out.I.2 0 (by simp)
    have cpi1 : wd6.cell? ⟨w.heap.size + 1 + 1, 1, none⟩ = some (.int .i64 d) := P_wd6.out.I.2 1 (by simp)
    have cpi2 : wd6.cell? ⟨w.heap.size + 1 + 1, 2, none⟩ = some (.int .i64 ra) := P_wd6.out.I.2 2 (by simp)
    have cpi3 : wd6.cell? ⟨w.heap.size + 1 + 1, 3, none⟩ = some (.int .i64 rb) := P_wd6.out.I.2 3 (by simp)
    have cpi4 : wd6.cell? ⟨w.heap.size + 1 + 1, 4, none⟩ = some (.int .i64 imm) := P_wd6.out.I.2 4 (by simp)
    have cpi5 : wd6.cell? ⟨w.heap.size + 1 + 1, 5, none⟩ = some (.int .i64 h) := P_wd6.out.I.2 5 (by simp)
    go_upto_region 11 with fail
    clear zps cps0 cps1 zpa cpa0 cpa1 cpa2 zpi cpi0 cpi1 cpi2 cpi3 cpi4 cpi5
    obtain ⟨wd7, hx, hb, hc⟩ : ∃ y, wd6.alloc (.cells #[.slice (some ⟨bA, 0, none⟩) nA1 nA1, .int .i64 zA1, .int .i64 cF1] 66) = y ∧ Below wd6.heap.size wd6 y ∧ Cl y wd6.heap.size [.slice (some ⟨bA, 0, none⟩) nA1 nA1, .int .i64 zA1, .int .i64 cF1] := ⟨_, rfl, (Below.refl _ _).alloc (Nat.le_refl _) _, Cl.new⟩
    rw [hx]
    have P_wd7 : Hid (LwP w wd7 aoH0 nH0 cH0 aoR0 nR0 cR0 aoA1 nA1 cA1 zA1 cF1 op d ra rb imm h) := P_wd6.out.below hb
    have X8_wd7 : Hid (Cl wd7 B8 [.int .i64 err, .slice ao8 nn cap8, .int .i64 zz, .int .i64 cc]) := X8_wd6.out.below hb
    have V8_wd7 : Hid (WV wd7 ao8 nn W) := V8_wd6.out.below hb
    have C0_wd7 : Hid (SigCp wd7 bH nH0 S0 bR nR0 V0) := C0_wd6.out.below hb
    have X9_wd7 : Hid (Cl wd7 B9 [.slice (some ⟨bH, 0, none⟩) nH0 nH0, .slice (some ⟨bR, 0, none⟩) nR0 nR0]) := X9_wd6.out.below hb
    have C1_wd7 : Hid (Arr wd7 bA (nA1 * 6) (vF U1)) := C1_wd6.out.below hb C1_wd6.out.lt
    clear P_wd6 X8_wd6 V8_wd6 C0_wd6 X9_wd6 C1_wd6
    have hswd7 : wd6.heap.size ≤ wd7.heap.size := hb.size
    obtain ⟨B10, hB10⟩ : ∃ x, wd6.heap.size = x := ⟨_, rfl⟩
    rw [hB10] at hc ⊢
    have lB10 : B10 < wd7.heap.size := hc.1
    have gB10 : wd6.heap.size ≤ B10 := by omega
    have X10_wd7 : Hid (Cl wd7 B10 [.slice (some ⟨bA, 0, none⟩) nA1 nA1, .int .i64 zA1, .int .i64 cF1]) := hc
    clear hx hb hc hB10
    have rpi0 : ∀ w', Below wd7.heap.size wd7 w' → w'.cell? ⟨w.heap.size + 1 + 1, 0, none⟩ = some (.int .i64 op) := fun w' h => (P_wd7.out.I.below h).2 0 (by simp)
    have rpi1 : ∀ w', Below wd7.heap.size wd7 w' → w'.cell? ⟨w.heap.size + 1 + 1, 1, none⟩ = some (.int .i64 d) := fun w' h => (P_wd7.out.I.below h).2 1 (by simp)
    have rpi2 : ∀ w', Below wd7.heap.size wd7 w' → w'.cell? ⟨w.heap.size + 1 + 1, 2, none⟩ = some (.int .i64 ra) := fun w' h => (P_wd7.out.I.below h).2 2 (by simp)
    have rpi3 : ∀ w', Below wd7.heap.size wd7 w' → w'.cell? ⟨w.heap.size + 1 + 1, 3, none⟩ = some (.int .i64 rb) := fun w' h => (P_wd7.out.I.below h).2 3 (by simp)
    have rpi4 : ∀ w', Below wd7.heap.size wd7 w' → w'.cell? ⟨w.heap.size + 1 + 1, 4, none⟩ = some (.int .i64 imm) := fun w' h => (P_wd7.out.I.below h).2 4 (by simp)
    have rpi5 : ∀ w', Below wd7.heap.size wd7 w' → w'.cell? ⟨w.heap.size + 1 + 1, 5, none⟩ = some (.int .i64 h) := fun w' h => (P_wd7.out.I.below h).2 5 (by simp)
    have rx90 : ∀ w', Below wd7.heap.size wd7 w' → w'.cell? ⟨B9, 0, none⟩ = some (.slice (some ⟨bH, 0, none⟩) nH0 nH0) := fun w' h => (X9_wd7.out.below h).2 0 (by simp)
    have rx91 : ∀ w', Below wd7.heap.size wd7 w' → w'.cell? ⟨B9, 1, none⟩ = some (.slice (some ⟨bR, 0, none⟩) nR0 nR0) := fun w' h => (X9_wd7.out.below h).2 1 (by simp)
    have rx100 : ∀ w', Below wd7.heap.size wd7 w' → w'.cell? ⟨B10, 0, none⟩ = some (.slice (some ⟨bA, 0, none⟩) nA1 nA1) := fun w' h => (X10_wd7.out.below h).2 0 (by simp)
    have rx101 : ∀ w', Below wd7.heap.size wd7 w' → w'.cell? ⟨B10, 1, none⟩ = some (.int .i64 zA1) := fun w' h => (X10_wd7.out.below h).2 1 (by simp)
    have rx102 : ∀ w', Below wd7.heap.size wd7 w' → w'.cell? ⟨B10, 2, none⟩ = some (.int .i64 cF1) := fun w' h => (X10_wd7.out.below h).2 2 (by simp)
    go_cut [11] (fun s wx => ∃ (B : Nat) (ao : Option Addr) (cap : Nat), s = .pointer (some ⟨B, 0, none⟩) ∧ Below wd7.heap.size wd7 wx ∧ wd7.heap.size ≤ B ∧ Cl wx B [.int .i64 err, .slice ao nn cap, .int .i64 zz, .int .i64 cc] ∧ WV wx ao nn W ∧ Lie ao nn wd7.heap.size wx.heap.size ∧ (∀ b, ao = some ⟨b, 0, none⟩ → nn ≠ 0 → b ≠ B))
    case first =>
      refine wp_region_held_drew (S := fun w' => Below wd7.heap.size wd7 w') (by kernel_rfl) (Below.refl _ _).drew (fun hd0 => ?_)
      generalize wd7.drew = v0 at hd0 ⊢
      refine wpAnyH_tk 0 ?k4v rfl ?k4y ?k4r
      case k4y => (intro w hSw; (try dsimp only at hSw); go_simp; try with_reducible rfl)
      try simp only [Act.put, List.getElem_toArray, List.getElem_cons_zero, List.setIfInBounds_toArray, List.set_cons_zero, List.set_cons_succ]
      refine wpAnyH_tk 1 ?k5v rfl ?k5y ?k5r
      case k5y => (intro w hSw; (try dsimp only at hSw); go_simp; try with_reducible rfl)
      try simp only [Act.put, List.getElem_toArray, List.getElem_cons_zero, List.getElem_cons_succ, List.setIfInBounds_toArray, List.set_cons_zero, List.set_cons_succ]
      refine wpAnyH_tk 2 ?k6v rfl ?k6y ?k6r
      case k6y => (intro w hSw; (try dsimp only at hSw); go_simp; try with_reducible rfl)
      try simp only [Act.put, List.getElem_toArray, List.getElem_cons_zero, List.getElem_cons_succ, List.setIfInBounds_toArray, List.set_cons_zero, List.set_cons_succ]
      refine wpAnyH_ready (rs := [3, 5]) (by kernel_rfl) (by simp) ?_
      refine AllReadyH.cons rfl (fun KK hK => ?_) (AllReadyH.cons rfl (fun KK hK => ?_) AllReadyH.nil)
      · go_simp
        refine (toIns_any op d ra rb imm h _).mono ?_
        rintro e v1 ⟨rfl, hb⟩
        have Bv1 : Below wd7.heap.size wd7 v1 := hd0.trans (hb.mono hd0.size)
        have C0v1 := (C0_wd7.out.below hd0).below hb
        have C1v1 := (C1_wd7.out.below hd0 C1_wd7.out.lt).below hb (C1_wd7.out.below hd0 C1_wd7.out.lt).lt
        clear hb
        go_wp2_with fail
        refine hK.out _ _ Bv1 (fun hHeld => ?_)
        clear hK KK
        try simp only [Act.put, List.getElem_toArray, List.getElem_cons_zero, List.getElem_cons_succ, List.setIfInBounds_toArray, List.set_cons_zero, List.set_cons_succ]
        refine wpAnyH_ready (rs := [4, 5]) (by kernel_rfl) (by simp) ?_
        refine AllReadyH.cons rfl (fun KK hK => ?_) (AllReadyH.cons rfl (fun KK hK => ?_) AllReadyH.nil)
        · go_simp
          refine (implTransfer_any _ _ _ S0 _ _ _ V0 _ _ _ U1 _ _ _ _ _ _ _ _ _ HS0.out.1 HS0.out.2 HS1.out C0v1 C1v1).mono ?_
          intro e v2 hx
          obtain ⟨ao, cap, rfl, hwv, hli, hb⟩ := tr_view HP.out hx
          clear hx
          have Bv2 : Below wd7.heap.size wd7 v2 := Bv1.trans (hb.mono Bv1.size)
          have hlv2 : Lie ao nn wd7.heap.size v2.heap.size := fun b e n0 => by have := hli b e n0; have := Bv1.size; omega
          clear hli
          clear hb
          go_wp2_with fail
          refine hK.out _ _ Bv2 (fun hHeld => ?_)
          clear hK KK
          try simp only [Act.put, List.getElem_toArray, List.getElem_cons_zero, List.getElem_cons_succ, List.setIfInBounds_toArray, List.set_cons_zero, List.set_cons_succ]
          refine wpAnyH_ready (rs := [5]) (by kernel_rfl) (by simp) ?_
          refine AllReadyH.cons rfl (fun KK hK => ?_) AllReadyH.nil
          go_simp
          obtain ⟨v3, hx, hb, Xv3, Fv3⟩ : ∃ y, v2.alloc (.cells #[.int .i64 0, .slice none 0 0, .int .i64 0, .int .i64 0] 77) = y ∧ Below v2.heap.size v2 y ∧ Cl y v2.heap.size [.int .i64 0, .slice none 0 0, .int .i64 0, .int .i64 0] ∧ (∀ i, y.frozen? ⟨v2.heap.size, i, none⟩ = false) := ⟨_, rfl, (Below.refl _ _).alloc (Nat.le_refl _) _, Cl.new, fun i => by simp [go_sem]⟩
          rw [hx]
          clear hx
          have Bv3 : Below wd7.heap.size wd7 v3 := Bv2.trans (hb.mono Bv2.size)
          have wvv3 := hwv.below hb
          have hlv3 : Lie ao nn wd7.heap.size v3.heap.size := fun b e n0 => by have := hlv2 b e n0; have := hb.size; omega
          have lnv3 : Lie ao nn wd7.heap.size v2.heap.size := hlv2
          have Nv3 : wd7.heap.size ≤ v2.heap.size := Bv2.size
          clear hb
          generalize v2.heap.size = nb at *
          refine hK.out _ _ Bv3 (fun hHeld => ?_)
          clear hK KK
          try simp only [Act.put, List.getElem_toArray, List.getElem_cons_zero, List.getElem_cons_succ, List.setIfInBounds_toArray, List.set_cons_zero, List.set_cons_succ]
          refine wpAnyH_ready (rs := [6]) (by kernel_rfl) (by simp) ?_
          refine AllReadyH.cons rfl (fun KK hK => ?_) AllReadyH.nil
          obtain ⟨c0, c1, c2, c3⟩ := clg4 Xv3
          have cf := Fv3
          have cz := Xv3.1
          go_simp
          have hne : ∀ b, ao = some ⟨b, 0, none⟩ → nn ≠ 0 → b ≠ nb := fun b e n0 => by have := lnv3 b e n0; omega
          obtain ⟨y, hy, hby, hcy, hay⟩ : ∃ y, (((v3.setCell ⟨nb, 0, none⟩ (.int .i64 err)).setCell ⟨nb, 1, none⟩ (.slice ao nn cap)).setCell ⟨nb, 2, none⟩ (.int .i64 zz)).setCell ⟨nb, 3, none⟩ (.int .i64 cc) = y ∧ Below wd7.heap.size wd7 y ∧ Cl y nb [.int .i64 err, .slice ao nn cap, .int .i64 zz, .int .i64 cc] ∧ WV y ao nn W := ⟨_, rfl, (((Bv3.setCell (p := ⟨nb, 0, none⟩) Nv3 _).setCell (p := ⟨nb, 1, none⟩) Nv3 _).setCell (p := ⟨nb, 2, none⟩) Nv3 _).setCell (p := ⟨nb, 3, none⟩) Nv3 _, cl4_put Xv3, wv_put wvv3 hne⟩
          have hsz : y.heap.size = v3.heap.size := by rw [← hy]; simp
          rw [hy]
          have hly : Lie ao nn wd7.heap.size y.heap.size := by rw [hsz]; exact hlv3
          clear hy hsz c0 c1 c2 c3 cf cz
          refine hK.out _ _ hby (fun hHeld => ?_)
          clear hK KK
          refine wpAnyH_done (by kernel_rfl) ?_ _
          clear rpi0 rpi1 rpi2 rpi3 rpi4 rpi5 rx90 rx91 rx100 rx101 rx102
          go_wp2_with fail
          go_meet
          exact ⟨nb, ao, cap, rfl, hby, Nv3, hcy, hay, hly, hne⟩
        · go_simp
          obtain ⟨v4, hx, hb, Xv4, Fv4⟩ : ∃ y, v1.alloc (.cells #[.int .i64 0, .slice none 0 0, .int .i64 0, .int .i64 0] 77) = y ∧ Below v1.heap.size v1 y ∧ Cl y v1.heap.size [.int .i64 0, .slice none 0 0, .int .i64 0, .int .i64 0] ∧ (∀ i, y.frozen? ⟨v1.heap.size, i, none⟩ = false) := ⟨_, rfl, (Below.refl _ _).alloc (Nat.le_refl _) _, Cl.new, fun i => by simp [go_sem]⟩
          rw [hx]
          clear hx
          have Bv4 : Below wd7.heap.size wd7 v4 := Bv1.trans (hb.mono Bv1.size)
          have C0v4 := C0v1.below hb
          have C1v4 := C1v1.below hb C1v1.lt
          have Nv4 : wd7.heap.size ≤ v1.heap.size := Bv1.size
          clear hb
          generalize v1.heap.size = nb at *
          refine hK.out _ _ Bv4 (fun hHeld => ?_)
          clear hK KK
          try simp only [Act.put, List.getElem_toArray, List.getElem_cons_zero, List.getElem_cons_succ, List.setIfInBounds_toArray, List.set_cons_zero, List.set_cons_succ]
          refine wpAnyH_ready (rs := [4]) (by kernel_rfl) (by simp) ?_
          refine AllReadyH.cons rfl (fun KK hK => ?_) AllReadyH.nil
          have hnbX := Xv4.1
          go_simp
          refine (implTransfer_any _ _ _ S0 _ _ _ V0 _ _ _ U1 _ _ _ _ _ _ _ _ _ HS0.out.1 HS0.out.2 HS1.out C0v4 C1v4).mono ?_
          intro e v5 hx
          obtain ⟨ao, cap, rfl, hwv, hli, hb⟩ := tr_view HP.out hx
          have hliX := hli
          clear hx
          have Bv5 : Below wd7.heap.size wd7 v5 := Bv4.trans (hb.mono Bv4.size)
          have hlv5 : Lie ao nn wd7.heap.size v5.heap.size := fun b e n0 => by have := hli b e n0; have := Bv4.size; omega
          clear hli
          have Xv5 := Xv4.below hb
          have Fv5 : ∀ i, v5.frozen? ⟨nb, i, none⟩ = false := fun i => (hb.frozen (p := ⟨nb, i, none⟩) Xv4.1).trans (Fv4 i)
          clear hb
          go_wp2_with fail
          refine hK.out _ _ Bv5 (fun hHeld => ?_)
          clear hK KK
          try simp only [Act.put, List.getElem_toArray, List.getElem_cons_zero, List.getElem_cons_succ, List.setIfInBounds_toArray, List.set_cons_zero, List.set_cons_succ]
          refine wpAnyH_ready (rs := [6]) (by kernel_rfl) (by simp) ?_
          refine AllReadyH.cons rfl (fun KK hK => ?_) AllReadyH.nil
          obtain ⟨c0, c1, c2, c3⟩ := clg4 Xv5
          have cf := Fv5
          have cz := Xv5.1
          go_simp
          have hne : ∀ b, ao = some ⟨b, 0, none⟩ → nn ≠ 0 → b ≠ nb := fun b e n0 => by have := hliX b e n0; have := hnbX; omega
          obtain ⟨y, hy, hby, hcy, hay⟩ : ∃ y, (((v5.setCell ⟨nb, 0, none⟩ (.int .i64 err)).setCell ⟨nb, 1, none⟩ (.slice ao nn cap)).setCell ⟨nb, 2, none⟩ (.int .i64 zz)).setCell ⟨nb, 3, none⟩ (.int .i64 cc) = y ∧ Below wd7.heap.size wd7 y ∧ Cl y nb [.int .i64 err, .slice ao nn cap, .int .i64 zz, .int .i64 cc] ∧ WV y ao nn W := ⟨_, rfl, (((Bv5.setCell (p := ⟨nb, 0, none⟩) Nv4 _).setCell (p := ⟨nb, 1, none⟩) Nv4 _).setCell (p := ⟨nb, 2, none⟩) Nv4 _).setCell (p := ⟨nb, 3, none⟩) Nv4 _, cl4_put Xv5, wv_put hwv hne⟩
          have hsz : y.heap.size = v5.heap.size := by rw [← hy]; simp
          rw [hy]
          have hly : Lie ao nn wd7.heap.size y.heap.size := by rw [hsz]; exact hlv5
          clear hy hsz c0 c1 c2 c3 cf cz
          refine hK.out _ _ hby (fun hHeld => ?_)
          clear hK KK
          refine wpAnyH_done (by kernel_rfl) ?_ _
          clear rpi0 rpi1 rpi2 rpi3 rpi4 rpi5 rx90 rx91 rx100 rx101 rx102
          go_wp2_with fail
          go_meet
          exact ⟨nb, ao, cap, rfl, hby, Nv4, hcy, hay, hly, hne⟩
      · go_simp
        obtain ⟨v6, hx, hb, Xv6, Fv6⟩ : ∃ y, v0.alloc (.cells #[.int .i64 0, .slice none 0 0, .int .i64 0, .int .i64 0] 77) = y ∧ Below v0.heap.size v0 y ∧ Cl y v0.heap.size [.int .i64 0, .slice none 0 0, .int .i64 0, .int .i64 0] ∧ (∀ i, y.frozen? ⟨v0.heap.size, i, none⟩ = false) := ⟨_, rfl, (Below.refl _ _).alloc (Nat.le_refl _) _, Cl.new, fun i => by simp [go_sem]⟩
        rw [hx]
        clear hx
        have Bv6 : Below wd7.heap.size wd7 v6 := hd0.trans (hb.mono hd0.size)
        have C0v6 := (C0_wd7.out.below hd0).below hb
        have C1v6 := (C1_wd7.out.below hd0 C1_wd7.out.lt).below hb (C1_wd7.out.below hd0 C1_wd7.out.lt).lt
        have Nv6 : wd7.heap.size ≤ v0.heap.size := hd0.size
        clear hb
        generalize v0.heap.size = nb at *
        refine hK.out _ _ Bv6 (fun hHeld => ?_)
        clear hK KK
        try simp only [Act.put, List.getElem_toArray, List.getElem_cons_zero, List.getElem_cons_succ, List.setIfInBounds_toArray, List.set_cons_zero, List.set_cons_succ]
        refine wpAnyH_ready (rs := [3]) (by kernel_rfl) (by simp) ?_
        refine AllReadyH.cons rfl (fun KK hK => ?_) AllReadyH.nil
        go_simp
        refine (toIns_any op d ra rb imm h _).mono ?_
        rintro e v7 ⟨rfl, hb⟩
        have Bv7 : Below wd7.heap.size wd7 v7 := Bv6.trans (hb.mono Bv6.size)
        have C0v7 := C0v6.below hb
        have C1v7 := C1v6.below hb C1v6.lt
        have Xv7 := Xv6.below hb
        have Fv7 : ∀ i, v7.frozen? ⟨nb, i, none⟩ = false := fun i => (hb.frozen (p := ⟨nb, i, none⟩) Xv6.1).trans (Fv6 i)
        clear hb
        go_wp2_with fail
        refine hK.out _ _ Bv7 (fun hHeld => ?_)
        clear hK KK
        try simp only [Act.put, List.getElem_toArray, List.getElem_cons_zero, List.getElem_cons_succ, List.setIfInBounds_toArray, List.set_cons_zero, List.set_cons_succ]
        refine wpAnyH_ready (rs := [4]) (by kernel_rfl) (by simp) ?_
        refine AllReadyH.cons rfl (fun KK hK => ?_) AllReadyH.nil
        have hnbX := Xv7.1
        go_simp
        refine (implTransfer_any _ _ _ S0 _ _ _ V0 _ _ _ U1 _ _ _ _ _ _ _ _ _ HS0.out.1 HS0.out.2 HS1.out C0v7 C1v7).mono ?_
        intro e v8 hx
        obtain ⟨ao, cap, rfl, hwv, hli, hb⟩ := tr_view HP.out hx
        have hliX := hli
        clear hx
        have Bv8 : Below wd7.heap.size wd7 v8 := Bv7.trans (hb.mono Bv7.size)
        have hlv8 : Lie ao nn wd7.heap.size v8.heap.size := fun b e n0 => by have := hli b e n0; have := Bv7.size; omega
        clear hli
        have Xv8 := Xv7.below hb
        have Fv8 : ∀ i, v8.frozen? ⟨nb, i, none⟩ = false := fun i => (hb.frozen (p := ⟨nb, i, none⟩) Xv7.1).trans (Fv7 i)
        clear hb
        go_wp2_with fail
        refine hK.out _ _ Bv8 (fun hHeld => ?_)
        clear hK KK
        try simp only [Act.put, List.getElem_toArray, List.getElem_cons_zero, List.getElem_cons_succ, List.setIfInBounds_toArray, List.set_cons_zero, List.set_cons_succ]
        refine wpAnyH_ready (rs := [6]) (by kernel_rfl) (by simp) ?_
        refine AllReadyH.cons rfl (fun KK hK => ?_) AllReadyH.nil
        obtain ⟨c0, c1, c2, c3⟩ := clg4 Xv8
        have cf := Fv8
        have cz := Xv8.1
        go_simp
        have hne : ∀ b, ao = some ⟨b, 0, none⟩ → nn ≠ 0 → b ≠ nb := fun b e n0 => by have := hliX b e n0; have := hnbX; omega
        obtain ⟨y, hy, hby, hcy, hay⟩ : ∃ y, (((v8.setCell ⟨nb, 0, none⟩ (.int .i64 err)).setCell ⟨nb, 1, none⟩ (.slice ao nn cap)).setCell ⟨nb, 2, none⟩ (.int .i64 zz)).setCell ⟨nb, 3, none⟩ (.int .i64 cc) = y ∧ Below wd7.heap.size wd7 y ∧ Cl y nb [.int .i64 err, .slice ao nn cap, .int .i64 zz, .int .i64 cc] ∧ WV y ao nn W := ⟨_, rfl, (((Bv8.setCell (p := ⟨nb, 0, none⟩) Nv6 _).setCell (p := ⟨nb, 1, none⟩) Nv6 _).setCell (p := ⟨nb, 2, none⟩) Nv6 _).setCell (p := ⟨nb, 3, none⟩) Nv6 _, cl4_put Xv8, wv_put hwv hne⟩
        have hsz : y.heap.size = v8.heap.size := by rw [← hy]; simp
        rw [hy]
        have hly : Lie ao nn wd7.heap.size y.heap.size := by rw [hsz]; exact hlv8
        clear hy hsz c0 c1 c2 c3 cf cz
        refine hK.out _ _ hby (fun hHeld => ?_)
        clear hK KK
        refine wpAnyH_done (by kernel_rfl) ?_ _
        clear rpi0 rpi1 rpi2 rpi3 rpi4 rpi5 rx90 rx91 rx100 rx101 rx102
        go_wp2_with fail
        go_meet
        exact ⟨nb, ao, cap, rfl, hby, Nv6, hcy, hay, hly, hne⟩
    case rest =>
      clear rpi0 rpi1 rpi2 rpi3 rpi4 rpi5 rx90 rx91 rx100 rx101 rx102
      revert wc
      intro wd8 hcut
      obtain ⟨B11, ao11, cap11, rfl, hb, hB11, hc, hv, hl11, hne⟩ := hcut
      have P_wd8 : Hid (LwP w wd8 aoH0 nH0 cH0 aoR0 nR0 cR0 aoA1 nA1 cA1 zA1 cF1 op d ra rb imm h) := P_wd7.out.below hb
      have X8_wd8 : Hid (Cl wd8 B8 [.int .i64 err, .slice ao8 nn cap8, .int .i64 zz, .int .i64 cc]) := X8_wd7.out.below hb
      have V8_wd8 : Hid (WV wd8 ao8 nn W) := V8_wd7.out.below hb
      have C0_wd8 : Hid (SigCp wd8 bH nH0 S0 bR nR0 V0) := C0_wd7.out.below hb
      have X9_wd8 : Hid (Cl wd8 B9 [.slice (some ⟨bH, 0, none⟩) nH0 nH0, .slice (some ⟨bR, 0, none⟩) nR0 nR0]) := X9_wd7.out.below hb
      have C1_wd8 : Hid (Arr wd8 bA (nA1 * 6) (vF U1)) := C1_wd7.out.below hb C1_wd7.out.lt
      have X10_wd8 : Hid (Cl wd8 B10 [.slice (some ⟨bA, 0, none⟩) nA1 nA1, .int .i64 zA1, .int .i64 cF1]) := X10_wd7.out.below hb
      clear P_wd7 X8_wd7 V8_wd7 C0_wd7 X9_wd7 C1_wd7 X10_wd7
      have X11_wd8 : Hid (Cl wd8 B11 [.int .i64 err, .slice ao11 nn cap11, .int .i64 zz, .int .i64 cc]) := hc
      have V11_wd8 : Hid (WV wd8 ao11 nn W) := hv
      have hswd8 : wd7.heap.size ≤ wd8.heap.size := hb.size
      have hx11 : B11 < wd8.heap.size := hc.1
      have HL11 : Hid (Lie ao11 nn wd7.heap.size wd8.heap.size) := hl11
      have NE11 : Hid (∀ b, ao11 = some ⟨b, 0, none⟩ → nn ≠ 0 → b ≠ B11) := hne
      clear hb hc hv hne hl11
      have zx11 := X11_wd8.out.1
      have cx110 : wd8.cell? ⟨B11, 0, none⟩ = some (.int .i64 err) := X11_wd8.out.2 0 (by simp)
      have cx111 : wd8.cell? ⟨B11, 1, none⟩ = some (.slice ao11 nn cap11) := X11_wd8.out.2 1 (by simp)
      have cx112 : wd8.cell? ⟨B11, 2, none⟩ = some (.int .i64 zz) := X11_wd8.out.2 2 (by simp)
      have cx113 : wd8.cell? ⟨B11, 3, none⟩ = some (.int .i64 cc) := X11_wd8.out.2 3 (by simp)
      have zx8 := X8_wd8.out.1
      have cx80 : wd8.cell? ⟨B8, 0, none⟩ = some (.int .i64 err) := X8_wd8.out.2 0 (by simp)
      have cx81 : wd8.cell? ⟨B8, 1, none⟩ = some (.slice ao8 nn cap8) := X8_wd8.out.2 1 (by simp)
      have cx82 : wd8.cell? ⟨B8, 2, none⟩ = some (.int .i64 zz) := X8_wd8.out.2 2 (by simp)
      have cx83 : wd8.cell? ⟨B8, 3, none⟩ = some (.int .i64 cc) := X8_wd8.out.2 3 (by simp)
      go_wp2_with fail
      refine (eqAbsRes_view err _ _ nn _ _ W zz cc _ (by omega) V11_wd8.out V8_wd8.out).mono ?_
      rintro e wd9 ⟨rfl, hb⟩
      clear zx11 cx110 cx111 cx112 cx113 zx8 cx80 cx81 cx82 cx83
      have P_wd9 : Hid (LwP w wd9 aoH0 nH0 cH0 aoR0 nR0 cR0 aoA1 nA1 cA1 zA1 cF1 op d ra rb imm h) := P_wd8.out.below hb
      have X8_wd9 : Hid (Cl wd9 B8 [.int .i64 err, .slice ao8 nn cap8, .int .i64 zz, .int .i64 cc]) := X8_wd8.out.below hb
      have V8_wd9 : Hid (WV wd9 ao8 nn W) := V8_wd8.out.below hb
      have C0_wd9 : Hid (SigCp wd9 bH nH0 S0 bR nR0 V0) := C0_wd8.out.below hb
      have X9_wd9 : Hid (Cl wd9 B9 [.slice (some ⟨bH, 0, none⟩) nH0 nH0, .slice (some ⟨bR, 0, none⟩) nR0 nR0]) := X9_wd8.out.below hb
      have C1_wd9 : Hid (Arr wd9 bA (nA1 * 6) (vF U1)) := C1_wd8.out.below hb C1_wd8.out.lt
      have X10_wd9 : Hid (Cl wd9 B10 [.slice (some ⟨bA, 0, none⟩) nA1 nA1, .int .i64 zA1, .int .i64 cF1]) := X10_wd8.out.below hb
      have X11_wd9 : Hid (Cl wd9 B11 [.int .i64 err, .slice ao11 nn cap11, .int .i64 zz, .int .i64 cc]) := X11_wd8.out.below hb
      have V11_wd9 : Hid (WV wd9 ao11 nn W) := V11_wd8.out.below hb
      clear P_wd8 X8_wd8 V8_wd8 C0_wd8 X9_wd8 C1_wd8 X10_wd8 X11_wd8 V11_wd8
      have hswd9 : wd8.heap.size ≤ wd9.heap.size := hb.size
      clear hb
      go_upto_region 14 with fail
      have rx90 : ∀ w', Below wd9.heap.size wd9 w' → w'.cell? ⟨B9, 0, none⟩ = some (.slice (some ⟨bH, 0, none⟩) nH0 nH0) := fun w' h => (X9_wd9.out.below h).2 0 (by simp)
      have rx91 : ∀ w', Below wd9.heap.size wd9 w' → w'.cell? ⟨B9, 1, none⟩ = some (.slice (some ⟨bR, 0, none⟩) nR0 nR0) := fun w' h => (X9_wd9.out.below h).2 1 (by simp)
      have rps0 : ∀ w', Below wd9.heap.size wd9 w' → w'.cell? ⟨w.heap.size, 0, none⟩ = some (.slice aoH0 nH0 cH0) := fun w' h => (P_wd9.out.S.below h).2 0 (by simp)
      have rps1 : ∀ w', Below wd9.heap.size wd9 w' → w'.cell? ⟨w.heap.size, 1, none⟩ = some (.slice aoR0 nR0 cR0) := fun w' h => (P_wd9.out.S.below h).2 1 (by simp)
      refine wp_region_held_drew (S := fun w' => Below wd9.heap.size wd9 w') (by kernel_rfl) (Below.refl _ _).drew (fun hd0 => ?_)
      generalize wd9.drew = t0 at hd0 ⊢
      refine wpAnyH_tk 0 ?k7v rfl ?k7y ?k7r
      case k7y => (intro w hSw; (try dsimp only at hSw); go_simp; try with_reducible rfl)
      try simp only [Act.put, List.getElem_toArray, List.getElem_cons_zero, List.setIfInBounds_toArray, List.set_cons_zero, List.set_cons_succ]
      refine wpAnyH_tk 1 ?k8v rfl ?k8y ?k8r
      case k8y => (intro w hSw; (try dsimp only at hSw); go_simp; try with_reducible rfl)
      try simp only [Act.put, List.getElem_toArray, List.getElem_cons_zero, List.getElem_cons_succ, List.setIfInBounds_toArray, List.set_cons_zero, List.set_cons_succ]
      refine wpAnyH_ready (rs := [2]) (by kernel_rfl) (by simp) ?_
      refine AllReadyH.cons rfl (fun KK hK => ?_) AllReadyH.nil
      go_simp
      refine (toSig_in _ _ _ S0 _ _ _ V0 _ HS0.out.1 HS0.out.2 (hin0.out.below (P_wd9.out.bel.trans (hd0.mono P_wd9.out.bel.size)) (Nat.le_refl _))).mono ?_
      rintro e t1 ⟨bH2, bR2, _, _, rfl, hb, hcp⟩
      have hd1 : Below wd9.heap.size wd9 t1 := hd0.trans (hb.mono hd0.size)
      clear hb
      go_wp2_with fail
      refine hK.out _ _ hd1 (fun hHeld => ?_)
      clear hK KK
      try simp only [Act.put, List.getElem_toArray, List.getElem_cons_zero, List.getElem_cons_succ, List.setIfInBounds_toArray, List.set_cons_zero, List.set_cons_succ]
      refine wpAnyH_ready (rs := [3]) (by kernel_rfl) (by simp) ?_
      refine AllReadyH.cons rfl (fun KK hK => ?_) AllReadyH.nil
      go_simp
      refine (eqSig_same _ _ _ S0 _ _ _ V0 _ _ _ _ _ HS0.out.1 HS0.out.2 (C0_wd9.out.below hd1) hcp).mono ?_
      rintro e wd10 ⟨rfl, hb⟩
      have hd2 : Below wd9.heap.size wd9 wd10 := hd1.trans (hb.mono hd1.size)
      clear hb hcp
      go_wp2_with fail
      refine hK.out _ _ hd2 (fun hHeld2 => ?_)
      clear hK KK
      try simp only [Act.put, List.getElem_toArray, List.getElem_cons_zero, List.getElem_cons_succ, List.setIfInBounds_toArray, List.set_cons_zero, List.set_cons_succ]
      refine wpAnyH_tk 4 ?k9v rfl ?k9y ?k9r
      case k9y => (intro w hSw; (try dsimp only at hSw); go_simp; try with_reducible rfl)
      try simp only [Act.put, List.getElem_toArray, List.getElem_cons_zero, List.getElem_cons_succ, List.setIfInBounds_toArray, List.set_cons_zero, List.set_cons_succ]
      refine wpAnyH_done (by kernel_rfl) ?_ _
      clear rx90 rx91 rps0 rps1
      have P_wd10 : Hid (LwP w wd10 aoH0 nH0 cH0 aoR0 nR0 cR0 aoA1 nA1 cA1 zA1 cF1 op d ra rb imm h) := P_wd9.out.below hd2
      have X8_wd10 : Hid (Cl wd10 B8 [.int .i64 err, .slice ao8 nn cap8, .int .i64 zz, .int .i64 cc]) := X8_wd9.out.below hd2
      have V8_wd10 : Hid (WV wd10 ao8 nn W) := V8_wd9.out.below hd2
      have C0_wd10 : Hid (SigCp wd10 bH nH0 S0 bR nR0 V0) := C0_wd9.out.below hd2
      have X9_wd10 : Hid (Cl wd10 B9 [.slice (some ⟨bH, 0, none⟩) nH0 nH0, .slice (some ⟨bR, 0, none⟩) nR0 nR0]) := X9_wd9.out.below hd2
      have C1_wd10 : Hid (Arr wd10 bA (nA1 * 6) (vF U1)) := C1_wd9.out.below hd2 C1_wd9.out.lt
      have X10_wd10 : Hid (Cl wd10 B10 [.slice (some ⟨bA, 0, none⟩) nA1 nA1, .int .i64 zA1, .int .i64 cF1]) := X10_wd9.out.below hd2
      have X11_wd10 : Hid (Cl wd10 B11 [.int .i64 err, .slice ao11 nn cap11, .int .i64 zz, .int .i64 cc]) := X11_wd9.out.below hd2
      have V11_wd10 : Hid (WV wd10 ao11 nn W) := V11_wd9.out.below hd2
      clear P_wd9 X8_wd9 V8_wd9 C0_wd9 X9_wd9 C1_wd9 X10_wd9 X11_wd9 V11_wd9
      have hswd10 : wd9.heap.size ≤ wd10.heap.size := hd2.size
      clear hd0 hd1 hd2 hHeld hHeld2
      go_upto_region 16 with fail
      have rx100 : ∀ w', Below wd10.heap.size wd10 w' → w'.cell? ⟨B10, 0, none⟩ = some (.slice (some ⟨bA, 0, none⟩) nA1 nA1) := fun w' h => (X10_wd10.out.below h).2 0 (by simp)
      have rx101 : ∀ w', Below wd10.heap.size wd10 w' → w'.cell? ⟨B10, 1, none⟩ = some (.int .i64 zA1) := fun w' h => (X10_wd10.out.below h).2 1 (by simp)
      have rx102 : ∀ w', Below wd10.heap.size wd10 w' → w'.cell? ⟨B10, 2, none⟩ = some (.int .i64 cF1) := fun w' h => (X10_wd10.out.below h).2 2 (by simp)
      have rpa0 : ∀ w', Below wd10.heap.size wd10 w' → w'.cell? ⟨w.heap.size + 1, 0, none⟩ = some (.slice aoA1 nA1 cA1) := fun w' h => (P_wd10.out.A.below h).2 0 (by simp)
      have rpa1 : ∀ w', Below wd10.heap.size wd10 w' → w'.cell? ⟨w.heap.size + 1, 1, none⟩ = some (.int .i64 zA1) := fun w' h => (P_wd10.out.A.below h).2 1 (by simp)
      have rpa2 : ∀ w', Below wd10.heap.size wd10 w' → w'.cell? ⟨w.heap.size + 1, 2, none⟩ = some (.int .i64 cF1) := fun w' h => (P_wd10.out.A.below h).2 2 (by simp)
      refine wp_region_held_drew (S := fun w' => Below wd10.heap.size wd10 w') (by kernel_rfl) (Below.refl _ _).drew (fun hd0 => ?_)
      generalize wd10.drew = t0 at hd0 ⊢
      refine wpAnyH_tk 0 ?k10v rfl ?k10y ?k10r
      case k10y => (intro w hSw; (try dsimp only at hSw); go_simp; try with_reducible rfl)
      try simp only [Act.put, List.getElem_toArray, List.getElem_cons_zero, List.setIfInBounds_toArray, List.set_cons_zero, List.set_cons_succ]
      refine wpAnyH_tk 1 ?k11v rfl ?k11y ?k11r
      case k11y => (intro w hSw; (try dsimp only at hSw); go_simp; try with_reducible rfl)
      try simp only [Act.put, List.getElem_toArray, List.getElem_cons_zero, List.getElem_cons_succ, List.setIfInBounds_toArray, List.set_cons_zero, List.set_cons_succ]
      refine wpAnyH_ready (rs := [2]) (by kernel_rfl) (by simp) ?_
      refine AllReadyH.cons rfl (fun KK hK => ?_) AllReadyH.nil
      go_simp
      refine (toAbs_in _ _ _ U1 _ _ _ HS1.out (hin1.out.below (P_wd10.out.bel.trans (hd0.mono P_wd10.out.bel.size)) (Nat.le_refl _))).mono ?_
      rintro e t1 ⟨bA2, _, rfl, hb, hcp⟩
      have hd1 : Below wd10.heap.size wd10 t1 := hd0.trans (hb.mono hd0.size)
      clear hb
      go_wp2_with fail
      refine hK.out _ _ hd1 (fun hHeld => ?_)
      clear hK KK
      try simp only [Act.put, List.getElem_toArray, List.getElem_cons_zero, List.getElem_cons_succ, List.setIfInBounds_toArray, List.set_cons_zero, List.set_cons_succ]
      refine wpAnyH_ready (rs := [3]) (by kernel_rfl) (by simp) ?_
      refine AllReadyH.cons rfl (fun KK hK => ?_) AllReadyH.nil
      go_simp
      refine (eqAbs_same _ _ _ U1 _ _ _ _ _ HS1.out (C1_wd10.out.below hd1 C1_wd10.out.lt) hcp).mono ?_
      rintro e wd11 ⟨rfl, hb⟩
      have hd2 : Below wd10.heap.size wd10 wd11 := hd1.trans (hb.mono hd1.size)
      clear hb hcp
      go_wp2_with fail
      refine hK.out _ _ hd2 (fun hHeld2 => ?_)
      clear hK KK
      try simp only [Act.put, List.getElem_toArray, List.getElem_cons_zero, List.getElem_cons_succ, List.setIfInBounds_toArray, List.set_cons_zero, List.set_cons_succ]
      refine wpAnyH_tk 4 ?k12v rfl ?k12y ?k12r
      case k12y => (intro w hSw; (try dsimp only at hSw); go_simp; try with_reducible rfl)
      try simp only [Act.put, List.getElem_toArray, List.getElem_cons_zero, List.getElem_cons_succ, List.setIfInBounds_toArray, List.set_cons_zero, List.set_cons_succ]
      refine wpAnyH_done (by kernel_rfl) ?_ _
      clear rx100 rx101 rx102 rpa0 rpa1 rpa2
      have P_wd11 : Hid (LwP w wd11 aoH0 nH0 cH0 aoR0 nR0 cR0 aoA1 nA1 cA1 zA1 cF1 op d ra rb imm h) := P_wd10.out.below hd2
      have X8_wd11 : Hid (Cl wd11 B8 [.int .i64 err, .slice ao8 nn cap8, .int .i64 zz, .int .i64 cc]) := X8_wd10.out.below hd2
      have V8_wd11 : Hid (WV wd11 ao8 nn W) := V8_wd10.out.below hd2
      have C0_wd11 : Hid (SigCp wd11 bH nH0 S0 bR nR0 V0) := C0_wd10.out.below hd2
      have X9_wd11 : Hid (Cl wd11 B9 [.slice (some ⟨bH, 0, none⟩) nH0 nH0, .slice (some ⟨bR, 0, none⟩) nR0 nR0]) := X9_wd10.out.below hd2
      have C1_wd11 : Hid (Arr wd11 bA (nA1 * 6) (vF U1)) := C1_wd10.out.below hd2 C1_wd10.out.lt
      have X10_wd11 : Hid (Cl wd11 B10 [.slice (some ⟨bA, 0, none⟩) nA1 nA1, .int .i64 zA1, .int .i64 cF1]) := X10_wd10.out.below hd2
      have X11_wd11 : Hid (Cl wd11 B11 [.int .i64 err, .slice ao11 nn cap11, .int .i64 zz, .int .i64 cc]) := X11_wd10.out.below hd2
      have V11_wd11 : Hid (WV wd11 ao11 nn W) := V11_wd10.out.below hd2
      clear P_wd10 X8_wd10 V8_wd10 C0_wd10 X9_wd10 C1_wd10 X10_wd10 X11_wd10 V11_wd10
      have hswd11 : wd10.heap.size ≤ wd11.heap.size := hd2.size
      clear hd0 hd1 hd2 hHeld hHeld2
      go_upto_region 19 with fail
      have zx9 := X9_wd11.out.1
      have cx90 : wd11.cell? ⟨B9, 0, none⟩ = some (.slice (some ⟨bH, 0, none⟩) nH0 nH0) := X9_wd11.out.2 0 (by simp)
      have cx91 : wd11.cell? ⟨B9, 1, none⟩ = some (.slice (some ⟨bR, 0, none⟩) nR0 nR0) := X9_wd11.out.2 1 (by simp)
      go_wp2_with fail
      refine (markSig_any bH nH0 nH0 S0 bR nR0 nR0 V0 1 _ HS0.out.1 HS0.out.2 (by omega) (by omega) C0_wd11.out).mono ?_
      rintro e wd12 ⟨rfl, hf⟩
      clear zx9 cx90 cx91
      have gbH : wd3.heap.size ≤ bH := gH
      have gbR : wd3.heap.size ≤ bR := gR
      have P_wd12 : Hid (LwP w wd12 aoH0 nH0 cH0 aoR0 nR0 cR0 aoA1 nA1 cA1 zA1 cF1 op d ra rb imm h) := P_wd11.out.fv hf (fun k hk => by rcases hk with rfl | rfl <;> omega)
      have X8_wd12 : Hid (Cl wd12 B8 [.int .i64 err, .slice ao8 nn cap8, .int .i64 zz, .int .i64 cc]) := hf.cl X8_wd11.out (fun q => by rcases q with q | q <;> omega)
      have V8_wd12 : Hid (WV wd12 ao8 nn W) := V8_wd11.out.fv HL8.out hf (fun q hq => by rcases hq with rfl | rfl <;> omega)
      have X10_wd12 : Hid (Cl wd12 B10 [.slice (some ⟨bA, 0, none⟩) nA1 nA1, .int .i64 zA1, .int .i64 cF1]) := hf.cl X10_wd11.out (fun q => by rcases q with q | q <;> omega)
      have C1_wd12 : Hid (Arr wd12 bA (nA1 * 6) (vF U1)) := hf.arr C1_wd11.out (fun q => by rcases q with q | q <;> omega)
      have X11_wd12 : Hid (Cl wd12 B11 [.int .i64 err, .slice ao11 nn cap11, .int .i64 zz, .int .i64 cc]) := hf.cl X11_wd11.out (fun q => by rcases q with q | q <;> omega)
      have V11_wd12 : Hid (WV wd12 ao11 nn W) := V11_wd11.out.fv HL11.out hf (fun q hq => by rcases hq with rfl | rfl <;> omega)
      clear P_wd11 X8_wd11 V8_wd11 C0_wd11 X9_wd11 C1_wd11 X10_wd11 X11_wd11 V11_wd11
      have hswd12 : wd11.heap.size ≤ wd12.heap.size := hf.size
      clear hf
      have zx10 := X10_wd12.out.1
      have cx100 : wd12.cell? ⟨B10, 0, none⟩ = some (.slice (some ⟨bA, 0, none⟩) nA1 nA1) := X10_wd12.out.2 0 (by simp)
      have cx101 : wd12.cell? ⟨B10, 1, none⟩ = some (.int .i64 zA1) := X10_wd12.out.2 1 (by simp)
      have cx102 : wd12.cell? ⟨B10, 2, none⟩ = some (.int .i64 cF1) := X10_wd12.out.2 2 (by simp)
      go_wp2_with fail
      refine (markAbs_any _ nA1 nA1 U1 zA1 cF1 (1 + 3 * (nH0 : Int) + 6 * (nR0 : Int)) _ HS1.out (by omega) (by have := HS0.out; omega) (.inr ⟨bA, rfl, C1_wd12.out⟩)).mono ?_
      rintro e wd13 ⟨rfl, hf, _⟩
      clear zx10 cx100 cx101 cx102
      have P_wd13 : Hid (LwP w wd13 aoH0 nH0 cH0 aoR0 nR0 cR0 aoA1 nA1 cA1 zA1 cF1 op d ra rb imm h) := P_wd12.out.fv hf (fun k hk => by have := hk.2; simp only [Option.some.injEq, Addr.mk.injEq, and_true] at this; omega)
      have X8_wd13 : Hid (Cl wd13 B8 [.int .i64 err, .slice ao8 nn cap8, .int .i64 zz, .int .i64 cc]) := hf.cl X8_wd12.out (fun hk => by have := hk.2; simp only [Option.some.injEq, Addr.mk.injEq, and_true] at this; omega)
      have V8_wd13 : Hid (WV wd13 ao8 nn W) := V8_wd12.out.fv HL8.out hf (fun q hk => by have := hk.2; simp only [Option.some.injEq, Addr.mk.injEq, and_true] at this; omega)
      have X11_wd13 : Hid (Cl wd13 B11 [.int .i64 err, .slice ao11 nn cap11, .int .i64 zz, .int .i64 cc]) := hf.cl X11_wd12.out (fun hk => by have := hk.2; simp only [Option.some.injEq, Addr.mk.injEq, and_true] at this; omega)
      have V11_wd13 : Hid (WV wd13 ao11 nn W) := V11_wd12.out.fv HL11.out hf (fun q hk => by have := hk.2; simp only [Option.some.injEq, Addr.mk.injEq, and_true] at this; omega)
      clear P_wd12 X8_wd12 V8_wd12 C1_wd12 X10_wd12 X11_wd12 V11_wd12
      have hswd13 : wd12.heap.size ≤ wd13.heap.size := hf.size
      clear hf
      have hk0 : decide (1 + 3 * (nH0 : Int) + 6 * (nR0 : Int) + 6 * (nA1 : Int) < 0) = false := by simp; omega
      have zx11 := X11_wd13.out.1
      have cx110 : wd13.cell? ⟨B11, 0, none⟩ = some (.int .i64 err) := X11_wd13.out.2 0 (by simp)
      have cx111 : wd13.cell? ⟨B11, 1, none⟩ = some (.slice ao11 nn cap11) := X11_wd13.out.2 1 (by simp)
      have cx112 : wd13.cell? ⟨B11, 2, none⟩ = some (.int .i64 zz) := X11_wd13.out.2 2 (by simp)
      have cx113 : wd13.cell? ⟨B11, 3, none⟩ = some (.int .i64 cc) := X11_wd13.out.2 3 (by simp)
      have zx8 := X8_wd13.out.1
      have cx80 : wd13.cell? ⟨B8, 0, none⟩ = some (.int .i64 err) := X8_wd13.out.2 0 (by simp)
      have cx81 : wd13.cell? ⟨B8, 1, none⟩ = some (.slice ao8 nn cap8) := X8_wd13.out.2 1 (by simp)
      have cx82 : wd13.cell? ⟨B8, 2, none⟩ = some (.int .i64 zz) := X8_wd13.out.2 2 (by simp)
      have cx83 : wd13.cell? ⟨B8, 3, none⟩ = some (.int .i64 cc) := X8_wd13.out.2 3 (by simp)
      go_wp2_with fail
      refine (eqAbsRes_view err _ _ nn _ _ W zz cc _ (by omega) V11_wd13.out V8_wd13.out).mono ?_
      rintro e wd14 ⟨rfl, hb⟩
      clear zx11 cx110 cx111 cx112 cx113 zx8 cx80 cx81 cx82 cx83
      have P_wd14 : Hid (LwP w wd14 aoH0 nH0 cH0 aoR0 nR0 cR0 aoA1 nA1 cA1 zA1 cF1 op d ra rb imm h) := P_wd13.out.below hb
      have X8_wd14 : Hid (Cl wd14 B8 [.int .i64 err, .slice ao8 nn cap8, .int .i64 zz, .int .i64 cc]) := X8_wd13.out.below hb
      have V8_wd14 : Hid (WV wd14 ao8 nn W) := V8_wd13.out.below hb
      have X11_wd14 : Hid (Cl wd14 B11 [.int .i64 err, .slice ao11 nn cap11, .int .i64 zz, .int .i64 cc]) := X11_wd13.out.below hb
      have V11_wd14 : Hid (WV wd14 ao11 nn W) := V11_wd13.out.below hb
      clear P_wd13 X8_wd13 V8_wd13 X11_wd13 V11_wd13
      have hswd14 : wd13.heap.size ≤ wd14.heap.size := hb.size
      clear hb
      have zx11 := X11_wd14.out.1
      have cx110 : wd14.cell? ⟨B11, 0, none⟩ = some (.int .i64 err) := X11_wd14.out.2 0 (by simp)
      have cx111 : wd14.cell? ⟨B11, 1, none⟩ = some (.slice ao11 nn cap11) := X11_wd14.out.2 1 (by simp)
      have cx112 : wd14.cell? ⟨B11, 2, none⟩ = some (.int .i64 zz) := X11_wd14.out.2 2 (by simp)
      have cx113 : wd14.cell? ⟨B11, 3, none⟩ = some (.int .i64 cc) := X11_wd14.out.2 3 (by simp)
      go_wp2_with fail
      refine (markAbsRes_any err ao11 nn cap11 W zz cc 1 _ (by omega) (by omega) (by omega) V11_wd14.out).mono ?_
      rintro e wd15 ⟨rfl, hf, hm⟩
      clear zx11 cx110 cx111 cx112 cx113
      have P_wd15 : Hid (LwP w wd15 aoH0 nH0 cH0 aoR0 nR0 cR0 aoA1 nA1 cA1 zA1 cF1 op d ra rb imm h) := P_wd14.out.fv hf (fun k hk => by have := HL11.out _ hk.2 hk.1; omega)
      have X8_wd15 : Hid (Cl wd15 B8 [.int .i64 err, .slice ao8 nn cap8, .int .i64 zz, .int .i64 cc]) := hf.cl X8_wd14.out (fun hk => by have := HL11.out _ hk.2 hk.1; omega)
      have V8_wd15 : Hid (WV wd15 ao8 nn W) := V8_wd14.out.fv HL8.out hf (fun q hk => by have := HL11.out _ hk.2 hk.1; omega)
      have X11_wd15 : Hid (Cl wd15 B11 [.int .i64 err, .slice ao11 nn cap11, .int .i64 zz, .int .i64 cc]) := hf.cl X11_wd14.out (fun hk => by exact NE11.out B11 hk.2 hk.1 rfl)
      clear P_wd14 X8_wd14 V8_wd14 X11_wd14 V11_wd14
      have M11_wd15 : Hid (WV wd15 ao11 nn (mV 1)) := hm
      have hswd15 : wd14.heap.size ≤ wd15.heap.size := hf.size
      clear hf hm
      have zx11 := X11_wd15.out.1
      have cx110 : wd15.cell? ⟨B11, 0, none⟩ = some (.int .i64 err) := X11_wd15.out.2 0 (by simp)
      have cx111 : wd15.cell? ⟨B11, 1, none⟩ = some (.slice ao11 nn cap11) := X11_wd15.out.2 1 (by simp)
      have cx112 : wd15.cell? ⟨B11, 2, none⟩ = some (.int .i64 zz) := X11_wd15.out.2 2 (by simp)
      have cx113 : wd15.cell? ⟨B11, 3, none⟩ = some (.int .i64 cc) := X11_wd15.out.2 3 (by simp)
      go_wp2_with fail
      refine (heldAbsRes_any err ao11 nn cap11 zz cc 1 _ (by omega) (by omega) (by omega) M11_wd15.out).mono ?_
      rintro e wd16 ⟨rfl, hb⟩
      clear zx11 cx110 cx111 cx112 cx113
      have P_wd16 : Hid (LwP w wd16 aoH0 nH0 cH0 aoR0 nR0 cR0 aoA1 nA1 cA1 zA1 cF1 op d ra rb imm h) := P_wd15.out.below hb
      have X8_wd16 : Hid (Cl wd16 B8 [.int .i64 err, .slice ao8 nn cap8, .int .i64 zz, .int .i64 cc]) := X8_wd15.out.below hb
      have V8_wd16 : Hid (WV wd16 ao8 nn W) := V8_wd15.out.below hb
      have X11_wd16 : Hid (Cl wd16 B11 [.int .i64 err, .slice ao11 nn cap11, .int .i64 zz, .int .i64 cc]) := X11_wd15.out.below hb
      have M11_wd16 : Hid (WV wd16 ao11 nn (mV 1)) := M11_wd15.out.below hb
      clear P_wd15 X8_wd15 V8_wd15 X11_wd15 M11_wd15
      have hswd16 : wd15.heap.size ≤ wd16.heap.size := hb.size
      clear hb
      clear X11_wd16 M11_wd16
      have hk1 : decide (1 + 6 * (nn : Int) < 0) = false := by simp; omega
      have hk2 : (1 + 6 * (nn : Int) != 1 + 6 * (nn : Int)) = false := by simp
      have zps := P_wd16.out.S.1
      have cps0 : wd16.cell? ⟨w.heap.size, 0, none⟩ = some (.slice aoH0 nH0 cH0) := P_wd16.out.S.2 0 (by simp)
      have cps1 : wd16.cell? ⟨w.heap.size, 1, none⟩ = some (.slice aoR0 nR0 cR0) := P_wd16.out.S.2 1 (by simp)
      have zpa := P_wd16.out.A.1
      have cpa0 : wd16.cell? ⟨w.heap.size + 1, 0, none⟩ = some (.slice aoA1 nA1 cA1) := P_wd16.out.A.2 0 (by simp)
      have cpa1 : wd16.cell? ⟨w.heap.size + 1, 1, none⟩ = some (.int .i64 zA1) := P_wd16.out.A.2 1 (by simp)
      have cpa2 : wd16.cell? ⟨w.heap.size + 1, 2, none⟩ = some (.int .i64 cF1) := P_wd16.out.A.2 2 (by simp)
      have zpi := P_wd16.out.I.1
      have cpi0 : wd16.cell? ⟨w.heap.size + 1 + 1, 0, none⟩ = some (.int .i64 op) := P_wd16.out.I.2 0 (by simp)
      have cpi1 : wd16.cell? ⟨w.heap.size + 1 + 1, 1, none⟩ = some (.int .i64 d) := P_wd16.out.I.2 1 (by simp)
      have cpi2 : wd16.cell? ⟨w.heap.size + 1 + 1, 2, none⟩ = some (.int .i64 ra) := P_wd16.out.I.2 2 (by simp)
      have cpi3 : wd16.cell? ⟨w.heap.size + 1 + 1, 3, none⟩ = some (.int .i64 rb) := P_wd16.out.I.2 3 (by simp)
      have cpi4 : wd16.cell? ⟨w.heap.size + 1 + 1, 4, none⟩ = some (.int .i64 imm) := P_wd16.out.I.2 4 (by simp)
      have cpi5 : wd16.cell? ⟨w.heap.size + 1 + 1, 5, none⟩ = some (.int .i64 h) := P_wd16.out.I.2 5 (by simp)
      go_upto_region 31 with fail
      clear zps cps0 cps1 zpa cpa0 cpa1 cpa2 zpi cpi0 cpi1 cpi2 cpi3 cpi4 cpi5
      clear hk0 hk1 hk2
      have rps0 : ∀ w', Below wd16.heap.size wd16 w' → w'.cell? ⟨w.heap.size, 0, none⟩ = some (.slice aoH0 nH0 cH0) := fun w' h => (P_wd16.out.S.below h).2 0 (by simp)
      have rps1 : ∀ w', Below wd16.heap.size wd16 w' → w'.cell? ⟨w.heap.size, 1, none⟩ = some (.slice aoR0 nR0 cR0) := fun w' h => (P_wd16.out.S.below h).2 1 (by simp)
      have rpa0 : ∀ w', Below wd16.heap.size wd16 w' → w'.cell? ⟨w.heap.size + 1, 0, none⟩ = some (.slice aoA1 nA1 cA1) := fun w' h => (P_wd16.out.A.below h).2 0 (by simp)
      have rpa1 : ∀ w', Below wd16.heap.size wd16 w' → w'.cell? ⟨w.heap.size + 1, 1, none⟩ = some (.int .i64 zA1) := fun w' h => (P_wd16.out.A.below h).2 1 (by simp)
      have rpa2 : ∀ w', Below wd16.heap.size wd16 w' → w'.cell? ⟨w.heap.size + 1, 2, none⟩ = some (.int .i64 cF1) := fun w' h => (P_wd16.out.A.below h).2 2 (by simp)
      have rpi0 : ∀ w', Below wd16.heap.size wd16 w' → w'.cell? ⟨w.heap.size + 1 + 1, 0, none⟩ = some (.int .i64 op) := fun w' h => (P_wd16.out.I.below h).2 0 (by simp)
      have rpi1 : ∀ w', Below wd16.heap.size wd16 w' → w'.cell? ⟨w.heap.size + 1 + 1, 1, none⟩ = some (.int .i64 d) := fun w' h => (P_wd16.out.I.below h).2 1 (by simp)
      have rpi2 : ∀ w', Below wd16.heap.size wd16 w' → w'.cell? ⟨w.heap.size + 1 + 1, 2, none⟩ = some (.int .i64 ra) := fun w' h => (P_wd16.out.I.below h).2 2 (by simp)
      have rpi3 : ∀ w', Below wd16.heap.size wd16 w' → w'.cell? ⟨w.heap.size + 1 + 1, 3, none⟩ = some (.int .i64 rb) := fun w' h => (P_wd16.out.I.below h).2 3 (by simp)
      have rpi4 : ∀ w', Below wd16.heap.size wd16 w' → w'.cell? ⟨w.heap.size + 1 + 1, 4, none⟩ = some (.int .i64 imm) := fun w' h => (P_wd16.out.I.below h).2 4 (by simp)
      have rpi5 : ∀ w', Below wd16.heap.size wd16 w' → w'.cell? ⟨w.heap.size + 1 + 1, 5, none⟩ = some (.int .i64 h) := fun w' h => (P_wd16.out.I.below h).2 5 (by simp)
      go_cut [15] (fun s wx => ∃ (B : Nat) (ao : Option Addr) (cap : Nat), s = .pointer (some ⟨B, 0, none⟩) ∧ Below wd16.heap.size wd16 wx ∧ wd16.heap.size ≤ B ∧ Cl wx B [.int .i64 err, .slice ao nn cap, .int .i64 zz, .int .i64 cc] ∧ WV wx ao nn W ∧ Lie ao nn wd16.heap.size wx.heap.size ∧ (∀ b, ao = some ⟨b, 0, none⟩ → nn ≠ 0 → b ≠ B))
      case first =>
        refine wp_region_held_drew (S := fun w' => Below wd16.heap.size wd16 w') (by kernel_rfl) (Below.refl _ _).drew (fun hd0 => ?_)
        generalize wd16.drew = v0 at hd0 ⊢
        refine wpAnyH_tk 0 ?k13v rfl ?k13y ?k13r
        case k13y => (intro w hSw; (try dsimp only at hSw); go_simp; try with_reducible rfl)
        try simp only [Act.put, List.getElem_toArray, List.getElem_cons_zero, List.setIfInBounds_toArray, List.set_cons_zero, List.set_cons_succ]
        refine wpAnyH_tk 2 ?k14v rfl ?k14y ?k14r
        case k14y => (intro w hSw; (try dsimp only at hSw); go_simp; try with_reducible rfl)
        try simp only [Act.put, List.getElem_toArray, List.getElem_cons_zero, List.getElem_cons_succ, List.setIfInBounds_toArray, List.set_cons_zero, List.set_cons_succ]
        refine wpAnyH_tk 4 ?k15v rfl ?k15y ?k15r
        case k15y => (intro w hSw; (try dsimp only at hSw); go_simp; try with_reducible rfl)
        try simp only [Act.put, List.getElem_toArray, List.getElem_cons_zero, List.getElem_cons_succ, List.setIfInBounds_toArray, List.set_cons_zero, List.set_cons_succ]
        refine wpAnyH_ready (rs := [1, 7]) (by kernel_rfl) (by simp) ?_
        refine AllReadyH.cons rfl (fun KK hK => ?_) (AllReadyH.cons rfl (fun KK hK => ?_) AllReadyH.nil)
        · go_simp
          refine (toSig_in _ _ _ S0 _ _ _ V0 _ HS0.out.1 HS0.out.2 (hin0.out.below (P_wd16.out.bel.trans (hd0.mono P_wd16.out.bel.size)) (Nat.le_refl _))).mono ?_
          rintro e v1 ⟨bH, bR, _, _, rfl, hb, hcp⟩
          have Bv1 : Below wd16.heap.size wd16 v1 := hd0.trans (hb.mono hd0.size)
          have C0v1 := hcp
          clear hcp
          clear hb
          go_wp2_with fail
          refine hK.out _ _ Bv1 (fun hHeld => ?_)
          clear hK KK
          try simp only [Act.put, List.getElem_toArray, List.getElem_cons_zero, List.getElem_cons_succ, List.setIfInBounds_toArray, List.set_cons_zero, List.set_cons_succ]
          refine wpAnyH_ready (rs := [3, 7]) (by kernel_rfl) (by simp) ?_
          refine AllReadyH.cons rfl (fun KK hK => ?_) (AllReadyH.cons rfl (fun KK hK => ?_) AllReadyH.nil)
          · go_simp
            refine (toAbs_in _ _ _ U1 _ _ _ HS1.out (hin1.out.below (P_wd16.out.bel.trans (Bv1.mono P_wd16.out.bel.size)) (Nat.le_refl _))).mono ?_
            rintro e v2 ⟨bA, _, rfl, hb, hcp⟩
            have Bv2 : Below wd16.heap.size wd16 v2 := Bv1.trans (hb.mono Bv1.size)
            have C0v2 := C0v1.below hb
            have C1v2 := hcp
            clear hcp
            clear hb
            go_wp2_with fail
            refine hK.out _ _ Bv2 (fun hHeld => ?_)
            clear hK KK
            try simp only [Act.put, List.getElem_toArray, List.getElem_cons_zero, List.getElem_cons_succ, List.setIfInBounds_toArray, List.set_cons_zero, List.set_cons_succ]
            refine wpAnyH_ready (rs := [5, 7]) (by kernel_rfl) (by simp) ?_
            refine AllReadyH.cons rfl (fun KK hK => ?_) (AllReadyH.cons rfl (fun KK hK => ?_) AllReadyH.nil)
            · go_simp
              refine (toIns_any op d ra rb imm h _).mono ?_
              rintro e v3 ⟨rfl, hb⟩
              have Bv3 : Below wd16.heap.size wd16 v3 := Bv2.trans (hb.mono Bv2.size)
              have C0v3 := C0v2.below hb
              have C1v3 := C1v2.below hb C1v2.lt
              clear hb
              go_wp2_with fail
              refine hK.out _ _ Bv3 (fun hHeld => ?_)
              clear hK KK
              try simp only [Act.put, List.getElem_toArray, List.getElem_cons_zero, List.getElem_cons_succ, List.setIfInBounds_toArray, List.set_cons_zero, List.set_cons_succ]
              refine wpAnyH_ready (rs := [6, 7]) (by kernel_rfl) (by simp) ?_
              refine AllReadyH.cons rfl (fun KK hK => ?_) (AllReadyH.cons rfl (fun KK hK => ?_) AllReadyH.nil)
              · go_simp
                refine (implTransfer_any _ _ _ S0 _ _ _ V0 _ _ _ U1 _ _ _ _ _ _ _ _ _ HS0.out.1 HS0.out.2 HS1.out C0v3 C1v3).mono ?_
                intro e v4 hx
                obtain ⟨ao, cap, rfl, hwv, hli, hb⟩ := tr_view HP.out hx
                clear hx
                have Bv4 : Below wd16.heap.size wd16 v4 := Bv3.trans (hb.mono Bv3.size)
                have hlv4 : Lie ao nn wd16.heap.size v4.heap.size := fun b e n0 => by have := hli b e n0; have := Bv3.size; omega
                clear hli
                clear hb
                go_wp2_with fail
                refine hK.out _ _ Bv4 (fun hHeld => ?_)
                clear hK KK
                try simp only [Act.put, List.getElem_toArray, List.getElem_cons_zero, List.getElem_cons_succ, List.setIfInBounds_toArray, List.set_cons_zero, List.set_cons_succ]
                refine wpAnyH_ready (rs := [7]) (by kernel_rfl) (by simp) ?_
                refine AllReadyH.cons rfl (fun KK hK => ?_) AllReadyH.nil
                go_simp
                obtain ⟨v5, hx, hb, Xv5, Fv5⟩ : ∃ y, v4.alloc (.cells #[.int .i64 0, .slice none 0 0, .int .i64 0, .int .i64 0] 77) = y ∧ Below v4.heap.size v4 y ∧ Cl y v4.heap.size [.int .i64 0, .slice none 0 0, .int .i64 0, .int .i64 0] ∧ (∀ i, y.frozen? ⟨v4.heap.size, i, none⟩ = false) := ⟨_, rfl, (Below.refl _ _).alloc (Nat.le_refl _) _, Cl.new, fun i => by simp [go_sem]⟩
                rw [hx]
                clear hx
                have Bv5 : Below wd16.heap.size wd16 v5 := Bv4.trans (hb.mono Bv4.size)
                have wvv5 := hwv.below hb
                have hlv5 : Lie ao nn wd16.heap.size v5.heap.size := fun b e n0 => by have := hlv4 b e n0; have := hb.size; omega
                have lnv5 : Lie ao nn wd16.heap.size v4.heap.size := hlv4
                have Nv5 : wd16.heap.size ≤ v4.heap.size := Bv4.size
                clear hb
                generalize v4.heap.size = nb at *
                refine hK.out _ _ Bv5 (fun hHeld => ?_)
                clear hK KK
                try simp only [Act.put, List.getElem_toArray, List.getElem_cons_zero, List.getElem_cons_succ, List.setIfInBounds_toArray, List.set_cons_zero, List.set_cons_succ]
                refine wpAnyH_ready (rs := [8]) (by kernel_rfl) (by simp) ?_
                refine AllReadyH.cons rfl (fun KK hK => ?_) AllReadyH.nil
                obtain ⟨c0, c1, c2, c3⟩ := clg4 Xv5
                have cf := Fv5
                have cz := Xv5.1
                go_simp
                have hne : ∀ b, ao = some ⟨b, 0, none⟩ → nn ≠ 0 → b ≠ nb := fun b e n0 => by have := lnv5 b e n0; omega
                obtain ⟨y, hy, hby, hcy, hay⟩ : ∃ y, (((v5.setCell ⟨nb, 0, none⟩ (.int .i64 err)).setCell ⟨nb, 1, none⟩ (.slice ao nn cap)).setCell ⟨nb, 2, none⟩ (.int .i64 zz)).setCell ⟨nb, 3, none⟩ (.int .i64 cc) = y ∧ Below wd16.heap.size wd16 y ∧ Cl y nb [.int .i64 err, .slice ao nn cap, .int .i64 zz, .int .i64 cc] ∧ WV y ao nn W := ⟨_, rfl, (((Bv5.setCell (p := ⟨nb, 0, none⟩) Nv5 _).setCell (p := ⟨nb, 1, none⟩) Nv5 _).setCell (p := ⟨nb, 2, none⟩) Nv5 _).setCell (p := ⟨nb, 3, none⟩) Nv5 _, cl4_put Xv5, wv_put wvv5 hne⟩
                have hsz : y.heap.size = v5.heap.size := by rw [← hy]; simp
                rw [hy]
                have hly : Lie ao nn wd16.heap.size y.heap.size := by rw [hsz]; exact hlv5
                clear hy hsz c0 c1 c2 c3 cf cz
                refine hK.out _ _ hby (fun hHeld => ?_)
                clear hK KK
                refine wpAnyH_done (by kernel_rfl) ?_ _
                clear rps0 rps1 rpa0 rpa1 rpa2 rpi0 rpi1 rpi2 rpi3 rpi4 rpi5
                go_wp2_with fail
                go_meet
                exact ⟨nb, ao, cap, rfl, hby, Nv5, hcy, hay, hly, hne⟩
              · go_simp
                obtain ⟨v6, hx, hb, Xv6, Fv6⟩ : ∃ y, v3.alloc (.cells #[.int .i64 0, .slice none 0 0, .int .i64 0, .int .i64 0] 77) = y ∧ Below v3.heap.size v3 y ∧ Cl y v3.heap.size [.int .i64 0, .slice none 0 0, .int .i64 0, .int .i64 0] ∧ (∀ i, y.frozen? ⟨v3.heap.size, i, none⟩ = false) := ⟨_, rfl, (Below.refl _ _).alloc (Nat.le_refl _) _, Cl.new, fun i => by simp [go_sem]⟩
                rw [hx]
                clear hx
                have Bv6 : Below wd16.heap.size wd16 v6 := Bv3.trans (hb.mono Bv3.size)
                have C0v6 := C0v3.below hb
                have C1v6 := C1v3.below hb C1v3.lt
                have Nv6 : wd16.heap.size ≤ v3.heap.size := Bv3.size
                clear hb
                generalize v3.heap.size = nb at *
                refine hK.out _ _ Bv6 (fun hHeld => ?_)
                clear hK KK
                try simp only [Act.put, List.getElem_toArray, List.getElem_cons_zero, List.getElem_cons_succ, List.setIfInBounds_toArray, List.set_cons_zero, List.set_cons_succ]
                refine wpAnyH_ready (rs := [6]) (by kernel_rfl) (by simp) ?_
                refine AllReadyH.cons rfl (fun KK hK => ?_) AllReadyH.nil
                have hnbX := Xv6.1
                go_simp
                refine (implTransfer_any _ _ _ S0 _ _ _ V0 _ _ _ U1 _ _ _ _ _ _ _ _ _ HS0.out.1 HS0.out.2 HS1.out C0v6 C1v6).mono ?_
                intro e v7 hx
                obtain ⟨ao, cap, rfl, hwv, hli, hb⟩ := tr_view HP.out hx
                have hliX := hli
                clear hx
                have Bv7 : Below wd16.heap.size wd16 v7 := Bv6.trans (hb.mono Bv6.size)
                have hlv7 : Lie ao nn wd16.heap.size v7.heap.size := fun b e n0 => by have := hli b e n0; have := Bv6.size; omega
                clear hli
                have Xv7 := Xv6.below hb
                have Fv7 : ∀ i, v7.frozen? ⟨nb, i, none⟩ = false := fun i => (hb.frozen (p := ⟨nb, i, none⟩) Xv6.1).trans (Fv6 i)
                clear hb
                go_wp2_with fail
                refine hK.out _ _ Bv7 (fun hHeld => ?_)
                clear hK KK
                try simp only [Act.put, List.getElem_toArray, List.getElem_cons_zero, List.getElem_cons_succ, List.setIfInBounds_toArray, List.set_cons_zero, List.set_cons_succ]
                refine wpAnyH_ready (rs := [8]) (by kernel_rfl) (by simp) ?_
                refine AllReadyH.cons rfl (fun KK hK => ?_) AllReadyH.nil
                obtain ⟨c0, c1, c2, c3⟩ := clg4 Xv7
                have cf := Fv7
                have cz := Xv7.1
                go_simp
                have hne : ∀ b, ao = some ⟨b, 0, none⟩ → nn ≠ 0 → b ≠ nb := fun b e n0 => by have := hliX b e n0; have := hnbX; omega
                obtain ⟨y, hy, hby, hcy, hay⟩ : ∃ y, (((v7.setCell ⟨nb, 0, none⟩ (.int .i64 err)).setCell ⟨nb, 1, none⟩ (.slice ao nn cap)).setCell ⟨nb, 2, none⟩ (.int .i64 zz)).setCell ⟨nb, 3, none⟩ (.int .i64 cc) = y ∧ Below wd16.heap.size wd16 y ∧ Cl y nb [.int .i64 err, .slice ao nn cap, .int .i64 zz, .int .i64 cc] ∧ WV y ao nn W := ⟨_, rfl, (((Bv7.setCell (p := ⟨nb, 0, none⟩) Nv6 _).setCell (p := ⟨nb, 1, none⟩) Nv6 _).setCell (p := ⟨nb, 2, none⟩) Nv6 _).setCell (p := ⟨nb, 3, none⟩) Nv6 _, cl4_put Xv7, wv_put hwv hne⟩
                have hsz : y.heap.size = v7.heap.size := by rw [← hy]; simp
                rw [hy]
                have hly : Lie ao nn wd16.heap.size y.heap.size := by rw [hsz]; exact hlv7
                clear hy hsz c0 c1 c2 c3 cf cz
                refine hK.out _ _ hby (fun hHeld => ?_)
                clear hK KK
                refine wpAnyH_done (by kernel_rfl) ?_ _
                clear rps0 rps1 rpa0 rpa1 rpa2 rpi0 rpi1 rpi2 rpi3 rpi4 rpi5
                go_wp2_with fail
                go_meet
                exact ⟨nb, ao, cap, rfl, hby, Nv6, hcy, hay, hly, hne⟩
            · go_simp
              obtain ⟨v8, hx, hb, Xv8, Fv8⟩ : ∃ y, v2.alloc (.cells #[.int .i64 0, .slice none 0 0, .int .i64 0, .int .i64 0] 77) = y ∧ Below v2.heap.size v2 y ∧ Cl y v2.heap.size [.int .i64 0, .slice none 0 0, .int .i64 0, .int .i64 0] ∧ (∀ i, y.frozen? ⟨v2.heap.size, i, none⟩ = false) := ⟨_, rfl, (Below.refl _ _).alloc (Nat.le_refl _) _, Cl.new, fun i => by simp [go_sem]⟩
              rw [hx]
              clear hx
              have Bv8 : Below wd16.heap.size wd16 v8 := Bv2.trans (hb.mono Bv2.size)
              have C0v8 := C0v2.below hb
              have C1v8 := C1v2.below hb C1v2.lt
              have Nv8 : wd16.heap.size ≤ v2.heap.size := Bv2.size
              clear hb
              generalize v2.heap.size = nb at *
              refine hK.out _ _ Bv8 (fun hHeld => ?_)
              clear hK KK
              try simp only [Act.put, List.getElem_toArray, List.getElem_cons_zero, List.getElem_cons_succ, List.setIfInBounds_toArray, List.set_cons_zero, List.set_cons_succ]
              refine wpAnyH_ready (rs := [5]) (by kernel_rfl) (by simp) ?_
              refine AllReadyH.cons rfl (fun KK hK => ?_) AllReadyH.nil
              go_simp
              refine (toIns_any op d ra rb imm h _).mono ?_
              rintro e v9 ⟨rfl, hb⟩
              have Bv9 : Below wd16.heap.size wd16 v9 := Bv8.trans (hb.mono Bv8.size)
              have C0v9 := C0v8.below hb
              have C1v9 := C1v8.below hb C1v8.lt
              have Xv9 := Xv8.below hb
              have Fv9 : ∀ i, v9.frozen? ⟨nb, i, none⟩ = false := fun i => (hb.frozen (p := ⟨nb, i, none⟩) Xv8.1).trans (Fv8 i)
              clear hb
              go_wp2_with fail
              refine hK.out _ _ Bv9 (fun hHeld => ?_)
              clear hK KK
              try simp only [Act.put, List.getElem_toArray, List.getElem_cons_zero, List.getElem_cons_succ, List.setIfInBounds_toArray, List.set_cons_zero, List.set_cons_succ]
              refine wpAnyH_ready (rs := [6]) (by kernel_rfl) (by simp) ?_
              refine AllReadyH.cons rfl (fun KK hK => ?_) AllReadyH.nil
              have hnbX := Xv9.1
              go_simp
              refine (implTransfer_any _ _ _ S0 _ _ _ V0 _ _ _ U1 _ _ _ _ _ _ _ _ _ HS0.out.1 HS0.out.2 HS1.out C0v9 C1v9).mono ?_
              intro e v10 hx
              obtain ⟨ao, cap, rfl, hwv, hli, hb⟩ := tr_view HP.out hx
              have hliX := hli
              clear hx
              have Bv10 : Below wd16.heap.size wd16 v10 := Bv9.trans (hb.mono Bv9.size)
              have hlv10 : Lie ao nn wd16.heap.size v10.heap.size := fun b e n0 => by have := hli b e n0; have := Bv9.size; omega
              clear hli
              have Xv10 := Xv9.below hb
              have Fv10 : ∀ i, v10.frozen? ⟨nb, i, none⟩ = false := fun i => (hb.frozen (p := ⟨nb, i, none⟩) Xv9.1).trans (Fv9 i)
              clear hb
              go_wp2_with fail
              refine hK.out _ _ Bv10 (fun hHeld => ?_)
              clear hK KK
              try simp only [Act.put, List.getElem_toArray, List.getElem_cons_zero, List.getElem_cons_succ, List.setIfInBounds_toArray, List.set_cons_zero, List.set_cons_succ]
              refine wpAnyH_ready (rs := [8]) (by kernel_rfl) (by simp) ?_
              refine AllReadyH.cons rfl (fun KK hK => ?_) AllReadyH.nil
              obtain ⟨c0, c1, c2, c3⟩ := clg4 Xv10
              have cf := Fv10
              have cz := Xv10.1
              go_simp
              have hne : ∀ b, ao = some ⟨b, 0, none⟩ → nn ≠ 0 → b ≠ nb := fun b e n0 => by have := hliX b e n0; have := hnbX; omega
              obtain ⟨y, hy, hby, hcy, hay⟩ : ∃ y, (((v10.setCell ⟨nb, 0, none⟩ (.int .i64 err)).setCell ⟨nb, 1, none⟩ (.slice ao nn cap)).setCell ⟨nb, 2, none⟩ (.int .i64 zz)).setCell ⟨nb, 3, none⟩ (.int .i64 cc) = y ∧ Below wd16.heap.size wd16 y ∧ Cl y nb [.int .i64 err, .slice ao nn cap, .int .i64 zz, .int .i64 cc] ∧ WV y ao nn W := ⟨_, rfl, (((Bv10.setCell (p := ⟨nb, 0, none⟩) Nv8 _).setCell (p := ⟨nb, 1, none⟩) Nv8 _).setCell (p := ⟨nb, 2, none⟩) Nv8 _).setCell (p := ⟨nb, 3, none⟩) Nv8 _, cl4_put Xv10, wv_put hwv hne⟩
              have hsz : y.heap.size = v10.heap.size := by rw [← hy]; simp
              rw [hy]
              have hly : Lie ao nn wd16.heap.size y.heap.size := by rw [hsz]; exact hlv10
              clear hy hsz c0 c1 c2 c3 cf cz
              refine hK.out _ _ hby (fun hHeld => ?_)
              clear hK KK
              refine wpAnyH_done (by kernel_rfl) ?_ _
              clear rps0 rps1 rpa0 rpa1 rpa2 rpi0 rpi1 rpi2 rpi3 rpi4 rpi5
              go_wp2_with fail
              go_meet
              exact ⟨nb, ao, cap, rfl, hby, Nv8, hcy, hay, hly, hne⟩
          · go_simp
            obtain ⟨v11, hx, hb, Xv11, Fv11⟩ : ∃ y, v1.alloc (.cells #[.int .i64 0, .slice none 0 0, .int .i64 0, .int .i64 0] 77) = y ∧ Below v1.heap.size v1 y ∧ Cl y v1.heap.size [.int .i64 0, .slice none 0 0, .int .i64 0, .int .i64 0] ∧ (∀ i, y.frozen? ⟨v1.heap.size, i, none⟩ = false) := ⟨_, rfl, (Below.refl _ _).alloc (Nat.le_refl _) _, Cl.new, fun i => by simp [go_sem]⟩
            rw [hx]
            clear hx
            have Bv11 : Below wd16.heap.size wd16 v11 := Bv1.trans (hb.mono Bv1.size)
            have C0v11 := C0v1.below hb
            have Nv11 : wd16.heap.size ≤ v1.heap.size := Bv1.size
            clear hb
            generalize v1.heap.size = nb at *
            refine hK.out _ _ Bv11 (fun hHeld => ?_)
            clear hK KK
            try simp only [Act.put, List.getElem_toArray, List.getElem_cons_zero, List.getElem_cons_succ, List.setIfInBounds_toArray, List.set_cons_zero, List.set_cons_succ]
            refine wpAnyH_ready (rs := [3]) (by kernel_rfl) (by simp) ?_
            refine AllReadyH.cons rfl (fun KK hK => ?_) AllReadyH.nil
            go_simp
            refine (toAbs_in _ _ _ U1 _ _ _ HS1.out (hin1.out.below (P_wd16.out.bel.trans (Bv11.mono P_wd16.out.bel.size)) (Nat.le_refl _))).mono ?_
            rintro e v12 ⟨bA, _, rfl, hb, hcp⟩
            have Bv12 : Below wd16.heap.size wd16 v12 := Bv11.trans (hb.mono Bv11.size)
            have C0v12 := C0v11.below hb
            have C1v12 := hcp
            clear hcp
            have Xv12 := Xv11.below hb
            have Fv12 : ∀ i, v12.frozen? ⟨nb, i, none⟩ = false := fun i => (hb.frozen (p := ⟨nb, i, none⟩) Xv11.1).trans (Fv11 i)
            clear hb
            go_wp2_with fail
            refine hK.out _ _ Bv12 (fun hHeld => ?_)
            clear hK KK
            try simp only [Act.put, List.getElem_toArray, List.getElem_cons_zero, List.getElem_cons_succ, List.setIfInBounds_toArray, List.set_cons_zero, List.set_cons_succ]
            refine wpAnyH_ready (rs := [5]) (by kernel_rfl) (by simp) ?_
            refine AllReadyH.cons rfl (fun KK hK => ?_) AllReadyH.nil
            go_simp
            refine (toIns_any op d ra rb imm h _).mono ?_
            rintro e v13 ⟨rfl, hb⟩
            have Bv13 : Below wd16.heap.size wd16 v13 := Bv12.trans (hb.mono Bv12.size)
            have C0v13 := C0v12.below hb
            have C1v13 := C1v12.below hb C1v12.lt
            have Xv13 := Xv12.below hb
            have Fv13 : ∀ i, v13.frozen? ⟨nb, i, none⟩ = false := fun i => (hb.frozen (p := ⟨nb, i, none⟩) Xv12.1).trans (Fv12 i)
            clear hb
            go_wp2_with fail
            refine hK.out _ _ Bv13 (fun hHeld => ?_)
            clear hK KK
            try simp only [Act.put, List.getElem_toArray, List.getElem_cons_zero, List.getElem_cons_succ, List.setIfInBounds_toArray, List.set_cons_zero, List.set_cons_succ]
            refine wpAnyH_ready (rs := [6]) (by kernel_rfl) (by simp) ?_
            refine AllReadyH.cons rfl (fun KK hK => ?_) AllReadyH.nil
            have hnbX := Xv13.1
            go_simp
            refine (implTransfer_any _ _ _ S0 _ _ _ V0 _ _ _ U1 _ _ _ _ _ _ _ _ _ HS0.out.1 HS0.out.2 HS1.out C0v13 C1v13).mono ?_
            intro e v14 hx
            obtain ⟨ao, cap, rfl, hwv, hli, hb⟩ := tr_view HP.out hx
            have hliX := hli
            clear hx
            have Bv14 : Below wd16.heap.size wd16 v14 := Bv13.trans (hb.mono Bv13.size)
            have hlv14 : Lie ao nn wd16.heap.size v14.heap.size := fun b e n0 => by have := hli b e n0; have := Bv13.size; omega
            clear hli
            have Xv14 := Xv13.below hb
            have Fv14 : ∀ i, v14.frozen? ⟨nb, i, none⟩ = false := fun i => (hb.frozen (p := ⟨nb, i, none⟩) Xv13.1).trans (Fv13 i)
            clear hb
            go_wp2_with fail
            refine hK.out _ _ Bv14 (fun hHeld => ?_)
            clear hK KK
            try simp only [Act.put, List.getElem_toArray, List.getElem_cons_zero, List.getElem_cons_succ, List.setIfInBounds_toArray, List.set_cons_zero, List.set_cons_succ]
            refine wpAnyH_ready (rs := [8]) (by kernel_rfl) (by simp) ?_
            refine AllReadyH.cons rfl (fun KK hK => ?_) AllReadyH.nil
            obtain ⟨c0, c1, c2, c3⟩ := clg4 Xv14
            have cf := Fv14
            have cz := Xv14.1
            go_simp
            have hne : ∀ b, ao = some ⟨b, 0, none⟩ → nn ≠ 0 → b ≠ nb := fun b e n0 => by have := hliX b e n0; have := hnbX; omega
            obtain ⟨y, hy, hby, hcy, hay⟩ : ∃ y, (((v14.setCell ⟨nb, 0, none⟩ (.int .i64 err)).setCell ⟨nb, 1, none⟩ (.slice ao nn cap)).setCell ⟨nb, 2, none⟩ (.int .i64 zz)).setCell ⟨nb, 3, none⟩ (.int .i64 cc) = y ∧ Below wd16.heap.size wd16 y ∧ Cl y nb [.int .i64 err, .slice ao nn cap, .int .i64 zz, .int .i64 cc] ∧ WV y ao nn W := ⟨_, rfl, (((Bv14.setCell (p := ⟨nb, 0, none⟩) Nv11 _).setCell (p := ⟨nb, 1, none⟩) Nv11 _).setCell (p := ⟨nb, 2, none⟩) Nv11 _).setCell (p := ⟨nb, 3, none⟩) Nv11 _, cl4_put Xv14, wv_put hwv hne⟩
            have hsz : y.heap.size = v14.heap.size := by rw [← hy]; simp
            rw [hy]
            have hly : Lie ao nn wd16.heap.size y.heap.size := by rw [hsz]; exact hlv14
            clear hy hsz c0 c1 c2 c3 cf cz
            refine hK.out _ _ hby (fun hHeld => ?_)
            clear hK KK
            refine wpAnyH_done (by kernel_rfl) ?_ _
            clear rps0 rps1 rpa0 rpa1 rpa2 rpi0 rpi1 rpi2 rpi3 rpi4 rpi5
            go_wp2_with fail
            go_meet
            exact ⟨nb, ao, cap, rfl, hby, Nv11, hcy, hay, hly, hne⟩
        · go_simp
          obtain ⟨v15, hx, hb, Xv15, Fv15⟩ : ∃ y, v0.alloc (.cells #[.int .i64 0, .slice none 0 0, .int .i64 0, .int .i64 0] 77) = y ∧ Below v0.heap.size v0 y ∧ Cl y v0.heap.size [.int .i64 0, .slice none 0 0, .int .i64 0, .int .i64 0] ∧ (∀ i, y.frozen? ⟨v0.heap.size, i, none⟩ = false) := ⟨_, rfl, (Below.refl _ _).alloc (Nat.le_refl _) _, Cl.new, fun i => by simp [go_sem]⟩
          rw [hx]
          clear hx
          have Bv15 : Below wd16.heap.size wd16 v15 := hd0.trans (hb.mono hd0.size)
          have Nv15 : wd16.heap.size ≤ v0.heap.size := hd0.size
          clear hb
          generalize v0.heap.size = nb at *
          refine hK.out _ _ Bv15 (fun hHeld => ?_)
          clear hK KK
          try simp only [Act.put, List.getElem_toArray, List.getElem_cons_zero, List.getElem_cons_succ, List.setIfInBounds_toArray, List.set_cons_zero, List.set_cons_succ]
          refine wpAnyH_ready (rs := [1]) (by kernel_rfl) (by simp) ?_
          refine AllReadyH.cons rfl (fun KK hK => ?_) AllReadyH.nil
          go_simp
          refine (toSig_in _ _ _ S0 _ _ _ V0 _ HS0.out.1 HS0.out.2 (hin0.out.below (P_wd16.out.bel.trans (Bv15.mono P_wd16.out.bel.size)) (Nat.le_refl _))).mono ?_
          rintro e v16 ⟨bH, bR, _, _, rfl, hb, hcp⟩
          have Bv16 : Below wd16.heap.size wd16 v16 := Bv15.trans (hb.mono Bv15.size)
          have C0v16 := hcp
          clear hcp
          have Xv16 := Xv15.below hb
          have Fv16 : ∀ i, v16.frozen? ⟨nb, i, none⟩ = false := fun i => (hb.frozen (p := ⟨nb, i, none⟩) Xv15.1).trans (Fv15 i)
          clear hb
          go_wp2_with fail
          refine hK.out _ _ Bv16 (fun hHeld => ?_)
          clear hK KK
          try simp only [Act.put, List.getElem_toArray, List.getElem_cons_zero, List.getElem_cons_succ, List.setIfInBounds_toArray, List.set_cons_zero, List.set_cons_succ]
          refine wpAnyH_ready (rs := [3]) (by kernel_rfl) (by simp) ?_
          refine AllReadyH.cons rfl (fun KK hK => ?_) AllReadyH.nil
          go_simp
          refine (toAbs_in _ _ _ U1 _ _ _ HS1.out (hin1.out.below (P_wd16.out.bel.trans (Bv16.mono P_wd16.out.bel.size)) (Nat.le_refl _))).mono ?_
          rintro e v17 ⟨bA, _, rfl, hb, hcp⟩
          have Bv17 : Below wd16.heap.size wd16 v17 := Bv16.trans (hb.mono Bv16.size)
          have C0v17 := C0v16.below hb
          have C1v17 := hcp
          clear hcp
          have Xv17 := Xv16.below hb
          have Fv17 : ∀ i, v17.frozen? ⟨nb, i, none⟩ = false := fun i => (hb.frozen (p := ⟨nb, i, none⟩) Xv16.1).trans (Fv16 i)
          clear hb
          go_wp2_with fail
          refine hK.out _ _ Bv17 (fun hHeld => ?_)
          clear hK KK
          try simp only [Act.put, List.getElem_toArray, List.getElem_cons_zero, List.getElem_cons_succ, List.setIfInBounds_toArray, List.set_cons_zero, List.set_cons_succ]
          refine wpAnyH_ready (rs := [5]) (by kernel_rfl) (by simp) ?_
          refine AllReadyH.cons rfl (fun KK hK => ?_) AllReadyH.nil
          go_simp
          refine (toIns_any op d ra rb imm h _).mono ?_
          rintro e v18 ⟨rfl, hb⟩
          have Bv18 : Below wd16.heap.size wd16 v18 := Bv17.trans (hb.mono Bv17.size)
          have C0v18 := C0v17.below hb
          have C1v18 := C1v17.below hb C1v17.lt
          have Xv18 := Xv17.below hb
          have Fv18 : ∀ i, v18.frozen? ⟨nb, i, none⟩ = false := fun i => (hb.frozen (p := ⟨nb, i, none⟩) Xv17.1).trans (Fv17 i)
          clear hb
          go_wp2_with fail
          refine hK.out _ _ Bv18 (fun hHeld => ?_)
          clear hK KK
          try simp only [Act.put, List.getElem_toArray, List.getElem_cons_zero, List.getElem_cons_succ, List.setIfInBounds_toArray, List.set_cons_zero, List.set_cons_succ]
          refine wpAnyH_ready (rs := [6]) (by kernel_rfl) (by simp) ?_
          refine AllReadyH.cons rfl (fun KK hK => ?_) AllReadyH.nil
          have hnbX := Xv18.1
          go_simp
          refine (implTransfer_any _ _ _ S0 _ _ _ V0 _ _ _ U1 _ _ _ _ _ _ _ _ _ HS0.out.1 HS0.out.2 HS1.out C0v18 C1v18).mono ?_
          intro e v19 hx
          obtain ⟨ao, cap, rfl, hwv, hli, hb⟩ := tr_view HP.out hx
          have hliX := hli
          clear hx
          have Bv19 : Below wd16.heap.size wd16 v19 := Bv18.trans (hb.mono Bv18.size)
          have hlv19 : Lie ao nn wd16.heap.size v19.heap.size := fun b e n0 => by have := hli b e n0; have := Bv18.size; omega
          clear hli
          have Xv19 := Xv18.below hb
          have Fv19 : ∀ i, v19.frozen? ⟨nb, i, none⟩ = false := fun i => (hb.frozen (p := ⟨nb, i, none⟩) Xv18.1).trans (Fv18 i)
          clear hb
          go_wp2_with fail
          refine hK.out _ _ Bv19 (fun hHeld => ?_)
          clear hK KK
          try simp only [Act.put, List.getElem_toArray, List.getElem_cons_zero, List.getElem_cons_succ, List.setIfInBounds_toArray, List.set_cons_zero, List.set_cons_succ]
          refine wpAnyH_ready (rs := [8]) (by kernel_rfl) (by simp) ?_
          refine AllReadyH.cons rfl (fun KK hK => ?_) AllReadyH.nil
          obtain ⟨c0, c1, c2, c3⟩ := clg4 Xv19
          have cf := Fv19
          have cz := Xv19.1
          go_simp
          have hne : ∀ b, ao = some ⟨b, 0, none⟩ → nn ≠ 0 → b ≠ nb := fun b e n0 => by have := hliX b e n0; have := hnbX; omega
          obtain ⟨y, hy, hby, hcy, hay⟩ : ∃ y, (((v19.setCell ⟨nb, 0, none⟩ (.int .i64 err)).setCell ⟨nb, 1, none⟩ (.slice ao nn cap)).setCell ⟨nb, 2, none⟩ (.int .i64 zz)).setCell ⟨nb, 3, none⟩ (.int .i64 cc) = y ∧ Below wd16.heap.size wd16 y ∧ Cl y nb [.int .i64 err, .slice ao nn cap, .int .i64 zz, .int .i64 cc] ∧ WV y ao nn W := ⟨_, rfl, (((Bv19.setCell (p := ⟨nb, 0, none⟩) Nv15 _).setCell (p := ⟨nb, 1, none⟩) Nv15 _).setCell (p := ⟨nb, 2, none⟩) Nv15 _).setCell (p := ⟨nb, 3, none⟩) Nv15 _, cl4_put Xv19, wv_put hwv hne⟩
          have hsz : y.heap.size = v19.heap.size := by rw [← hy]; simp
          rw [hy]
          have hly : Lie ao nn wd16.heap.size y.heap.size := by rw [hsz]; exact hlv19
          clear hy hsz c0 c1 c2 c3 cf cz
          refine hK.out _ _ hby (fun hHeld => ?_)
          clear hK KK
          refine wpAnyH_done (by kernel_rfl) ?_ _
          clear rps0 rps1 rpa0 rpa1 rpa2 rpi0 rpi1 rpi2 rpi3 rpi4 rpi5
          go_wp2_with fail
          go_meet
          exact ⟨nb, ao, cap, rfl, hby, Nv15, hcy, hay, hly, hne⟩
      case rest =>
        clear rps0 rps1 rpa0 rpa1 rpa2 rpi0 rpi1 rpi2 rpi3 rpi4 rpi5
        revert wc
        intro wd17 hcut
        obtain ⟨B15, ao15, cap15, rfl, hb, hB15, hc, hv, hl15, hne⟩ := hcut
        have P_wd17 : Hid (LwP w wd17 aoH0 nH0 cH0 aoR0 nR0 cR0 aoA1 nA1 cA1 zA1 cF1 op d ra rb imm h) := P_wd16.out.below hb
        have X8_wd17 : Hid (Cl wd17 B8 [.int .i64 err, .slice ao8 nn cap8, .int .i64 zz, .int .i64 cc]) := X8_wd16.out.below hb
        have V8_wd17 : Hid (WV wd17 ao8 nn W) := V8_wd16.out.below hb
        clear P_wd16 X8_wd16 V8_wd16
        have X15_wd17 : Hid (Cl wd17 B15 [.int .i64 err, .slice ao15 nn cap15, .int .i64 zz, .int .i64 cc]) := hc
        have V15_wd17 : Hid (WV wd17 ao15 nn W) := hv
        have hswd17 : wd16.heap.size ≤ wd17.heap.size := hb.size
        have hx15 : B15 < wd17.heap.size := hc.1
        have HL15 : Hid (Lie ao15 nn wd16.heap.size wd17.heap.size) := hl15
        have NE15 : Hid (∀ b, ao15 = some ⟨b, 0, none⟩ → nn ≠ 0 → b ≠ B15) := hne
        clear hb hc hv hne hl15
        have zx15 := X15_wd17.out.1
        have cx150 : wd17.cell? ⟨B15, 0, none⟩ = some (.int .i64 err) := X15_wd17.out.2 0 (by simp)
        have cx151 : wd17.cell? ⟨B15, 1, none⟩ = some (.slice ao15 nn cap15) := X15_wd17.out.2 1 (by simp)
        have cx152 : wd17.cell? ⟨B15, 2, none⟩ = some (.int .i64 zz) := X15_wd17.out.2 2 (by simp)
        have cx153 : wd17.cell? ⟨B15, 3, none⟩ = some (.int .i64 cc) := X15_wd17.out.2 3 (by simp)
        have zx8 := X8_wd17.out.1
        have cx80 : wd17.cell? ⟨B8, 0, none⟩ = some (.int .i64 err) := X8_wd17.out.2 0 (by simp)
        have cx81 : wd17.cell? ⟨B8, 1, none⟩ = some (.slice ao8 nn cap8) := X8_wd17.out.2 1 (by simp)
        have cx82 : wd17.cell? ⟨B8, 2, none⟩ = some (.int .i64 zz) := X8_wd17.out.2 2 (by simp)
        have cx83 : wd17.cell? ⟨B8, 3, none⟩ = some (.int .i64 cc) := X8_wd17.out.2 3 (by simp)
        go_wp2_with fail
        refine (eqAbsRes_view err _ _ nn _ _ W zz cc _ (by omega) V15_wd17.out V8_wd17.out).mono ?_
        rintro e wd18 ⟨rfl, hb⟩
        clear zx15 cx150 cx151 cx152 cx153 zx8 cx80 cx81 cx82 cx83
        have P_wd18 : Hid (LwP w wd18 aoH0 nH0 cH0 aoR0 nR0 cR0 aoA1 nA1 cA1 zA1 cF1 op d ra rb imm h) := P_wd17.out.below hb
        have X8_wd18 : Hid (Cl wd18 B8 [.int .i64 err, .slice ao8 nn cap8, .int .i64 zz, .int .i64 cc]) := X8_wd17.out.below hb
        have V8_wd18 : Hid (WV wd18 ao8 nn W) := V8_wd17.out.below hb
        have X15_wd18 : Hid (Cl wd18 B15 [.int .i64 err, .slice ao15 nn cap15, .int .i64 zz, .int .i64 cc]) := X15_wd17.out.below hb
        have V15_wd18 : Hid (WV wd18 ao15 nn W) := V15_wd17.out.below hb
        clear P_wd17 X8_wd17 V8_wd17 X15_wd17 V15_wd17
        have hswd18 : wd17.heap.size ≤ wd18.heap.size := hb.size
        clear hb
        go_wp2
        go_ret
        exact ⟨rfl, P_wd18.out.bel⟩
end Go.Proofs.Ytjnooklalbcamaa
