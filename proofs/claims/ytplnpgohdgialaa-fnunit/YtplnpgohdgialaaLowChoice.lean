import Derived.Test.YtplnpgohdgialaaOfLowLab
/- Choices and loops lowered: the program's word. -/
namespace Go.Proofs.Ytplnpgohdgialaa
open Go.RowKit
/-- addBlock's contract over one range. -/
def AddL (w0 : World) (lb : Nat) (L : Nat → SV) (i te : Nat) (tv : Value) : Prop :=
  ∀ (w : World) (v : Value) (xs : List NV), Below lb w0 w → LP w lb v xs → xs.length + (lowB L xs.length i te).length ≤ 4000 → Calls Try.prog 25 #[.pointer (some ⟨lb, 0, none⟩), tv] w fun e w' => e = .returned (.tuple #[]) ∧ ∃ v', LP w' lb v' (xs ++ lowB L xs.length i te) ∧ Stp lb (fun _ => False) w v w' v'
theorem Stp.low {w0 w w' : World} {lb : Nat} {E : Nat → Prop} {v v' : Value} {xs : List NV} (h : Stp lb E w v w' v') (hb : Below lb w0 w) (hp : LP w lb v xs) (he : ∀ k, k < lb → ¬ E k) : Below lb w0 w' :=
  hb.trans (h.x.below (by have := hp.lt; omega) (fun k hk e => by
    rcases e with e | e | e
    · omega
    · have := (hp.O.lt _ e).1; omega
    · exact he k hk e))

set_option maxRecDepth 20000 in
set_option maxHeartbeats 16000000 in
theorem addLoop_any (w0 : World) (lb : Nat) (L : Nat → SV) (p a : Nat) (a0 cond : Int) (aoa : Option Addr) (ka ca : Nat) (h1 : AddL w0 lb L (p + 1) (p + 1 + a) (.slice aoa ka ca)) (w : World) (v : Value) (xs xL : List NV) (hB : Below lb w0 w) (hP : LP w lb v xs) (hx : lowB L (xs.length + 1) (p + 1) (p + 1 + a) = xL) (hn : xs.length + 2 + xL.length ≤ 4000) :
    Calls Try.prog 39 #[.pointer (some ⟨lb, 0, none⟩), .agg #[.int .i64 a0, .int .i64 cond, .slice aoa ka ca]] w fun e w' => e = .returned (.tuple #[]) ∧ ∃ v', LP w' lb v' (xs ++ jmpV (notI cond) ((xs.length + 2 + xL.length : Nat) : Int) :: (xL ++ [jmpV 29 (xs.length : Int)])) ∧ Stp lb (fun _ => False) w v w' v' := by
  have H1 : Hid (AddL w0 lb L (p + 1) (p + 1 + a) (.slice aoa ka ca)) := h1
  have HXL : Hid (lowB L (xs.length + 1) (p + 1) (p + 1 + a) = xL) := hx
  clear h1 hx
  have H : Hid (LP w lb v xs) := hP
  have HB : Hid (Below lb w0 w) := hB
  have lt := hP.lt
  obtain ⟨hh, hhh⟩ : ∃ y, xs.length = y := ⟨_, rfl⟩
  have HH : Hid (xs.length = hh) := hhh
  have hob : ∀ k, w.heap.size ≤ k → v.ownBlock ≠ some k := fun k hk e => by have := (hP.O.lt _ e).2; omega
  have HOB : Hid (∀ k, w.heap.size ≤ k → v.ownBlock ≠ some k) := hob
  clear hP hB hhh hob
  go_enter Try.func39, Try.ntmps39
  obtain ⟨u0, hu0, hb0, hc0⟩ : ∃ y, w.alloc (.cells #[.int .i64 a0, .int .i64 cond, .slice aoa ka ca] 95) = y ∧ Below w.heap.size w y ∧ Cl y w.heap.size [.int .i64 a0, .int .i64 cond, .slice aoa ka ca] := ⟨_, rfl, (Below.refl _ _).alloc (Nat.le_refl _) _, Cl.new⟩
  obtain ⟨bx, hbx⟩ : ∃ y, w.heap.size = y := ⟨_, rfl⟩
  have HU0 : Hid (w.alloc (.cells #[.int .i64 a0, .int .i64 cond, .slice aoa ka ca] 95) = u0) := hu0
  have C0 : Hid (Cl u0 bx [.int .i64 a0, .int .i64 cond, .slice aoa ka ca]) := hbx ▸ hc0
  have B0 : Hid (Below w.heap.size w u0) := hb0
  have HBX : Hid (w.heap.size = bx) := hbx
  have lbx : lb < bx := by omega
  have zx : bx < u0.heap.size := hbx ▸ hc0.1
  clear hu0 hb0 hc0 hbx
  go_upto_region 1 with fail
  rw [HU0.out]
  go_wp2_with fail
  refine (label_any lb u0).mono ?_
  rintro e u1 ⟨rfl, hb1, hl1⟩
  obtain ⟨b1, hb1e⟩ : ∃ y, u0.heap.size = y := ⟨_, rfl⟩
  rw [hb1e] at hb1 hl1 zx ⊢
  have L1a : Hid (Lab u1 lb b1 (b1 + 1) (b1 + 1 + 1) (b1 + 1 + 1 + 1) (.slice none 0 0) 0) := hl1
  have B1 : Hid (Below w.heap.size w u1) := B0.out.trans (hb1.mono (by have := HBX.out; omega))
  have C1 : Hid (Cl u1 bx [.int .i64 a0, .int .i64 cond, .slice aoa ka ca]) := C0.out.below (hb1e ▸ hb1)
  have z1 : b1 + 1 + 1 + 1 < u1.heap.size := hl1.B.1
  clear hb1 hl1 hb1e C0 B0
  go_wp2_with fail
  refine (label_any lb u1).mono ?_
  rintro e u2 ⟨rfl, hb2, hl2⟩
  obtain ⟨b2, hb2e⟩ : ∃ y, u1.heap.size = y := ⟨_, rfl⟩
  rw [hb2e] at hb2 hl2 z1 ⊢
  have L2b : Hid (Lab u2 lb b2 (b2 + 1) (b2 + 1 + 1) (b2 + 1 + 1 + 1) (.slice none 0 0) 0) := hl2
  have B2 : Hid (Below w.heap.size w u2) := B1.out.trans (hb2.mono (by have := HBX.out; omega))
  have S2 : Hid (Stp lb (fun _ => False) w v u2 v) := ⟨Lx.of_below B2.out, .inl rfl⟩
  have P2 : Hid (LP u2 lb v xs) := ⟨(B2.out.cell (p := ⟨lb, 0, none⟩) lt).trans H.out.C, Nat.lt_of_lt_of_le lt B2.out.size, fun i => (B2.out.frozen (p := ⟨lb, i, none⟩) lt).trans (H.out.F i), row_belowU H.out.O B2.out⟩
  have C2 : Hid (Cl u2 bx [.int .i64 a0, .int .i64 cond, .slice aoa ka ca]) := C1.out.below (hb2e ▸ hb2)
  have sb := HBX.out
  have L1b : Hid (Lab u2 lb b1 (b1 + 1) (b1 + 1 + 1) (b1 + 1 + 1 + 1) (.slice none 0 0) 0) := ⟨L1a.out.X.below (hb2e ▸ hb2), L1a.out.J.below (hb2e ▸ hb2), L1a.out.P.below (hb2e ▸ hb2), L1a.out.B.below (hb2e ▸ hb2), fun i => (hb2.frozen (p := ⟨b1 + 1, i, none⟩) (by show b1 + 1 < _; omega)).trans (L1a.out.JF i), fun i => (hb2.frozen (p := ⟨b1 + 1 + 1, i, none⟩) (by show b1 + 1 + 1 < _; omega)).trans (L1a.out.PF i), L1a.out.n1, L1a.out.n2, L1a.out.n3, L1a.out.n4, L1a.out.n5, L1a.out.n6⟩
  have O1b : Hid (Off lb v b1 (b1 + 1) (b1 + 1 + 1) (b1 + 1 + 1 + 1)) := ⟨⟨by omega, by omega, by omega, by omega⟩, HOB.out _ (by omega), HOB.out _ (by omega), HOB.out _ (by omega), HOB.out _ (by omega)⟩
  have O2b : Hid (Off lb v b2 (b2 + 1) (b2 + 1 + 1) (b2 + 1 + 1 + 1)) := ⟨⟨by omega, by omega, by omega, by omega⟩, HOB.out _ (by omega), HOB.out _ (by omega), HOB.out _ (by omega), HOB.out _ (by omega)⟩
  have N2 : Hid (v.ownBlock ≠ some bx) := HOB.out _ (by omega)
  have z2 : b2 + 1 + 1 + 1 < u2.heap.size := hl2.B.1
  clear hb2 hl2 hb2e L1a C1 B1 HU0 sb
  go_wp2_with fail
  refine (set0_any lb b1 (b1 + 1) (b1 + 1 + 1) (b1 + 1 + 1 + 1) 0 v xs u2 L1b.out P2.out O1b.out).mono ?_
  rintro e u3 ⟨rfl, hp, hl, hs⟩
  have hx21 := L2b.out.step O2b.out hs (show ¬ b2 = (b1 + 1 + 1) by omega) (show ¬ (b2 + 1) = (b1 + 1 + 1) by omega) (show ¬ (b2 + 1 + 1) = (b1 + 1 + 1) by omega) (show ¬ (b2 + 1 + 1 + 1) = (b1 + 1 + 1) by omega)
  have L2x1 : Hid (Lab u3 lb b2 (b2 + 1) (b2 + 1 + 1) (b2 + 1 + 1 + 1) (.slice none 0 0) 0) := hx21.1
  have O2x1 : Hid (Off lb v b2 (b2 + 1) (b2 + 1 + 1) (b2 + 1 + 1 + 1)) := hx21.2
  clear hx21
  have Cx1 : Hid (Cl u3 bx [.int .i64 a0, .int .i64 cond, .slice aoa ka ca]) := hs.cl C2.out (by omega) N2.out (show ¬ bx = (b1 + 1 + 1) by omega)
  have Nx1 : Hid ((v).ownBlock ≠ some bx) := hs.nb C2.out.1 N2.out
  have L1s : Hid (Lab u3 lb b1 (b1 + 1) (b1 + 1 + 1) (b1 + 1 + 1 + 1) (.slice none 0 0) (hh : Int)) := (by have h := hl; rw [HH.out] at h; exact h : Lab u3 lb b1 (b1 + 1) (b1 + 1 + 1) (b1 + 1 + 1 + 1) (.slice none 0 0) (hh : Int))
  have P_u3 : Hid (LP u3 lb v xs) := (hp : LP u3 lb v xs)
  have S_u3 : Hid (Stp lb (fun _ => False) w v u3 v) := S2.out.trans hs (fun k hk h => by have h2 : k = (b1 + 1 + 1) := h; have := HBX.out; omega)
  have z_u3 := hs.x.size
  clear hp hs hl L2b O2b C2 N2 L1b P2
  have y1 : u3.cell? ⟨w.heap.size, 1, none⟩ = some (.int .i64 cond) := (by rw [HBX.out]; exact Cx1.out.2 1 (by simp))
  have yl : w.heap.size < u3.heap.size := (by rw [HBX.out]; exact Cx1.out.1)
  go_wp2_with fail
  refine (skipJump_any cond _).mono ?_
  rintro e u' ⟨rfl, hw⟩
  rw [hw]
  clear hw y1 yl
  go_wp2_with fail
  refine (labJump_any lb b2 (b2 + 1) (b2 + 1 + 1) (b2 + 1 + 1 + 1) 0 (notI cond) v xs u3 L2x1.out P_u3.out (by have := HH.out; omega) O2x1.out).mono ?_
  rintro e u4 ⟨rfl, v4, r2, cr2, hp, hl, hj, hz, hn2, ho, hs⟩
  have hx12 := L1s.out.step O1b.out hs (show ¬ b1 = (b2 + 1) by omega) (show ¬ (b1 + 1) = (b2 + 1) by omega) (show ¬ (b1 + 1 + 1) = (b2 + 1) by omega) (show ¬ (b1 + 1 + 1 + 1) = (b2 + 1) by omega)
  have L1x2 : Hid (Lab u4 lb b1 (b1 + 1) (b1 + 1 + 1) (b1 + 1 + 1 + 1) (.slice none 0 0) (hh : Int)) := hx12.1
  have O1x2 : Hid (Off lb v4 b1 (b1 + 1) (b1 + 1 + 1) (b1 + 1 + 1 + 1)) := hx12.2
  clear hx12
  have Cx2 : Hid (Cl u4 bx [.int .i64 a0, .int .i64 cond, .slice aoa ka ca]) := hs.cl Cx1.out (by omega) Nx1.out (show ¬ bx = (b2 + 1) by omega)
  have Nx2 : Hid ((v4).ownBlock ≠ some bx) := hs.nb Cx1.out.1 Nx1.out
  have L2j : Hid (Lab u4 lb b2 (b2 + 1) (b2 + 1 + 1) (b2 + 1 + 1 + 1) (.slice (some ⟨r2, 0, none⟩) 1 cr2) 0) := hl
  have O2j : Hid (Off lb v4 b2 (b2 + 1) (b2 + 1 + 1) (b2 + 1 + 1 + 1)) := ho
  have CR2 : Hid (Cl u4 r2 [.int .i64 (hh : Int)]) := (by have h := hj; rw [HH.out] at h; exact h : Cl u4 r2 [.int .i64 (hh : Int)])
  have NR2 : Hid (v4.ownBlock ≠ some r2) := hn2
  have hz2 := hz
  have P_u4 : Hid (LP u4 lb v4 (xs ++ [jmpV (notI cond) 0])) := (hp : LP u4 lb v4 (xs ++ [jmpV (notI cond) 0]))
  have S_u4 : Hid (Stp lb (fun _ => False) w v u4 v4) := S_u3.out.trans hs (fun k hk h => by have h2 : k = (b2 + 1) := h; have := HBX.out; omega)
  have z_u4 := hs.x.size
  clear hp hs hl hj hz hn2 ho L1s O1b Cx1 Nx1 L2x1 O2x1 P_u3
  have y2 : u4.cell? ⟨w.heap.size, 2, none⟩ = some (.slice aoa ka ca) := (by rw [HBX.out]; exact Cx2.out.2 2 (by simp))
  have yl : w.heap.size < u4.heap.size := (by rw [HBX.out]; exact Cx2.out.1)
  go_wp2_with fail
  clear y2 yl
  have HL1 : Hid ((xs ++ [jmpV (notI cond) 0]).length = xs.length + 1) := (by simp : (xs ++ [jmpV (notI cond) 0]).length = xs.length + 1)
  have BL : Below lb w0 u4 := S_u4.out.low HB.out H.out (fun _ _ h => h)
  have hc := H1.out u4 v4 (xs ++ [jmpV (notI cond) 0]) BL P_u4.out (by rw [HL1.out, HXL.out]; omega)
  rw [HL1.out, HXL.out] at hc
  refine hc.mono ?_
  rintro e u5 ⟨rfl, v5, hp, hs⟩
  have hx13 := L1x2.out.step O1x2.out hs (fun h => h) (fun h => h) (fun h => h) (fun h => h)
  have L1x3 : Hid (Lab u5 lb b1 (b1 + 1) (b1 + 1 + 1) (b1 + 1 + 1 + 1) (.slice none 0 0) (hh : Int)) := hx13.1
  have O1x3 : Hid (Off lb v5 b1 (b1 + 1) (b1 + 1 + 1) (b1 + 1 + 1 + 1)) := hx13.2
  clear hx13
  have hx23 := L2j.out.step O2j.out hs (fun h => h) (fun h => h) (fun h => h) (fun h => h)
  have L2x3 : Hid (Lab u5 lb b2 (b2 + 1) (b2 + 1 + 1) (b2 + 1 + 1 + 1) (.slice (some ⟨r2, 0, none⟩) 1 cr2) 0) := hx23.1
  have O2x3 : Hid (Off lb v5 b2 (b2 + 1) (b2 + 1 + 1) (b2 + 1 + 1 + 1)) := hx23.2
  clear hx23
  have Cx3 : Hid (Cl u5 bx [.int .i64 a0, .int .i64 cond, .slice aoa ka ca]) := hs.cl Cx2.out (by omega) Nx2.out (fun h => h)
  have Nx3 : Hid ((v5).ownBlock ≠ some bx) := hs.nb Cx2.out.1 Nx2.out
  have Cr23 : Hid (Cl u5 r2 [.int .i64 (hh : Int)]) := hs.cl CR2.out (by omega) NR2.out (fun h => h)
  have Nr23 : Hid ((v5).ownBlock ≠ some r2) := hs.nb CR2.out.1 NR2.out
  have P_u5 : Hid (LP u5 lb v5 (xs ++ [jmpV (notI cond) 0] ++ xL)) := (hp : LP u5 lb v5 (xs ++ [jmpV (notI cond) 0] ++ xL))
  have S_u5 : Hid (Stp lb (fun _ => False) w v u5 v5) := S_u4.out.trans hs (fun k hk h => h)
  have z_u5 := hs.x.size
  clear hp hs hc BL L1x2 O1x2 L2j O2j Cx2 Nx2 CR2 NR2 P_u4
  go_wp2_with fail
  refine (labJump_any lb b1 (b1 + 1) (b1 + 1 + 1) (b1 + 1 + 1 + 1) (hh : Int) 29 v5 (xs ++ [jmpV (notI cond) 0] ++ xL) u5 L1x3.out P_u5.out (by simp only [List.length_append]; simp; omega) O1x3.out).mono ?_
  rintro e u6 ⟨rfl, v6, r1, cr1, hp, hl, hj, hz, hn2, ho, hs⟩
  have hx24 := L2x3.out.step O2x3.out hs (show ¬ b2 = (b1 + 1) by omega) (show ¬ (b2 + 1) = (b1 + 1) by omega) (show ¬ (b2 + 1 + 1) = (b1 + 1) by omega) (show ¬ (b2 + 1 + 1 + 1) = (b1 + 1) by omega)
  have L2x4 : Hid (Lab u6 lb b2 (b2 + 1) (b2 + 1 + 1) (b2 + 1 + 1 + 1) (.slice (some ⟨r2, 0, none⟩) 1 cr2) 0) := hx24.1
  have O2x4 : Hid (Off lb v6 b2 (b2 + 1) (b2 + 1 + 1) (b2 + 1 + 1 + 1)) := hx24.2
  clear hx24
  have Cx4 : Hid (Cl u6 bx [.int .i64 a0, .int .i64 cond, .slice aoa ka ca]) := hs.cl Cx3.out (by omega) Nx3.out (show ¬ bx = (b1 + 1) by omega)
  have Nx4 : Hid ((v6).ownBlock ≠ some bx) := hs.nb Cx3.out.1 Nx3.out
  have Cr24 : Hid (Cl u6 r2 [.int .i64 (hh : Int)]) := hs.cl Cr23.out (by omega) Nr23.out (show ¬ r2 = (b1 + 1) by omega)
  have Nr24 : Hid ((v6).ownBlock ≠ some r2) := hs.nb Cr23.out.1 Nr23.out
  have L1j : Hid (Lab u6 lb b1 (b1 + 1) (b1 + 1 + 1) (b1 + 1 + 1 + 1) (.slice (some ⟨r1, 0, none⟩) 1 cr1) (hh : Int)) := hl
  have O1j : Hid (Off lb v6 b1 (b1 + 1) (b1 + 1 + 1) (b1 + 1 + 1 + 1)) := ho
  have CR1 : Hid (Cl u6 r1 [.int .i64 (hh + 1 + xL.length : Int)]) := (by have h := hj; rw [show (xs ++ [jmpV (notI cond) 0] ++ xL).length = hh + 1 + xL.length by rw [List.length_append, HL1.out, HH.out]] at h; exact h : Cl u6 r1 [.int .i64 (hh + 1 + xL.length : Int)])
  have NR1 : Hid (v6.ownBlock ≠ some r1) := hn2
  have hz1 := hz
  have P_u6 : Hid (LP u6 lb v6 (xs ++ [jmpV (notI cond) 0] ++ xL ++ [jmpV 29 (hh : Int)])) := (hp : LP u6 lb v6 (xs ++ [jmpV (notI cond) 0] ++ xL ++ [jmpV 29 (hh : Int)]))
  have S_u6 : Hid (Stp lb (fun _ => False) w v u6 v6) := S_u5.out.trans hs (fun k hk h => by have h2 : k = (b1 + 1) := h; have := HBX.out; omega)
  have z_u6 := hs.x.size
  clear hp hs hl hj hz hn2 ho L2x3 O2x3 Cx3 Nx3 Cr23 Nr23 L1x3 O1x3 P_u5
  go_wp2_with fail
  refine (set1_any lb b2 (b2 + 1) (b2 + 1 + 1) (b2 + 1 + 1 + 1) r2 cr2 hh 0 v6 xs (xL ++ [jmpV 29 (hh : Int)]) (jmpV (notI cond) 0) u6 Cr24.out HH.out (by omega) L2x4.out (by have h := P_u6.out; simpa using h) O2x4.out).mono ?_
  rintro e u7 ⟨rfl, hp, hs⟩
  have hx15 := L1j.out.step O1j.out hs (show ¬ b1 = (b2 + 1 + 1) by omega) (show ¬ (b1 + 1) = (b2 + 1 + 1) by omega) (show ¬ (b1 + 1 + 1) = (b2 + 1 + 1) by omega) (show ¬ (b1 + 1 + 1 + 1) = (b2 + 1 + 1) by omega)
  have L1x5 : Hid (Lab u7 lb b1 (b1 + 1) (b1 + 1 + 1) (b1 + 1 + 1 + 1) (.slice (some ⟨r1, 0, none⟩) 1 cr1) (hh : Int)) := hx15.1
  have O1x5 : Hid (Off lb v6 b1 (b1 + 1) (b1 + 1 + 1) (b1 + 1 + 1 + 1)) := hx15.2
  clear hx15
  have Cx5 : Hid (Cl u7 bx [.int .i64 a0, .int .i64 cond, .slice aoa ka ca]) := hs.cl Cx4.out (by omega) Nx4.out (show ¬ bx = (b2 + 1 + 1) by omega)
  have Nx5 : Hid ((v6).ownBlock ≠ some bx) := hs.nb Cx4.out.1 Nx4.out
  have Cr15 : Hid (Cl u7 r1 [.int .i64 (hh + 1 + xL.length : Int)]) := hs.cl CR1.out (by omega) NR1.out (show ¬ r1 = (b2 + 1 + 1) by omega)
  have Nr15 : Hid ((v6).ownBlock ≠ some r1) := hs.nb CR1.out.1 NR1.out
  have P_u7 : Hid (LP u7 lb v6 (xs ++ jmpV (notI cond) ((xs.length + 2 + xL.length : Nat) : Int) :: (xL ++ [jmpV 29 (xs.length : Int)]))) := (by have h := hp; rw [show ((xs ++ jmpV (notI cond) 0 :: (xL ++ [jmpV 29 (hh : Int)])).length : Int) = ((xs.length + 2 + xL.length : Nat) : Int) by simp; omega, ← HH.out] at h; exact h : LP u7 lb v6 (xs ++ jmpV (notI cond) ((xs.length + 2 + xL.length : Nat) : Int) :: (xL ++ [jmpV 29 (xs.length : Int)])))
  have S_u7 : Hid (Stp lb (fun _ => False) w v u7 v6) := S_u6.out.trans hs (fun k hk h => by have h2 : k = (b2 + 1 + 1) := h; have := HBX.out; omega)
  have z_u7 := hs.x.size
  clear hp hs  L1j O1j Cx4 Nx4 CR1 NR1 L2x4 O2x4 Cr24 Nr24 P_u6
  go_wp2
  go_end0
  exact ⟨rfl, v6, P_u7.out, S_u7.out⟩

set_option maxRecDepth 20000 in
set_option maxHeartbeats 16000000 in
theorem addChoice_any (w0 : World) (lb : Nat) (L : Nat → SV) (p a b : Nat) (a0 cond : Int) (aoa : Option Addr) (ka ca : Nat) (aob : Option Addr) (kb cb : Nat) (h1 : AddL w0 lb L (p + 1) (p + 1 + a) (.slice aoa ka ca)) (h2 : AddL w0 lb L (p + 1 + a) (p + 1 + a + b) (.slice aob kb cb)) (w : World) (v : Value) (xs xL yL : List NV) (hB : Below lb w0 w) (hP : LP w lb v xs) (hx : lowB L (xs.length + 1) (p + 1) (p + 1 + a) = xL) (hy : lowB L (xs.length + 2 + xL.length) (p + 1 + a) (p + 1 + a + b) = yL) (hn : xs.length + 2 + xL.length + yL.length ≤ 4000) :
    Calls Try.prog 38 #[.pointer (some ⟨lb, 0, none⟩), .agg #[.int .i64 a0, .int .i64 cond, .slice aoa ka ca, .slice aob kb cb]] w fun e w' => e = .returned (.tuple #[]) ∧ ∃ v', LP w' lb v' (xs ++ jmpV (notI cond) ((xs.length + 2 + xL.length : Nat) : Int) :: (xL ++ jmpV 29 ((xs.length + 2 + xL.length + yL.length : Nat) : Int) :: yL)) ∧ Stp lb (fun _ => False) w v w' v' := by
  have H1 : Hid (AddL w0 lb L (p + 1) (p + 1 + a) (.slice aoa ka ca)) := h1
  have H2 : Hid (AddL w0 lb L (p + 1 + a) (p + 1 + a + b) (.slice aob kb cb)) := h2
  have HXL : Hid (lowB L (xs.length + 1) (p + 1) (p + 1 + a) = xL) := hx
  have HYL : Hid (lowB L (xs.length + 2 + xL.length) (p + 1 + a) (p + 1 + a + b) = yL) := hy
  clear h1 h2 hx hy
  have H : Hid (LP w lb v xs) := hP
  have HB : Hid (Below lb w0 w) := hB
  have lt := hP.lt
  obtain ⟨hh, hhh⟩ : ∃ y, xs.length = y := ⟨_, rfl⟩
  have HH : Hid (xs.length = hh) := hhh
  have hob : ∀ k, w.heap.size ≤ k → v.ownBlock ≠ some k := fun k hk e => by have := (hP.O.lt _ e).2; omega
  have HOB : Hid (∀ k, w.heap.size ≤ k → v.ownBlock ≠ some k) := hob
  clear hP hB hhh hob
  go_enter Try.func38, Try.ntmps38
  obtain ⟨u0, hu0, hb0, hc0⟩ : ∃ y, w.alloc (.cells #[.int .i64 a0, .int .i64 cond, .slice aoa ka ca, .slice aob kb cb] 93) = y ∧ Below w.heap.size w y ∧ Cl y w.heap.size [.int .i64 a0, .int .i64 cond, .slice aoa ka ca, .slice aob kb cb] := ⟨_, rfl, (Below.refl _ _).alloc (Nat.le_refl _) _, Cl.new⟩
  obtain ⟨bx, hbx⟩ : ∃ y, w.heap.size = y := ⟨_, rfl⟩
  have HU0 : Hid (w.alloc (.cells #[.int .i64 a0, .int .i64 cond, .slice aoa ka ca, .slice aob kb cb] 93) = u0) := hu0
  have C0 : Hid (Cl u0 bx [.int .i64 a0, .int .i64 cond, .slice aoa ka ca, .slice aob kb cb]) := hbx ▸ hc0
  have B0 : Hid (Below w.heap.size w u0) := hb0
  have HBX : Hid (w.heap.size = bx) := hbx
  have lbx : lb < bx := by omega
  have zx : bx < u0.heap.size := hbx ▸ hc0.1
  clear hu0 hb0 hc0 hbx
  go_upto_region 1 with fail
  rw [HU0.out]
  go_wp2_with fail
  refine (label_any lb u0).mono ?_
  rintro e u1 ⟨rfl, hb1, hl1⟩
  obtain ⟨b1, hb1e⟩ : ∃ y, u0.heap.size = y := ⟨_, rfl⟩
  rw [hb1e] at hb1 hl1 zx ⊢
  have L1a : Hid (Lab u1 lb b1 (b1 + 1) (b1 + 1 + 1) (b1 + 1 + 1 + 1) (.slice none 0 0) 0) := hl1
  have B1 : Hid (Below w.heap.size w u1) := B0.out.trans (hb1.mono (by have := HBX.out; omega))
  have C1 : Hid (Cl u1 bx [.int .i64 a0, .int .i64 cond, .slice aoa ka ca, .slice aob kb cb]) := C0.out.below (hb1e ▸ hb1)
  have z1 : b1 + 1 + 1 + 1 < u1.heap.size := hl1.B.1
  clear hb1 hl1 hb1e C0 B0
  go_wp2_with fail
  refine (label_any lb u1).mono ?_
  rintro e u2 ⟨rfl, hb2, hl2⟩
  obtain ⟨b2, hb2e⟩ : ∃ y, u1.heap.size = y := ⟨_, rfl⟩
  rw [hb2e] at hb2 hl2 z1 ⊢
  have L2b : Hid (Lab u2 lb b2 (b2 + 1) (b2 + 1 + 1) (b2 + 1 + 1 + 1) (.slice none 0 0) 0) := hl2
  have B2 : Hid (Below w.heap.size w u2) := B1.out.trans (hb2.mono (by have := HBX.out; omega))
  have S2 : Hid (Stp lb (fun _ => False) w v u2 v) := ⟨Lx.of_below B2.out, .inl rfl⟩
  have P2 : Hid (LP u2 lb v xs) := ⟨(B2.out.cell (p := ⟨lb, 0, none⟩) lt).trans H.out.C, Nat.lt_of_lt_of_le lt B2.out.size, fun i => (B2.out.frozen (p := ⟨lb, i, none⟩) lt).trans (H.out.F i), row_belowU H.out.O B2.out⟩
  have C2 : Hid (Cl u2 bx [.int .i64 a0, .int .i64 cond, .slice aoa ka ca, .slice aob kb cb]) := C1.out.below (hb2e ▸ hb2)
  have sb := HBX.out
  have L1b : Hid (Lab u2 lb b1 (b1 + 1) (b1 + 1 + 1) (b1 + 1 + 1 + 1) (.slice none 0 0) 0) := ⟨L1a.out.X.below (hb2e ▸ hb2), L1a.out.J.below (hb2e ▸ hb2), L1a.out.P.below (hb2e ▸ hb2), L1a.out.B.below (hb2e ▸ hb2), fun i => (hb2.frozen (p := ⟨b1 + 1, i, none⟩) (by show b1 + 1 < _; omega)).trans (L1a.out.JF i), fun i => (hb2.frozen (p := ⟨b1 + 1 + 1, i, none⟩) (by show b1 + 1 + 1 < _; omega)).trans (L1a.out.PF i), L1a.out.n1, L1a.out.n2, L1a.out.n3, L1a.out.n4, L1a.out.n5, L1a.out.n6⟩
  have O1b : Hid (Off lb v b1 (b1 + 1) (b1 + 1 + 1) (b1 + 1 + 1 + 1)) := ⟨⟨by omega, by omega, by omega, by omega⟩, HOB.out _ (by omega), HOB.out _ (by omega), HOB.out _ (by omega), HOB.out _ (by omega)⟩
  have O2b : Hid (Off lb v b2 (b2 + 1) (b2 + 1 + 1) (b2 + 1 + 1 + 1)) := ⟨⟨by omega, by omega, by omega, by omega⟩, HOB.out _ (by omega), HOB.out _ (by omega), HOB.out _ (by omega), HOB.out _ (by omega)⟩
  have N2 : Hid (v.ownBlock ≠ some bx) := HOB.out _ (by omega)
  have z2 : b2 + 1 + 1 + 1 < u2.heap.size := hl2.B.1
  clear hb2 hl2 hb2e L1a C1 B1 HU0 sb
  have y1 : u2.cell? ⟨w.heap.size, 1, none⟩ = some (.int .i64 cond) := (by rw [HBX.out]; exact C2.out.2 1 (by simp))
  have yl : w.heap.size < u2.heap.size := (by rw [HBX.out]; exact C2.out.1)
  go_wp2_with fail
  refine (skipJump_any cond _).mono ?_
  rintro e u' ⟨rfl, hw⟩
  rw [hw]
  clear hw y1 yl
  go_wp2_with fail
  refine (labJump_any lb b1 (b1 + 1) (b1 + 1 + 1) (b1 + 1 + 1 + 1) 0 (notI cond) v xs u2 L1b.out P2.out (by have := HH.out; omega) O1b.out).mono ?_
  rintro e u3 ⟨rfl, v3, r1, cr1, hp, hl, hj, hz, hn2, ho, hs⟩
  have hx21 := L2b.out.step O2b.out hs (show ¬ b2 = (b1 + 1) by omega) (show ¬ (b2 + 1) = (b1 + 1) by omega) (show ¬ (b2 + 1 + 1) = (b1 + 1) by omega) (show ¬ (b2 + 1 + 1 + 1) = (b1 + 1) by omega)
  have L2x1 : Hid (Lab u3 lb b2 (b2 + 1) (b2 + 1 + 1) (b2 + 1 + 1 + 1) (.slice none 0 0) 0) := hx21.1
  have O2x1 : Hid (Off lb v3 b2 (b2 + 1) (b2 + 1 + 1) (b2 + 1 + 1 + 1)) := hx21.2
  clear hx21
  have Cx1 : Hid (Cl u3 bx [.int .i64 a0, .int .i64 cond, .slice aoa ka ca, .slice aob kb cb]) := hs.cl C2.out (by omega) N2.out (show ¬ bx = (b1 + 1) by omega)
  have Nx1 : Hid ((v3).ownBlock ≠ some bx) := hs.nb C2.out.1 N2.out
  have L1j : Hid (Lab u3 lb b1 (b1 + 1) (b1 + 1 + 1) (b1 + 1 + 1 + 1) (.slice (some ⟨r1, 0, none⟩) 1 cr1) 0) := hl
  have O1j : Hid (Off lb v3 b1 (b1 + 1) (b1 + 1 + 1) (b1 + 1 + 1 + 1)) := ho
  have CR1 : Hid (Cl u3 r1 [.int .i64 (hh : Int)]) := (by have h := hj; rw [HH.out] at h; exact h : Cl u3 r1 [.int .i64 (hh : Int)])
  have NR1 : Hid (v3.ownBlock ≠ some r1) := hn2
  have hz1 := hz
  have P_u3 : Hid (LP u3 lb v3 (xs ++ [jmpV (notI cond) 0])) := (hp : LP u3 lb v3 (xs ++ [jmpV (notI cond) 0]))
  have S_u3 : Hid (Stp lb (fun _ => False) w v u3 v3) := S2.out.trans hs (fun k hk h => by have h2 : k = (b1 + 1) := h; have := HBX.out; omega)
  have z_u3 := hs.x.size
  clear hp hs hl hj hz hn2 ho L2b O2b C2 N2 L1b O1b P2
  have y2 : u3.cell? ⟨w.heap.size, 2, none⟩ = some (.slice aoa ka ca) := (by rw [HBX.out]; exact Cx1.out.2 2 (by simp))
  have yl : w.heap.size < u3.heap.size := (by rw [HBX.out]; exact Cx1.out.1)
  go_wp2_with fail
  clear y2 yl
  have HL1 : Hid ((xs ++ [jmpV (notI cond) 0]).length = xs.length + 1) := (by simp : (xs ++ [jmpV (notI cond) 0]).length = xs.length + 1)
  have BL : Below lb w0 u3 := S_u3.out.low HB.out H.out (fun _ _ h => h)
  have hc := H1.out u3 v3 (xs ++ [jmpV (notI cond) 0]) BL P_u3.out (by rw [HL1.out, HXL.out]; omega)
  rw [HL1.out, HXL.out] at hc
  refine hc.mono ?_
  rintro e u4 ⟨rfl, v4, hp, hs⟩
  have hx12 := L1j.out.step O1j.out hs (fun h => h) (fun h => h) (fun h => h) (fun h => h)
  have L1x2 : Hid (Lab u4 lb b1 (b1 + 1) (b1 + 1 + 1) (b1 + 1 + 1 + 1) (.slice (some ⟨r1, 0, none⟩) 1 cr1) 0) := hx12.1
  have O1x2 : Hid (Off lb v4 b1 (b1 + 1) (b1 + 1 + 1) (b1 + 1 + 1 + 1)) := hx12.2
  clear hx12
  have hx22 := L2x1.out.step O2x1.out hs (fun h => h) (fun h => h) (fun h => h) (fun h => h)
  have L2x2 : Hid (Lab u4 lb b2 (b2 + 1) (b2 + 1 + 1) (b2 + 1 + 1 + 1) (.slice none 0 0) 0) := hx22.1
  have O2x2 : Hid (Off lb v4 b2 (b2 + 1) (b2 + 1 + 1) (b2 + 1 + 1 + 1)) := hx22.2
  clear hx22
  have Cx2 : Hid (Cl u4 bx [.int .i64 a0, .int .i64 cond, .slice aoa ka ca, .slice aob kb cb]) := hs.cl Cx1.out (by omega) Nx1.out (fun h => h)
  have Nx2 : Hid ((v4).ownBlock ≠ some bx) := hs.nb Cx1.out.1 Nx1.out
  have Cr12 : Hid (Cl u4 r1 [.int .i64 (hh : Int)]) := hs.cl CR1.out (by omega) NR1.out (fun h => h)
  have Nr12 : Hid ((v4).ownBlock ≠ some r1) := hs.nb CR1.out.1 NR1.out
  have P_u4 : Hid (LP u4 lb v4 (xs ++ [jmpV (notI cond) 0] ++ xL)) := (hp : LP u4 lb v4 (xs ++ [jmpV (notI cond) 0] ++ xL))
  have S_u4 : Hid (Stp lb (fun _ => False) w v u4 v4) := S_u3.out.trans hs (fun k hk h => h)
  have z_u4 := hs.x.size
  clear hp hs hc BL L1j O1j L2x1 O2x1 Cx1 Nx1 CR1 NR1 P_u3
  go_wp2_with fail
  refine (labJump_any lb b2 (b2 + 1) (b2 + 1 + 1) (b2 + 1 + 1 + 1) 0 29 v4 (xs ++ [jmpV (notI cond) 0] ++ xL) u4 L2x2.out P_u4.out (by simp only [List.length_append]; simp; omega) O2x2.out).mono ?_
  rintro e u5 ⟨rfl, v5, r2, cr2, hp, hl, hj, hz, hn2, ho, hs⟩
  have hx13 := L1x2.out.step O1x2.out hs (show ¬ b1 = (b2 + 1) by omega) (show ¬ (b1 + 1) = (b2 + 1) by omega) (show ¬ (b1 + 1 + 1) = (b2 + 1) by omega) (show ¬ (b1 + 1 + 1 + 1) = (b2 + 1) by omega)
  have L1x3 : Hid (Lab u5 lb b1 (b1 + 1) (b1 + 1 + 1) (b1 + 1 + 1 + 1) (.slice (some ⟨r1, 0, none⟩) 1 cr1) 0) := hx13.1
  have O1x3 : Hid (Off lb v5 b1 (b1 + 1) (b1 + 1 + 1) (b1 + 1 + 1 + 1)) := hx13.2
  clear hx13
  have Cx3 : Hid (Cl u5 bx [.int .i64 a0, .int .i64 cond, .slice aoa ka ca, .slice aob kb cb]) := hs.cl Cx2.out (by omega) Nx2.out (show ¬ bx = (b2 + 1) by omega)
  have Nx3 : Hid ((v5).ownBlock ≠ some bx) := hs.nb Cx2.out.1 Nx2.out
  have Cr13 : Hid (Cl u5 r1 [.int .i64 (hh : Int)]) := hs.cl Cr12.out (by omega) Nr12.out (show ¬ r1 = (b2 + 1) by omega)
  have Nr13 : Hid ((v5).ownBlock ≠ some r1) := hs.nb Cr12.out.1 Nr12.out
  have L2j : Hid (Lab u5 lb b2 (b2 + 1) (b2 + 1 + 1) (b2 + 1 + 1 + 1) (.slice (some ⟨r2, 0, none⟩) 1 cr2) 0) := hl
  have O2j : Hid (Off lb v5 b2 (b2 + 1) (b2 + 1 + 1) (b2 + 1 + 1 + 1)) := ho
  have CR2 : Hid (Cl u5 r2 [.int .i64 (hh + 1 + xL.length : Int)]) := (by have h := hj; rw [show (xs ++ [jmpV (notI cond) 0] ++ xL).length = hh + 1 + xL.length by rw [List.length_append, HL1.out, HH.out]] at h; exact h : Cl u5 r2 [.int .i64 (hh + 1 + xL.length : Int)])
  have NR2 : Hid (v5.ownBlock ≠ some r2) := hn2
  have hz2 := hz
  have P_u5 : Hid (LP u5 lb v5 (xs ++ [jmpV (notI cond) 0] ++ xL ++ [jmpV 29 0])) := (hp : LP u5 lb v5 (xs ++ [jmpV (notI cond) 0] ++ xL ++ [jmpV 29 0]))
  have S_u5 : Hid (Stp lb (fun _ => False) w v u5 v5) := S_u4.out.trans hs (fun k hk h => by have h2 : k = (b2 + 1) := h; have := HBX.out; omega)
  have z_u5 := hs.x.size
  clear hp hs hl hj hz hn2 ho L1x2 O1x2 Cx2 Nx2 Cr12 Nr12 L2x2 O2x2 P_u4
  go_wp2_with fail
  refine (set1_any lb b1 (b1 + 1) (b1 + 1 + 1) (b1 + 1 + 1 + 1) r1 cr1 hh 0 v5 xs (xL ++ [jmpV 29 0]) (jmpV (notI cond) 0) u5 Cr13.out HH.out (by omega) L1x3.out (by have h := P_u5.out; simpa using h) O1x3.out).mono ?_
  rintro e u6 ⟨rfl, hp, hs⟩
  have hx24 := L2j.out.step O2j.out hs (show ¬ b2 = (b1 + 1 + 1) by omega) (show ¬ (b2 + 1) = (b1 + 1 + 1) by omega) (show ¬ (b2 + 1 + 1) = (b1 + 1 + 1) by omega) (show ¬ (b2 + 1 + 1 + 1) = (b1 + 1 + 1) by omega)
  have L2x4 : Hid (Lab u6 lb b2 (b2 + 1) (b2 + 1 + 1) (b2 + 1 + 1 + 1) (.slice (some ⟨r2, 0, none⟩) 1 cr2) 0) := hx24.1
  have O2x4 : Hid (Off lb v5 b2 (b2 + 1) (b2 + 1 + 1) (b2 + 1 + 1 + 1)) := hx24.2
  clear hx24
  have Cx4 : Hid (Cl u6 bx [.int .i64 a0, .int .i64 cond, .slice aoa ka ca, .slice aob kb cb]) := hs.cl Cx3.out (by omega) Nx3.out (show ¬ bx = (b1 + 1 + 1) by omega)
  have Nx4 : Hid ((v5).ownBlock ≠ some bx) := hs.nb Cx3.out.1 Nx3.out
  have Cr24 : Hid (Cl u6 r2 [.int .i64 (hh + 1 + xL.length : Int)]) := hs.cl CR2.out (by omega) NR2.out (show ¬ r2 = (b1 + 1 + 1) by omega)
  have Nr24 : Hid ((v5).ownBlock ≠ some r2) := hs.nb CR2.out.1 NR2.out
  have P_u6 : Hid (LP u6 lb v5 (xs ++ jmpV (notI cond) ((xs.length + 2 + xL.length : Nat) : Int) :: (xL ++ [jmpV 29 0]))) := (by have h := hp; rw [show ((xs ++ jmpV (notI cond) 0 :: (xL ++ [jmpV 29 0])).length : Int) = ((xs.length + 2 + xL.length : Nat) : Int) by simp; omega] at h; exact h : LP u6 lb v5 (xs ++ jmpV (notI cond) ((xs.length + 2 + xL.length : Nat) : Int) :: (xL ++ [jmpV 29 0])))
  have S_u6 : Hid (Stp lb (fun _ => False) w v u6 v5) := S_u5.out.trans hs (fun k hk h => by have h2 : k = (b1 + 1 + 1) := h; have := HBX.out; omega)
  have z_u6 := hs.x.size
  clear hp hs  L2j O2j Cx3 Nx3 CR2 NR2 L1x3 O1x3 Cr13 Nr13 P_u5
  have y3 : u6.cell? ⟨w.heap.size, 3, none⟩ = some (.slice aob kb cb) := (by rw [HBX.out]; exact Cx4.out.2 3 (by simp))
  have yl : w.heap.size < u6.heap.size := (by rw [HBX.out]; exact Cx4.out.1)
  go_wp2_with fail
  clear y3 yl
  have HL2 : Hid ((xs ++ jmpV (notI cond) ((xs.length + 2 + xL.length : Nat) : Int) :: (xL ++ [jmpV 29 0])).length = xs.length + 2 + xL.length) := (by simp; omega : (xs ++ jmpV (notI cond) ((xs.length + 2 + xL.length : Nat) : Int) :: (xL ++ [jmpV 29 0])).length = xs.length + 2 + xL.length)
  have BL : Below lb w0 u6 := S_u6.out.low HB.out H.out (fun _ _ h => h)
  have hc := H2.out u6 v5 (xs ++ jmpV (notI cond) ((xs.length + 2 + xL.length : Nat) : Int) :: (xL ++ [jmpV 29 0])) BL P_u6.out (by rw [HL2.out, HYL.out]; omega)
  rw [HL2.out, HYL.out] at hc
  refine hc.mono ?_
  rintro e u7 ⟨rfl, v7, hp, hs⟩
  have hx25 := L2x4.out.step O2x4.out hs (fun h => h) (fun h => h) (fun h => h) (fun h => h)
  have L2x5 : Hid (Lab u7 lb b2 (b2 + 1) (b2 + 1 + 1) (b2 + 1 + 1 + 1) (.slice (some ⟨r2, 0, none⟩) 1 cr2) 0) := hx25.1
  have O2x5 : Hid (Off lb v7 b2 (b2 + 1) (b2 + 1 + 1) (b2 + 1 + 1 + 1)) := hx25.2
  clear hx25
  have Cx5 : Hid (Cl u7 bx [.int .i64 a0, .int .i64 cond, .slice aoa ka ca, .slice aob kb cb]) := hs.cl Cx4.out (by omega) Nx4.out (fun h => h)
  have Nx5 : Hid ((v7).ownBlock ≠ some bx) := hs.nb Cx4.out.1 Nx4.out
  have Cr25 : Hid (Cl u7 r2 [.int .i64 (hh + 1 + xL.length : Int)]) := hs.cl Cr24.out (by omega) Nr24.out (fun h => h)
  have Nr25 : Hid ((v7).ownBlock ≠ some r2) := hs.nb Cr24.out.1 Nr24.out
  have P_u7 : Hid (LP u7 lb v7 (xs ++ jmpV (notI cond) ((xs.length + 2 + xL.length : Nat) : Int) :: (xL ++ [jmpV 29 0]) ++ yL)) := (hp : LP u7 lb v7 (xs ++ jmpV (notI cond) ((xs.length + 2 + xL.length : Nat) : Int) :: (xL ++ [jmpV 29 0]) ++ yL))
  have S_u7 : Hid (Stp lb (fun _ => False) w v u7 v7) := S_u6.out.trans hs (fun k hk h => h)
  have z_u7 := hs.x.size
  clear hp hs hc BL L2x4 O2x4 Cx4 Nx4 Cr24 Nr24 P_u6
  go_wp2_with fail
  refine (set1_any lb b2 (b2 + 1) (b2 + 1 + 1) (b2 + 1 + 1 + 1) r2 cr2 (hh + 1 + xL.length) 0 v7 (xs ++ jmpV (notI cond) ((xs.length + 2 + xL.length : Nat) : Int) :: xL) yL (jmpV 29 0) u7 Cr25.out (by have := HH.out; simp; omega) (by omega) L2x5.out (by have h := P_u7.out; simpa using h) O2x5.out).mono ?_
  rintro e u8 ⟨rfl, hp, hs⟩
  have Cx6 : Hid (Cl u8 bx [.int .i64 a0, .int .i64 cond, .slice aoa ka ca, .slice aob kb cb]) := hs.cl Cx5.out (by omega) Nx5.out (show ¬ bx = (b2 + 1 + 1) by omega)
  have Nx6 : Hid ((v7).ownBlock ≠ some bx) := hs.nb Cx5.out.1 Nx5.out
  have P_u8 : Hid (LP u8 lb v7 (xs ++ jmpV (notI cond) ((xs.length + 2 + xL.length : Nat) : Int) :: (xL ++ jmpV 29 ((xs.length + 2 + xL.length + yL.length : Nat) : Int) :: yL))) := (by have h := hp; rw [show ((xs ++ jmpV (notI cond) ((xs.length + 2 + xL.length : Nat) : Int) :: xL ++ jmpV 29 0 :: yL).length : Int) = ((xs.length + 2 + xL.length + yL.length : Nat) : Int) by simp; omega, List.append_assoc, List.cons_append] at h; exact h : LP u8 lb v7 (xs ++ jmpV (notI cond) ((xs.length + 2 + xL.length : Nat) : Int) :: (xL ++ jmpV 29 ((xs.length + 2 + xL.length + yL.length : Nat) : Int) :: yL)))
  have S_u8 : Hid (Stp lb (fun _ => False) w v u8 v7) := S_u7.out.trans hs (fun k hk h => by have h2 : k = (b2 + 1 + 1) := h; have := HBX.out; omega)
  have z_u8 := hs.x.size
  clear hp hs  Cx5 Nx5 L2x5 O2x5 Cr25 Nr25 P_u7
  go_wp2
  go_end0
  exact ⟨rfl, v7, P_u8.out, S_u8.out⟩
end Go.Proofs.Ytplnpgohdgialaa
