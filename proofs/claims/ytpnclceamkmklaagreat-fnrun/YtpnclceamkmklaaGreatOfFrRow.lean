import Derived.Test.YtpnclceamkmklaaGreatOfFrAns2
import Derived.Test.YtpnclceamkmklaaGreatOfCoreF
import Derived.OpenShut
import Derived.ChangeOld
import Derived.Below
/- FnRun: the law's walk. -/
namespace Go.Proofs.YtpnclceamkmklaaGreat
open Go.RowKit

set_option maxRecDepth 20000 in
set_option maxHeartbeats 16000000 in
theorem lawRun_walk (ao : Option Addr) (n cap : Nat) (ao' : Option Addr) (n' cap' : Nat) (w : World) (hn : n ≤ 1048576) (hn' : n' ≤ 1048576) (hr : Bytes0 w w.heap.size ao n) (hr' : Bytes0 w w.heap.size ao' n') :
    Calls Tryz.prog 3 #[.slice ao n cap, .slice ao' n' cap'] w fun e w' => e = .returned (.bool true) ∧ Below w.heap.size w w' := by
  have HR : Hid (Bytes0 w w.heap.size ao n) := hr
  have HR' : Hid (Bytes0 w w.heap.size ao' n') := hr'
  have q1 : ¬ (1048576 : Int) < (n : Int) := by omega
  have q2 : ¬ (1048576 : Int) < (n' : Int) := by omega
  clear hr hr'
  go_enter Tryz.func3, Tryz.ntmps3
  go_wp2_with fail
  refine (drawRun_any ao n cap w hn HR.out).mono ?_
  rintro e w1 ⟨bP, cP, len, F, s, n0, M0, xR0, yR0, bR0, xH0, yH0, bH0, hA0, hC0, xO0, yO0, bO0, rfl, hl, hp, hg, hs, hi, ho, b1⟩
  have G0 : Hid (MachG w1 xR0 yR0 bR0 n0 M0.R xH0 yH0 bH0 M0.nH M0.Hp hA0 hC0 xO0 yO0 bO0 M0.nO M0.K M0.V) := hg
  have PA : Hid (Arr w1 bP (len * 6) (insF F)) := hp
  have HS : Hid (Small n0 M0.nH M0.Hp M0.nO) := hs
  have HI : Hid (InRange M0.R M0.nH M0.Hp) := hi
  have BB : Hid (Below w.heap.size w w1) := b1
  clear hp hg hs hi b1 HR
  go_upto_region 4 with fail
  obtain ⟨w2, hw, b, X⟩ := MVar.new G0.out
  rw [hw]
  obtain ⟨q0, hq⟩ : ∃ y, w1.heap.size = y := ⟨_, rfl⟩
  rw [hq] at X ⊢
  have X0 : Hid (MVar w2 q0 n0 M0 xR0 yR0 bR0 xH0 yH0 bH0 hA0 hC0 xO0 yO0 bO0) := X
  have PA' : Hid (Arr w2 bP (len * 6) (insF F)) := PA.out.below b PA.out.lt
  clear PA
  have PA := PA'
  clear PA'
  have BB' : Hid (Below w.heap.size w w2) := BB.out.trans (b.mono BB.out.size)
  clear BB
  have BB := BB'
  clear BB'
  clear hw hq b X G0
  have R2 : Hid (Bytes0 w2 w.heap.size ao' n') := by
    rcases HR'.out with h | ⟨b, off, h1, h2, h3⟩
    · exact .inl h
    · exact .inr ⟨b, off, h1, h2, fun i hi => by obtain ⟨v, q1, q2, q3⟩ := h3 i hi; exact ⟨v, q1, q2, (BB.out.cell (p := ⟨b, off + i, none⟩) h2).trans q3⟩⟩
  clear HR'
  go_wp2_with fail
  refine (lwAt_any ao' n' cap' 0 _ w2 (by omega) R2.out).mono ?_
  rintro e w3 ⟨a, rfl, a0, a1, hw3⟩
  rw [hw3]
  clear hw3
  go_wp2_with fail
  refine (lwAt_any ao' n' cap' 1 _ w2 (by omega) R2.out).mono ?_
  rintro e w3 ⟨b, rfl, b0, b1, hw3⟩
  rw [hw3]
  clear hw3
  obtain ⟨xX00, xX01, xX02, xX03, xX04, xX05, xX06, xX07, xX08⟩ := q9 X0.out.1
  have xX0z := (Array.getElem?_eq_some_iff.1 X0.out.1).1
  go_wp2_with fail
  obtain ⟨na, hna, la⟩ : ∃ k : Nat, a % 40 = (k : Int) ∧ k < 40 := ⟨(a % 40).toNat, by omega, by omega⟩
  obtain ⟨nb, hnb, lb⟩ : ∃ k : Nat, b % 40 = (k : Int) ∧ k < 40 := ⟨(b % 40).toNat, by omega, by omega⟩
  rw [hna, hnb]
  clear hna hnb a0 a1 b0 b1
  clear xX00 xX01 xX02 xX03 xX04 xX05 xX06 xX07 xX08 xX0z
  refine (implRun_any bP len cP F xR0 yR0 bR0 n0 M0.R M0.z M0.c M0.hz M0.hc xH0 yH0 bH0 M0.nH M0.Hp hA0 hC0 M0.pc M0.st xO0 yO0 bO0 M0.nO M0.K M0.V _ w2 (by omega) PA.out HS.out HI.out X0.out.2).mono ?_
  rintro e w3 ⟨v, rfl, b1, a1⟩
  obtain ⟨o1, ho1⟩ : ∃ y, runA len F n0 M0 ((na : Int) + (nb : Int)) = y := ⟨_, rfl⟩
  change Ans _ _ _ (runA len F n0 M0 ((na : Int) + (nb : Int))) at a1
  rw [ho1] at a1
  have O1 : Hid (runA len F n0 M0 ((na : Int) + (nb : Int)) = o1) := ho1
  have FW : Hid (Fit (rOf o1) (mOf o1)) := by
    rw [← ho1, show ((na : Int) + (nb : Int)) = ((na + nb : Nat) : Int) by omega]
    exact fit_run HI.out (by omega) _ (by omega)
  have L1 := a1.lies (PA.out.below b1 PA.out.lt)
  clear ho1 a1
  obtain ⟨W, hW⟩ : ∃ y, mOf o1 = y := ⟨_, rfl⟩
  obtain ⟨nW, hnW⟩ : ∃ y, rOf o1 = y := ⟨_, rfl⟩
  rw [hW, hnW] at L1 FW
  have OW : Hid (mOf o1 = W ∧ rOf o1 = nW) := ⟨hW, hnW⟩
  clear hW hnW
  obtain ⟨xR1, yR1, bR1, xH1, yH1, bH1, hA1, hC1, xO1, yO1, bO1, rfl, g⟩ := L1
  have G1 : Hid (MachG w3 xR1 yR1 bR1 nW W.R xH1 yH1 bH1 W.nH W.Hp hA1 hC1 xO1 yO1 bO1 W.nO W.K W.V) := g
  have X0' : Hid (MVar w3 q0 n0 M0 xR0 yR0 bR0 xH0 yH0 bH0 hA0 hC0 xO0 yO0 bO0) := X0.out.below b1
  clear X0
  have X0 := X0'
  clear X0'
  have PA' : Hid (Arr w3 bP (len * 6) (insF F)) := PA.out.below b1 PA.out.lt
  clear PA
  have PA := PA'
  clear PA'
  have BB' : Hid (Below w.heap.size w w3) := BB.out.trans (b1.mono BB.out.size)
  clear BB
  have BB := BB'
  clear BB'
  clear g b1
  go_upto_region 7 with fail
  obtain ⟨w4, hw, b, X⟩ := MVar.new G1.out
  rw [hw]
  obtain ⟨q1, hq⟩ : ∃ y, w3.heap.size = y := ⟨_, rfl⟩
  rw [hq] at X ⊢
  have X1 : Hid (MVar w4 q1 nW W xR1 yR1 bR1 xH1 yH1 bH1 hA1 hC1 xO1 yO1 bO1) := X
  have X0' : Hid (MVar w4 q0 n0 M0 xR0 yR0 bR0 xH0 yH0 bH0 hA0 hC0 xO0 yO0 bO0) := X0.out.below b
  clear X0
  have X0 := X0'
  clear X0'
  have PA' : Hid (Arr w4 bP (len * 6) (insF F)) := PA.out.below b PA.out.lt
  clear PA
  have PA := PA'
  clear PA'
  have BB' : Hid (Below w.heap.size w w4) := BB.out.trans (b.mono BB.out.size)
  clear BB
  have BB := BB'
  clear BB'
  clear hw hq b X G1
  obtain ⟨xX00, xX01, xX02, xX03, xX04, xX05, xX06, xX07, xX08⟩ := q9 X0.out.1
  have xX0z := (Array.getElem?_eq_some_iff.1 X0.out.1).1
  go_wp2_with fail
  clear xX00 xX01 xX02 xX03 xX04 xX05 xX06 xX07 xX08 xX0z
  refine (implRun_any bP len cP F xR0 yR0 bR0 n0 M0.R M0.z M0.c M0.hz M0.hc xH0 yH0 bH0 M0.nH M0.Hp hA0 hC0 M0.pc M0.st xO0 yO0 bO0 M0.nO M0.K M0.V _ w4 (by omega) PA.out HS.out HI.out X0.out.2).mono ?_
  rintro e w5 ⟨v, rfl, b1, a1⟩
  change Ans _ _ _ (runA len F n0 M0 (na : Int)) at a1
  obtain ⟨o2, ho2⟩ : ∃ y, runA len F n0 M0 (na : Int) = y := ⟨_, rfl⟩
  rw [ho2] at a1
  have O2 : Hid (runA len F n0 M0 (na : Int) = o2) := ho2
  have L1 := a1.lies (PA.out.below b1 PA.out.lt)
  clear ho2 a1
  obtain ⟨U, hW⟩ : ∃ y, mOf o2 = y := ⟨_, rfl⟩
  obtain ⟨nU, hnW⟩ : ∃ y, rOf o2 = y := ⟨_, rfl⟩
  rw [hW, hnW] at L1
  have OU : Hid (mOf o2 = U ∧ rOf o2 = nU) := ⟨hW, hnW⟩
  clear hW hnW
  obtain ⟨xR2, yR2, bR2, xH2, yH2, bH2, hA2, hC2, xO2, yO2, bO2, rfl, g⟩ := L1
  have G1 : Hid (MachG w5 xR2 yR2 bR2 nU U.R xH2 yH2 bH2 U.nH U.Hp hA2 hC2 xO2 yO2 bO2 U.nO U.K U.V) := g
  have X0' : Hid (MVar w5 q0 n0 M0 xR0 yR0 bR0 xH0 yH0 bH0 hA0 hC0 xO0 yO0 bO0) := X0.out.below b1
  clear X0
  have X0 := X0'
  clear X0'
  have X1' : Hid (MVar w5 q1 nW W xR1 yR1 bR1 xH1 yH1 bH1 hA1 hC1 xO1 yO1 bO1) := X1.out.below b1
  clear X1
  have X1 := X1'
  clear X1'
  have PA' : Hid (Arr w5 bP (len * 6) (insF F)) := PA.out.below b1 PA.out.lt
  clear PA
  have PA := PA'
  clear PA'
  have BB' : Hid (Below w.heap.size w w5) := BB.out.trans (b1.mono BB.out.size)
  clear BB
  have BB := BB'
  clear BB'
  clear g b1
  go_upto_region 8 with fail
  obtain ⟨w6, hw, b, X⟩ := MVar.new G1.out
  rw [hw]
  obtain ⟨q2, hq⟩ : ∃ y, w5.heap.size = y := ⟨_, rfl⟩
  rw [hq] at X ⊢
  have X2 : Hid (MVar w6 q2 nU U xR2 yR2 bR2 xH2 yH2 bH2 hA2 hC2 xO2 yO2 bO2) := X
  have X0' : Hid (MVar w6 q0 n0 M0 xR0 yR0 bR0 xH0 yH0 bH0 hA0 hC0 xO0 yO0 bO0) := X0.out.below b
  clear X0
  have X0 := X0'
  clear X0'
  have X1' : Hid (MVar w6 q1 nW W xR1 yR1 bR1 xH1 yH1 bH1 hA1 hC1 xO1 yO1 bO1) := X1.out.below b
  clear X1
  have X1 := X1'
  clear X1'
  have PA' : Hid (Arr w6 bP (len * 6) (insF F)) := PA.out.below b PA.out.lt
  clear PA
  have PA := PA'
  clear PA'
  have BB' : Hid (Below w.heap.size w w6) := BB.out.trans (b.mono BB.out.size)
  clear BB
  have BB := BB'
  clear BB'
  clear hw hq b X G1
  obtain ⟨xX00, xX01, xX02, xX03, xX04, xX05, xX06, xX07, xX08⟩ := q9 X0.out.1
  have xX0z := (Array.getElem?_eq_some_iff.1 X0.out.1).1
  go_wp2_with fail
  clear xX00 xX01 xX02 xX03 xX04 xX05 xX06 xX07 xX08 xX0z
  refine (specRun_any bP len cP F xR0 yR0 bR0 n0 M0.R M0.z M0.c M0.hz M0.hc xH0 yH0 bH0 M0.nH M0.Hp hA0 hC0 M0.pc M0.st xO0 yO0 bO0 M0.nO M0.K M0.V _ w6 (by omega) PA.out HS.out HI.out X0.out.2).mono ?_
  rintro e w7 ⟨v, rfl, b1, a1⟩
  change Ans _ _ _ (runA len F n0 M0 ((na : Int) + (nb : Int))) at a1
  rw [O1.out] at a1
  have L1 := a1.lies (PA.out.below b1 PA.out.lt)
  clear a1
  rw [OW.out.1, OW.out.2] at L1
  obtain ⟨xR3, yR3, bR3, xH3, yH3, bH3, hA3, hC3, xO3, yO3, bO3, rfl, g⟩ := L1
  have G1 : Hid (MachG w7 xR3 yR3 bR3 nW W.R xH3 yH3 bH3 W.nH W.Hp hA3 hC3 xO3 yO3 bO3 W.nO W.K W.V) := g
  have X0' : Hid (MVar w7 q0 n0 M0 xR0 yR0 bR0 xH0 yH0 bH0 hA0 hC0 xO0 yO0 bO0) := X0.out.below b1
  clear X0
  have X0 := X0'
  clear X0'
  have X1' : Hid (MVar w7 q1 nW W xR1 yR1 bR1 xH1 yH1 bH1 hA1 hC1 xO1 yO1 bO1) := X1.out.below b1
  clear X1
  have X1 := X1'
  clear X1'
  have X2' : Hid (MVar w7 q2 nU U xR2 yR2 bR2 xH2 yH2 bH2 hA2 hC2 xO2 yO2 bO2) := X2.out.below b1
  clear X2
  have X2 := X2'
  clear X2'
  have PA' : Hid (Arr w7 bP (len * 6) (insF F)) := PA.out.below b1 PA.out.lt
  clear PA
  have PA := PA'
  clear PA'
  have BB' : Hid (Below w.heap.size w w7) := BB.out.trans (b1.mono BB.out.size)
  clear BB
  have BB := BB'
  clear BB'
  clear g b1
  go_upto_region 9 with fail
  obtain ⟨w8, hw, b, X⟩ := MVar.new G1.out
  rw [hw]
  obtain ⟨q3, hq⟩ : ∃ y, w7.heap.size = y := ⟨_, rfl⟩
  rw [hq] at X ⊢
  have X3 : Hid (MVar w8 q3 nW W xR3 yR3 bR3 xH3 yH3 bH3 hA3 hC3 xO3 yO3 bO3) := X
  have X0' : Hid (MVar w8 q0 n0 M0 xR0 yR0 bR0 xH0 yH0 bH0 hA0 hC0 xO0 yO0 bO0) := X0.out.below b
  clear X0
  have X0 := X0'
  clear X0'
  have X1' : Hid (MVar w8 q1 nW W xR1 yR1 bR1 xH1 yH1 bH1 hA1 hC1 xO1 yO1 bO1) := X1.out.below b
  clear X1
  have X1 := X1'
  clear X1'
  have X2' : Hid (MVar w8 q2 nU U xR2 yR2 bR2 xH2 yH2 bH2 hA2 hC2 xO2 yO2 bO2) := X2.out.below b
  clear X2
  have X2 := X2'
  clear X2'
  have PA' : Hid (Arr w8 bP (len * 6) (insF F)) := PA.out.below b PA.out.lt
  clear PA
  have PA := PA'
  clear PA'
  have BB' : Hid (Below w.heap.size w w8) := BB.out.trans (b.mono BB.out.size)
  clear BB
  have BB := BB'
  clear BB'
  clear hw hq b X G1
  obtain ⟨xX10, xX11, xX12, xX13, xX14, xX15, xX16, xX17, xX18⟩ := q9 X1.out.1
  have xX1z := (Array.getElem?_eq_some_iff.1 X1.out.1).1
  obtain ⟨xX30, xX31, xX32, xX33, xX34, xX35, xX36, xX37, xX38⟩ := q9 X3.out.1
  have xX3z := (Array.getElem?_eq_some_iff.1 X3.out.1).1
  go_wp2_with fail
  clear xX10 xX11 xX12 xX13 xX14 xX15 xX16 xX17 xX18 xX1z
  clear xX30 xX31 xX32 xX33 xX34 xX35 xX36 xX37 xX38 xX3z
  refine (lwMach_same xR1 yR1 bR1 nW W.R W.z W.c W.hz W.hc xH1 yH1 bH1 W.nH W.Hp hA1 hC1 W.pc W.st xO1 yO1 bO1 W.nO W.K W.V xR3 yR3 bR3 xH3 yH3 bH3 hA3 hC3 W.pc xO3 yO3 bO3 w8 FW.out.small.regs FW.out.small.heaps FW.out.small.obs FW.out.full X1.out.2 X3.out.2).mono ?_
  rintro e w9 ⟨rfl, b1⟩
  have X0' : Hid (MVar w9 q0 n0 M0 xR0 yR0 bR0 xH0 yH0 bH0 hA0 hC0 xO0 yO0 bO0) := X0.out.below b1
  clear X0
  have X0 := X0'
  clear X0'
  have X1' : Hid (MVar w9 q1 nW W xR1 yR1 bR1 xH1 yH1 bH1 hA1 hC1 xO1 yO1 bO1) := X1.out.below b1
  clear X1
  have X1 := X1'
  clear X1'
  have X2' : Hid (MVar w9 q2 nU U xR2 yR2 bR2 xH2 yH2 bH2 hA2 hC2 xO2 yO2 bO2) := X2.out.below b1
  clear X2
  have X2 := X2'
  clear X2'
  have X3' : Hid (MVar w9 q3 nW W xR3 yR3 bR3 xH3 yH3 bH3 hA3 hC3 xO3 yO3 bO3) := X3.out.below b1
  clear X3
  have X3 := X3'
  clear X3'
  have PA' : Hid (Arr w9 bP (len * 6) (insF F)) := PA.out.below b1 PA.out.lt
  clear PA
  have PA := PA'
  clear PA'
  have BB' : Hid (Below w.heap.size w w9) := BB.out.trans (b1.mono BB.out.size)
  clear BB
  have BB := BB'
  clear BB'
  clear b1
  obtain ⟨xX10, xX11, xX12, xX13, xX14, xX15, xX16, xX17, xX18⟩ := q9 X1.out.1
  have xX1z := (Array.getElem?_eq_some_iff.1 X1.out.1).1
  obtain ⟨xX30, xX31, xX32, xX33, xX34, xX35, xX36, xX37, xX38⟩ := q9 X3.out.1
  have xX3z := (Array.getElem?_eq_some_iff.1 X3.out.1).1
  go_upto_region 11 with fail
  clear xX10 xX11 xX12 xX13 xX14 xX15 xX16 xX17 xX18 xX1z
  clear xX30 xX31 xX32 xX33 xX34 xX35 xX36 xX37 xX38 xX3z
  go_wp2_with fail
  refine (specFlat_any bP 0 len cP F w9 (by omega) ?at_).mono ?_
  case at_ => exact PA.out.at
  rintro e w10 ⟨rfl, b1⟩
  have X0' : Hid (MVar w10 q0 n0 M0 xR0 yR0 bR0 xH0 yH0 bH0 hA0 hC0 xO0 yO0 bO0) := X0.out.below b1
  clear X0
  have X0 := X0'
  clear X0'
  have X1' : Hid (MVar w10 q1 nW W xR1 yR1 bR1 xH1 yH1 bH1 hA1 hC1 xO1 yO1 bO1) := X1.out.below b1
  clear X1
  have X1 := X1'
  clear X1'
  have X2' : Hid (MVar w10 q2 nU U xR2 yR2 bR2 xH2 yH2 bH2 hA2 hC2 xO2 yO2 bO2) := X2.out.below b1
  clear X2
  have X2 := X2'
  clear X2'
  have X3' : Hid (MVar w10 q3 nW W xR3 yR3 bR3 xH3 yH3 bH3 hA3 hC3 xO3 yO3 bO3) := X3.out.below b1
  clear X3
  have X3 := X3'
  clear X3'
  have PA' : Hid (Arr w10 bP (len * 6) (insF F)) := PA.out.below b1 PA.out.lt
  clear PA
  have PA := PA'
  clear PA'
  have BB' : Hid (Below w.heap.size w w10) := BB.out.trans (b1.mono BB.out.size)
  clear BB
  have BB := BB'
  clear BB'
  clear b1
  by_cases hf : flatOK len F = true
  case neg =>
    have hf' : flatOK len F = false := by simpa using hf
    rw [hf']
    clear hf hf'
    go_wp2
    go_ret
    exact ⟨rfl, BB.out⟩
  rw [hf]
  obtain ⟨xX00, xX01, xX02, xX03, xX04, xX05, xX06, xX07, xX08⟩ := q9 X0.out.1
  have xX0z := (Array.getElem?_eq_some_iff.1 X0.out.1).1
  go_wp2_with fail
  clear xX00 xX01 xX02 xX03 xX04 xX05 xX06 xX07 xX08 xX0z
  refine (specMach_any xR0 yR0 bR0 n0 M0.z M0.c M0.hz M0.hc M0.R xH0 yH0 bH0 M0.nH M0.Hp hA0 hC0 M0.pc M0.st xO0 yO0 bO0 M0.nO M0.K M0.V w10 HS.out HI.out.base X0.out.2).mono ?_
  rintro e w11 ⟨rfl, b1⟩
  have X0' : Hid (MVar w11 q0 n0 M0 xR0 yR0 bR0 xH0 yH0 bH0 hA0 hC0 xO0 yO0 bO0) := X0.out.below b1
  clear X0
  have X0 := X0'
  clear X0'
  have X1' : Hid (MVar w11 q1 nW W xR1 yR1 bR1 xH1 yH1 bH1 hA1 hC1 xO1 yO1 bO1) := X1.out.below b1
  clear X1
  have X1 := X1'
  clear X1'
  have X2' : Hid (MVar w11 q2 nU U xR2 yR2 bR2 xH2 yH2 bH2 hA2 hC2 xO2 yO2 bO2) := X2.out.below b1
  clear X2
  have X2 := X2'
  clear X2'
  have X3' : Hid (MVar w11 q3 nW W xR3 yR3 bR3 xH3 yH3 bH3 hA3 hC3 xO3 yO3 bO3) := X3.out.below b1
  clear X3
  have X3 := X3'
  clear X3'
  have PA' : Hid (Arr w11 bP (len * 6) (insF F)) := PA.out.below b1 PA.out.lt
  clear PA
  have PA := PA'
  clear PA'
  have BB' : Hid (Below w.heap.size w w11) := BB.out.trans (b1.mono BB.out.size)
  clear BB
  have BB := BB'
  clear BB'
  clear b1
  by_cases hm : machOK n0 M0.z M0.c M0.hz M0.hc M0.nH M0.Hp M0.pc M0.st M0.nO M0.K = true
  case neg =>
    have hm' : machOK n0 M0.z M0.c M0.hz M0.hc M0.nH M0.Hp M0.pc M0.st M0.nO M0.K = false := by simpa using hm
    rw [hm']
    clear hm hm'
    go_wp2
    go_ret
    exact ⟨rfl, BB.out⟩
  rw [hm]
  have LV : Hid (Live len F n0 M0) := ⟨hf, hm⟩
  clear hf hm
  have hob : ¬ (1000 : Int) < (M0.nO : Int) := by omega
  have e1 : runA len F n0 M0 ((na : Int) + (nb : Int)) = some (runM len F (na + nb) M0) := by
    rw [show ((na : Int) + (nb : Int)) = ((na + nb : Nat) : Int) by omega]
    exact runA_live LV.out (by omega) _ (by omega)
  have e2 := O1.out
  rw [e1] at e2
  subst e2
  have e3 := O2.out
  rw [runA_live LV.out (by omega) _ (by omega)] at e3
  subst e3
  have f1 : runM len F (na + nb) M0 = W := OW.out.1
  obtain rfl : 8 = nW := OW.out.2
  have f2 : runM len F na M0 = U := OU.out.1
  obtain rfl : 8 = nU := OU.out.2
  have f3 := live_run LV.out HI.out (by omega) na (by omega)
  rw [f2] at f3
  have f4 := (live_run LV.out HI.out (by omega) (na + nb) (by omega)).1.2
  rw [f1] at f4
  rw [runM_add, f2] at f1
  have EW : Hid (runM len F nb U = W) := f1
  have LU : Hid (Live len F 8 U) := f3.1
  have HS2 : Hid (Small 8 U.nH U.Hp U.nO) := f3.2.1.small
  have HI2 : Hid (InRange U.R U.nH U.Hp) := f3.2.1.range
  have u1 : U.nO ≤ 1000 := by have := f3.2.2; omega
  have VW : Hid (machOK 8 W.z W.c W.hz W.hc W.nH W.Hp W.pc W.st W.nO W.K = true) := f4
  clear e1 f1 f2 f3 f4 O1 O2 OW OU
  obtain ⟨xX00, xX01, xX02, xX03, xX04, xX05, xX06, xX07, xX08⟩ := q9 X0.out.1
  have xX0z := (Array.getElem?_eq_some_iff.1 X0.out.1).1
  obtain ⟨xX20, xX21, xX22, xX23, xX24, xX25, xX26, xX27, xX28⟩ := q9 X2.out.1
  have xX2z := (Array.getElem?_eq_some_iff.1 X2.out.1).1
  go_wp2_with fail
  clear xX00 xX01 xX02 xX03 xX04 xX05 xX06 xX07 xX08 xX0z
  clear xX20 xX21 xX22 xX23 xX24 xX25 xX26 xX27 xX28 xX2z
  refine (implRun_any bP len cP F xR2 yR2 bR2 8 U.R U.z U.c U.hz U.hc xH2 yH2 bH2 U.nH U.Hp hA2 hC2 U.pc U.st xO2 yO2 bO2 U.nO U.K U.V _ w11 (by omega) PA.out HS2.out HI2.out X2.out.2).mono ?_
  rintro e w12 ⟨v, rfl, b1, a1⟩
  change Ans _ _ _ (runA len F 8 U (nb : Int)) at a1
  rw [runA_live LU.out u1 _ (by omega), EW.out] at a1
  have L1 := a1.lies (PA.out.below b1 PA.out.lt)
  change Lies _ _ 8 W at L1
  clear a1
  obtain ⟨xR4, yR4, bR4, xH4, yH4, bH4, hA4, hC4, xO4, yO4, bO4, rfl, g⟩ := L1
  have G1 : Hid (MachG w12 xR4 yR4 bR4 8 W.R xH4 yH4 bH4 W.nH W.Hp hA4 hC4 xO4 yO4 bO4 W.nO W.K W.V) := g
  have X0' : Hid (MVar w12 q0 n0 M0 xR0 yR0 bR0 xH0 yH0 bH0 hA0 hC0 xO0 yO0 bO0) := X0.out.below b1
  clear X0
  have X0 := X0'
  clear X0'
  have X1' : Hid (MVar w12 q1 8 W xR1 yR1 bR1 xH1 yH1 bH1 hA1 hC1 xO1 yO1 bO1) := X1.out.below b1
  clear X1
  have X1 := X1'
  clear X1'
  have X2' : Hid (MVar w12 q2 8 U xR2 yR2 bR2 xH2 yH2 bH2 hA2 hC2 xO2 yO2 bO2) := X2.out.below b1
  clear X2
  have X2 := X2'
  clear X2'
  have X3' : Hid (MVar w12 q3 8 W xR3 yR3 bR3 xH3 yH3 bH3 hA3 hC3 xO3 yO3 bO3) := X3.out.below b1
  clear X3
  have X3 := X3'
  clear X3'
  have PA' : Hid (Arr w12 bP (len * 6) (insF F)) := PA.out.below b1 PA.out.lt
  clear PA
  have PA := PA'
  clear PA'
  have BB' : Hid (Below w.heap.size w w12) := BB.out.trans (b1.mono BB.out.size)
  clear BB
  have BB := BB'
  clear BB'
  clear g b1
  go_upto_region 14 with fail
  obtain ⟨w13, hw, b, X⟩ := MVar.new G1.out
  rw [hw]
  obtain ⟨q4, hq⟩ : ∃ y, w12.heap.size = y := ⟨_, rfl⟩
  rw [hq] at X ⊢
  have X4 : Hid (MVar w13 q4 8 W xR4 yR4 bR4 xH4 yH4 bH4 hA4 hC4 xO4 yO4 bO4) := X
  have X0' : Hid (MVar w13 q0 n0 M0 xR0 yR0 bR0 xH0 yH0 bH0 hA0 hC0 xO0 yO0 bO0) := X0.out.below b
  clear X0
  have X0 := X0'
  clear X0'
  have X1' : Hid (MVar w13 q1 8 W xR1 yR1 bR1 xH1 yH1 bH1 hA1 hC1 xO1 yO1 bO1) := X1.out.below b
  clear X1
  have X1 := X1'
  clear X1'
  have X2' : Hid (MVar w13 q2 8 U xR2 yR2 bR2 xH2 yH2 bH2 hA2 hC2 xO2 yO2 bO2) := X2.out.below b
  clear X2
  have X2 := X2'
  clear X2'
  have X3' : Hid (MVar w13 q3 8 W xR3 yR3 bR3 xH3 yH3 bH3 hA3 hC3 xO3 yO3 bO3) := X3.out.below b
  clear X3
  have X3 := X3'
  clear X3'
  have PA' : Hid (Arr w13 bP (len * 6) (insF F)) := PA.out.below b PA.out.lt
  clear PA
  have PA := PA'
  clear PA'
  have BB' : Hid (Below w.heap.size w w13) := BB.out.trans (b.mono BB.out.size)
  clear BB
  have BB := BB'
  clear BB'
  clear hw hq b X G1
  obtain ⟨xX00, xX01, xX02, xX03, xX04, xX05, xX06, xX07, xX08⟩ := q9 X0.out.1
  have xX0z := (Array.getElem?_eq_some_iff.1 X0.out.1).1
  go_wp2_with fail
  clear xX00 xX01 xX02 xX03 xX04 xX05 xX06 xX07 xX08 xX0z
  obtain ⟨S, hS⟩ : ∃ y, runM len F 1 M0 = y := ⟨_, rfl⟩
  have ES : Hid (runM len F 1 M0 = S) := hS
  have FS : Hid (Fit 8 S) := by
    rw [← hS]
    exact (live_run LV.out HI.out (by omega) 1 (by omega)).2.1
  clear hS
  refine (implStep_any bP len cP F xR0 yR0 bR0 n0 M0.R M0.z M0.c M0.hz M0.hc xH0 yH0 bH0 M0.nH M0.Hp hA0 hC0 M0.pc M0.st xO0 yO0 bO0 M0.nO M0.K M0.V w13 (by omega) PA.out HS.out HI.out X0.out.2).mono ?_
  rintro e w14 ⟨v, rfl, b1, a1⟩
  change Ans _ _ _ (stepA len F n0 M0) at a1
  rw [stepA_live LV.out, ES.out] at a1
  have L1 := a1.lies (PA.out.below b1 PA.out.lt)
  change Lies _ _ 8 S at L1
  clear a1
  obtain ⟨xR5, yR5, bR5, xH5, yH5, bH5, hA5, hC5, xO5, yO5, bO5, rfl, g⟩ := L1
  have G1 : Hid (MachG w14 xR5 yR5 bR5 8 S.R xH5 yH5 bH5 S.nH S.Hp hA5 hC5 xO5 yO5 bO5 S.nO S.K S.V) := g
  have X0' : Hid (MVar w14 q0 n0 M0 xR0 yR0 bR0 xH0 yH0 bH0 hA0 hC0 xO0 yO0 bO0) := X0.out.below b1
  clear X0
  have X0 := X0'
  clear X0'
  have X1' : Hid (MVar w14 q1 8 W xR1 yR1 bR1 xH1 yH1 bH1 hA1 hC1 xO1 yO1 bO1) := X1.out.below b1
  clear X1
  have X1 := X1'
  clear X1'
  have X2' : Hid (MVar w14 q2 8 U xR2 yR2 bR2 xH2 yH2 bH2 hA2 hC2 xO2 yO2 bO2) := X2.out.below b1
  clear X2
  have X2 := X2'
  clear X2'
  have X3' : Hid (MVar w14 q3 8 W xR3 yR3 bR3 xH3 yH3 bH3 hA3 hC3 xO3 yO3 bO3) := X3.out.below b1
  clear X3
  have X3 := X3'
  clear X3'
  have X4' : Hid (MVar w14 q4 8 W xR4 yR4 bR4 xH4 yH4 bH4 hA4 hC4 xO4 yO4 bO4) := X4.out.below b1
  clear X4
  have X4 := X4'
  clear X4'
  have PA' : Hid (Arr w14 bP (len * 6) (insF F)) := PA.out.below b1 PA.out.lt
  clear PA
  have PA := PA'
  clear PA'
  have BB' : Hid (Below w.heap.size w w14) := BB.out.trans (b1.mono BB.out.size)
  clear BB
  have BB := BB'
  clear BB'
  clear g b1
  go_upto_region 15 with fail
  obtain ⟨w15, hw, b, X⟩ := MVar.new G1.out
  rw [hw]
  obtain ⟨q5, hq⟩ : ∃ y, w14.heap.size = y := ⟨_, rfl⟩
  rw [hq] at X ⊢
  have X5 : Hid (MVar w15 q5 8 S xR5 yR5 bR5 xH5 yH5 bH5 hA5 hC5 xO5 yO5 bO5) := X
  have X0' : Hid (MVar w15 q0 n0 M0 xR0 yR0 bR0 xH0 yH0 bH0 hA0 hC0 xO0 yO0 bO0) := X0.out.below b
  clear X0
  have X0 := X0'
  clear X0'
  have X1' : Hid (MVar w15 q1 8 W xR1 yR1 bR1 xH1 yH1 bH1 hA1 hC1 xO1 yO1 bO1) := X1.out.below b
  clear X1
  have X1 := X1'
  clear X1'
  have X2' : Hid (MVar w15 q2 8 U xR2 yR2 bR2 xH2 yH2 bH2 hA2 hC2 xO2 yO2 bO2) := X2.out.below b
  clear X2
  have X2 := X2'
  clear X2'
  have X3' : Hid (MVar w15 q3 8 W xR3 yR3 bR3 xH3 yH3 bH3 hA3 hC3 xO3 yO3 bO3) := X3.out.below b
  clear X3
  have X3 := X3'
  clear X3'
  have X4' : Hid (MVar w15 q4 8 W xR4 yR4 bR4 xH4 yH4 bH4 hA4 hC4 xO4 yO4 bO4) := X4.out.below b
  clear X4
  have X4 := X4'
  clear X4'
  have PA' : Hid (Arr w15 bP (len * 6) (insF F)) := PA.out.below b PA.out.lt
  clear PA
  have PA := PA'
  clear PA'
  have BB' : Hid (Below w.heap.size w w15) := BB.out.trans (b.mono BB.out.size)
  clear BB
  have BB := BB'
  clear BB'
  clear hw hq b X G1
  obtain ⟨xX00, xX01, xX02, xX03, xX04, xX05, xX06, xX07, xX08⟩ := q9 X0.out.1
  have xX0z := (Array.getElem?_eq_some_iff.1 X0.out.1).1
  go_wp2_with fail
  clear xX00 xX01 xX02 xX03 xX04 xX05 xX06 xX07 xX08 xX0z
  refine (implRun_any bP len cP F xR0 yR0 bR0 n0 M0.R M0.z M0.c M0.hz M0.hc xH0 yH0 bH0 M0.nH M0.Hp hA0 hC0 M0.pc M0.st xO0 yO0 bO0 M0.nO M0.K M0.V _ w15 (by omega) PA.out HS.out HI.out X0.out.2).mono ?_
  rintro e w16 ⟨v, rfl, b1, a1⟩
  change Ans _ _ _ (runA len F n0 M0 ((1 : Nat) : Int)) at a1
  rw [runA_live LV.out (by omega) 1 (by omega), ES.out] at a1
  have L1 := a1.lies (PA.out.below b1 PA.out.lt)
  change Lies _ _ 8 S at L1
  clear a1
  obtain ⟨xR6, yR6, bR6, xH6, yH6, bH6, hA6, hC6, xO6, yO6, bO6, rfl, g⟩ := L1
  have G1 : Hid (MachG w16 xR6 yR6 bR6 8 S.R xH6 yH6 bH6 S.nH S.Hp hA6 hC6 xO6 yO6 bO6 S.nO S.K S.V) := g
  have X0' : Hid (MVar w16 q0 n0 M0 xR0 yR0 bR0 xH0 yH0 bH0 hA0 hC0 xO0 yO0 bO0) := X0.out.below b1
  clear X0
  have X0 := X0'
  clear X0'
  have X1' : Hid (MVar w16 q1 8 W xR1 yR1 bR1 xH1 yH1 bH1 hA1 hC1 xO1 yO1 bO1) := X1.out.below b1
  clear X1
  have X1 := X1'
  clear X1'
  have X2' : Hid (MVar w16 q2 8 U xR2 yR2 bR2 xH2 yH2 bH2 hA2 hC2 xO2 yO2 bO2) := X2.out.below b1
  clear X2
  have X2 := X2'
  clear X2'
  have X3' : Hid (MVar w16 q3 8 W xR3 yR3 bR3 xH3 yH3 bH3 hA3 hC3 xO3 yO3 bO3) := X3.out.below b1
  clear X3
  have X3 := X3'
  clear X3'
  have X4' : Hid (MVar w16 q4 8 W xR4 yR4 bR4 xH4 yH4 bH4 hA4 hC4 xO4 yO4 bO4) := X4.out.below b1
  clear X4
  have X4 := X4'
  clear X4'
  have X5' : Hid (MVar w16 q5 8 S xR5 yR5 bR5 xH5 yH5 bH5 hA5 hC5 xO5 yO5 bO5) := X5.out.below b1
  clear X5
  have X5 := X5'
  clear X5'
  have PA' : Hid (Arr w16 bP (len * 6) (insF F)) := PA.out.below b1 PA.out.lt
  clear PA
  have PA := PA'
  clear PA'
  have BB' : Hid (Below w.heap.size w w16) := BB.out.trans (b1.mono BB.out.size)
  clear BB
  have BB := BB'
  clear BB'
  clear g b1
  go_upto_region 16 with fail
  obtain ⟨w17, hw, b, X⟩ := MVar.new G1.out
  rw [hw]
  obtain ⟨q6, hq⟩ : ∃ y, w16.heap.size = y := ⟨_, rfl⟩
  rw [hq] at X ⊢
  have X6 : Hid (MVar w17 q6 8 S xR6 yR6 bR6 xH6 yH6 bH6 hA6 hC6 xO6 yO6 bO6) := X
  have X0' : Hid (MVar w17 q0 n0 M0 xR0 yR0 bR0 xH0 yH0 bH0 hA0 hC0 xO0 yO0 bO0) := X0.out.below b
  clear X0
  have X0 := X0'
  clear X0'
  have X1' : Hid (MVar w17 q1 8 W xR1 yR1 bR1 xH1 yH1 bH1 hA1 hC1 xO1 yO1 bO1) := X1.out.below b
  clear X1
  have X1 := X1'
  clear X1'
  have X2' : Hid (MVar w17 q2 8 U xR2 yR2 bR2 xH2 yH2 bH2 hA2 hC2 xO2 yO2 bO2) := X2.out.below b
  clear X2
  have X2 := X2'
  clear X2'
  have X3' : Hid (MVar w17 q3 8 W xR3 yR3 bR3 xH3 yH3 bH3 hA3 hC3 xO3 yO3 bO3) := X3.out.below b
  clear X3
  have X3 := X3'
  clear X3'
  have X4' : Hid (MVar w17 q4 8 W xR4 yR4 bR4 xH4 yH4 bH4 hA4 hC4 xO4 yO4 bO4) := X4.out.below b
  clear X4
  have X4 := X4'
  clear X4'
  have X5' : Hid (MVar w17 q5 8 S xR5 yR5 bR5 xH5 yH5 bH5 hA5 hC5 xO5 yO5 bO5) := X5.out.below b
  clear X5
  have X5 := X5'
  clear X5'
  have PA' : Hid (Arr w17 bP (len * 6) (insF F)) := PA.out.below b PA.out.lt
  clear PA
  have PA := PA'
  clear PA'
  have BB' : Hid (Below w.heap.size w w17) := BB.out.trans (b.mono BB.out.size)
  clear BB
  have BB := BB'
  clear BB'
  clear hw hq b X G1
  obtain ⟨xX40, xX41, xX42, xX43, xX44, xX45, xX46, xX47, xX48⟩ := q9 X4.out.1
  have xX4z := (Array.getElem?_eq_some_iff.1 X4.out.1).1
  obtain ⟨xX30, xX31, xX32, xX33, xX34, xX35, xX36, xX37, xX38⟩ := q9 X3.out.1
  have xX3z := (Array.getElem?_eq_some_iff.1 X3.out.1).1
  go_wp2_with fail
  clear xX40 xX41 xX42 xX43 xX44 xX45 xX46 xX47 xX48 xX4z
  clear xX30 xX31 xX32 xX33 xX34 xX35 xX36 xX37 xX38 xX3z
  refine (lwMach_same xR4 yR4 bR4 8 W.R W.z W.c W.hz W.hc xH4 yH4 bH4 W.nH W.Hp hA4 hC4 W.pc W.st xO4 yO4 bO4 W.nO W.K W.V xR3 yR3 bR3 xH3 yH3 bH3 hA3 hC3 W.pc xO3 yO3 bO3 w17 FW.out.small.regs FW.out.small.heaps FW.out.small.obs FW.out.full X4.out.2 X3.out.2).mono ?_
  rintro e w18 ⟨rfl, b1⟩
  have X0' : Hid (MVar w18 q0 n0 M0 xR0 yR0 bR0 xH0 yH0 bH0 hA0 hC0 xO0 yO0 bO0) := X0.out.below b1
  clear X0
  have X0 := X0'
  clear X0'
  have X1' : Hid (MVar w18 q1 8 W xR1 yR1 bR1 xH1 yH1 bH1 hA1 hC1 xO1 yO1 bO1) := X1.out.below b1
  clear X1
  have X1 := X1'
  clear X1'
  have X2' : Hid (MVar w18 q2 8 U xR2 yR2 bR2 xH2 yH2 bH2 hA2 hC2 xO2 yO2 bO2) := X2.out.below b1
  clear X2
  have X2 := X2'
  clear X2'
  have X3' : Hid (MVar w18 q3 8 W xR3 yR3 bR3 xH3 yH3 bH3 hA3 hC3 xO3 yO3 bO3) := X3.out.below b1
  clear X3
  have X3 := X3'
  clear X3'
  have X4' : Hid (MVar w18 q4 8 W xR4 yR4 bR4 xH4 yH4 bH4 hA4 hC4 xO4 yO4 bO4) := X4.out.below b1
  clear X4
  have X4 := X4'
  clear X4'
  have X5' : Hid (MVar w18 q5 8 S xR5 yR5 bR5 xH5 yH5 bH5 hA5 hC5 xO5 yO5 bO5) := X5.out.below b1
  clear X5
  have X5 := X5'
  clear X5'
  have X6' : Hid (MVar w18 q6 8 S xR6 yR6 bR6 xH6 yH6 bH6 hA6 hC6 xO6 yO6 bO6) := X6.out.below b1
  clear X6
  have X6 := X6'
  clear X6'
  have PA' : Hid (Arr w18 bP (len * 6) (insF F)) := PA.out.below b1 PA.out.lt
  clear PA
  have PA := PA'
  clear PA'
  have BB' : Hid (Below w.heap.size w w18) := BB.out.trans (b1.mono BB.out.size)
  clear BB
  have BB := BB'
  clear BB'
  clear b1
  obtain ⟨xX40, xX41, xX42, xX43, xX44, xX45, xX46, xX47, xX48⟩ := q9 X4.out.1
  have xX4z := (Array.getElem?_eq_some_iff.1 X4.out.1).1
  obtain ⟨xX30, xX31, xX32, xX33, xX34, xX35, xX36, xX37, xX38⟩ := q9 X3.out.1
  have xX3z := (Array.getElem?_eq_some_iff.1 X3.out.1).1
  obtain ⟨xX50, xX51, xX52, xX53, xX54, xX55, xX56, xX57, xX58⟩ := q9 X5.out.1
  have xX5z := (Array.getElem?_eq_some_iff.1 X5.out.1).1
  obtain ⟨xX60, xX61, xX62, xX63, xX64, xX65, xX66, xX67, xX68⟩ := q9 X6.out.1
  have xX6z := (Array.getElem?_eq_some_iff.1 X6.out.1).1
  go_wp2_with fail
  clear xX40 xX41 xX42 xX43 xX44 xX45 xX46 xX47 xX48 xX4z
  clear xX30 xX31 xX32 xX33 xX34 xX35 xX36 xX37 xX38 xX3z
  clear xX50 xX51 xX52 xX53 xX54 xX55 xX56 xX57 xX58 xX5z
  clear xX60 xX61 xX62 xX63 xX64 xX65 xX66 xX67 xX68 xX6z
  refine (lwMach_same xR5 yR5 bR5 8 S.R S.z S.c S.hz S.hc xH5 yH5 bH5 S.nH S.Hp hA5 hC5 S.pc S.st xO5 yO5 bO5 S.nO S.K S.V xR6 yR6 bR6 xH6 yH6 bH6 hA6 hC6 S.pc xO6 yO6 bO6 w18 FS.out.small.regs FS.out.small.heaps FS.out.small.obs FS.out.full X5.out.2 X6.out.2).mono ?_
  rintro e w19 ⟨rfl, b1⟩
  have X0' : Hid (MVar w19 q0 n0 M0 xR0 yR0 bR0 xH0 yH0 bH0 hA0 hC0 xO0 yO0 bO0) := X0.out.below b1
  clear X0
  have X0 := X0'
  clear X0'
  have X1' : Hid (MVar w19 q1 8 W xR1 yR1 bR1 xH1 yH1 bH1 hA1 hC1 xO1 yO1 bO1) := X1.out.below b1
  clear X1
  have X1 := X1'
  clear X1'
  have X2' : Hid (MVar w19 q2 8 U xR2 yR2 bR2 xH2 yH2 bH2 hA2 hC2 xO2 yO2 bO2) := X2.out.below b1
  clear X2
  have X2 := X2'
  clear X2'
  have X3' : Hid (MVar w19 q3 8 W xR3 yR3 bR3 xH3 yH3 bH3 hA3 hC3 xO3 yO3 bO3) := X3.out.below b1
  clear X3
  have X3 := X3'
  clear X3'
  have X4' : Hid (MVar w19 q4 8 W xR4 yR4 bR4 xH4 yH4 bH4 hA4 hC4 xO4 yO4 bO4) := X4.out.below b1
  clear X4
  have X4 := X4'
  clear X4'
  have X5' : Hid (MVar w19 q5 8 S xR5 yR5 bR5 xH5 yH5 bH5 hA5 hC5 xO5 yO5 bO5) := X5.out.below b1
  clear X5
  have X5 := X5'
  clear X5'
  have X6' : Hid (MVar w19 q6 8 S xR6 yR6 bR6 xH6 yH6 bH6 hA6 hC6 xO6 yO6 bO6) := X6.out.below b1
  clear X6
  have X6 := X6'
  clear X6'
  have PA' : Hid (Arr w19 bP (len * 6) (insF F)) := PA.out.below b1 PA.out.lt
  clear PA
  have PA := PA'
  clear PA'
  have BB' : Hid (Below w.heap.size w w19) := BB.out.trans (b1.mono BB.out.size)
  clear BB
  have BB := BB'
  clear BB'
  clear b1
  obtain ⟨xX50, xX51, xX52, xX53, xX54, xX55, xX56, xX57, xX58⟩ := q9 X5.out.1
  have xX5z := (Array.getElem?_eq_some_iff.1 X5.out.1).1
  obtain ⟨xX60, xX61, xX62, xX63, xX64, xX65, xX66, xX67, xX68⟩ := q9 X6.out.1
  have xX6z := (Array.getElem?_eq_some_iff.1 X6.out.1).1
  obtain ⟨xX10, xX11, xX12, xX13, xX14, xX15, xX16, xX17, xX18⟩ := q9 X1.out.1
  have xX1z := (Array.getElem?_eq_some_iff.1 X1.out.1).1
  go_wp2_with fail
  clear xX50 xX51 xX52 xX53 xX54 xX55 xX56 xX57 xX58 xX5z
  clear xX60 xX61 xX62 xX63 xX64 xX65 xX66 xX67 xX68 xX6z
  clear xX10 xX11 xX12 xX13 xX14 xX15 xX16 xX17 xX18 xX1z
  refine (specMach_any xR1 yR1 bR1 8 W.z W.c W.hz W.hc W.R xH1 yH1 bH1 W.nH W.Hp hA1 hC1 W.pc W.st xO1 yO1 bO1 W.nO W.K W.V w19 FW.out.small FW.out.range.base X1.out.2).mono ?_
  rintro e w20 ⟨rfl, b1⟩
  rw [VW.out]
  have BE : Hid (Below w.heap.size w w20) := BB.out.trans (b1.mono BB.out.size)
  clear b1
  go_wp2
  go_ret
  exact ⟨rfl, BE.out⟩
end Go.Proofs.YtpnclceamkmklaaGreat
/- FnRun: proved. -/
namespace Go.Proofs.YtpnclceamkmklaaGreat
open Go.ChangeShapes Go.WideShapes Go.ChangeAt Go.RowKit Go.Deep

set_option maxHeartbeats 800000 in
theorem lawRun_great (ao : Option Addr) (n cap : Nat) (ao' : Option Addr) (n' cap' : Nat) (w : World) (h : 1048576 < n ∨ 1048576 < n') (hm : n ≤ maxLen) (hm' : n' ≤ maxLen) :
    Calls Tryz.prog 3 #[.slice ao n cap, .slice ao' n' cap'] w fun e w' => e = .returned (.bool true) ∧ Below w.heap.size w w' := by
  unfold maxLen at hm hm'
  by_cases h1 : 1048576 < n
  · have h' : (1048576 : Int) < n := by omega
    clear h
    go_enter Tryz.func3, Tryz.ntmps3
    go_wp2
    go_ret
    exact ⟨rfl, Below.refl _ _⟩
  · have h2 : ¬ (1048576 : Int) < n := by omega
    have h' : (1048576 : Int) < n' := by omega
    clear h
    go_enter Tryz.func3, Tryz.ntmps3
    go_wp2
    go_ret
    exact ⟨rfl, Below.refl _ _⟩
theorem fr_u8 : Tryz.prog.cellsOf 5 = 1 := by kernel_rfl
theorem fr_wf {n : Int} (h : (Lit.int .u8 n).wf = true) : 0 ≤ n ∧ n ≤ 255 := by
  simpa [Lit.wf, IntKind.min, IntKind.max, IntKind.signed, IntKind.bits] using h
theorem fr_open {H : Type} {enc : TypeId × Value → H} {w : World} {base : Nat} {spare : Nat → Bool} {held : Bool} {fuel : Nat} {ao : Option Addr} {len cap : Nat} {x : DataW H × List MemPlace}
    (h : DataW.trod enc Tryz.prog w base spare held fuel 22 [.slice ao len cap] = some x) : len ≤ maxLen ∧ Bytes0 w w.heap.size ao len := by
  obtain ⟨hm, f, hin, hel⟩ := open_row Tryz.underlying22 fr_u8 (by omega) h
  refine ⟨hm, ?_⟩
  rw [Nat.mul_one] at hin
  rcases hin with h0 | ⟨b, off, h1, h2⟩
  · exact .inl h0
  · refine .inr ⟨b, off, h1, h2.lt, fun i hi => ?_⟩
    obtain ⟨n, y, hy⟩ := hel i hi
    simp [List.range, List.range.loop] at hy
    obtain ⟨r, e1, _, wb⟩ := DataW.trod_int Tryz.underlying5 hy
    simp at e1
    exact ⟨r, (fr_wf wb).1, (fr_wf wb).2, by rw [h2.cell hi, e1]⟩

set_option maxRecDepth 100000 in
theorem fnRun_lifted (os : Os) (started : os.Started) (H : Type) (enc : TypeId × Value → H) :
    ReturnsInHanded {} Tryz.checked os 3 .any (Rows.fnRunSpec.pre6 enc Tryz.prog Tryz.f3 Rows.fnRunRow.domain false) (Rows.fnRunSpec.post enc Tryz.prog Tryz.f3 false true false false) := by
  refine returnsInHanded_of_change (C := Tryz.checked) (by kernel_rfl : ownKnob Tryz.prog.godebug = none) started (by kernel_rfl) Tryz.func3
    (ChangeSpec.witness6 (enc := enc) (C := Tryz.checked) false ⟨#[], #[.slice none 0 0, .slice none 0 0], []⟩ 8 (by kernel_rfl) (by kernel_rfl) (by kernel_rfl) (by kernel_rfl)) ?_
  intro W base args ds gs before hval0 hW _ _
  have hval : ∀ (j : Nat) t v, Tryz.f3.params[j]? = some t → args[j]? = some v → Value.okWide Tryz.prog W .any base t v := hval0
  have hW' := hW
  obtain ⟨p, q, hA0, hV, rfl, _, _⟩ := hW
  have hA : DataW.TrodAll enc Tryz.prog W 0 (fun _ => true) true Tryz.f3.params.toList args.toList ds p := hA0
  rw [Tryz.params3] at hA hval
  obtain ⟨v0, v1, d0, d1, p0, p1, rfl, rfl, rfl, h0, h1⟩ := trodAll_two hA
  obtain ⟨rfl, rfl⟩ := trodVars_none hV
  obtain ⟨ao0, n0, cap0, rfl⟩ := okWide_slice Tryz.underlying22 (hval 0 22 v0 rfl rfl)
  obtain ⟨ao1, n1, cap1, rfl⟩ := okWide_slice Tryz.underlying22 (hval 1 22 v1 rfl rfl)
  have k0 := h0
  have lt0 : ∀ x ∈ p0, x.block < W.heap.size := by obtain ⟨m, hm⟩ := k0; exact DataW.trod_lt m _ _ _ hm
  obtain ⟨fuel0, hf0⟩ := h0
  obtain ⟨m0, b0⟩ := fr_open (by simpa [Value.cells] using hf0)
  have k1 := h1
  have lt1 : ∀ x ∈ p1, x.block < W.heap.size := by obtain ⟨m, hm⟩ := k1; exact DataW.trod_lt m _ _ _ hm
  obtain ⟨fuel1, hf1⟩ := h1
  obtain ⟨m1, b1⟩ := fr_open (by simpa [Value.cells] using hf1)
  clear hA0 hval0
  have fin : ∀ (e : Ending) (W' : World), e = .returned (.bool true) ∧ Below W.heap.size W W' → ∃ v, e = .returned v ∧ Rows.fnRunSpec.post enc Tryz.prog Tryz.f3 false true false false W #[.slice ao0 n0 cap0, .slice ao1 n1 cap1] v W' := by
    rintro e W' ⟨he, bel⟩
    subst he
    exact ⟨_, rfl, _, _, _, [], _, [], hW', trodAll_mk1 (shut_bool Tryz.underlying4 _), trodAll_mk2 (Below.trod (by kernel_rfl : laidOutB Tryz.prog = true) (by kernel_rfl) (of_decide_eq_true (by kernel_rfl)) k0 bel lt0) (Below.trod (by kernel_rfl : laidOutB Tryz.prog = true) (by kernel_rfl) (of_decide_eq_true (by kernel_rfl)) k1 bel lt1), rfl, bel.frame _, fun h => by cases h⟩
  by_cases hl : n0 ≤ 1048576 ∧ n1 ≤ 1048576
  · exact (lawRun_walk ao0 n0 cap0 ao1 n1 cap1 W hl.1 hl.2 b0 b1).mono fin
  · exact (lawRun_great ao0 n0 cap0 ao1 n1 cap1 W (by omega) m0 m1).mono fin

theorem fnRun_holds : Rows.FnRunSaid :=
  OpenClaim.holds_of_wide 3 Tryz.f3 rfl rfl rfl rfl rfl rfl rfl ⟨rfl, rfl, rfl, rfl, rfl⟩ rfl rfl rfl rfl rfl (by kernel_rfl) Tryz.func3 (by kernel_rfl)
    (of_decide_eq_true (by kernel_rfl)) (by unfold Func.isWrapper; first | (rw [if_pos (by decide +kernel)]; kernel_rfl) | (rw [if_neg (by decide +kernel)]; exact ⟨rfl, rfl⟩))
    (fun os started H enc _ => fnRun_lifted os started H enc)
end Go.Proofs.YtpnclceamkmklaaGreat
