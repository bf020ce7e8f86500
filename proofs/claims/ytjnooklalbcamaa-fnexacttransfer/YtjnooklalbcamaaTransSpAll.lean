import Derived.Test.YtjnooklalbcamaaOfTransSp1
import Derived.Test.YtjnooklalbcamaaTransSp2
import Derived.Test.YtjnooklalbcamaaOfTransSpC
import Derived.Test.YtjnooklalbcamaaTransSpD
import Derived.Test.YtjnooklalbcamaaTransSpE
import Derived.Test.YtjnooklalbcamaaTransSpF
import Derived.Test.YtjnooklalbcamaaTransSpJ
import Derived.Test.YtjnooklalbcamaaOfTransSpS
import Derived.Test.YtjnooklalbcamaaOfTransSpT
import Derived.Test.YtjnooklalbcamaaOfTransSpU
import Derived.Test.YtjnooklalbcamaaTransSpV
import Derived.Test.YtjnooklalbcamaaOfTransSpW
import Derived.Test.YtjnooklalbcamaaTransSpX
import Derived.Test.YtjnooklalbcamaaTransSpY
/- Transfer, the model's word, over every op. -/
namespace Go.Proofs.Ytjnooklalbcamaa
open Go.RowKit
theorem TrAns.congr {w w' : World} {e : Ending} {err err' : Int} {V V' : Nat → VV} {z z' c c' : Int} (h : TrAns w w' e err V z c) (he : err' = err) (hr : err = 0 → V' = V ∧ z' = z ∧ c' = c) : TrAns w w' e err' V' z' c' := by
  subst he
  rcases h with h | ⟨h0, g, cg, h1, h2, h3⟩
  · exact Or.inl h
  · obtain ⟨rfl, rfl, rfl⟩ := hr h0
    exact Or.inr ⟨h0, g, cg, h1, h2, h3⟩
theorem imm_none {op d ra rb imm h : Int} (e : implIns op d ra rb imm h = true) (o : bitB op 8 = false) : imm = 0 := by
  unfold implIns at e
  simp only [Bool.and_eq_true] at e
  have := e.1.2
  rw [o] at this
  simpa [fieldB] using this
theorem trEq_1 {nH nR : Nat} {S : Nat → HS} {V0 V : Nat → VV} {z c imm : Int} {di ia ib q : Nat} (hok : absOK nH S nR V0 8 V z c = true) (hik : implIns 1 (di : Int) (ia : Int) (ib : Int) imm (q : Int) = true) : trE nH S nR V0 8 V z c 1 (di : Int) (ia : Int) (ib : Int) imm (q : Int) = 0 ∧ trW S V z c 1 (di : Int) (ia : Int) (ib : Int) imm (q : Int) = (updV V di (resV 1 imm (V ia) (V ib) (V ia).s)) ∧ trZ V z c 1 (ia : Int) (ib : Int) z = z ∧ trZ V z c 1 (ia : Int) (ib : Int) c = c := by
  have eA : bitB 1 2 = true := by kernel_rfl
  have eB : bitB 1 4 = false := by kernel_rfl
  have eW : wrB 1 = true := by kernel_rfl
  have eF : fgB 1 = false := by kernel_rfl
  have oA : opA V 1 ia = V ia := by simp [opA, eA]
  have oB : opB V 1 ib = zV := by simp [opB, eB]
  have oF : opF 1 z c = 1 := by simp [opF]
  have oS : secB V 1 z c ia ib = (V ia).s := by rw [secB, oA, oB, oF]; simp [zV]
  refine ⟨?_, ?_, ?_, ?_⟩
  · rw [trE, if_pos ⟨hok, hik, by decide⟩]
    simp only [Int.toNat_natCast, oA, oB, oF, oS]
    simp [refI]
  · rw [trW, eW, if_pos rfl]
    simp only [Int.toNat_natCast, oA, oB, oF, oS]
    simp [trR, resV]
  · rw [trZ, eF]
    rfl
  · rw [trZ, eF]
    rfl
theorem trEq_2 {nH nR : Nat} {S : Nat → HS} {V0 V : Nat → VV} {z c imm : Int} {di ia ib q : Nat} (hok : absOK nH S nR V0 8 V z c = true) (hik : implIns 2 (di : Int) (ia : Int) (ib : Int) imm (q : Int) = true) : trE nH S nR V0 8 V z c 2 (di : Int) (ia : Int) (ib : Int) imm (q : Int) = 0 ∧ trW S V z c 2 (di : Int) (ia : Int) (ib : Int) imm (q : Int) = (updV V di (resV 2 imm (V ia) (V ib) false)) ∧ trZ V z c 2 (ia : Int) (ib : Int) z = z ∧ trZ V z c 2 (ia : Int) (ib : Int) c = c := by
  have eA : bitB 2 2 = false := by kernel_rfl
  have eB : bitB 2 4 = false := by kernel_rfl
  have eW : wrB 2 = true := by kernel_rfl
  have eF : fgB 2 = false := by kernel_rfl
  have oA : opA V 2 ia = zV := by simp [opA, eA]
  have oB : opB V 2 ib = zV := by simp [opB, eB]
  have oF : opF 2 z c = 1 := by simp [opF]
  have oS : secB V 2 z c ia ib = false := by rw [secB, oA, oB, oF]; simp [zV]
  refine ⟨?_, ?_, ?_, ?_⟩
  · rw [trE, if_pos ⟨hok, hik, by decide⟩]
    simp only [Int.toNat_natCast, oA, oB, oF, oS]
    simp [refI]
  · rw [trW, eW, if_pos rfl]
    simp only [Int.toNat_natCast, oA, oB, oF, oS]
    simp [trR, resV]
  · rw [trZ, eF]
    rfl
  · rw [trZ, eF]
    rfl
theorem trEq_3 {nH nR : Nat} {S : Nat → HS} {V0 V : Nat → VV} {z c imm : Int} {di ia ib q : Nat} (hok : absOK nH S nR V0 8 V z c = true) (hik : implIns 3 (di : Int) (ia : Int) (ib : Int) imm (q : Int) = true) : trE nH S nR V0 8 V z c 3 (di : Int) (ia : Int) (ib : Int) imm (q : Int) = 0 ∧ trW S V z c 3 (di : Int) (ia : Int) (ib : Int) imm (q : Int) = (updV V di (resV 3 imm (V ia) (V ib) ((V ia).s || (V ib).s))) ∧ trZ V z c 3 (ia : Int) (ib : Int) z = z ∧ trZ V z c 3 (ia : Int) (ib : Int) c = c := by
  have eA : bitB 3 2 = true := by kernel_rfl
  have eB : bitB 3 4 = true := by kernel_rfl
  have eW : wrB 3 = true := by kernel_rfl
  have eF : fgB 3 = false := by kernel_rfl
  have oA : opA V 3 ia = V ia := by simp [opA, eA]
  have oB : opB V 3 ib = V ib := by simp [opB, eB]
  have oF : opF 3 z c = 1 := by simp [opF]
  have oS : secB V 3 z c ia ib = ((V ia).s || (V ib).s) := by rw [secB, oA, oB, oF]; simp
  refine ⟨?_, ?_, ?_, ?_⟩
  · rw [trE, if_pos ⟨hok, hik, by decide⟩]
    simp only [Int.toNat_natCast, oA, oB, oF, oS]
    simp [refI]
  · rw [trW, eW, if_pos rfl]
    simp only [Int.toNat_natCast, oA, oB, oF, oS]
    simp [trR, resV]
  · rw [trZ, eF]
    rfl
  · rw [trZ, eF]
    rfl
theorem trEq_4 {nH nR : Nat} {S : Nat → HS} {V0 V : Nat → VV} {z c imm : Int} {di ia ib q : Nat} (hok : absOK nH S nR V0 8 V z c = true) (hik : implIns 4 (di : Int) (ia : Int) (ib : Int) imm (q : Int) = true) : trE nH S nR V0 8 V z c 4 (di : Int) (ia : Int) (ib : Int) imm (q : Int) = 0 ∧ trW S V z c 4 (di : Int) (ia : Int) (ib : Int) imm (q : Int) = (updV V di (resV 4 imm (V ia) (V ib) ((V ia).s || (V ib).s))) ∧ trZ V z c 4 (ia : Int) (ib : Int) z = z ∧ trZ V z c 4 (ia : Int) (ib : Int) c = c := by
  have eA : bitB 4 2 = true := by kernel_rfl
  have eB : bitB 4 4 = true := by kernel_rfl
  have eW : wrB 4 = true := by kernel_rfl
  have eF : fgB 4 = false := by kernel_rfl
  have oA : opA V 4 ia = V ia := by simp [opA, eA]
  have oB : opB V 4 ib = V ib := by simp [opB, eB]
  have oF : opF 4 z c = 1 := by simp [opF]
  have oS : secB V 4 z c ia ib = ((V ia).s || (V ib).s) := by rw [secB, oA, oB, oF]; simp
  refine ⟨?_, ?_, ?_, ?_⟩
  · rw [trE, if_pos ⟨hok, hik, by decide⟩]
    simp only [Int.toNat_natCast, oA, oB, oF, oS]
    simp [refI]
  · rw [trW, eW, if_pos rfl]
    simp only [Int.toNat_natCast, oA, oB, oF, oS]
    simp [trR, resV]
  · rw [trZ, eF]
    rfl
  · rw [trZ, eF]
    rfl
theorem trEq_5 {nH nR : Nat} {S : Nat → HS} {V0 V : Nat → VV} {z c imm : Int} {di ia ib q : Nat} (hok : absOK nH S nR V0 8 V z c = true) (hik : implIns 5 (di : Int) (ia : Int) (ib : Int) imm (q : Int) = true) : trE nH S nR V0 8 V z c 5 (di : Int) (ia : Int) (ib : Int) imm (q : Int) = 0 ∧ trW S V z c 5 (di : Int) (ia : Int) (ib : Int) imm (q : Int) = (updV V di (resV 5 imm (V ia) (V ib) ((V ia).s || (V ib).s))) ∧ trZ V z c 5 (ia : Int) (ib : Int) z = z ∧ trZ V z c 5 (ia : Int) (ib : Int) c = c := by
  have eA : bitB 5 2 = true := by kernel_rfl
  have eB : bitB 5 4 = true := by kernel_rfl
  have eW : wrB 5 = true := by kernel_rfl
  have eF : fgB 5 = false := by kernel_rfl
  have oA : opA V 5 ia = V ia := by simp [opA, eA]
  have oB : opB V 5 ib = V ib := by simp [opB, eB]
  have oF : opF 5 z c = 1 := by simp [opF]
  have oS : secB V 5 z c ia ib = ((V ia).s || (V ib).s) := by rw [secB, oA, oB, oF]; simp
  refine ⟨?_, ?_, ?_, ?_⟩
  · rw [trE, if_pos ⟨hok, hik, by decide⟩]
    simp only [Int.toNat_natCast, oA, oB, oF, oS]
    simp [refI]
  · rw [trW, eW, if_pos rfl]
    simp only [Int.toNat_natCast, oA, oB, oF, oS]
    simp [trR, resV]
  · rw [trZ, eF]
    rfl
  · rw [trZ, eF]
    rfl
theorem trEq_6 {nH nR : Nat} {S : Nat → HS} {V0 V : Nat → VV} {z c imm : Int} {di ia ib q : Nat} (hok : absOK nH S nR V0 8 V z c = true) (hik : implIns 6 (di : Int) (ia : Int) (ib : Int) imm (q : Int) = true) : trE nH S nR V0 8 V z c 6 (di : Int) (ia : Int) (ib : Int) imm (q : Int) = 0 ∧ trW S V z c 6 (di : Int) (ia : Int) (ib : Int) imm (q : Int) = (updV V di (resV 6 imm (V ia) (V ib) ((V ia).s || (V ib).s))) ∧ trZ V z c 6 (ia : Int) (ib : Int) z = z ∧ trZ V z c 6 (ia : Int) (ib : Int) c = c := by
  have eA : bitB 6 2 = true := by kernel_rfl
  have eB : bitB 6 4 = true := by kernel_rfl
  have eW : wrB 6 = true := by kernel_rfl
  have eF : fgB 6 = false := by kernel_rfl
  have oA : opA V 6 ia = V ia := by simp [opA, eA]
  have oB : opB V 6 ib = V ib := by simp [opB, eB]
  have oF : opF 6 z c = 1 := by simp [opF]
  have oS : secB V 6 z c ia ib = ((V ia).s || (V ib).s) := by rw [secB, oA, oB, oF]; simp
  refine ⟨?_, ?_, ?_, ?_⟩
  · rw [trE, if_pos ⟨hok, hik, by decide⟩]
    simp only [Int.toNat_natCast, oA, oB, oF, oS]
    simp [refI]
  · rw [trW, eW, if_pos rfl]
    simp only [Int.toNat_natCast, oA, oB, oF, oS]
    simp [trR, resV]
  · rw [trZ, eF]
    rfl
  · rw [trZ, eF]
    rfl
theorem trEq_7 {nH nR : Nat} {S : Nat → HS} {V0 V : Nat → VV} {z c imm : Int} {di ia ib q : Nat} (hok : absOK nH S nR V0 8 V z c = true) (hik : implIns 7 (di : Int) (ia : Int) (ib : Int) imm (q : Int) = true) : trE nH S nR V0 8 V z c 7 (di : Int) (ia : Int) (ib : Int) imm (q : Int) = 0 ∧ trW S V z c 7 (di : Int) (ia : Int) (ib : Int) imm (q : Int) = (updV V di (resV 7 imm (V ia) (V ib) ((V ia).s || (V ib).s))) ∧ trZ V z c 7 (ia : Int) (ib : Int) z = z ∧ trZ V z c 7 (ia : Int) (ib : Int) c = c := by
  have eA : bitB 7 2 = true := by kernel_rfl
  have eB : bitB 7 4 = true := by kernel_rfl
  have eW : wrB 7 = true := by kernel_rfl
  have eF : fgB 7 = false := by kernel_rfl
  have oA : opA V 7 ia = V ia := by simp [opA, eA]
  have oB : opB V 7 ib = V ib := by simp [opB, eB]
  have oF : opF 7 z c = 1 := by simp [opF]
  have oS : secB V 7 z c ia ib = ((V ia).s || (V ib).s) := by rw [secB, oA, oB, oF]; simp
  refine ⟨?_, ?_, ?_, ?_⟩
  · rw [trE, if_pos ⟨hok, hik, by decide⟩]
    simp only [Int.toNat_natCast, oA, oB, oF, oS]
    simp [refI]
  · rw [trW, eW, if_pos rfl]
    simp only [Int.toNat_natCast, oA, oB, oF, oS]
    simp [trR, resV]
  · rw [trZ, eF]
    rfl
  · rw [trZ, eF]
    rfl
theorem trEq_8 {nH nR : Nat} {S : Nat → HS} {V0 V : Nat → VV} {z c imm : Int} {di ia ib q : Nat} (hok : absOK nH S nR V0 8 V z c = true) (hik : implIns 8 (di : Int) (ia : Int) (ib : Int) imm (q : Int) = true) : trE nH S nR V0 8 V z c 8 (di : Int) (ia : Int) (ib : Int) imm (q : Int) = 0 ∧ trW S V z c 8 (di : Int) (ia : Int) (ib : Int) imm (q : Int) = (updV V di (resV 8 imm (V ia) (V ib) ((V ia).s || (V ib).s))) ∧ trZ V z c 8 (ia : Int) (ib : Int) z = z ∧ trZ V z c 8 (ia : Int) (ib : Int) c = c := by
  have eA : bitB 8 2 = true := by kernel_rfl
  have eB : bitB 8 4 = true := by kernel_rfl
  have eW : wrB 8 = true := by kernel_rfl
  have eF : fgB 8 = false := by kernel_rfl
  have oA : opA V 8 ia = V ia := by simp [opA, eA]
  have oB : opB V 8 ib = V ib := by simp [opB, eB]
  have oF : opF 8 z c = 1 := by simp [opF]
  have oS : secB V 8 z c ia ib = ((V ia).s || (V ib).s) := by rw [secB, oA, oB, oF]; simp
  refine ⟨?_, ?_, ?_, ?_⟩
  · rw [trE, if_pos ⟨hok, hik, by decide⟩]
    simp only [Int.toNat_natCast, oA, oB, oF, oS]
    simp [refI]
  · rw [trW, eW, if_pos rfl]
    simp only [Int.toNat_natCast, oA, oB, oF, oS]
    simp [trR, resV]
  · rw [trZ, eF]
    rfl
  · rw [trZ, eF]
    rfl
theorem trEq_9 {nH nR : Nat} {S : Nat → HS} {V0 V : Nat → VV} {z c imm : Int} {di ia ib q : Nat} (hok : absOK nH S nR V0 8 V z c = true) (hik : implIns 9 (di : Int) (ia : Int) (ib : Int) imm (q : Int) = true) : trE nH S nR V0 8 V z c 9 (di : Int) (ia : Int) (ib : Int) imm (q : Int) = (if ((V ia).s || (V ib).s) = true then 9 else 0) ∧ trW S V z c 9 (di : Int) (ia : Int) (ib : Int) imm (q : Int) = (updV V di (resV 9 imm (V ia) (V ib) ((V ia).s || (V ib).s))) ∧ trZ V z c 9 (ia : Int) (ib : Int) z = z ∧ trZ V z c 9 (ia : Int) (ib : Int) c = c := by
  have eA : bitB 9 2 = true := by kernel_rfl
  have eB : bitB 9 4 = true := by kernel_rfl
  have eW : wrB 9 = true := by kernel_rfl
  have eF : fgB 9 = false := by kernel_rfl
  have oA : opA V 9 ia = V ia := by simp [opA, eA]
  have oB : opB V 9 ib = V ib := by simp [opB, eB]
  have oF : opF 9 z c = 1 := by simp [opF]
  have oS : secB V 9 z c ia ib = ((V ia).s || (V ib).s) := by rw [secB, oA, oB, oF]; simp
  refine ⟨?_, ?_, ?_, ?_⟩
  · rw [trE, if_pos ⟨hok, hik, by decide⟩]
    simp only [Int.toNat_natCast, oA, oB, oF, oS]
    simp [refI]
  · rw [trW, eW, if_pos rfl]
    simp only [Int.toNat_natCast, oA, oB, oF, oS]
    simp [trR, resV]
  · rw [trZ, eF]
    rfl
  · rw [trZ, eF]
    rfl
theorem trEq_10 {nH nR : Nat} {S : Nat → HS} {V0 V : Nat → VV} {z c imm : Int} {di ia ib q : Nat} (hok : absOK nH S nR V0 8 V z c = true) (hik : implIns 10 (di : Int) (ia : Int) (ib : Int) imm (q : Int) = true) : trE nH S nR V0 8 V z c 10 (di : Int) (ia : Int) (ib : Int) imm (q : Int) = 0 ∧ trW S V z c 10 (di : Int) (ia : Int) (ib : Int) imm (q : Int) = (updV V di (resV 10 imm (V ia) (V ib) (V ia).s)) ∧ trZ V z c 10 (ia : Int) (ib : Int) z = z ∧ trZ V z c 10 (ia : Int) (ib : Int) c = c := by
  have eA : bitB 10 2 = true := by kernel_rfl
  have eB : bitB 10 4 = false := by kernel_rfl
  have eW : wrB 10 = true := by kernel_rfl
  have eF : fgB 10 = false := by kernel_rfl
  have oA : opA V 10 ia = V ia := by simp [opA, eA]
  have oB : opB V 10 ib = zV := by simp [opB, eB]
  have oF : opF 10 z c = 1 := by simp [opF]
  have oS : secB V 10 z c ia ib = (V ia).s := by rw [secB, oA, oB, oF]; simp [zV]
  refine ⟨?_, ?_, ?_, ?_⟩
  · rw [trE, if_pos ⟨hok, hik, by decide⟩]
    simp only [Int.toNat_natCast, oA, oB, oF, oS]
    simp [refI]
  · rw [trW, eW, if_pos rfl]
    simp only [Int.toNat_natCast, oA, oB, oF, oS]
    simp [trR, resV]
  · rw [trZ, eF]
    rfl
  · rw [trZ, eF]
    rfl
theorem trEq_11 {nH nR : Nat} {S : Nat → HS} {V0 V : Nat → VV} {z c imm : Int} {di ia ib q : Nat} (hok : absOK nH S nR V0 8 V z c = true) (hik : implIns 11 (di : Int) (ia : Int) (ib : Int) imm (q : Int) = true) : trE nH S nR V0 8 V z c 11 (di : Int) (ia : Int) (ib : Int) imm (q : Int) = 0 ∧ trW S V z c 11 (di : Int) (ia : Int) (ib : Int) imm (q : Int) = (updV V di (resV 11 imm (V ia) (V ib) (V ia).s)) ∧ trZ V z c 11 (ia : Int) (ib : Int) z = z ∧ trZ V z c 11 (ia : Int) (ib : Int) c = c := by
  have eA : bitB 11 2 = true := by kernel_rfl
  have eB : bitB 11 4 = false := by kernel_rfl
  have eW : wrB 11 = true := by kernel_rfl
  have eF : fgB 11 = false := by kernel_rfl
  have oA : opA V 11 ia = V ia := by simp [opA, eA]
  have oB : opB V 11 ib = zV := by simp [opB, eB]
  have oF : opF 11 z c = 1 := by simp [opF]
  have oS : secB V 11 z c ia ib = (V ia).s := by rw [secB, oA, oB, oF]; simp [zV]
  refine ⟨?_, ?_, ?_, ?_⟩
  · rw [trE, if_pos ⟨hok, hik, by decide⟩]
    simp only [Int.toNat_natCast, oA, oB, oF, oS]
    simp [refI]
  · rw [trW, eW, if_pos rfl]
    simp only [Int.toNat_natCast, oA, oB, oF, oS]
    simp [trR, resV]
  · rw [trZ, eF]
    rfl
  · rw [trZ, eF]
    rfl
theorem trEq_12 {nH nR : Nat} {S : Nat → HS} {V0 V : Nat → VV} {z c imm : Int} {di ia ib q : Nat} (hok : absOK nH S nR V0 8 V z c = true) (hik : implIns 12 (di : Int) (ia : Int) (ib : Int) imm (q : Int) = true) : trE nH S nR V0 8 V z c 12 (di : Int) (ia : Int) (ib : Int) imm (q : Int) = 0 ∧ trW S V z c 12 (di : Int) (ia : Int) (ib : Int) imm (q : Int) = (updV V di (resV 12 imm (V ia) (V ib) (V ia).s)) ∧ trZ V z c 12 (ia : Int) (ib : Int) z = z ∧ trZ V z c 12 (ia : Int) (ib : Int) c = c := by
  have eA : bitB 12 2 = true := by kernel_rfl
  have eB : bitB 12 4 = false := by kernel_rfl
  have eW : wrB 12 = true := by kernel_rfl
  have eF : fgB 12 = false := by kernel_rfl
  have oA : opA V 12 ia = V ia := by simp [opA, eA]
  have oB : opB V 12 ib = zV := by simp [opB, eB]
  have oF : opF 12 z c = 1 := by simp [opF]
  have oS : secB V 12 z c ia ib = (V ia).s := by rw [secB, oA, oB, oF]; simp [zV]
  refine ⟨?_, ?_, ?_, ?_⟩
  · rw [trE, if_pos ⟨hok, hik, by decide⟩]
    simp only [Int.toNat_natCast, oA, oB, oF, oS]
    simp [refI]
  · rw [trW, eW, if_pos rfl]
    simp only [Int.toNat_natCast, oA, oB, oF, oS]
    simp [trR, resV]
  · rw [trZ, eF]
    rfl
  · rw [trZ, eF]
    rfl
theorem trEq_13 {nH nR : Nat} {S : Nat → HS} {V0 V : Nat → VV} {z c imm : Int} {di ia ib q : Nat} (hok : absOK nH S nR V0 8 V z c = true) (hik : implIns 13 (di : Int) (ia : Int) (ib : Int) imm (q : Int) = true) : trE nH S nR V0 8 V z c 13 (di : Int) (ia : Int) (ib : Int) imm (q : Int) = 0 ∧ trW S V z c 13 (di : Int) (ia : Int) (ib : Int) imm (q : Int) = (updV V di (resV 13 imm (V ia) (V ib) (V ia).s)) ∧ trZ V z c 13 (ia : Int) (ib : Int) z = z ∧ trZ V z c 13 (ia : Int) (ib : Int) c = c := by
  have eA : bitB 13 2 = true := by kernel_rfl
  have eB : bitB 13 4 = false := by kernel_rfl
  have eW : wrB 13 = true := by kernel_rfl
  have eF : fgB 13 = false := by kernel_rfl
  have oA : opA V 13 ia = V ia := by simp [opA, eA]
  have oB : opB V 13 ib = zV := by simp [opB, eB]
  have oF : opF 13 z c = 1 := by simp [opF]
  have oS : secB V 13 z c ia ib = (V ia).s := by rw [secB, oA, oB, oF]; simp [zV]
  refine ⟨?_, ?_, ?_, ?_⟩
  · rw [trE, if_pos ⟨hok, hik, by decide⟩]
    simp only [Int.toNat_natCast, oA, oB, oF, oS]
    simp [refI]
  · rw [trW, eW, if_pos rfl]
    simp only [Int.toNat_natCast, oA, oB, oF, oS]
    simp [trR, resV]
  · rw [trZ, eF]
    rfl
  · rw [trZ, eF]
    rfl
theorem trEq_14 {nH nR : Nat} {S : Nat → HS} {V0 V : Nat → VV} {z c imm : Int} {di ia ib q : Nat} (hok : absOK nH S nR V0 8 V z c = true) (hik : implIns 14 (di : Int) (ia : Int) (ib : Int) imm (q : Int) = true) : trE nH S nR V0 8 V z c 14 (di : Int) (ia : Int) (ib : Int) imm (q : Int) = 0 ∧ trW S V z c 14 (di : Int) (ia : Int) (ib : Int) imm (q : Int) = (updV V di (resV 14 imm (V ia) (V ib) ((V ia).s || (V ib).s))) ∧ trZ V z c 14 (ia : Int) (ib : Int) z = (if ((V ia).s || (V ib).s) then 2 else 1) ∧ trZ V z c 14 (ia : Int) (ib : Int) c = (if ((V ia).s || (V ib).s) then 2 else 1) := by
  have eA : bitB 14 2 = true := by kernel_rfl
  have eB : bitB 14 4 = true := by kernel_rfl
  have eW : wrB 14 = true := by kernel_rfl
  have eF : fgB 14 = true := by kernel_rfl
  have oA : opA V 14 ia = V ia := by simp [opA, eA]
  have oB : opB V 14 ib = V ib := by simp [opB, eB]
  have oF : opF 14 z c = 1 := by simp [opF]
  have oS : secB V 14 z c ia ib = ((V ia).s || (V ib).s) := by rw [secB, oA, oB, oF]; simp
  refine ⟨?_, ?_, ?_, ?_⟩
  · rw [trE, if_pos ⟨hok, hik, by decide⟩]
    simp only [Int.toNat_natCast, oA, oB, oF, oS]
    simp [refI]
  · rw [trW, eW, if_pos rfl]
    simp only [Int.toNat_natCast, oA, oB, oF, oS]
    simp [trR, resV]
  · rw [trZ, eF, if_pos rfl]
    simp only [Int.toNat_natCast, oS]
  · rw [trZ, eF, if_pos rfl]
    simp only [Int.toNat_natCast, oS]
theorem trEq_15 {nH nR : Nat} {S : Nat → HS} {V0 V : Nat → VV} {z c imm : Int} {di ia ib q : Nat} (hok : absOK nH S nR V0 8 V z c = true) (hik : implIns 15 (di : Int) (ia : Int) (ib : Int) imm (q : Int) = true) : trE nH S nR V0 8 V z c 15 (di : Int) (ia : Int) (ib : Int) imm (q : Int) = (if c = 0 then 1 else 0) ∧ trW S V z c 15 (di : Int) (ia : Int) (ib : Int) imm (q : Int) = (updV V di (resV 15 imm (V ia) (V ib) ((V ia).s || (V ib).s || decide (c = 2)))) ∧ trZ V z c 15 (ia : Int) (ib : Int) z = (if ((V ia).s || (V ib).s || decide (c = 2)) then 2 else 1) ∧ trZ V z c 15 (ia : Int) (ib : Int) c = (if ((V ia).s || (V ib).s || decide (c = 2)) then 2 else 1) := by
  have eA : bitB 15 2 = true := by kernel_rfl
  have eB : bitB 15 4 = true := by kernel_rfl
  have eW : wrB 15 = true := by kernel_rfl
  have eF : fgB 15 = true := by kernel_rfl
  have oA : opA V 15 ia = V ia := by simp [opA, eA]
  have oB : opB V 15 ib = V ib := by simp [opB, eB]
  have oF : opF 15 z c = c := by simp [opF]
  have oS : secB V 15 z c ia ib = ((V ia).s || (V ib).s || decide (c = 2)) := by rw [secB, oA, oB, oF]
  refine ⟨?_, ?_, ?_, ?_⟩
  · rw [trE, if_pos ⟨hok, hik, by decide⟩]
    simp only [Int.toNat_natCast, oA, oB, oF, oS]
    simp [refI]
  · rw [trW, eW, if_pos rfl]
    simp only [Int.toNat_natCast, oA, oB, oF, oS]
    simp [trR, resV]
  · rw [trZ, eF, if_pos rfl]
    simp only [Int.toNat_natCast, oS]
  · rw [trZ, eF, if_pos rfl]
    simp only [Int.toNat_natCast, oS]
theorem trEq_16 {nH nR : Nat} {S : Nat → HS} {V0 V : Nat → VV} {z c imm : Int} {di ia ib q : Nat} (hok : absOK nH S nR V0 8 V z c = true) (hik : implIns 16 (di : Int) (ia : Int) (ib : Int) imm (q : Int) = true) : trE nH S nR V0 8 V z c 16 (di : Int) (ia : Int) (ib : Int) imm (q : Int) = 0 ∧ trW S V z c 16 (di : Int) (ia : Int) (ib : Int) imm (q : Int) = (updV V di (resV 16 imm (V ia) (V ib) ((V ia).s || (V ib).s))) ∧ trZ V z c 16 (ia : Int) (ib : Int) z = (if ((V ia).s || (V ib).s) then 2 else 1) ∧ trZ V z c 16 (ia : Int) (ib : Int) c = (if ((V ia).s || (V ib).s) then 2 else 1) := by
  have eA : bitB 16 2 = true := by kernel_rfl
  have eB : bitB 16 4 = true := by kernel_rfl
  have eW : wrB 16 = true := by kernel_rfl
  have eF : fgB 16 = true := by kernel_rfl
  have oA : opA V 16 ia = V ia := by simp [opA, eA]
  have oB : opB V 16 ib = V ib := by simp [opB, eB]
  have oF : opF 16 z c = 1 := by simp [opF]
  have oS : secB V 16 z c ia ib = ((V ia).s || (V ib).s) := by rw [secB, oA, oB, oF]; simp
  refine ⟨?_, ?_, ?_, ?_⟩
  · rw [trE, if_pos ⟨hok, hik, by decide⟩]
    simp only [Int.toNat_natCast, oA, oB, oF, oS]
    simp [refI]
  · rw [trW, eW, if_pos rfl]
    simp only [Int.toNat_natCast, oA, oB, oF, oS]
    simp [trR, resV]
  · rw [trZ, eF, if_pos rfl]
    simp only [Int.toNat_natCast, oS]
  · rw [trZ, eF, if_pos rfl]
    simp only [Int.toNat_natCast, oS]
theorem trEq_17 {nH nR : Nat} {S : Nat → HS} {V0 V : Nat → VV} {z c imm : Int} {di ia ib q : Nat} (hok : absOK nH S nR V0 8 V z c = true) (hik : implIns 17 (di : Int) (ia : Int) (ib : Int) imm (q : Int) = true) : trE nH S nR V0 8 V z c 17 (di : Int) (ia : Int) (ib : Int) imm (q : Int) = 0 ∧ trW S V z c 17 (di : Int) (ia : Int) (ib : Int) imm (q : Int) = V ∧ trZ V z c 17 (ia : Int) (ib : Int) z = (if ((V ia).s || (V ib).s) then 2 else 1) ∧ trZ V z c 17 (ia : Int) (ib : Int) c = (if ((V ia).s || (V ib).s) then 2 else 1) := by
  have eA : bitB 17 2 = true := by kernel_rfl
  have eB : bitB 17 4 = true := by kernel_rfl
  have eW : wrB 17 = false := by kernel_rfl
  have eF : fgB 17 = true := by kernel_rfl
  have oA : opA V 17 ia = V ia := by simp [opA, eA]
  have oB : opB V 17 ib = V ib := by simp [opB, eB]
  have oF : opF 17 z c = 1 := by simp [opF]
  have oS : secB V 17 z c ia ib = ((V ia).s || (V ib).s) := by rw [secB, oA, oB, oF]; simp
  refine ⟨?_, ?_, ?_, ?_⟩
  · rw [trE, if_pos ⟨hok, hik, by decide⟩]
    simp only [Int.toNat_natCast, oA, oB, oF, oS]
    simp [refI]
  · rw [trW, eW]
    rfl
  · rw [trZ, eF, if_pos rfl]
    simp only [Int.toNat_natCast, oS]
  · rw [trZ, eF, if_pos rfl]
    simp only [Int.toNat_natCast, oS]
theorem trEq_18 {nH nR : Nat} {S : Nat → HS} {V0 V : Nat → VV} {z c imm : Int} {di ia ib q : Nat} (hok : absOK nH S nR V0 8 V z c = true) (hik : implIns 18 (di : Int) (ia : Int) (ib : Int) imm (q : Int) = true) : trE nH S nR V0 8 V z c 18 (di : Int) (ia : Int) (ib : Int) imm (q : Int) = 0 ∧ trW S V z c 18 (di : Int) (ia : Int) (ib : Int) imm (q : Int) = V ∧ trZ V z c 18 (ia : Int) (ib : Int) z = (if (V ia).s then 2 else 1) ∧ trZ V z c 18 (ia : Int) (ib : Int) c = (if (V ia).s then 2 else 1) := by
  have eA : bitB 18 2 = true := by kernel_rfl
  have eB : bitB 18 4 = false := by kernel_rfl
  have eW : wrB 18 = false := by kernel_rfl
  have eF : fgB 18 = true := by kernel_rfl
  have oA : opA V 18 ia = V ia := by simp [opA, eA]
  have oB : opB V 18 ib = zV := by simp [opB, eB]
  have oF : opF 18 z c = 1 := by simp [opF]
  have oS : secB V 18 z c ia ib = (V ia).s := by rw [secB, oA, oB, oF]; simp [zV]
  refine ⟨?_, ?_, ?_, ?_⟩
  · rw [trE, if_pos ⟨hok, hik, by decide⟩]
    simp only [Int.toNat_natCast, oA, oB, oF, oS]
    simp [refI]
  · rw [trW, eW]
    rfl
  · rw [trZ, eF, if_pos rfl]
    simp only [Int.toNat_natCast, oS]
  · rw [trZ, eF, if_pos rfl]
    simp only [Int.toNat_natCast, oS]
theorem trEq_19 {nH nR : Nat} {S : Nat → HS} {V0 V : Nat → VV} {z c imm : Int} {di ia ib q : Nat} (hok : absOK nH S nR V0 8 V z c = true) (hik : implIns 19 (di : Int) (ia : Int) (ib : Int) imm (q : Int) = true) : trE nH S nR V0 8 V z c 19 (di : Int) (ia : Int) (ib : Int) imm (q : Int) = (if z = 0 then 1 else 0) ∧ trW S V z c 19 (di : Int) (ia : Int) (ib : Int) imm (q : Int) = (updV V di (pickV (V ia) (V ib) z)) ∧ trZ V z c 19 (ia : Int) (ib : Int) z = z ∧ trZ V z c 19 (ia : Int) (ib : Int) c = c := by
  have eA : bitB 19 2 = true := by kernel_rfl
  have eB : bitB 19 4 = true := by kernel_rfl
  have eW : wrB 19 = true := by kernel_rfl
  have eF : fgB 19 = false := by kernel_rfl
  have oA : opA V 19 ia = V ia := by simp [opA, eA]
  have oB : opB V 19 ib = V ib := by simp [opB, eB]
  have oF : opF 19 z c = z := by simp [opF]
  have oS : secB V 19 z c ia ib = ((V ia).s || (V ib).s || decide (z = 2)) := by rw [secB, oA, oB, oF]
  refine ⟨?_, ?_, ?_, ?_⟩
  · rw [trE, if_pos ⟨hok, hik, by decide⟩]
    simp only [Int.toNat_natCast, oA, oB, oF, oS]
    simp [refI]
  · rw [trW, eW, if_pos rfl]
    simp only [Int.toNat_natCast, oA, oB, oF, oS]
    simp [trR]
  · rw [trZ, eF]
    rfl
  · rw [trZ, eF]
    rfl
theorem trEq_20 {nH nR : Nat} {S : Nat → HS} {V0 V : Nat → VV} {z c imm : Int} {di ia ib q : Nat} (hok : absOK nH S nR V0 8 V z c = true) (hik : implIns 20 (di : Int) (ia : Int) (ib : Int) imm (q : Int) = true) : trE nH S nR V0 8 V z c 20 (di : Int) (ia : Int) (ib : Int) imm (q : Int) = (if c = 0 then 1 else 0) ∧ trW S V z c 20 (di : Int) (ia : Int) (ib : Int) imm (q : Int) = (updV V di (pickV (V ia) (V ib) c)) ∧ trZ V z c 20 (ia : Int) (ib : Int) z = z ∧ trZ V z c 20 (ia : Int) (ib : Int) c = c := by
  have eA : bitB 20 2 = true := by kernel_rfl
  have eB : bitB 20 4 = true := by kernel_rfl
  have eW : wrB 20 = true := by kernel_rfl
  have eF : fgB 20 = false := by kernel_rfl
  have oA : opA V 20 ia = V ia := by simp [opA, eA]
  have oB : opB V 20 ib = V ib := by simp [opB, eB]
  have oF : opF 20 z c = c := by simp [opF]
  have oS : secB V 20 z c ia ib = ((V ia).s || (V ib).s || decide (c = 2)) := by rw [secB, oA, oB, oF]
  refine ⟨?_, ?_, ?_, ?_⟩
  · rw [trE, if_pos ⟨hok, hik, by decide⟩]
    simp only [Int.toNat_natCast, oA, oB, oF, oS]
    simp [refI]
  · rw [trW, eW, if_pos rfl]
    simp only [Int.toNat_natCast, oA, oB, oF, oS]
    simp [trR]
  · rw [trZ, eF]
    rfl
  · rw [trZ, eF]
    rfl
theorem trEq_21 {nH nR : Nat} {S : Nat → HS} {V0 V : Nat → VV} {z c imm : Int} {di ia ib q : Nat} (hok : absOK nH S nR V0 8 V z c = true) (hik : implIns 21 (di : Int) (ia : Int) (ib : Int) imm (q : Int) = true) : trE nH S nR V0 8 V z c 21 (di : Int) (ia : Int) (ib : Int) imm (q : Int) = (accI 21 imm (q : Int) (V ia) zV (V di) (S q)) ∧ trW S V z c 21 (di : Int) (ia : Int) (ib : Int) imm (q : Int) = (updV V di (numV (S q).s 255)) ∧ trZ V z c 21 (ia : Int) (ib : Int) z = z ∧ trZ V z c 21 (ia : Int) (ib : Int) c = c := by
  have eA : bitB 21 2 = true := by kernel_rfl
  have eB : bitB 21 4 = false := by kernel_rfl
  have eW : wrB 21 = true := by kernel_rfl
  have eF : fgB 21 = false := by kernel_rfl
  have oA : opA V 21 ia = V ia := by simp [opA, eA]
  have oB : opB V 21 ib = zV := by simp [opB, eB]
  have oF : opF 21 z c = 1 := by simp [opF]
  have oS : secB V 21 z c ia ib = (V ia).s := by rw [secB, oA, oB, oF]; simp [zV]
  refine ⟨?_, ?_, ?_, ?_⟩
  · rw [trE, if_pos ⟨hok, hik, by decide⟩]
    simp only [Int.toNat_natCast, oA, oB, oF, oS]
    simp [refI]
  · rw [trW, eW, if_pos rfl]
    simp only [Int.toNat_natCast, oA, oB, oF, oS]
    simp [trR]
  · rw [trZ, eF]
    rfl
  · rw [trZ, eF]
    rfl
theorem trEq_22 {nH nR : Nat} {S : Nat → HS} {V0 V : Nat → VV} {z c imm : Int} {di ia ib q : Nat} (hok : absOK nH S nR V0 8 V z c = true) (hik : implIns 22 (di : Int) (ia : Int) (ib : Int) imm (q : Int) = true) : trE nH S nR V0 8 V z c 22 (di : Int) (ia : Int) (ib : Int) imm (q : Int) = (accI 22 imm (q : Int) (V ia) zV (V di) (S q)) ∧ trW S V z c 22 (di : Int) (ia : Int) (ib : Int) imm (q : Int) = (updV V di (numV (S q).s (-1))) ∧ trZ V z c 22 (ia : Int) (ib : Int) z = z ∧ trZ V z c 22 (ia : Int) (ib : Int) c = c := by
  have eA : bitB 22 2 = true := by kernel_rfl
  have eB : bitB 22 4 = false := by kernel_rfl
  have eW : wrB 22 = true := by kernel_rfl
  have eF : fgB 22 = false := by kernel_rfl
  have oA : opA V 22 ia = V ia := by simp [opA, eA]
  have oB : opB V 22 ib = zV := by simp [opB, eB]
  have oF : opF 22 z c = 1 := by simp [opF]
  have oS : secB V 22 z c ia ib = (V ia).s := by rw [secB, oA, oB, oF]; simp [zV]
  refine ⟨?_, ?_, ?_, ?_⟩
  · rw [trE, if_pos ⟨hok, hik, by decide⟩]
    simp only [Int.toNat_natCast, oA, oB, oF, oS]
    simp [refI]
  · rw [trW, eW, if_pos rfl]
    simp only [Int.toNat_natCast, oA, oB, oF, oS]
    simp [trR]
  · rw [trZ, eF]
    rfl
  · rw [trZ, eF]
    rfl
theorem trEq_23 {nH nR : Nat} {S : Nat → HS} {V0 V : Nat → VV} {z c imm : Int} {di ia ib q : Nat} (hok : absOK nH S nR V0 8 V z c = true) (hik : implIns 23 (di : Int) (ia : Int) (ib : Int) imm (q : Int) = true) : trE nH S nR V0 8 V z c 23 (di : Int) (ia : Int) (ib : Int) imm (q : Int) = (accI 23 imm (q : Int) (V ia) zV (V di) (S q)) ∧ trW S V z c 23 (di : Int) (ia : Int) (ib : Int) imm (q : Int) = V ∧ trZ V z c 23 (ia : Int) (ib : Int) z = z ∧ trZ V z c 23 (ia : Int) (ib : Int) c = c := by
  have eA : bitB 23 2 = true := by kernel_rfl
  have eB : bitB 23 4 = false := by kernel_rfl
  have eW : wrB 23 = false := by kernel_rfl
  have eF : fgB 23 = false := by kernel_rfl
  have oA : opA V 23 ia = V ia := by simp [opA, eA]
  have oB : opB V 23 ib = zV := by simp [opB, eB]
  have oF : opF 23 z c = 1 := by simp [opF]
  have oS : secB V 23 z c ia ib = (V ia).s := by rw [secB, oA, oB, oF]; simp [zV]
  refine ⟨?_, ?_, ?_, ?_⟩
  · rw [trE, if_pos ⟨hok, hik, by decide⟩]
    simp only [Int.toNat_natCast, oA, oB, oF, oS]
    simp [refI]
  · rw [trW, eW]
    rfl
  · rw [trZ, eF]
    rfl
  · rw [trZ, eF]
    rfl
theorem trEq_24 {nH nR : Nat} {S : Nat → HS} {V0 V : Nat → VV} {z c imm : Int} {di ia ib q : Nat} (hok : absOK nH S nR V0 8 V z c = true) (hik : implIns 24 (di : Int) (ia : Int) (ib : Int) imm (q : Int) = true) : trE nH S nR V0 8 V z c 24 (di : Int) (ia : Int) (ib : Int) imm (q : Int) = (accI 24 imm (q : Int) (V ia) zV (V di) (S q)) ∧ trW S V z c 24 (di : Int) (ia : Int) (ib : Int) imm (q : Int) = V ∧ trZ V z c 24 (ia : Int) (ib : Int) z = z ∧ trZ V z c 24 (ia : Int) (ib : Int) c = c := by
  have eA : bitB 24 2 = true := by kernel_rfl
  have eB : bitB 24 4 = false := by kernel_rfl
  have eW : wrB 24 = false := by kernel_rfl
  have eF : fgB 24 = false := by kernel_rfl
  have oA : opA V 24 ia = V ia := by simp [opA, eA]
  have oB : opB V 24 ib = zV := by simp [opB, eB]
  have oF : opF 24 z c = 1 := by simp [opF]
  have oS : secB V 24 z c ia ib = (V ia).s := by rw [secB, oA, oB, oF]; simp [zV]
  refine ⟨?_, ?_, ?_, ?_⟩
  · rw [trE, if_pos ⟨hok, hik, by decide⟩]
    simp only [Int.toNat_natCast, oA, oB, oF, oS]
    simp [refI]
  · rw [trW, eW]
    rfl
  · rw [trZ, eF]
    rfl
  · rw [trZ, eF]
    rfl
theorem trEq_25 {nH nR : Nat} {S : Nat → HS} {V0 V : Nat → VV} {z c : Int} {di ia ib q : Nat} (hok : absOK nH S nR V0 8 V z c = true) (hik : implIns 25 (di : Int) (ia : Int) (ib : Int) 0 (q : Int) = true) : trE nH S nR V0 8 V z c 25 (di : Int) (ia : Int) (ib : Int) 0 (q : Int) = (accI 25 0 (q : Int) (V ia) (V ib) (V di) (S q)) ∧ trW S V z c 25 (di : Int) (ia : Int) (ib : Int) 0 (q : Int) = (updV V di (numV (S q).s 255)) ∧ trZ V z c 25 (ia : Int) (ib : Int) z = z ∧ trZ V z c 25 (ia : Int) (ib : Int) c = c := by
  have eA : bitB 25 2 = true := by kernel_rfl
  have eB : bitB 25 4 = true := by kernel_rfl
  have eW : wrB 25 = true := by kernel_rfl
  have eF : fgB 25 = false := by kernel_rfl
  have oA : opA V 25 ia = V ia := by simp [opA, eA]
  have oB : opB V 25 ib = V ib := by simp [opB, eB]
  have oF : opF 25 z c = 1 := by simp [opF]
  have oS : secB V 25 z c ia ib = ((V ia).s || (V ib).s) := by rw [secB, oA, oB, oF]; simp
  refine ⟨?_, ?_, ?_, ?_⟩
  · rw [trE, if_pos ⟨hok, hik, by decide⟩]
    simp only [Int.toNat_natCast, oA, oB, oF, oS]
    simp [refI]
  · rw [trW, eW, if_pos rfl]
    simp only [Int.toNat_natCast, oA, oB, oF, oS]
    simp [trR]
  · rw [trZ, eF]
    rfl
  · rw [trZ, eF]
    rfl
theorem trEq_26 {nH nR : Nat} {S : Nat → HS} {V0 V : Nat → VV} {z c : Int} {di ia ib q : Nat} (hok : absOK nH S nR V0 8 V z c = true) (hik : implIns 26 (di : Int) (ia : Int) (ib : Int) 0 (q : Int) = true) : trE nH S nR V0 8 V z c 26 (di : Int) (ia : Int) (ib : Int) 0 (q : Int) = (accI 26 0 (q : Int) (V ia) (V ib) (V di) (S q)) ∧ trW S V z c 26 (di : Int) (ia : Int) (ib : Int) 0 (q : Int) = (updV V di (numV (S q).s (-1))) ∧ trZ V z c 26 (ia : Int) (ib : Int) z = z ∧ trZ V z c 26 (ia : Int) (ib : Int) c = c := by
  have eA : bitB 26 2 = true := by kernel_rfl
  have eB : bitB 26 4 = true := by kernel_rfl
  have eW : wrB 26 = true := by kernel_rfl
  have eF : fgB 26 = false := by kernel_rfl
  have oA : opA V 26 ia = V ia := by simp [opA, eA]
  have oB : opB V 26 ib = V ib := by simp [opB, eB]
  have oF : opF 26 z c = 1 := by simp [opF]
  have oS : secB V 26 z c ia ib = ((V ia).s || (V ib).s) := by rw [secB, oA, oB, oF]; simp
  refine ⟨?_, ?_, ?_, ?_⟩
  · rw [trE, if_pos ⟨hok, hik, by decide⟩]
    simp only [Int.toNat_natCast, oA, oB, oF, oS]
    simp [refI]
  · rw [trW, eW, if_pos rfl]
    simp only [Int.toNat_natCast, oA, oB, oF, oS]
    simp [trR]
  · rw [trZ, eF]
    rfl
  · rw [trZ, eF]
    rfl
theorem trEq_27 {nH nR : Nat} {S : Nat → HS} {V0 V : Nat → VV} {z c : Int} {di ia ib q : Nat} (hok : absOK nH S nR V0 8 V z c = true) (hik : implIns 27 (di : Int) (ia : Int) (ib : Int) 0 (q : Int) = true) : trE nH S nR V0 8 V z c 27 (di : Int) (ia : Int) (ib : Int) 0 (q : Int) = (accI 27 0 (q : Int) (V ia) (V ib) (V di) (S q)) ∧ trW S V z c 27 (di : Int) (ia : Int) (ib : Int) 0 (q : Int) = V ∧ trZ V z c 27 (ia : Int) (ib : Int) z = z ∧ trZ V z c 27 (ia : Int) (ib : Int) c = c := by
  have eA : bitB 27 2 = true := by kernel_rfl
  have eB : bitB 27 4 = true := by kernel_rfl
  have eW : wrB 27 = false := by kernel_rfl
  have eF : fgB 27 = false := by kernel_rfl
  have oA : opA V 27 ia = V ia := by simp [opA, eA]
  have oB : opB V 27 ib = V ib := by simp [opB, eB]
  have oF : opF 27 z c = 1 := by simp [opF]
  have oS : secB V 27 z c ia ib = ((V ia).s || (V ib).s) := by rw [secB, oA, oB, oF]; simp
  refine ⟨?_, ?_, ?_, ?_⟩
  · rw [trE, if_pos ⟨hok, hik, by decide⟩]
    simp only [Int.toNat_natCast, oA, oB, oF, oS]
    simp [refI]
  · rw [trW, eW]
    rfl
  · rw [trZ, eF]
    rfl
  · rw [trZ, eF]
    rfl
theorem trEq_28 {nH nR : Nat} {S : Nat → HS} {V0 V : Nat → VV} {z c : Int} {di ia ib q : Nat} (hok : absOK nH S nR V0 8 V z c = true) (hik : implIns 28 (di : Int) (ia : Int) (ib : Int) 0 (q : Int) = true) : trE nH S nR V0 8 V z c 28 (di : Int) (ia : Int) (ib : Int) 0 (q : Int) = (accI 28 0 (q : Int) (V ia) (V ib) (V di) (S q)) ∧ trW S V z c 28 (di : Int) (ia : Int) (ib : Int) 0 (q : Int) = V ∧ trZ V z c 28 (ia : Int) (ib : Int) z = z ∧ trZ V z c 28 (ia : Int) (ib : Int) c = c := by
  have eA : bitB 28 2 = true := by kernel_rfl
  have eB : bitB 28 4 = true := by kernel_rfl
  have eW : wrB 28 = false := by kernel_rfl
  have eF : fgB 28 = false := by kernel_rfl
  have oA : opA V 28 ia = V ia := by simp [opA, eA]
  have oB : opB V 28 ib = V ib := by simp [opB, eB]
  have oF : opF 28 z c = 1 := by simp [opF]
  have oS : secB V 28 z c ia ib = ((V ia).s || (V ib).s) := by rw [secB, oA, oB, oF]; simp
  refine ⟨?_, ?_, ?_, ?_⟩
  · rw [trE, if_pos ⟨hok, hik, by decide⟩]
    simp only [Int.toNat_natCast, oA, oB, oF, oS]
    simp [refI]
  · rw [trW, eW]
    rfl
  · rw [trZ, eF]
    rfl
  · rw [trZ, eF]
    rfl

set_option maxHeartbeats 4000000 in
theorem specTransfer_any (bH cH nH : Nat) (S : Nat → HS) (bR cR nR : Nat) (V0 : Nat → VV) (bA cA nA : Nat) (V : Nat → VV) (z c op d ra rb imm h : Int) (w : World) (lH : nH ≤ 1048576) (lR : nR ≤ 1048576) (lA : nA ≤ 1048576) (h1 : SigCp w bH nH S bR nR V0) (h2 : Arr w bA (nA * 6) (vF V)) :
    Calls Try.prog 32 #[.agg #[.slice (some ⟨bH, 0, none⟩) nH cH, .slice (some ⟨bR, 0, none⟩) nR cR], .agg #[.slice (some ⟨bA, 0, none⟩) nA cA, .int .i64 z, .int .i64 c], .agg #[.int .i64 op, .int .i64 d, .int .i64 ra, .int .i64 rb, .int .i64 imm, .int .i64 h]] w fun e w' => TrAns w w' e (trE nH S nR V0 nA V z c op d ra rb imm h) (trW S V z c op d ra rb imm h) (trZ V z c op ra rb z) (trZ V z c op ra rb c) ∧ Below w.heap.size w w' := by
  by_cases hv : absOK nH S nR V0 nA V z c = true ∧ implIns op d ra rb imm h = true ∧ op ≤ 28
  rotate_left
  · refine (specTransfer_no bH cH nH S bR cR nR V0 bA cA nA V z c op d ra rb imm h w lH lR lA h1 h2 hv).mono ?_
    rintro e w' ⟨rfl, hb⟩
    exact ⟨Or.inl ⟨by rw [trE, if_neg hv]; decide, by rw [trE, if_neg hv]⟩, hb⟩
  obtain ⟨hok, hik, o28⟩ := hv
  obtain ⟨rfl, h8, G⟩ := good_regs hok
  obtain ⟨o1, d0, d7, ra0, ra7, rb0, rb7, h0, h7, n0, n1, n2⟩ := ins_nats hik o28
  obtain ⟨di, rfl⟩ : ∃ k : Nat, d = (k : Int) := ⟨d.toNat, by omega⟩
  obtain ⟨ia, rfl⟩ : ∃ k : Nat, ra = (k : Int) := ⟨ra.toNat, by omega⟩
  obtain ⟨ib, rfl⟩ : ∃ k : Nat, rb = (k : Int) := ⟨rb.toNat, by omega⟩
  obtain ⟨q, rfl⟩ : ∃ k : Nat, h = (k : Int) := ⟨h.toNat, by omega⟩
  have hA := bd_of_good (G ia (by omega))
  have hB := bd_of_good (G ib (by omega))
  have hqi : (V ia).k = 1 → (V ia).h = (q : Int) → q < nH := fun k e => by have := heap_of_good (G ia (by omega)) k; omega
  rcases ops_1_28 o1 o28 with rfl | rfl | rfl | rfl | rfl | rfl | rfl | rfl | rfl | rfl | rfl | rfl | rfl | rfl | rfl | rfl | rfl | rfl | rfl | rfl | rfl | rfl | rfl | rfl | rfl | rfl | rfl | rfl
  · refine (specTransfer_W1 bH cH nH S bR cR nR V0 bA cA V z c imm 1 di ia ib q (by omega) (by omega) (by omega) w lH lR h1 h2 hok hik hA hB n0 n1 n2 (by decide)).mono ?_
    rintro e w' ⟨hx, hb⟩
    obtain ⟨e1, e2, e3, e4⟩ := trEq_1 hok hik
    exact ⟨hx.congr e1 (fun _ => ⟨e2, e3, e4⟩), hb⟩
  · refine (specTransfer_2 bH cH nH S bR cR nR V0 bA cA V z c imm di ia ib q (by omega) (by omega) (by omega) w lH lR h1 h2 hok hik hA hB n0 n1).mono ?_
    rintro e w' ⟨hx, hb⟩
    obtain ⟨e1, e2, e3, e4⟩ := trEq_2 hok hik
    exact ⟨hx.congr e1 (fun _ => ⟨e2, e3, e4⟩), hb⟩
  · refine (specTransfer_W2 bH cH nH S bR cR nR V0 bA cA V z c imm 3 di ia ib q (by omega) (by omega) (by omega) w lH lR h1 h2 hok hik hA hB n0 n1 n2 (by decide)).mono ?_
    rintro e w' ⟨hx, hb⟩
    obtain ⟨e1, e2, e3, e4⟩ := trEq_3 hok hik
    exact ⟨hx.congr e1 (fun _ => ⟨e2, e3, e4⟩), hb⟩
  · refine (specTransfer_W2 bH cH nH S bR cR nR V0 bA cA V z c imm 4 di ia ib q (by omega) (by omega) (by omega) w lH lR h1 h2 hok hik hA hB n0 n1 n2 (by decide)).mono ?_
    rintro e w' ⟨hx, hb⟩
    obtain ⟨e1, e2, e3, e4⟩ := trEq_4 hok hik
    exact ⟨hx.congr e1 (fun _ => ⟨e2, e3, e4⟩), hb⟩
  · refine (specTransfer_W2 bH cH nH S bR cR nR V0 bA cA V z c imm 5 di ia ib q (by omega) (by omega) (by omega) w lH lR h1 h2 hok hik hA hB n0 n1 n2 (by decide)).mono ?_
    rintro e w' ⟨hx, hb⟩
    obtain ⟨e1, e2, e3, e4⟩ := trEq_5 hok hik
    exact ⟨hx.congr e1 (fun _ => ⟨e2, e3, e4⟩), hb⟩
  · refine (specTransfer_W2 bH cH nH S bR cR nR V0 bA cA V z c imm 6 di ia ib q (by omega) (by omega) (by omega) w lH lR h1 h2 hok hik hA hB n0 n1 n2 (by decide)).mono ?_
    rintro e w' ⟨hx, hb⟩
    obtain ⟨e1, e2, e3, e4⟩ := trEq_6 hok hik
    exact ⟨hx.congr e1 (fun _ => ⟨e2, e3, e4⟩), hb⟩
  · refine (specTransfer_W2 bH cH nH S bR cR nR V0 bA cA V z c imm 7 di ia ib q (by omega) (by omega) (by omega) w lH lR h1 h2 hok hik hA hB n0 n1 n2 (by decide)).mono ?_
    rintro e w' ⟨hx, hb⟩
    obtain ⟨e1, e2, e3, e4⟩ := trEq_7 hok hik
    exact ⟨hx.congr e1 (fun _ => ⟨e2, e3, e4⟩), hb⟩
  · refine (specTransfer_W2 bH cH nH S bR cR nR V0 bA cA V z c imm 8 di ia ib q (by omega) (by omega) (by omega) w lH lR h1 h2 hok hik hA hB n0 n1 n2 (by decide)).mono ?_
    rintro e w' ⟨hx, hb⟩
    obtain ⟨e1, e2, e3, e4⟩ := trEq_8 hok hik
    exact ⟨hx.congr e1 (fun _ => ⟨e2, e3, e4⟩), hb⟩
  · refine (specTransfer_9 bH cH nH S bR cR nR V0 bA cA V z c imm di ia ib q (by omega) (by omega) (by omega) w lH lR h1 h2 hok hik hA hB n0 n1).mono ?_
    rintro e w' ⟨hx, hb⟩
    obtain ⟨e1, e2, e3, e4⟩ := trEq_9 hok hik
    exact ⟨hx.congr e1 (fun _ => ⟨e2, e3, e4⟩), hb⟩
  · refine (specTransfer_W1 bH cH nH S bR cR nR V0 bA cA V z c imm 10 di ia ib q (by omega) (by omega) (by omega) w lH lR h1 h2 hok hik hA hB n0 n1 n2 (by decide)).mono ?_
    rintro e w' ⟨hx, hb⟩
    obtain ⟨e1, e2, e3, e4⟩ := trEq_10 hok hik
    exact ⟨hx.congr e1 (fun _ => ⟨e2, e3, e4⟩), hb⟩
  · refine (specTransfer_W1 bH cH nH S bR cR nR V0 bA cA V z c imm 11 di ia ib q (by omega) (by omega) (by omega) w lH lR h1 h2 hok hik hA hB n0 n1 n2 (by decide)).mono ?_
    rintro e w' ⟨hx, hb⟩
    obtain ⟨e1, e2, e3, e4⟩ := trEq_11 hok hik
    exact ⟨hx.congr e1 (fun _ => ⟨e2, e3, e4⟩), hb⟩
  · refine (specTransfer_W1 bH cH nH S bR cR nR V0 bA cA V z c imm 12 di ia ib q (by omega) (by omega) (by omega) w lH lR h1 h2 hok hik hA hB n0 n1 n2 (by decide)).mono ?_
    rintro e w' ⟨hx, hb⟩
    obtain ⟨e1, e2, e3, e4⟩ := trEq_12 hok hik
    exact ⟨hx.congr e1 (fun _ => ⟨e2, e3, e4⟩), hb⟩
  · refine (specTransfer_W1 bH cH nH S bR cR nR V0 bA cA V z c imm 13 di ia ib q (by omega) (by omega) (by omega) w lH lR h1 h2 hok hik hA hB n0 n1 n2 (by decide)).mono ?_
    rintro e w' ⟨hx, hb⟩
    obtain ⟨e1, e2, e3, e4⟩ := trEq_13 hok hik
    exact ⟨hx.congr e1 (fun _ => ⟨e2, e3, e4⟩), hb⟩
  · refine (specTransfer_14 bH cH nH S bR cR nR V0 bA cA V z c imm di ia ib q (by omega) (by omega) (by omega) w lH lR h1 h2 hok hik hA hB n0 n1).mono ?_
    rintro e w' ⟨hx, hb⟩
    obtain ⟨e1, e2, e3, e4⟩ := trEq_14 hok hik
    exact ⟨hx.congr e1 (fun _ => ⟨e2, e3, e4⟩), hb⟩
  · refine (specTransfer_15 bH cH nH S bR cR nR V0 bA cA V z c imm di ia ib q (by omega) (by omega) (by omega) w lH lR h1 h2 hok hik hA hB n0 n1).mono ?_
    rintro e w' ⟨hx, hb⟩
    obtain ⟨e1, e2, e3, e4⟩ := trEq_15 hok hik
    exact ⟨hx.congr e1 (fun _ => ⟨e2, e3, e4⟩), hb⟩
  · refine (specTransfer_16 bH cH nH S bR cR nR V0 bA cA V z c imm di ia ib q (by omega) (by omega) (by omega) w lH lR h1 h2 hok hik hA hB n0 n1).mono ?_
    rintro e w' ⟨hx, hb⟩
    obtain ⟨e1, e2, e3, e4⟩ := trEq_16 hok hik
    exact ⟨hx.congr e1 (fun _ => ⟨e2, e3, e4⟩), hb⟩
  · refine (specTransfer_17 bH cH nH S bR cR nR V0 bA cA V z c imm di ia ib q (by omega) (by omega) (by omega) w lH lR h1 h2 hok hik hA hB n0 n1).mono ?_
    rintro e w' ⟨hx, hb⟩
    obtain ⟨e1, e2, e3, e4⟩ := trEq_17 hok hik
    exact ⟨hx.congr e1 (fun _ => ⟨e2, e3, e4⟩), hb⟩
  · refine (specTransfer_18 bH cH nH S bR cR nR V0 bA cA V z c imm di ia ib q (by omega) (by omega) (by omega) w lH lR h1 h2 hok hik hA hB n0 n1).mono ?_
    rintro e w' ⟨hx, hb⟩
    obtain ⟨e1, e2, e3, e4⟩ := trEq_18 hok hik
    exact ⟨hx.congr e1 (fun _ => ⟨e2, e3, e4⟩), hb⟩
  · refine (specTransfer_19 bH cH nH S bR cR nR V0 bA cA V z c imm di ia ib q (by omega) (by omega) (by omega) w lH lR h1 h2 hok hik hA hB n0 n1).mono ?_
    rintro e w' ⟨hx, hb⟩
    obtain ⟨e1, e2, e3, e4⟩ := trEq_19 hok hik
    exact ⟨hx.congr e1 (fun _ => ⟨e2, e3, e4⟩), hb⟩
  · refine (specTransfer_20 bH cH nH S bR cR nR V0 bA cA V z c imm di ia ib q (by omega) (by omega) (by omega) w lH lR h1 h2 hok hik hA hB n0 n1).mono ?_
    rintro e w' ⟨hx, hb⟩
    obtain ⟨e1, e2, e3, e4⟩ := trEq_20 hok hik
    exact ⟨hx.congr e1 (fun _ => ⟨e2, e3, e4⟩), hb⟩
  · refine (specTransfer_21 bH cH nH S bR cR nR V0 bA cA V z c imm di ia ib q (by omega) (by omega) (by omega) w lH lR h1 h2 hok hik hA hB hqi n0 n1).mono ?_
    rintro e w' ⟨hx, hb⟩
    obtain ⟨e1, e2, e3, e4⟩ := trEq_21 hok hik
    exact ⟨hx.congr e1 (fun _ => ⟨e2, e3, e4⟩), hb⟩
  · refine (specTransfer_22 bH cH nH S bR cR nR V0 bA cA V z c imm di ia ib q (by omega) (by omega) (by omega) w lH lR h1 h2 hok hik hA hB hqi n0 n1).mono ?_
    rintro e w' ⟨hx, hb⟩
    obtain ⟨e1, e2, e3, e4⟩ := trEq_22 hok hik
    exact ⟨hx.congr e1 (fun _ => ⟨e2, e3, e4⟩), hb⟩
  · refine (specTransfer_23 bH cH nH S bR cR nR V0 bA cA V z c imm di ia ib q (by omega) (by omega) (by omega) w lH lR h1 h2 hok hik hA hB hqi n0 n1).mono ?_
    rintro e w' ⟨hx, hb⟩
    obtain ⟨e1, e2, e3, e4⟩ := trEq_23 hok hik
    exact ⟨hx.congr e1 (fun _ => ⟨e2, e3, e4⟩), hb⟩
  · refine (specTransfer_24 bH cH nH S bR cR nR V0 bA cA V z c imm di ia ib q (by omega) (by omega) (by omega) w lH lR h1 h2 hok hik hA hB hqi n0 n1).mono ?_
    rintro e w' ⟨hx, hb⟩
    obtain ⟨e1, e2, e3, e4⟩ := trEq_24 hok hik
    exact ⟨hx.congr e1 (fun _ => ⟨e2, e3, e4⟩), hb⟩
  · obtain rfl := imm_none hik (by kernel_rfl)
    refine (specTransfer_25 bH cH nH S bR cR nR V0 bA cA V z c di ia ib q (by omega) (by omega) (by omega) w lH lR h1 h2 hok hik hA hB hqi).mono ?_
    rintro e w' ⟨hx, hb⟩
    obtain ⟨e1, e2, e3, e4⟩ := trEq_25 hok hik
    exact ⟨hx.congr e1 (fun _ => ⟨e2, e3, e4⟩), hb⟩
  · obtain rfl := imm_none hik (by kernel_rfl)
    refine (specTransfer_26 bH cH nH S bR cR nR V0 bA cA V z c di ia ib q (by omega) (by omega) (by omega) w lH lR h1 h2 hok hik hA hB hqi).mono ?_
    rintro e w' ⟨hx, hb⟩
    obtain ⟨e1, e2, e3, e4⟩ := trEq_26 hok hik
    exact ⟨hx.congr e1 (fun _ => ⟨e2, e3, e4⟩), hb⟩
  · obtain rfl := imm_none hik (by kernel_rfl)
    refine (specTransfer_27 bH cH nH S bR cR nR V0 bA cA V z c di ia ib q (by omega) (by omega) (by omega) w lH lR h1 h2 hok hik hA hB hqi).mono ?_
    rintro e w' ⟨hx, hb⟩
    obtain ⟨e1, e2, e3, e4⟩ := trEq_27 hok hik
    exact ⟨hx.congr e1 (fun _ => ⟨e2, e3, e4⟩), hb⟩
  · obtain rfl := imm_none hik (by kernel_rfl)
    refine (specTransfer_28 bH cH nH S bR cR nR V0 bA cA V z c di ia ib q (by omega) (by omega) (by omega) w lH lR h1 h2 hok hik hA hB hqi).mono ?_
    rintro e w' ⟨hx, hb⟩
    obtain ⟨e1, e2, e3, e4⟩ := trEq_28 hok hik
    exact ⟨hx.congr e1 (fun _ => ⟨e2, e3, e4⟩), hb⟩
end Go.Proofs.Ytjnooklalbcamaa
