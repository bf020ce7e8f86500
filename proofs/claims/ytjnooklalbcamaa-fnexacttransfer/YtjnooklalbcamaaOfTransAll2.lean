import Derived.Test.YtjnooklalbcamaaOfTransAbs
import Derived.Test.YtjnooklalbcamaaTransAft
import Derived.Test.YtjnooklalbcamaaOfTransOpsE
import Derived.Test.YtjnooklalbcamaaOfTransRofB
import Derived.Test.YtjnooklalbcamaaTransRofC
import Derived.Test.YtjnooklalbcamaaOfTransRofE
import Derived.Test.YtjnooklalbcamaaOfTransRofG
import Derived.Test.YtjnooklalbcamaaTransRofH
import Derived.Test.YtjnooklalbcamaaOfTransSame
/- ValidIns, the specification's and the program's: one answer. -/
namespace Go.Proofs.Ytjnooklalbcamaa
open Go.RowKit

def hasN (s : ByteArray) (n : Int) : Bool := hasB s (UInt8.ofNat n.toNat)
theorem has_n (s : ByteArray) (n : Int) (w : World) (hs : s.size ≤ maxLen) (h0 : 0 ≤ n) (h1 : n ≤ 255) :
    Calls Try.prog 77 #[.string s, .int .u8 n] w fun e w' => e = .returned (.bool (hasN s n)) ∧ w' = w := by
  have := has_any s (UInt8.ofNat n.toNat) w hs
  rw [show ((UInt8.ofNat n.toNat).toNat : Int) = n from by simp; omega] at this
  exact this
theorem uses_le (op : Int) : (usesS op).size ≤ maxLen := by
  unfold usesS usesL maxLen
  repeat' split
  all_goals decide
def specIns (op d a b imm h : Int) : Bool :=
  inB op 1 34 && (hasN (usesS op) 68 || d == 0) && (hasN (usesS op) 65 || a == 0) && (hasN (usesS op) 66 || b == 0) && (hasN (usesS op) 73 || imm == 0) && (hasN (usesS op) 72 || h == 0) &&
    inB d 0 7 && inB a 0 7 && inB b 0 7 && inB h 0 7 && inB imm (immLo op) (immHi op)
def bitB (op k : Int) : Bool := bits BinOp.and IntKind.i64 (fieldsI op) k != 0
def implIns (op d a b imm h : Int) : Bool :=
  inB op 1 34 && fieldB (bitB op 1) d 0 7 && fieldB (bitB op 2) a 0 7 && fieldB (bitB op 4) b 0 7 && fieldB (bitB op 8) imm (immLo op) (immHi op) && fieldB (bitB op 16) h 0 7

set_option maxHeartbeats 400000 in
theorem implIns_any (op d a b imm h : Int) (w : World) :
    Calls Try.prog 81 #[.agg #[.int .i64 op, .int .i64 d, .int .i64 a, .int .i64 b, .int .i64 imm, .int .i64 h]] w fun e w' => e = .returned (.bool (implIns op d a b imm h)) ∧ Below w.heap.size w w' := by
  by_cases hr : 1 ≤ op ∧ op ≤ 34
  · obtain ⟨h1, h2⟩ := hr
    go_enter Try.func81, Try.ntmps81
    go_wp2_with (first | (go_at_call 114; refine (fields_any _ _).mono ?_; rintro e w' ⟨rfl, rfl⟩) | (go_at_call 115; refine (bounds_any _ _).mono ?_; rintro e w' ⟨rfl, rfl⟩) | (go_at_call 116; refine (field_any _ _ _ _ _).mono ?_; rintro e w' ⟨rfl, rfl⟩))
    all_goals (go_ret; refine ⟨ret_bool ?_, (Below.refl _ _).alloc (Nat.le_refl _) _⟩; simp_all [implIns, bitB, inB])
  · by_cases h1 : 1 ≤ op
    · have h2 : 34 < op := by omega
      go_enter Try.func81, Try.ntmps81
      go_wp2
      go_ret
      refine ⟨ret_bool ?_, (Below.refl _ _).alloc (Nat.le_refl _) _⟩
      have : inB op 1 34 = false := by simp [inB]; omega
      simp [implIns, this]
    · have h2 : op < 1 := by omega
      go_enter Try.func81, Try.ntmps81
      go_wp2
      go_ret
      refine ⟨ret_bool ?_, (Below.refl _ _).alloc (Nat.le_refl _) _⟩
      have : inB op 1 34 = false := by simp [inB]; omega
      simp [implIns, this]

set_option maxHeartbeats 400000 in
theorem toIns_any (op d a b imm h : Int) (w : World) :
    Calls Try.prog 33 #[.agg #[.int .i64 op, .int .i64 d, .int .i64 a, .int .i64 b, .int .i64 imm, .int .i64 h]] w fun e w' => e = .returned (.agg #[.int .i64 op, .int .i64 d, .int .i64 a, .int .i64 b, .int .i64 imm, .int .i64 h]) ∧ Below w.heap.size w w' := by
  go_enter Try.func33, Try.ntmps33
  go_wp2
  exact bodyPost_ret (v := .agg #[.int .i64 op, .int .i64 d, .int .i64 a, .int .i64 b, .int .i64 imm, .int .i64 h]) (by simp [results, Try.results33, go_sem]) rfl ⟨rfl, (((Below.refl _ _).alloc (Nat.le_refl _) _).alloc (by simp) _).alloc (by simp; omega) _⟩

end Go.Proofs.Ytjnooklalbcamaa
/- The program's side of Transfer, over every op. -/
namespace Go.Proofs.Ytjnooklalbcamaa
open Go.RowKit
/-- What an instruction works on; what it does not use is a public 0. -/
def opA (V : Nat → VV) (op : Int) (i : Nat) : VV := if bitB op 2 then V i else zV
def opB (V : Nat → VV) (op : Int) (i : Nat) : VV := if bitB op 4 then V i else zV
def opF (op z c : Int) : Int := if op = 19 then z else if op = 15 ∨ op = 20 then c else 1
def secB (V : Nat → VV) (op z c : Int) (ia ib : Nat) : Bool := (opA V op ia).s || (opB V op ib).s || decide (opF op z c = 2)
/-- What the register that is written has. -/
def trR (op imm : Int) (a b : VV) (sec : Bool) (fl : Int) (g : HS) : VV :=
  if op = 19 ∨ op = 20 then pickV a b fl else if op = 21 ∨ op = 25 then numV g.s 255 else if op = 22 ∨ op = 26 then numV g.s (-1) else resV op imm a b sec
theorem ops_1_28 {op : Int} (o1 : 1 ≤ op) (o28 : op ≤ 28) : op = 1 ∨ op = 2 ∨ op = 3 ∨ op = 4 ∨ op = 5 ∨ op = 6 ∨ op = 7 ∨ op = 8 ∨ op = 9 ∨ op = 10 ∨ op = 11 ∨ op = 12 ∨ op = 13 ∨ op = 14 ∨ op = 15 ∨ op = 16 ∨ op = 17 ∨ op = 18 ∨ op = 19 ∨ op = 20 ∨ op = 21 ∨ op = 22 ∨ op = 23 ∨ op = 24 ∨ op = 25 ∨ op = 26 ∨ op = 27 ∨ op = 28 := by omega

set_option maxHeartbeats 4000000 in
theorem operandsOf_any (V : Nat → VV) (z c : Int) (FA : Array Value) (hF : FA = facA V z c) (op d imm h : Int) (ia ib : Nat) (ha : ia < 8) (hb : ib < 8) (o1 : 1 ≤ op) (o28 : op ≤ 28) (w : World) :
    Calls Try.prog 117 #[.agg FA, .agg #[.int .i64 op, .int .i64 d, .int .i64 (ia : Int), .int .i64 (ib : Int), .int .i64 imm, .int .i64 h]] w fun e w' => e = .returned (.agg (oL (opA V op ia) (opB V op ib) (opF op z c) (secB V op z c ia ib)).toArray) ∧ Below w.heap.size w w' := by
  rcases ops_1_28 o1 o28 with rfl | rfl | rfl | rfl | rfl | rfl | rfl | rfl | rfl | rfl | rfl | rfl | rfl | rfl | rfl | rfl | rfl | rfl | rfl | rfl | rfl | rfl | rfl | rfl | rfl | rfl | rfl | rfl
  · have h := operandsOf_TF V z c FA hF 1 d (ib : Int) imm h ia ha (by kernel_rfl) (by kernel_rfl) (by decide) (by decide) (by decide) w
    have eA : bitB 1 2 = true := by kernel_rfl
    have eB : bitB 1 4 = false := by kernel_rfl
    simpa [secB, opA, opB, opF, eA, eB, zV] using h
  · have h := operandsOf_FF V z c FA hF 2 d (ia : Int) (ib : Int) imm h (by kernel_rfl) (by kernel_rfl) (by decide) (by decide) (by decide) w
    have eA : bitB 2 2 = false := by kernel_rfl
    have eB : bitB 2 4 = false := by kernel_rfl
    simpa [secB, opA, opB, opF, eA, eB, zV] using h
  · have h := operandsOf_TT V z c FA hF 3 d imm h ia ha ib hb (by kernel_rfl) (by kernel_rfl) (by decide) (by decide) (by decide) w
    have eA : bitB 3 2 = true := by kernel_rfl
    have eB : bitB 3 4 = true := by kernel_rfl
    simpa [secB, opA, opB, opF, eA, eB, zV] using h
  · have h := operandsOf_TT V z c FA hF 4 d imm h ia ha ib hb (by kernel_rfl) (by kernel_rfl) (by decide) (by decide) (by decide) w
    have eA : bitB 4 2 = true := by kernel_rfl
    have eB : bitB 4 4 = true := by kernel_rfl
    simpa [secB, opA, opB, opF, eA, eB, zV] using h
  · have h := operandsOf_TT V z c FA hF 5 d imm h ia ha ib hb (by kernel_rfl) (by kernel_rfl) (by decide) (by decide) (by decide) w
    have eA : bitB 5 2 = true := by kernel_rfl
    have eB : bitB 5 4 = true := by kernel_rfl
    simpa [secB, opA, opB, opF, eA, eB, zV] using h
  · have h := operandsOf_TT V z c FA hF 6 d imm h ia ha ib hb (by kernel_rfl) (by kernel_rfl) (by decide) (by decide) (by decide) w
    have eA : bitB 6 2 = true := by kernel_rfl
    have eB : bitB 6 4 = true := by kernel_rfl
    simpa [secB, opA, opB, opF, eA, eB, zV] using h
  · have h := operandsOf_TT V z c FA hF 7 d imm h ia ha ib hb (by kernel_rfl) (by kernel_rfl) (by decide) (by decide) (by decide) w
    have eA : bitB 7 2 = true := by kernel_rfl
    have eB : bitB 7 4 = true := by kernel_rfl
    simpa [secB, opA, opB, opF, eA, eB, zV] using h
  · have h := operandsOf_TT V z c FA hF 8 d imm h ia ha ib hb (by kernel_rfl) (by kernel_rfl) (by decide) (by decide) (by decide) w
    have eA : bitB 8 2 = true := by kernel_rfl
    have eB : bitB 8 4 = true := by kernel_rfl
    simpa [secB, opA, opB, opF, eA, eB, zV] using h
  · have h := operandsOf_TT V z c FA hF 9 d imm h ia ha ib hb (by kernel_rfl) (by kernel_rfl) (by decide) (by decide) (by decide) w
    have eA : bitB 9 2 = true := by kernel_rfl
    have eB : bitB 9 4 = true := by kernel_rfl
    simpa [secB, opA, opB, opF, eA, eB, zV] using h
  · have h := operandsOf_TF V z c FA hF 10 d (ib : Int) imm h ia ha (by kernel_rfl) (by kernel_rfl) (by decide) (by decide) (by decide) w
    have eA : bitB 10 2 = true := by kernel_rfl
    have eB : bitB 10 4 = false := by kernel_rfl
    simpa [secB, opA, opB, opF, eA, eB, zV] using h
  · have h := operandsOf_TF V z c FA hF 11 d (ib : Int) imm h ia ha (by kernel_rfl) (by kernel_rfl) (by decide) (by decide) (by decide) w
    have eA : bitB 11 2 = true := by kernel_rfl
    have eB : bitB 11 4 = false := by kernel_rfl
    simpa [secB, opA, opB, opF, eA, eB, zV] using h
  · have h := operandsOf_TF V z c FA hF 12 d (ib : Int) imm h ia ha (by kernel_rfl) (by kernel_rfl) (by decide) (by decide) (by decide) w
    have eA : bitB 12 2 = true := by kernel_rfl
    have eB : bitB 12 4 = false := by kernel_rfl
    simpa [secB, opA, opB, opF, eA, eB, zV] using h
  · have h := operandsOf_TF V z c FA hF 13 d (ib : Int) imm h ia ha (by kernel_rfl) (by kernel_rfl) (by decide) (by decide) (by decide) w
    have eA : bitB 13 2 = true := by kernel_rfl
    have eB : bitB 13 4 = false := by kernel_rfl
    simpa [secB, opA, opB, opF, eA, eB, zV] using h
  · have h := operandsOf_TT V z c FA hF 14 d imm h ia ha ib hb (by kernel_rfl) (by kernel_rfl) (by decide) (by decide) (by decide) w
    have eA : bitB 14 2 = true := by kernel_rfl
    have eB : bitB 14 4 = true := by kernel_rfl
    simpa [secB, opA, opB, opF, eA, eB, zV] using h
  · have h := operandsOf_TTc V z c FA hF 15 d imm h ia ha ib hb (by kernel_rfl) (by kernel_rfl) (by decide) (by decide) w
    have eA : bitB 15 2 = true := by kernel_rfl
    have eB : bitB 15 4 = true := by kernel_rfl
    simpa [secB, opA, opB, opF, eA, eB, zV] using h
  · have h := operandsOf_TT V z c FA hF 16 d imm h ia ha ib hb (by kernel_rfl) (by kernel_rfl) (by decide) (by decide) (by decide) w
    have eA : bitB 16 2 = true := by kernel_rfl
    have eB : bitB 16 4 = true := by kernel_rfl
    simpa [secB, opA, opB, opF, eA, eB, zV] using h
  · have h := operandsOf_TT V z c FA hF 17 d imm h ia ha ib hb (by kernel_rfl) (by kernel_rfl) (by decide) (by decide) (by decide) w
    have eA : bitB 17 2 = true := by kernel_rfl
    have eB : bitB 17 4 = true := by kernel_rfl
    simpa [secB, opA, opB, opF, eA, eB, zV] using h
  · have h := operandsOf_TF V z c FA hF 18 d (ib : Int) imm h ia ha (by kernel_rfl) (by kernel_rfl) (by decide) (by decide) (by decide) w
    have eA : bitB 18 2 = true := by kernel_rfl
    have eB : bitB 18 4 = false := by kernel_rfl
    simpa [secB, opA, opB, opF, eA, eB, zV] using h
  · have h := operandsOf_TTz V z c FA hF 19 d imm h ia ha ib hb (by kernel_rfl) (by kernel_rfl) (by decide) w
    have eA : bitB 19 2 = true := by kernel_rfl
    have eB : bitB 19 4 = true := by kernel_rfl
    simpa [secB, opA, opB, opF, eA, eB, zV] using h
  · have h := operandsOf_TTd V z c FA hF 20 d imm h ia ha ib hb (by kernel_rfl) (by kernel_rfl) (by decide) (by decide) (by decide) w
    have eA : bitB 20 2 = true := by kernel_rfl
    have eB : bitB 20 4 = true := by kernel_rfl
    simpa [secB, opA, opB, opF, eA, eB, zV] using h
  · have h := operandsOf_TF V z c FA hF 21 d (ib : Int) imm h ia ha (by kernel_rfl) (by kernel_rfl) (by decide) (by decide) (by decide) w
    have eA : bitB 21 2 = true := by kernel_rfl
    have eB : bitB 21 4 = false := by kernel_rfl
    simpa [secB, opA, opB, opF, eA, eB, zV] using h
  · have h := operandsOf_TF V z c FA hF 22 d (ib : Int) imm h ia ha (by kernel_rfl) (by kernel_rfl) (by decide) (by decide) (by decide) w
    have eA : bitB 22 2 = true := by kernel_rfl
    have eB : bitB 22 4 = false := by kernel_rfl
    simpa [secB, opA, opB, opF, eA, eB, zV] using h
  · have h := operandsOf_TF V z c FA hF 23 d (ib : Int) imm h ia ha (by kernel_rfl) (by kernel_rfl) (by decide) (by decide) (by decide) w
    have eA : bitB 23 2 = true := by kernel_rfl
    have eB : bitB 23 4 = false := by kernel_rfl
    simpa [secB, opA, opB, opF, eA, eB, zV] using h
  · have h := operandsOf_TF V z c FA hF 24 d (ib : Int) imm h ia ha (by kernel_rfl) (by kernel_rfl) (by decide) (by decide) (by decide) w
    have eA : bitB 24 2 = true := by kernel_rfl
    have eB : bitB 24 4 = false := by kernel_rfl
    simpa [secB, opA, opB, opF, eA, eB, zV] using h
  · have h := operandsOf_TT V z c FA hF 25 d imm h ia ha ib hb (by kernel_rfl) (by kernel_rfl) (by decide) (by decide) (by decide) w
    have eA : bitB 25 2 = true := by kernel_rfl
    have eB : bitB 25 4 = true := by kernel_rfl
    simpa [secB, opA, opB, opF, eA, eB, zV] using h
  · have h := operandsOf_TT V z c FA hF 26 d imm h ia ha ib hb (by kernel_rfl) (by kernel_rfl) (by decide) (by decide) (by decide) w
    have eA : bitB 26 2 = true := by kernel_rfl
    have eB : bitB 26 4 = true := by kernel_rfl
    simpa [secB, opA, opB, opF, eA, eB, zV] using h
  · have h := operandsOf_TT V z c FA hF 27 d imm h ia ha ib hb (by kernel_rfl) (by kernel_rfl) (by decide) (by decide) (by decide) w
    have eA : bitB 27 2 = true := by kernel_rfl
    have eB : bitB 27 4 = true := by kernel_rfl
    simpa [secB, opA, opB, opF, eA, eB, zV] using h
  · have h := operandsOf_TT V z c FA hF 28 d imm h ia ha ib hb (by kernel_rfl) (by kernel_rfl) (by decide) (by decide) (by decide) w
    have eA : bitB 28 2 = true := by kernel_rfl
    have eB : bitB 28 4 = true := by kernel_rfl
    simpa [secB, opA, opB, opF, eA, eB, zV] using h

set_option maxHeartbeats 4000000 in
theorem resultOf_any (op d ra rb imm : Int) (q : Nat) (a b : VV) (fl : Int) (sec : Bool) (w : World) (ha : Bd a) (hb : Bd b) (pa : a.k = 1 → a.s = false) (pb : b.k = 1 → b.s = false) (hsec : sec = (a.s || b.s || decide (fl = 2))) (hfl : op ≠ 19 → op ≠ 20 → op ≠ 15 → fl = 1) (hb0 : op = 10 → b.s = false) (bH cH nH : Nat) (S : Nat → HS) (lH : nH ≤ 1048576) (hq : 21 ≤ op → q < nH) (hh : Arr w bH (nH * 3) (hsF S)) (n0 : -1000000 ≤ imm) (n1 : imm ≤ 1000000) (n2 : op = 12 ∨ op = 13 → 0 ≤ imm ∧ imm ≤ 63)
    (hop : (1 ≤ op ∧ op ≤ 16) ∨ (19 ≤ op ∧ op ≤ 22) ∨ op = 25 ∨ op = 26) :
    Calls Try.prog 120 #[.agg #[.int .i64 op, .int .i64 d, .int .i64 ra, .int .i64 rb, .int .i64 imm, .int .i64 (q : Int)], .agg #[.int .i64 a.k, .bool a.s, .int .i64 a.m, .int .i64 a.h, .int .i64 a.lo, .int .i64 a.hi, .int .i64 b.k, .bool b.s, .int .i64 b.m, .int .i64 b.h, .int .i64 b.lo, .int .i64 b.hi, .int .i64 fl, .bool sec], .slice (some ⟨bH, 0, none⟩) nH cH] w fun e w' => e = .returned (trR op imm a b sec fl (S q)).v ∧ Below w.heap.size w w' := by
  have hop' : op = 1 ∨ op = 2 ∨ op = 3 ∨ op = 4 ∨ op = 5 ∨ op = 6 ∨ op = 7 ∨ op = 8 ∨ op = 9 ∨ op = 10 ∨ op = 11 ∨ op = 12 ∨ op = 13 ∨ op = 14 ∨ op = 15 ∨ op = 16 ∨ op = 19 ∨ op = 20 ∨ op = 21 ∨ op = 22 ∨ op = 25 ∨ op = 26 := by omega
  rcases hop' with rfl | rfl | rfl | rfl | rfl | rfl | rfl | rfl | rfl | rfl | rfl | rfl | rfl | rfl | rfl | rfl | rfl | rfl | rfl | rfl | rfl | rfl
  · have h := resultOf_1 d ra rb imm (q : Int) a b fl sec (.slice (some ⟨bH, 0, none⟩) nH cH) w ha hb
    exact h
  · have h := resultOf_2 d ra rb imm (q : Int) a b fl sec (.slice (some ⟨bH, 0, none⟩) nH cH) w ha hb
    exact h
  · have h := resultOf_3 d ra rb imm (q : Int) a b fl sec (.slice (some ⟨bH, 0, none⟩) nH cH) w ha hb
    have f1 := hfl (by decide) (by decide) (by decide)
    have e : addV a b sec = resV 3 imm a b sec := by rw [hsec, f1]; simpa [resV] using same_add a b
    rw [e] at h
    exact h
  · have h := resultOf_4 d ra rb imm (q : Int) a b fl sec (.slice (some ⟨bH, 0, none⟩) nH cH) w ha hb
    exact h
  · have h := resultOf_5 d ra rb imm (q : Int) a b fl sec (.slice (some ⟨bH, 0, none⟩) nH cH) w ha hb
    rw [same_mul (i := imm) a b sec] at h
    exact h
  · have h := resultOf_6 d ra rb imm (q : Int) a b fl sec (.slice (some ⟨bH, 0, none⟩) nH cH) w ha hb
    rw [same_and (i := imm) a b sec] at h
    exact h
  · have h := resultOf_7 d ra rb imm (q : Int) a b fl sec (.slice (some ⟨bH, 0, none⟩) nH cH) w ha hb
    rw [same_or (i := imm) a b sec 7 (by decide)] at h
    exact h
  · have h := resultOf_8 d ra rb imm (q : Int) a b fl sec (.slice (some ⟨bH, 0, none⟩) nH cH) w ha hb
    rw [same_or (i := imm) a b sec 8 (by decide)] at h
    exact h
  · have h := resultOf_9 d ra rb imm (q : Int) a b fl sec (.slice (some ⟨bH, 0, none⟩) nH cH) w ha hb
    exact h
  · have h := resultOf_10 d ra rb imm (q : Int) a b fl sec (.slice (some ⟨bH, 0, none⟩) nH cH) w ha hb n0 n1
    have f1 := hfl (by decide) (by decide) (by decide)
    rw [same_mov a b sec (fun k => by rw [hsec, pa k, hb0 rfl, f1]; rfl)] at h
    exact h
  · have h := resultOf_11 d ra rb imm (q : Int) a b fl sec (.slice (some ⟨bH, 0, none⟩) nH cH) w ha hb
    rw [same_andi (i := imm) a b sec] at h
    exact h
  · have h := resultOf_12 d ra rb imm (q : Int) a b fl sec (.slice (some ⟨bH, 0, none⟩) nH cH) w ha hb (n2 (by decide)).1 (n2 (by decide)).2
    rw [same_shl a b sec (n2 (by decide)).1] at h
    exact h
  · have h := resultOf_13 d ra rb imm (q : Int) a b fl sec (.slice (some ⟨bH, 0, none⟩) nH cH) w ha hb (n2 (by decide)).1 (n2 (by decide)).2
    rw [same_shr a b sec (n2 (by decide)).1 (n2 (by decide)).2] at h
    exact h
  · have h := resultOf_14 d ra rb imm (q : Int) a b fl sec (.slice (some ⟨bH, 0, none⟩) nH cH) w ha hb
    have f1 := hfl (by decide) (by decide) (by decide)
    have e : addV a b sec = resV 14 imm a b sec := by rw [hsec, f1]; simpa [resV] using same_add a b
    rw [e] at h
    exact h
  · have h := resultOf_15 d ra rb imm (q : Int) a b fl sec (.slice (some ⟨bH, 0, none⟩) nH cH) w ha hb
    rw [same_adc (i := imm) a b sec] at h
    exact h
  · have h := resultOf_16 d ra rb imm (q : Int) a b fl sec (.slice (some ⟨bH, 0, none⟩) nH cH) w ha hb
    exact h
  · have h := resultOf_19 d ra rb imm (q : Int) a b fl sec (.slice (some ⟨bH, 0, none⟩) nH cH) w ha hb
    rw [hsec, same_sel a b fl pa pb, ← hsec] at h
    exact h
  · have h := resultOf_20 d ra rb imm (q : Int) a b fl sec (.slice (some ⟨bH, 0, none⟩) nH cH) w ha hb
    rw [hsec, same_sel a b fl pa pb, ← hsec] at h
    exact h
  · exact resultOf_21 d ra rb imm a b fl sec w ha hb bH cH nH q S lH (hq (by decide)) hh
  · exact resultOf_22 d ra rb imm a b fl sec w ha hb bH cH nH q S lH (hq (by decide)) hh
  · exact resultOf_25 d ra rb imm a b fl sec w ha hb bH cH nH q S lH (hq (by decide)) hh
  · exact resultOf_26 d ra rb imm a b fl sec w ha hb bH cH nH q S lH (hq (by decide)) hh
end Go.Proofs.Ytjnooklalbcamaa
/- The program's side of Transfer: 'after' whole. -/
namespace Go.Proofs.Ytjnooklalbcamaa
open Go.RowKit
def wrB (op : Int) : Bool := bitB op 1 && !decide (op = 23 ∨ op = 24 ∨ op = 27 ∨ op = 28)
def fgB (op : Int) : Bool := decide (14 ≤ op ∧ op ≤ 18)
theorem opA_good {V : Nat → VV} {op n : Int} {i : Nat} (g : goodB (V i) n = true) : Bd (opA V op i) ∧ ((opA V op i).k = 1 → (opA V op i).s = false) ∧ ((opA V op i).k = 1 → 0 ≤ (opA V op i).h ∧ (opA V op i).h < n) := by
  unfold opA
  split
  · exact ⟨bd_of_good g, pub_of_good g, heap_of_good g⟩
  · exact ⟨bd_zV, fun _ => rfl, fun h => absurd h (by decide)⟩
theorem opB_good {V : Nat → VV} {op n : Int} {i : Nat} (g : goodB (V i) n = true) : Bd (opB V op i) ∧ ((opB V op i).k = 1 → (opB V op i).s = false) := by
  unfold opB
  split
  · exact ⟨bd_of_good g, pub_of_good g⟩
  · exact ⟨bd_zV, fun _ => rfl⟩
theorem acc_ptr {op imm h : Int} {a b x : VV} {g : HS} (e : accI op imm h a b x g = 0) : a.k = 1 ∧ a.h = h := by
  unfold accI at e
  by_cases h1 : a.k = 1
  · rw [if_neg (by simp [h1])] at e
    by_cases h2 : a.h = h
    · exact ⟨h1, h2⟩
    · rw [if_pos h2] at e; omega
  · rw [if_pos h1] at e; omega
theorem wr_ops {op : Int} (o1 : 1 ≤ op) (o28 : op ≤ 28) (h : wrB op = true) : (1 ≤ op ∧ op ≤ 16) ∨ (19 ≤ op ∧ op ≤ 22) ∨ op = 25 ∨ op = 26 := by
  rcases ops_1_28 o1 o28 with rfl | rfl | rfl | rfl | rfl | rfl | rfl | rfl | rfl | rfl | rfl | rfl | rfl | rfl | rfl | rfl | rfl | rfl | rfl | rfl | rfl | rfl | rfl | rfl | rfl | rfl | rfl | rfl
  all_goals first | omega | (exfalso; revert h; decide)
theorem ref_acc {op fl : Int} {sec : Bool} {r : Int} (o21 : 21 ≤ op) (o28 : op ≤ 28) (h : refI op fl sec r = 0) : r = 0 := by
  unfold refI at h
  by_cases h1 : fl = 0
  · rw [if_pos h1] at h; omega
  · rw [if_neg h1, if_neg (by omega), if_pos ⟨o21, o28⟩] at h; exact h
theorem after_all (V : Nat → VV) (z c : Int) (FA : Array Value) (hF : FA = facA V z c) (op imm : Int) (di ia ib q : Nat) (hd : di < 8) (ha : ia < 8) (hb : ib < 8) (o1 : 1 ≤ op) (o28 : op ≤ 28) (n0 : -1000000 ≤ imm) (n1 : imm ≤ 1000000) (n2 : op = 12 ∨ op = 13 → 0 ≤ imm ∧ imm ≤ 63) (bH cH nH : Nat) (S : Nat → HS) (lH : nH ≤ 1048576) (G : ∀ i, i < 8 → goodB (V i) nH = true) (w : World) (hh : Arr w bH (nH * 3) (hsF S)) :
    Calls Try.prog 83 #[.agg FA, .agg #[.int .i64 op, .int .i64 (di : Int), .int .i64 (ia : Int), .int .i64 (ib : Int), .int .i64 imm, .int .i64 (q : Int)], .slice (some ⟨bH, 0, none⟩) nH cH] w fun e w' => e = .returned (aftT V z c di (trR op imm (opA V op ia) (opB V op ib) (secB V op z c ia ib) (opF op z c) (S q)) (refI op (opF op z c) (secB V op z c ia ib) (accI op imm (q : Int) (opA V op ia) (opB V op ib) (V di) (S q))) (wrB op) (fgB op) (secB V op z c ia ib)) ∧ Below w.heap.size w w' := by
  obtain ⟨bA, pA, hA⟩ := opA_good (op := op) (G ia ha)
  obtain ⟨bB, pB⟩ := opB_good (op := op) (G ib hb)
  refine after_any V z c FA hF op (ia : Int) (ib : Int) imm (q : Int) di hd (opA V op ia) (opB V op ib) (opF op z c) (secB V op z c ia ib) (.slice (some ⟨bH, 0, none⟩) nH cH) _ _ (wrB op) (fgB op) w ?_ ?_ ?_ rfl rfl
  · intro w' _
    exact operandsOf_any V z c FA hF op (di : Int) imm (q : Int) ia ib ha hb o1 o28 w'
  · intro w' hw'
    refine refusal_any V z c FA hF op (di : Int) (ia : Int) (ib : Int) imm (q : Int) _ _ _ _ _ _ w' (fun _ _ w'' hw'' => ?_)
    have hb2 := hw'.trans (hw''.mono hw'.size)
    exact refAcc_any V z c FA hF op (ia : Int) (ib : Int) imm di q hd _ _ _ _ bH cH nH S w'' lH (fun k e => by have := hA k; omega) (hh.below hb2 hh.lt) bA bB n0 n1
  · intro hr hw w' hw'
    refine resultOf_any op (di : Int) (ia : Int) (ib : Int) imm q _ _ _ _ w' bA bB pA pB rfl (fun h1 h2 h3 => ?_) (fun h1 => ?_) bH cH nH S lH (fun h21 => ?_) (hh.below hw' hh.lt) n0 n1 n2 (wr_ops o1 o28 hw)
    · unfold opF; rw [if_neg h1, if_neg (by omega)]
    · subst h1; rfl
    · have e := acc_ptr (ref_acc h21 o28 hr)
      have := hA e.1
      omega
end Go.Proofs.Ytjnooklalbcamaa
