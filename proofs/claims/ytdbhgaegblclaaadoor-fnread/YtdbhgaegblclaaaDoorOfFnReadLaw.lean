import Derived.Test.YtdbhgaegblclaaaDoorRdSpec
import Derived.Test.YtdbhgaegblclaaaDoorRdTop
import Derived.Test.YtdbhgaegblclaaaDoorOfDrawAny
import Derived.Test.YtdbhgaegblclaaaDoorAsmImpl
import Derived.ArgAppend
import Derived.Test.YtdbhgaegblclaaaDoorOpenRow
import Derived.Test.YtdbhgaegblclaaaDoorCards
import Derived.Test.YtdbhgaegblclaaaDoorTie
import Derived.OpenShut
import Derived.ChangeOld
import Derived.Below
import Derived.ProofKit
import Derived.LaidMore
import Derived.Lay
import Derived.SevenTiedAt
import Derived.Stop.Joined
/- What is printed is read back: the mathematics. -/
namespace Go.Proofs.YtdbhgaegblclaaaDoor
open Go.RowKit

theorem ofN_dig (k : Nat) (h : k < 10) : isDg (UInt8.ofNat (48 + k)) = true ∧ ((UInt8.ofNat (48 + k)).toNat : Int) - 48 = k := by
  have e : (UInt8.ofNat (48 + k)).toNat = 48 + k := by simp; omega
  refine ⟨?_, by omega⟩
  unfold isDg
  rw [e]
  simp; omega
theorem dec_dig (n : Nat) : ∀ c ∈ Lib.decDigits n, isDg c = true := by
  induction n using Nat.strongRecOn with
  | ind n ih =>
    rw [Lib.decDigits]
    by_cases h : n < 10
    · rw [dif_pos h]
      intro c hc
      have : c = UInt8.ofNat (48 + n) := by simpa using hc
      subst this
      exact (ofN_dig n h).1
    · rw [dif_neg h]
      intro c hc
      rcases List.mem_append.1 hc with h1 | h1
      · exact ih (n / 10) (by omega) c h1
      · have : c = UInt8.ofNat (48 + n % 10) := by simpa using h1
        subst this
        exact (ofN_dig (n % 10) (by omega)).1
theorem dec_val (n : Nat) : valN (Lib.decDigits n) = n := by
  induction n using Nat.strongRecOn with
  | ind n ih =>
    rw [Lib.decDigits]
    by_cases h : n < 10
    · rw [dif_pos h]
      have := (ofN_dig n h).2
      show 0 * 10 + (((UInt8.ofNat (48 + n)).toNat : Int) - 48) = n
      omega
    · rw [dif_neg h, valN_snoc, ih (n / 10) (by omega), (ofN_dig (n % 10) (by omega)).2]
      omega
theorem dec_len : ∀ (k n : Nat), n < 10 ^ (k + 1) → (Lib.decDigits n).length ≤ k + 1
  | 0, n, h => by
    rw [Lib.decDigits, dif_pos (by omega)]; simp
  | k + 1, n, h => by
    rw [Lib.decDigits]
    by_cases h1 : n < 10
    · rw [dif_pos h1]; simp
    · rw [dif_neg h1]
      have := dec_len k (n / 10) (by rw [Nat.pow_succ] at h; omega)
      simp; omega
theorem dec_head (n : Nat) (h : 1 ≤ n) : ∃ c l, Lib.decDigits n = c :: l ∧ c.toNat ≠ 48 := by
  induction n using Nat.strongRecOn with
  | ind n ih =>
    rw [Lib.decDigits]
    by_cases h1 : n < 10
    · rw [dif_pos h1]
      refine ⟨_, _, rfl, ?_⟩
      have := (ofN_dig n h1).2
      omega
    · rw [dif_neg h1]
      obtain ⟨c, l, e, hc⟩ := ih (n / 10) (by omega) (by omega)
      exact ⟨c, l ++ [UInt8.ofNat (48 + n % 10)], by rw [e]; rfl, hc⟩
theorem dec_zero : Lib.decDigits 0 = [48] := by rw [Lib.decDigits]; rfl
theorem dec_ne (n : Nat) : Lib.decDigits n ≠ [] := by
  rw [Lib.decDigits]
  split <;> simp
theorem numAt_dec (n : Nat) (r : List UInt8) (h : n < 1000000000) (hr : ∀ c, r.head? = some c → isDg c = false) : numAt (Lib.decDigits n ++ r) = some ((n : Int), (Lib.decDigits n).length) := by
  have hp : pre isDg (Lib.decDigits n ++ r) = (Lib.decDigits n).length := pre_app isDg _ r (dec_dig n) hr
  have hl := dec_len 8 n (by omega)
  have h0 : (Lib.decDigits n).length ≠ 0 := fun e => dec_ne n (List.length_eq_zero_iff.1 e)
  unfold numAt
  rw [hp, if_neg, List.take_left' rfl, dec_val]
  rintro (e | e | ⟨e1, e2⟩)
  · exact h0 e
  · omega
  · by_cases hn : n = 0
    · subst hn; rw [dec_zero] at e1; simp at e1
    · obtain ⟨c, l, e3, hc⟩ := dec_head n (by omega)
      rw [e3] at e2
      exact hc (by simpa using e2)
theorem numS_itoa (sg : Bool) (v : Int) (r : List UInt8) (h : v.natAbs < 1000000000) (hs : sg = true ∨ 0 ≤ v) (hr : ∀ c, r.head? = some c → isDg c = false) : numS sg (Lib.itoa v ++ r) = some (v, (Lib.itoa v).length) := by
  unfold Lib.itoa
  by_cases hv : v < 0
  · rw [if_pos hv]
    have hsg : sg = true := by rcases hs with h1 | h1; · exact h1
                               · omega
    unfold numS
    have e : (45 :: Lib.decDigits v.natAbs) ++ r = 45 :: (Lib.decDigits v.natAbs ++ r) := rfl
    rw [e, if_pos ⟨hsg, rfl⟩]
    show (match numAt (Lib.decDigits v.natAbs ++ r) with | some (v, n) => if v = 0 then none else some (-v, n + 1) | none => none) = _
    rw [numAt_dec v.natAbs r h hr]
    simp only
    rw [if_neg (by omega)]
    simp
    omega
  · rw [if_neg hv]
    unfold numS
    rw [if_neg]
    · rw [numAt_dec v.toNat r (by omega) hr]
      simp; omega
    · rintro ⟨_, e⟩
      rcases hd : Lib.decDigits v.toNat with _ | ⟨c, l⟩
      · exact dec_ne _ hd
      · rw [hd] at e
        have e1 : c.toNat = 45 := by simpa using e
        have e2 := dec_dig v.toNat c (by rw [hd]; simp)
        unfold isDg at e2
        rw [e1] at e2
        simp at e2
/-- What a letter of a form stands for. -/
def fld (x : NV) (c : UInt8) : Int := if c = 65 then x.a else if c = 66 then x.b else if c = 68 then x.d else if c = 72 then x.h else x.imm
def rbL (x : NV) (c : UInt8) : List UInt8 := (rbI x.d x.a x.b x.imm x.h c).data.toList
theorem rbL_fd (x : NV) (c : UInt8) (h : isFd c = true) (hn : c ≠ 64) : rbL x c = Lib.itoa (fld x c) := by
  have hc : c = 65 ∨ c = 66 ∨ c = 68 ∨ c = 72 ∨ c = 73 ∨ c = 78 := by
    unfold isFd at h
    simp only [Bool.or_eq_true, beq_iff_eq] at h
    rcases h with (((((h | h) | h) | h) | h) | h) | h
    · exact .inl h
    · exact .inr (.inl h)
    · exact .inr (.inr (.inl h))
    · exact .inr (.inr (.inr (.inl h)))
    · exact .inr (.inr (.inr (.inr (.inl h))))
    · exact .inr (.inr (.inr (.inr (.inr h))))
    · exact absurd h hn
  rcases hc with rfl | rfl | rfl | rfl | rfl | rfl <;> rfl
theorem rbL_lit (x : NV) (c : UInt8) (h : isFd c = false) : rbL x c = [c] := by
  unfold isFd at h
  simp only [Bool.or_eq_false_iff, beq_eq_false_iff_ne] at h
  obtain ⟨⟨⟨⟨⟨⟨h1, h2⟩, h3⟩, h4⟩, h5⟩, h6⟩, _⟩ := h
  unfold rbL rbI
  rw [if_neg h3, if_neg h1, if_neg h2, if_neg h5, if_neg h6, if_neg h4]
def okF : List UInt8 → Bool
  | [] => true
  | c :: ps => (!isFd c || (c != 64 && (match ps with | [] => true | c2 :: _ => !isFd c2 && !isDg c2))) && okF ps
def setA (x : NV) (ps : List UInt8) (y : NV) : NV := ps.foldl (fun y c => if isFd c = true then setF y c (fld x c) else y) y
theorem fit_rend (x : NV) : ∀ (ps : List UInt8) (y : NV), okF ps = true → (∀ c ∈ ps, isFd c = true → (fld x c).natAbs < 1000000000 ∧ (c = 73 ∨ 0 ≤ fld x c)) → fit ps (ps.flatMap (rbL x)) y = some (setA x ps y)
  | [], y, _, _ => rfl
  | c :: ps, y, ho, hf => by
    unfold okF at ho
    rw [Bool.and_eq_true] at ho
    have ih := fun y => fit_rend x ps y ho.2 (fun c hc => hf c (List.mem_cons_of_mem _ hc))
    rw [List.flatMap_cons]
    cases hc : isFd c with
    | true =>
      have h1 := ho.1
      rw [hc] at h1
      simp only [Bool.not_true, Bool.false_or, Bool.and_eq_true, bne_iff_ne] at h1
      obtain ⟨hv, hs⟩ := hf c (by simp) hc
      have hr : ∀ c', (ps.flatMap (rbL x)).head? = some c' → isDg c' = false := by
        intro c' h'
        rcases ps with _ | ⟨c2, ps⟩
        · cases h'
        · have h2 := h1.2
          simp only [Bool.and_eq_true, Bool.not_eq_true'] at h2
          rw [List.flatMap_cons, rbL_lit x c2 h2.1] at h'
          have : c2 = c' := by simpa using h'
          rw [← this]; exact h2.2
      rw [rbL_fd x c hc h1.1]
      have hn := numS_itoa (c == 73) (fld x c) (ps.flatMap (rbL x)) hv (hs.imp (fun e => by simp [e]) id) hr
      unfold fit
      rw [if_pos hc, hn]
      simp only
      rw [List.drop_left' rfl, ih]
      show _ = some (setA x ps (if isFd c = true then setF y c (fld x c) else y))
      rw [if_pos hc]
    | false =>
      rw [rbL_lit x c hc, fit_cons_lit c _ _ _ hc]
      show (if c = c then fit ps (ps.flatMap (rbL x)) y else none) = _
      rw [if_pos rfl, ih]
      show _ = some (setA x ps (if isFd c = true then setF y c (fld x c) else y))
      rw [if_neg (by simp [hc])]
theorem rend_list (f : UInt8 → ByteArray) : ∀ (l : List UInt8) (o : ByteArray), (rendS f o l).data.toList = o.data.toList ++ l.flatMap fun c => (f c).data.toList
  | [], o => by simp [rendS]
  | c :: l, o => by
    have : rendS f o (c :: l) = rendS f (o ++ f c) l := rfl
    rw [this, rend_list f l, List.flatMap_cons]
    simp
theorem form_facts : ∀ k : Nat, k < 34 → (okF (ptL 0 (shpI ((k : Int) + 1))) && okF (ptL 1 (shpI ((k : Int) + 1))) && (jumpB ((k : Int) + 1) || (!(ptL 0 (shpI ((k : Int) + 1))).contains 78 && !(ptL 1 (shpI ((k : Int) + 1))).contains 78)) && ((ptL 0 (shpI ((k : Int) + 1))).head?.all (· == 32)) && ((ptL 1 (shpI ((k : Int) + 1))).head?.all (· == 32)) && (ptL 0 (shpI ((k : Int) + 1))).all noNl && (ptL 1 (shpI ((k : Int) + 1))).all noNl && (nmL ((k : Int) + 1)).all noNl) = true := by decide +kernel
theorem form_all {d op : Int} (h1 : 1 ≤ op) (h2 : op ≤ 34) (hd : d = 0 ∨ d = 1) : okF (ptL d (shpI op)) = true ∧ (jumpB op = true ∨ 78 ∉ ptL d (shpI op)) ∧ (∀ c, (ptL d (shpI op)).head? = some c → c = 32) ∧ (∀ c ∈ ptL d (shpI op), noNl c = true) ∧ ∀ c ∈ nmL op, noNl c = true := by
  have h := form_facts (op - 1).toNat (by omega)
  rw [show (((op - 1).toNat : Nat) : Int) + 1 = op by omega] at h
  simp only [Bool.and_eq_true, Bool.or_eq_true, Bool.not_eq_true', List.all_eq_true] at h
  obtain ⟨⟨⟨⟨⟨⟨⟨a0, a1⟩, b⟩, c0⟩, c1⟩, d0⟩, d1⟩, e⟩ := h
  have hh : ∀ l : List UInt8, (l.head?.all (· == 32)) = true → ∀ c, l.head? = some c → c = 32 := fun l hl c hc => by rw [hc] at hl; simpa using hl
  rcases hd with rfl | rfl
  · exact ⟨a0, b.imp id (fun b => by simpa using b.1), hh _ c0, d0, e⟩
  · exact ⟨a1, b.imp id (fun b => by simpa using b.2), hh _ c1, d1, e⟩
theorem set_all (d op : Int) (x : NV) (h1 : 1 ≤ op) (h2 : op ≤ 34) (hd : d = 0 ∨ d = 1) : setA x (ptL d (shpI op)) { nv0 with op := op } = ⟨op, if bitB op 1 = true then x.d else 0, if bitB op 2 = true then x.a else 0, if bitB op 4 = true then x.b else 0, if bitB op 8 = true then x.imm else 0, if bitB op 16 = true then x.h else 0⟩ := by
  obtain rfl | rfl | rfl | rfl | rfl | rfl | rfl | rfl | rfl | rfl | rfl | rfl | rfl | rfl | rfl | rfl | rfl | rfl | rfl | rfl | rfl | rfl | rfl | rfl | rfl | rfl | rfl | rfl | rfl | rfl | rfl | rfl | rfl | rfl : op = 1 ∨ op = 2 ∨ op = 3 ∨ op = 4 ∨ op = 5 ∨ op = 6 ∨ op = 7 ∨ op = 8 ∨ op = 9 ∨ op = 10 ∨ op = 11 ∨ op = 12 ∨ op = 13 ∨ op = 14 ∨ op = 15 ∨ op = 16 ∨ op = 17 ∨ op = 18 ∨ op = 19 ∨ op = 20 ∨ op = 21 ∨ op = 22 ∨ op = 23 ∨ op = 24 ∨ op = 25 ∨ op = 26 ∨ op = 27 ∨ op = 28 ∨ op = 29 ∨ op = 30 ∨ op = 31 ∨ op = 32 ∨ op = 33 ∨ op = 34 := by omega
  all_goals (rcases hd with rfl | rfl <;> kernel_rfl)
/-- What is known of the fields of a valid instruction. -/
theorem ins_facts {x : NV} (h : implIns x.op x.d x.a x.b x.imm x.h = true) : 1 ≤ x.op ∧ x.op ≤ 34 ∧ (0 ≤ x.d ∧ x.d ≤ 7) ∧ (0 ≤ x.a ∧ x.a ≤ 7) ∧ (0 ≤ x.b ∧ x.b ≤ 7) ∧ (0 ≤ x.h ∧ x.h ≤ 7) ∧ (-1000000 ≤ x.imm ∧ x.imm ≤ 1000000) ∧ (jumpB x.op = true → 0 ≤ x.imm) ∧ (bitB x.op 1 = false → x.d = 0) ∧ (bitB x.op 2 = false → x.a = 0) ∧ (bitB x.op 4 = false → x.b = 0) ∧ (bitB x.op 8 = false → x.imm = 0) ∧ (bitB x.op 16 = false → x.h = 0) := by
  unfold implIns at h
  simp only [Bool.and_eq_true] at h
  obtain ⟨⟨⟨⟨⟨h0, h1⟩, h2⟩, h3⟩, h4⟩, h5⟩ := h
  have fb : ∀ (u : Bool) (v lo hi : Int), fieldB u v lo hi = true → (u = false → v = 0) ∧ ((lo ≤ v ∧ v ≤ hi) ∨ v = 0) := fun u v lo hi hh => by
    unfold fieldB at hh
    cases u with
    | true => simp [inB] at hh; exact ⟨fun e => (by cases e), .inl hh⟩
    | false => simp at hh; exact ⟨fun _ => hh, .inr hh⟩
  have k0 : 1 ≤ x.op ∧ x.op ≤ 34 := by simpa [inB] using h0
  have k1 := fb _ _ _ _ h1
  have k2 := fb _ _ _ _ h2
  have k3 := fb _ _ _ _ h3
  have k4 := fb _ _ _ _ h4
  have k5 := fb _ _ _ _ h5
  have i1 : -1000000 ≤ immLo x.op ∧ (jumpB x.op = true → immLo x.op = 0) := by
    unfold immLo jumpB
    split
    · exact ⟨by omega, fun _ => rfl⟩
    · rename_i hn
      refine ⟨by omega, fun e => ?_⟩
      simp only [Bool.and_eq_true, decide_eq_true_eq] at e
      exact absurd (.inr (.inr (.inr e))) hn
  have i2 : immHi x.op ≤ 1000000 := by unfold immHi; split; · omega
                                       · split <;> omega
  refine ⟨k0.1, k0.2, by omega, by omega, by omega, by omega, by omega, fun e => ?_, k1.1, k2.1, k3.1, k4.1, k5.1⟩
  have := i1.2 e
  omega
theorem itoa_noNl (v : Int) : ∀ c ∈ Lib.itoa v, noNl c = true := by
  have hd : ∀ n, ∀ c ∈ Lib.decDigits n, noNl c = true := fun n c hc => by
    have := dec_dig n c hc
    unfold isDg at this
    simp only [Bool.and_eq_true, decide_eq_true_eq] at this
    unfold noNl
    rw [decide_eq_true_eq]
    omega
  unfold Lib.itoa
  split
  · intro c hc
    rcases List.mem_cons.1 hc with e | e
    · subst e; decide
    · exact hd _ c e
  · exact hd _
theorem rend_noNl (x : NV) (ps : List UInt8) (ho : ∀ c ∈ ps, c ≠ 64) (h : ∀ c ∈ ps, noNl c = true) : ∀ c ∈ ps.flatMap (rbL x), noNl c = true := by
  intro c hc
  obtain ⟨c', h1, h2⟩ := List.mem_flatMap.1 hc
  cases hf : isFd c' with
  | true => rw [rbL_fd x c' hf (ho c' h1)] at h2; exact itoa_noNl _ c h2
  | false => rw [rbL_lit x c' hf] at h2; have : c = c' := by simpa using h2
             rw [this]; exact h c' h1
theorem ok_no64 : ∀ ps : List UInt8, okF ps = true → ∀ c ∈ ps, c ≠ 64
  | [], _, c, hc => by cases hc
  | c0 :: ps, h, c, hc => by
    unfold okF at h
    rw [Bool.and_eq_true] at h
    rcases List.mem_cons.1 hc with e | e
    · intro e2
      rw [e2] at e
      rw [← e] at h
      exact absurd h.1 (by simp [isFd])
    · exact ok_no64 ps h.2 c e
theorem ite_z {b : Bool} {v : Int} (h : b = false → v = 0) : (if b = true then v else 0) = v := by
  cases b with
  | true => rfl
  | false => rw [h rfl]; rfl
/-- An instruction's line is read as the instruction. -/
theorem ins_back (d : Int) (hd : d = 0 ∨ d = 1) (x : NV) (h : implIns x.op x.d x.a x.b x.imm x.h = true) : rdLine d (lineS d x.op x.d x.a x.b x.imm x.h).data.toList = some (false, x) ∧ ∀ c ∈ (lineS d x.op x.d x.a x.b x.imm x.h).data.toList, noNl c = true := by
  obtain ⟨h1, h2, hD, hA, hB, hH, hI, hJ, z1, z2, z4, z8, z16⟩ := ins_facts h
  obtain ⟨fo, fj, fh, fn, nn⟩ := form_all h1 h2 hd
  obtain ⟨na, nne, nop⟩ := nm_all h1 h2
  rw [← line_same d x.op x.d x.a x.b x.imm x.h h1 h2 hd]
  unfold lineI
  have hl : (rendS (rbI x.d x.a x.b x.imm x.h) (nmS x.op) (ptS d (shpI x.op)).data.toList).data.toList = nmL x.op ++ (ptL d (shpI x.op)).flatMap (rbL x) := rend_list _ _ _
  rw [hl]
  refine ⟨?_, fun c hc => ?_⟩
  rotate_left
  · rcases List.mem_append.1 hc with e | e
    · exact nn c e
    · exact rend_noNl x _ (ok_no64 _ fo) fn c e
  have hfit : fit (ptL d (shpI x.op)) ((ptL d (shpI x.op)).flatMap (rbL x)) { nv0 with op := x.op } = some x := by
    rw [fit_rend x _ _ fo, set_all d x.op x h1 h2 hd]
    · rw [ite_z z1, ite_z z2, ite_z z4, ite_z z8, ite_z z16]
    · intro c hc hf
      unfold fld
      by_cases c1 : c = 65
      · rw [if_pos c1]; omega
      rw [if_neg c1]
      by_cases c2 : c = 66
      · rw [if_pos c2]; omega
      rw [if_neg c2]
      by_cases c3 : c = 68
      · rw [if_pos c3]; omega
      rw [if_neg c3]
      by_cases c4 : c = 72
      · rw [if_pos c4]; omega
      rw [if_neg c4]
      refine ⟨by omega, ?_⟩
      by_cases c5 : c = 73
      · exact .inl c5
      · right
        have c6 : c = 78 := by
          unfold isFd at hf
          simp only [Bool.or_eq_true, beq_iff_eq] at hf
          rcases hf with (((((hf | hf) | hf) | hf) | hf) | hf) | hf
          · exact absurd hf c1
          · exact absurd hf c2
          · exact absurd hf c3
          · exact absurd hf c4
          · exact absurd hf c5
          · exact hf
          · exact absurd hf (ok_no64 _ fo c hc)
        rcases fj with fj | fj
        · exact hJ fj
        · exact absurd (c6 ▸ hc) fj
  have hhead : (nmL x.op ++ (ptL d (shpI x.op)).flatMap (rbL x)).head? ≠ some (lbC d) := by
    rcases hn : nmL x.op with _ | ⟨c, l⟩
    · exact absurd hn nne
    · intro e
      have e1 : c = lbC d := by simpa using e
      have e2 := na c (by rw [hn]; simp)
      rw [e1] at e2
      rcases hd with rfl | rfl <;> exact absurd e2 (by decide)
  have hpre : pre isAz (nmL x.op ++ (ptL d (shpI x.op)).flatMap (rbL x)) = (nmL x.op).length := by
    refine pre_app isAz _ _ na fun c hc => ?_
    rcases hp : ptL d (shpI x.op) with _ | ⟨c0, ps⟩
    · rw [hp] at hc; cases hc
    · rw [hp] at hc
      have e0 := fh c0 (by rw [hp]; rfl)
      subst e0
      rw [List.flatMap_cons, rbL_lit x 32 rfl] at hc
      have : (32 : UInt8) = c := by simpa using hc
      rw [← this]; decide
  have hins : insL d (nmL x.op ++ (ptL d (shpI x.op)).flatMap (rbL x)) = some x := by
    unfold insL
    rw [hpre, List.take_left' rfl, List.drop_left' rfl, nop, if_neg (by omega)]
    exact hfit
  unfold rdLine
  rw [label_head hd hhead]
  simp only
  rw [hins]
  simp only
  rw [if_pos]
  unfold canS
  by_cases hj : jumpB x.op = true
  · rw [if_pos hj]
    unfold implIns at h ⊢
    simp only [Bool.and_eq_true] at h ⊢
    refine ⟨⟨h.1.1, ?_⟩, h.2⟩
    unfold fieldB
    split
    · have e : immLo x.op = 0 ∧ immHi x.op = 1999 := by
        unfold jumpB at hj
        simp only [Bool.and_eq_true, decide_eq_true_eq] at hj
        unfold immLo immHi
        rw [if_pos (by omega), if_neg (by omega), if_pos (by omega)]
        exact ⟨rfl, rfl⟩
      rw [e.1, e.2]; decide
    · rfl
  · rw [if_neg hj]; exact h
/-- A label's line is read as the label. -/
theorem lab_back (d : Int) (hd : d = 0 ∨ d = 1) (n : Int) (h0 : 0 ≤ n) (h1 : n < 1000000000) : rdLine d (labS d n).data.toList = some (true, { nv0 with imm := n }) ∧ ∀ c ∈ (labS d n).data.toList, noNl c = true := by
  have hl : (labS d n).data.toList = (ptL d 64).flatMap (rbL { nv0 with imm := n }) := by
    rw [← lab_same d n hd, rend_list]
    rfl
  have fo : okF (ptL d 64) = true ∧ (ptL d 64).all noNl = true := by rcases hd with rfl | rfl <;> exact ⟨by kernel_rfl, by kernel_rfl⟩
  have fs : setA { nv0 with imm := n } (ptL d 64) nv0 = { nv0 with imm := n } := by rcases hd with rfl | rfl <;> kernel_rfl
  rw [hl]
  refine ⟨?_, rend_noNl _ _ (ok_no64 _ fo.1) (List.all_eq_true.1 fo.2)⟩
  unfold rdLine
  rw [fit_rend _ _ _ fo.1, fs]
  intro c hc hf
  unfold fld
  repeat' split
  all_goals first | exact ⟨by show (0 : Int).natAbs < _; decide, .inr (by show (0 : Int) ≤ 0; decide)⟩ | exact ⟨by show n.natAbs < _; omega, .inr h0⟩

def nvG (F : Nat → Nat → Int) (i : Nat) : NV := ⟨F i 0, F i 1, F i 2, F i 3, F i 4, F i 5⟩
def rowA (len : Nat) (F : Nat → Nat → Int) (i : Nat) : List Row := (if reachB F i len = true then [(true, { nv0 with imm := (i : Int) })] else []) ++ [(false, nvG F i)]
def rowsA (len : Nat) (F : Nat → Nat → Int) : Nat → List Row
  | 0 => []
  | k + 1 => rowsA len F k ++ rowA len F k
theorem cnt_app (a b : List Row) : cntI (a ++ b) = cntI a + cntI b := by simp [cntI]
theorem rowA_cnt (len : Nat) (F : Nat → Nat → Int) (i : Nat) : cntI (rowA len F i) = 1 := by
  unfold rowA; split <;> rfl
theorem rowsA_cnt (len : Nat) (F : Nat → Nat → Int) : ∀ k, cntI (rowsA len F k) = k
  | 0 => rfl
  | k + 1 => by rw [rowsA, cnt_app, rowsA_cnt len F k, rowA_cnt]
theorem rowsA_lab (len : Nat) (F : Nat → Nat → Int) (num : Int) : ∀ k : Nat, labOf (rowsA len F k) num = if 0 ≤ num ∧ num < k ∧ reachB F num.toNat len = true then some num.toNat else none
  | 0 => by
    rw [if_neg (by omega)]; rfl
  | k + 1 => by
    have ih := rowsA_lab len F num k
    unfold labOf at ih ⊢
    have hR : (if 0 ≤ num ∧ num < ((k + 1 : Nat) : Int) ∧ reachB F num.toNat len = true then some num.toNat else none) = match labI (rowsA len F k) 0 num with | some x => some x | none => if reachB F k len = true ∧ (k : Int) = num then some k else none := by
      rw [ih]
      by_cases hc : 0 ≤ num ∧ num < k ∧ reachB F num.toNat len = true
      · have h2 : 0 ≤ num ∧ num < ((k + 1 : Nat) : Int) ∧ reachB F num.toNat len = true := ⟨hc.1, by omega, hc.2.2⟩
        rw [if_pos hc, if_pos h2]
      · rw [if_neg hc]
        by_cases hk : (k : Int) = num
        · subst hk
          by_cases hr : reachB F k len = true
          · have h2 : (0 : Int) ≤ (k : Int) ∧ (k : Int) < ((k + 1 : Nat) : Int) ∧ reachB F (k : Int).toNat len = true := ⟨by omega, by omega, by simpa using hr⟩
            rw [if_pos h2]
            simp [hr]
          · have h2 : ¬ ((0 : Int) ≤ (k : Int) ∧ (k : Int) < ((k + 1 : Nat) : Int) ∧ reachB F (k : Int).toNat len = true) := fun h => hr (by simpa using h.2.2)
            rw [if_neg h2]
            simp [hr]
        · have h2 : ¬ (0 ≤ num ∧ num < ((k + 1 : Nat) : Int) ∧ reachB F num.toNat len = true) := by
            rintro ⟨e1, e2, e3⟩
            exact hc ⟨e1, by omega, e3⟩
          rw [if_neg h2]
          simp [hk]
    rw [hR, rowsA, rowA, ← List.append_assoc, lab_app]
    by_cases hr : reachB F k len = true
    · rw [if_pos hr, lab_app, rowsA_cnt]
      cases labI (rowsA len F k) 0 num with
      | some x => rfl
      | none => by_cases hk : (k : Int) = num <;> simp [hr, hk]
    · rw [if_neg hr, List.append_nil]
      cases labI (rowsA len F k) 0 num with
      | some x => rfl
      | none => simp [hr]
theorem rowsA_mem (len : Nat) (F : Nat → Nat → Int) (r : Row) : ∀ k, r ∈ rowsA len F k → ∃ i, i < k ∧ ((r = (true, { nv0 with imm := (i : Int) }) ∧ reachB F i len = true) ∨ r = (false, nvG F i))
  | 0, h => by cases h
  | k + 1, h => by
    rw [rowsA] at h
    rcases List.mem_append.1 h with h | h
    · obtain ⟨i, hi, h'⟩ := rowsA_mem len F r k h
      exact ⟨i, by omega, h'⟩
    · refine ⟨k, by omega, ?_⟩
      unfold rowA at h
      rcases List.mem_append.1 h with h | h
      · by_cases hr : reachB F k len = true
        · rw [if_pos hr] at h
          exact .inl ⟨by simpa using h, hr⟩
        · rw [if_neg hr] at h; cases h
      · exact .inr (by simpa using h)
/-- The text from a place on. -/
def sfx (d : Int) (len : Nat) (F : Nat → Nat → Int) (k : Nat) : Nat → List UInt8
  | 0 => []
  | j + 1 => lineAt d len F k ++ sfx d len F (k + 1) j
theorem txt_sfx (d : Int) (len : Nat) (F : Nat → Nat → Int) : ∀ (j k : Nat), txt d len F (k + j) = txt d len F k ++ sfx d len F k j
  | 0, k => by simp [sfx]
  | j + 1, k => by
    rw [show k + (j + 1) = (k + 1) + j by omega, txt_sfx d len F j (k + 1), sfx, txt]
    simp
theorem flat_facts {len : Nat} {F : Nat → Nat → Int} (h : flatOK len F = true) : 1 ≤ len ∧ len ≤ 2000 ∧ (∀ i, i < len → implIns (F i 0) (F i 1) (F i 2) (F i 3) (F i 4) (F i 5) = true ∧ (jumpB (F i 0) = true → F i 4 < len)) := by
  unfold flatOK at h
  simp only [Bool.and_eq_true, decide_eq_true_eq, List.all_eq_true, List.mem_range] at h
  refine ⟨h.1.1.1, h.1.1.2, fun i hi => ?_⟩
  have := h.1.2 i hi
  unfold flatAt insOK at this
  rw [Bool.and_eq_true] at this
  refine ⟨this.1, fun hj => ?_⟩
  have h2 := this.2
  rw [hj] at h2
  simp at h2
  exact h2
theorem rdT_rows (d : Int) (hd : d = 0 ∨ d = 1) (len : Nat) (F : Nat → Nat → Int) (h : flatOK len F = true) : ∀ (j k : Nat), k + j = len → rdT d (sfx d len F k j) (rowsA len F k) = (0, rowsA len F len)
  | 0, k, hk => by
    obtain rfl : k = len := by omega
    exact rdT_nil d _
  | j + 1, k, hk => by
    obtain ⟨_, l2, hall⟩ := flat_facts h
    have ih := rdT_rows d hd len F h j (k + 1) (by omega)
    obtain ⟨hi1, hi2⟩ := ins_back d hd (nvG F k) (hall k (by omega)).1
    have hins : ∀ rows, rdT d ((lineS d (F k 0) (F k 1) (F k 2) (F k 3) (F k 4) (F k 5) ++ ⟨#[10]⟩).data.toList ++ sfx d len F (k + 1) j) rows = rdT d (sfx d len F (k + 1) j) (rows ++ [(false, nvG F k)]) := fun rows => by
      have e : (lineS d (F k 0) (F k 1) (F k 2) (F k 3) (F k 4) (F k 5) ++ ⟨#[10]⟩).data.toList ++ sfx d len F (k + 1) j = (lineS d (F k 0) (F k 1) (F k 2) (F k 3) (F k 4) (F k 5)).data.toList ++ 10 :: sfx d len F (k + 1) j := by simp
      have hi3 : ∀ c ∈ (lineS d (F k 0) (F k 1) (F k 2) (F k 3) (F k 4) (F k 5)).data.toList, noNl c = true := hi2
      rw [e, rdT_line d _ _ rows hi3]
      rw [show rdLine d (lineS d (F k 0) (F k 1) (F k 2) (F k 3) (F k 4) (F k 5)).data.toList = some (false, nvG F k) from hi1]
    rw [sfx, lineAt, List.append_assoc]
    rw [rowsA, rowA] at ih
    by_cases hr : reachB F k len = true
    · rw [if_pos hr] at ih ⊢
      obtain ⟨hl1, hl2⟩ := lab_back d hd k (by omega) (by omega)
      have e : (labS d k ++ ⟨#[10]⟩).data.toList ++ ((lineS d (F k 0) (F k 1) (F k 2) (F k 3) (F k 4) (F k 5) ++ ⟨#[10]⟩).data.toList ++ sfx d len F (k + 1) j) = (labS d k).data.toList ++ 10 :: ((lineS d (F k 0) (F k 1) (F k 2) (F k 3) (F k 4) (F k 5) ++ ⟨#[10]⟩).data.toList ++ sfx d len F (k + 1) j) := by simp
      rw [e, rdT_line d _ _ _ hl2, hl1]
      simp only
      rw [rowsA_lab, if_neg (by simp), hins, List.append_assoc]
      exact ih
    · rw [if_neg hr] at ih ⊢
      rw [List.nil_append, hins]
      rw [List.nil_append] at ih
      exact ih
theorem rowsA_prg (len : Nat) (F : Nat → Nat → Int) (rows : List Row) : ∀ k, prgI rows (rowsA len F k) = (List.range k).map fun i => toI rows (nvG F i)
  | 0 => rfl
  | k + 1 => by
    have ih := rowsA_prg len F rows k
    unfold prgI at ih ⊢
    rw [rowsA, List.filter_append, List.map_append, ih, List.range_succ, List.map_append]
    congr 1
    unfold rowA
    split <;> rfl
theorem flatOK_congr {len : Nat} {F G : Nat → Nat → Int} (h : ∀ i j, i < len → j < 6 → F i j = G i j) : flatOK len F = flatOK len G := by
  have e : ∀ i, i < len → flatAt len F i = flatAt len G i := fun i hi => by
    unfold flatAt insOK
    rw [h i 0 hi (by omega), h i 1 hi (by omega), h i 2 hi (by omega), h i 3 hi (by omega), h i 4 hi (by omega), h i 5 hi (by omega)]
  have e2 : (List.range len).all (flatAt len F) = (List.range len).all (flatAt len G) := by
    rw [Bool.eq_iff_iff, List.all_eq_true, List.all_eq_true]
    exact ⟨fun k i hi => (e i (List.mem_range.1 hi)) ▸ k i hi, fun k i hi => (e i (List.mem_range.1 hi)).symm ▸ k i hi⟩
  unfold flatOK
  rw [e2]
  by_cases h1 : 1 ≤ len
  · rw [h (len - 1) 0 (by omega) (by omega)]
  · have : decide (1 ≤ len) = false := by simp; omega
    rw [this]; simp
def prL (len : Nat) (F : Nat → Nat → Int) : List NV := (List.range len).map (nvG F)
theorem prL_len (len : Nat) (F : Nat → Nat → Int) : (prL len F).length = len := by simp [prL]
theorem prL_at (len : Nat) (F : Nat → Nat → Int) (i j : Nat) (hi : i < len) (hj : j < 6) : prF (prL len F) i j = F i j := by
  unfold prF prL
  rw [List.getD_eq_getElem?_getD, List.getElem?_map, List.getElem?_range hi]
  match j, hj with
  | 0, _ => rfl
  | 1, _ => rfl
  | 2, _ => rfl
  | 3, _ => rfl
  | 4, _ => rfl
  | 5, _ => rfl
/-- A valid program comes back from its text. -/
theorem read_back (d : Int) (hd : d = 0 ∨ d = 1) (len : Nat) (F : Nat → Nat → Int) (h : flatOK len F = true) (hl : (prT d len F).length ≤ 100000) : rdA d (prT d len F) = (0, 0, prL len F) := by
  obtain ⟨_, l2, hall⟩ := flat_facts h
  have hin : inB d 0 1 = true := by rcases hd with rfl | rfl <;> rfl
  have ht : prT d len F = sfx d len F 0 len := by
    unfold prT
    rw [h, hin, if_pos (show (true && true) = true from rfl)]
    have := txt_sfx d len F len 0
    rw [Nat.zero_add] at this
    rw [this]; rfl
  have h1 : rdT d (prT d len F) [] = (0, rowsA len F len) := by
    rw [ht]; exact rdT_rows d hd len F h len 0 (by omega)
  have hlab : ∀ i, i < len → jumpB (F i 0) = true → labOf (rowsA len F len) (F i 4) = some (F i 4).toNat ∧ 0 ≤ F i 4 ∧ F i 4 < len := fun i hi hj => by
    have h2 := (hall i hi).2 hj
    have h3 := (ins_facts (x := nvG F i) (hall i hi).1).2.2.2.2.2.2.2.1 hj
    have h3' : 0 ≤ F i 4 := h3
    refine ⟨?_, h3', h2⟩
    rw [rowsA_lab, if_pos]
    refine ⟨h3', h2, ?_⟩
    unfold reachB
    rw [List.any_eq_true]
    refine ⟨i, List.mem_range.2 hi, ?_⟩
    rw [hj]
    simp; omega
  have h2 : lostI (rowsA len F len) = 0 := by
    refine lost_none fun j hj => ?_
    have hm : (rowsA len F len).getD j (false, nv0) ∈ rowsA len F len := by
      rw [List.getD_eq_getElem?_getD, List.getElem?_eq_getElem hj]; exact List.getElem_mem hj
    obtain ⟨i, hi, ⟨hr, hre⟩ | hr⟩ := rowsA_mem len F _ len hm
    · rw [hr]
      unfold lostR
      simp only [Bool.true_or, Bool.true_and]
      rw [rowsA_lab, if_pos ⟨by omega, by omega, by simpa using hre⟩, rowsA_cnt]
      simp; omega
    · rw [hr]
      unfold lostR
      simp only [Bool.false_or]
      by_cases hj : jumpB (F i 0) = true
      · obtain ⟨e1, e2, e3⟩ := hlab i hi hj
        have : (nvG F i).imm = F i 4 := rfl
        rw [this, e1, rowsA_cnt]
        simp; omega
      · have : jumpB (nvG F i).op = false := by show jumpB (F i 0) = false; simpa using hj
        rw [this]; rfl
  have h3 : prgI (rowsA len F len) (rowsA len F len) = prL len F := by
    rw [rowsA_prg]
    refine List.map_congr_left fun i hi => ?_
    have hi' := List.mem_range.1 hi
    unfold toI
    split
    · rename_i hj
      obtain ⟨e1, e2, e3⟩ := hlab i hi' hj
      have e4 : (nvG F i).imm = F i 4 := rfl
      rw [e4, e1]
      show (⟨F i 0, F i 1, F i 2, F i 3, _, F i 5⟩ : NV) = _
      have : (((some (F i 4).toNat).getD 0 : Nat) : Int) = F i 4 := by simp; omega
      rw [this]; rfl
    · rfl
  have h4 : flatOK (prgI (rowsA len F len) (rowsA len F len)).length (prF (prgI (rowsA len F len) (rowsA len F len))) = true := by
    rw [h3, prL_len, flatOK_congr fun i j hi hj => prL_at len F i j hi hj]
    exact h
  have := rdA_flat (by omega) hin h1 h2 h4
  rw [this, if_pos rfl, h3]
end Go.Proofs.YtdbhgaegblclaaaDoor
/- lwProg; FnText's walk. -/
namespace Go.Proofs.YtdbhgaegblclaaaDoor
open Go.RowKit

set_option maxHeartbeats 4000000 in
theorem lwProg_same (b off len cap b' off' cap' : Nat) (F : Nat → Nat → Int) (w : World) (hlen : len ≤ 1048576) (hat : At w b off (len * 6) (insF F)) (hat' : At w b' off' (len * 6) (insF F)) :
    Calls Tryd.prog 13 #[.slice (some ⟨b, off, none⟩) len cap, .slice (some ⟨b', off', none⟩) len cap'] w fun e w' => e = .returned (.bool true) ∧ Below w.heap.size w w' := by
  have hb := hat.lt
  have hb' := hat'.lt
  have HA : Hid (At w b off (len * 6) (insF F)) := hat
  have HA' : Hid (At w b' off' (len * 6) (insF F)) := hat'
  clear hat hat'
  go_enter Tryd.func13, Tryd.ntmps13
  go_wp2
  go_loopw [5] (fun i wr => ∃ k : Nat, k ≤ len ∧ i = .int .i64 k ∧ Below w.heap.size w wr) (fun i _ => len - (intOf i).toNat)
  case atStart => exact ⟨0, Nat.zero_le _, rfl, Below.refl _ _⟩
  case round =>
    obtain ⟨k, hk, rfl, hbr⟩ := hrel
    have HBR : Hid (Below w.heap.size w wr) := hbr
    by_cases hlt : k < len
    · have g0 := (hbr.cell (p := ⟨b, off + k * 6, none⟩) hb).trans ((HA.out.cell (i := k * 6 + 0) (by omega)).trans (congrArg some (insF_at F k 0 (by omega))))
      have g1 := (hbr.cell (p := ⟨b, off + k * 6 + 1, none⟩) hb).trans ((HA.out.cell (i := k * 6 + 1) (by omega)).trans (congrArg some (insF_at F k 1 (by omega))))
      have g2 := (hbr.cell (p := ⟨b, off + k * 6 + 2, none⟩) hb).trans ((HA.out.cell (i := k * 6 + 2) (by omega)).trans (congrArg some (insF_at F k 2 (by omega))))
      have g3 := (hbr.cell (p := ⟨b, off + k * 6 + 3, none⟩) hb).trans ((HA.out.cell (i := k * 6 + 3) (by omega)).trans (congrArg some (insF_at F k 3 (by omega))))
      have g4 := (hbr.cell (p := ⟨b, off + k * 6 + 4, none⟩) hb).trans ((HA.out.cell (i := k * 6 + 4) (by omega)).trans (congrArg some (insF_at F k 4 (by omega))))
      have g5 := (hbr.cell (p := ⟨b, off + k * 6 + 5, none⟩) hb).trans ((HA.out.cell (i := k * 6 + 5) (by omega)).trans (congrArg some (insF_at F k 5 (by omega))))
      have q0 := (hbr.cell (p := ⟨b', off' + k * 6, none⟩) hb').trans ((HA'.out.cell (i := k * 6 + 0) (by omega)).trans (congrArg some (insF_at F k 0 (by omega))))
      have q1 := (hbr.cell (p := ⟨b', off' + k * 6 + 1, none⟩) hb').trans ((HA'.out.cell (i := k * 6 + 1) (by omega)).trans (congrArg some (insF_at F k 1 (by omega))))
      have q2 := (hbr.cell (p := ⟨b', off' + k * 6 + 2, none⟩) hb').trans ((HA'.out.cell (i := k * 6 + 2) (by omega)).trans (congrArg some (insF_at F k 2 (by omega))))
      have q3 := (hbr.cell (p := ⟨b', off' + k * 6 + 3, none⟩) hb').trans ((HA'.out.cell (i := k * 6 + 3) (by omega)).trans (congrArg some (insF_at F k 3 (by omega))))
      have q4 := (hbr.cell (p := ⟨b', off' + k * 6 + 4, none⟩) hb').trans ((HA'.out.cell (i := k * 6 + 4) (by omega)).trans (congrArg some (insF_at F k 4 (by omega))))
      have q5 := (hbr.cell (p := ⟨b', off' + k * 6 + 5, none⟩) hb').trans ((HA'.out.cell (i := k * 6 + 5) (by omega)).trans (congrArg some (insF_at F k 5 (by omega))))
      have hlt' : (k : Int) < (len : Int) := by omega
      go_wp2_with fail
      go_quiet (fail)
      clear g0 g1 g2 g3 g4 g5 q0 q1 q2 q3 q4 q5
      go_wp2
      trace_state
      go_roundw
      case rel => exact ⟨k + 1, by omega, by go_num, HBR.out.trans (below_drewN (Below.refl _ _) _)⟩
      case measure => simp [intOf]; omega
    · go_wp2
      go_ret
      exact ⟨rfl, hbr⟩
set_option maxHeartbeats 400000 in
theorem lwProg_nil (ao ao' : Option Addr) (cap cap' : Nat) (w : World) :
    Calls Tryd.prog 13 #[.slice ao 0 cap, .slice ao' 0 cap'] w fun e w' => e = .returned (.bool true) ∧ Below w.heap.size w w' := by
  go_enter Tryd.func13, Tryd.ntmps13
  go_wp2
  refine wp_loop_rounds 1 ?_
  rw [rounds_succ]
  go_wp2
  go_ret
  exact ⟨rfl, Below.refl _ _⟩
end Go.Proofs.YtdbhgaegblclaaaDoor
/- FnText: the walk. -/
namespace Go.Proofs.YtdbhgaegblclaaaDoor
open Go.RowKit

theorem txt_ne (d : Int) (len : Nat) (F : Nat → Nat → Int) : ∀ k, 1 ≤ k → txt d len F k ≠ []
  | 0, h => by omega
  | k + 1, _ => by
    rw [txt, lineAt]
    intro e
    have := congrArg List.length e
    simp at this
theorem prT_ne {d : Int} {len : Nat} {F : Nat → Nat → Int} (hd : d = 0 ∨ d = 1) (h : flatOK len F = true) : prT d len F ≠ [] := by
  have hin : inB d 0 1 = true := by rcases hd with rfl | rfl <;> rfl
  unfold prT
  rw [h, hin, if_pos (show (true && true) = true from rfl)]
  exact txt_ne d len F len (flat_facts h).1
theorem prT_no {d : Int} {len : Nat} {F : Nat → Nat → Int} (h : flatOK len F = false) : prT d len F = [] := by
  unfold prT
  rw [h]
  rfl
/-- A row of bytes that is not empty: where it lies, and that it can be read. -/
theorem row_by {w : World} {base e n : Nat} {v : Value} {l : List UInt8} (h : w.ownsRow base e 1 v n (Lib.byteCells l)) (hl : l ≠ []) : ∃ g cap, v = .slice (some ⟨g, 0, none⟩) l.length cap ∧ l.length ≤ cap ∧ At w g 0 l.length (numF .u8 (bF l)) ∧ n = l.length := by
  obtain ⟨hn, ao, cap, hv, hw, _⟩ := row_wr h
  have h0 : l.length ≠ 0 := fun e => hl (List.length_eq_zero_iff.1 e)
  rcases hw with e | ⟨b, hb, ha⟩
  · exact absurd e h0
  · subst hb
    refine ⟨b, cap, hv, ?_, ha.at, hn⟩
    rcases h.2 with ⟨h', _⟩ | ⟨g', cap', cur, h', _, _, hc, _⟩
    · rw [hv] at h'; simp at h'
    · rw [hv] at h'
      simp only [Value.slice.injEq] at h'
      omega

set_option maxRecDepth 20000 in
set_option maxHeartbeats 8000000 in
theorem lawText_walk (ao : Option Addr) (n cap : Nat) (w : World) (hn : n ≤ 1048576) (hr : Bytes0 w w.heap.size ao n)
    (ht1 : Lib.TabIs Tryd.prog w "internal/strconv.uint64pow10" .u64 Lib.pow10Tab) (ht2 : Lib.TabIs Tryd.prog w "strings.asciiSpace" .u8 Lib.asciiSpaceTab) :
    Calls Tryd.prog 3 #[.slice ao n cap] w fun e w' => e = .returned (.bool true) ∧ Below w.heap.size w w' := by
  have HR : Hid (Bytes0 w w.heap.size ao n) := hr
  have T1 : Hid (Lib.TabBelow Tryd.prog w.heap.size w "internal/strconv.uint64pow10" .u64 Lib.pow10Tab) := Lib.tabBelow_of_tabIs ht1
  have T2 : Hid (Lib.TabBelow Tryd.prog w.heap.size w "strings.asciiSpace" .u8 Lib.asciiSpaceTab) := Lib.tabBelow_of_tabIs ht2
  clear hr ht1 ht2
  have hn' : (n : Int) ≤ 1048576 := by omega
  go_enter Tryd.func3, Tryd.ntmps3
  go_wp2_with fail
  refine (drawPrint_any ao n cap w hn HR.out).mono ?_
  rintro e w2 ⟨g, gc, ys, dd, rfl, hy, ho, hb2⟩
  have B2 : Hid (Below w.heap.size w w2) := hb2
  have A2 : Hid (At w2 g 0 (ys.length * 6) (insF (icF ys))) := row_at ho
  obtain ⟨len, hlen⟩ : ∃ l, ys.length = l := ⟨_, rfl⟩
  obtain ⟨F, hF⟩ : ∃ F, icF ys = F := ⟨_, rfl⟩
  rw [hlen] at A2 hy ⊢
  rw [hF] at A2
  clear hb2 ho hlen hF HR
  obtain ⟨fo, hfo⟩ : ∃ b, flatOK len F = b := ⟨_, rfl⟩
  have HFO : Hid (flatOK len F = fo) := hfo
  have hlen : len ≤ 1048576 := by omega
  clear hfo
  go_wp2_with fail
  go_loopw [5] (fun dv wr => ∃ d : Int, 0 ≤ d ∧ d ≤ 2 ∧ dv = .int .i64 d ∧ Below w2.heap.size w2 wr) (fun dv _ => (2 - intOf dv).toNat)
  case atStart => exact ⟨0, by omega, by omega, rfl, Below.refl _ _⟩
  case round =>
    obtain ⟨d, d0, d2, hdv, hbr⟩ := hrel
    subst hdv
    have AR : Hid (At wr g 0 (len * 6) (insF F)) := A2.out.below hbr A2.out.lt
    have BR : Hid (Below w2.heap.size w2 wr) := hbr
    have BW : Hid (Below w.heap.size w wr) := B2.out.trans (hbr.mono B2.out.size)
    clear hbr
    by_cases hd : d < 2
    rotate_left
    · go_wp2_with fail
      go_ret
      exact ⟨rfl, BW.out⟩
    have HD : Hid (d = 0 ∨ d = 1) := (by omega : d = 0 ∨ d = 1)
    go_wp2_with fail
    refine (implPrint_any _ _ _ _ F d _ hlen AR.out (T1.out _ BW.out) (T2.out _ BW.out)).mono ?_
    rintro e w4 ⟨vg, ng, rfl, ho4, hng, hb4⟩
    obtain ⟨t, ht⟩ : ∃ t, prT d len F = t := ⟨_, rfl⟩
    have HT : Hid (prT d len F = t) := ht
    rw [ht] at ho4
    obtain ⟨hnl, aog, cg, hvg, hg4, _⟩ := row_wr ho4
    subst hvg
    have hl : (t.length : Int) ≤ 1099511627776 := by omega
    have A4 : Hid (At w4 g 0 (len * 6) (insF F)) := AR.out.below hb4 AR.out.lt
    have B4 : Hid (Below w2.heap.size w2 w4) := BR.out.trans (hb4.mono BR.out.size)
    have W4 : Hid (Below w.heap.size w w4) := BW.out.trans (hb4.mono BW.out.size)
    have O4 : Hid (w4.ownsRow wr.heap.size 5 1 (.slice aog t.length cg) ng (Lib.byteCells t)) := ho4
    clear ho4 hb4 hg4 ht AR BR BW hnl hng
    go_wp2_with fail
    refine (specFlat_any _ _ _ _ F _ hlen A4.out).mono ?_
    rintro e w5 ⟨rfl, hb5⟩
    rw [HFO.out]
    have A5 : Hid (At w5 g 0 (len * 6) (insF F)) := A4.out.below hb5 A4.out.lt
    have B5 : Hid (Below w2.heap.size w2 w5) := B4.out.trans (hb5.mono B4.out.size)
    have W5 : Hid (Below w.heap.size w w5) := W4.out.trans (hb5.mono W4.out.size)
    have O5 : Hid (w5.ownsRow wr.heap.size 5 1 (.slice aog t.length cg) ng (Lib.byteCells t)) := row_belowB O4.out hb5
    clear hb5 A4 B4 W4 O4
    cases fo with
    | false =>
      have ht0 : t.length = 0 := by rw [← HT.out, prT_no HFO.out]; rfl
      rw [ht0]
      clear ht0
      go_wp2_with fail
      refine (implFlat_any _ _ _ _ F _ hlen A5.out).mono ?_
      rintro e w6 ⟨rfl, hb6⟩
      rw [HFO.out]
      have B6 : Hid (Below w2.heap.size w2 w6) := B5.out.trans (hb6.mono B5.out.size)
      clear hb6
      go_wp2_with fail
      go_roundw
      case rel => exact ⟨d + 1, by omega, by omega, by go_num, B6.out⟩
      case measure => simp [intOf]; omega
    | true =>
      go_wp2_with fail
      refine (specPrint_any _ _ _ _ F d _ hlen A5.out).mono ?_
      rintro e w6 ⟨vs, ns, rfl, ho6, hb6⟩
      rw [HT.out] at ho6
      obtain ⟨_, aos, cs, hvs, _, _⟩ := row_wr ho6
      subst hvs
      have A6 : Hid (At w6 g 0 (len * 6) (insF F)) := A5.out.below hb6 A5.out.lt
      have B6 : Hid (Below w2.heap.size w2 w6) := B5.out.trans (hb6.mono B5.out.size)
      have W6 : Hid (Below w.heap.size w w6) := W5.out.trans (hb6.mono W5.out.size)
      have O6 : Hid (w6.ownsRow wr.heap.size 5 1 (.slice aog t.length cg) ng (Lib.byteCells t)) := row_belowB O5.out hb6
      clear hb6 ho6 A5 B5 W5 O5
      by_cases hlt : (t.length : Int) ≤ 100000
      rotate_left
      · go_wp2_with fail
        go_roundw
        case rel => exact ⟨d + 1, by omega, by omega, by go_num, B6.out⟩
        case measure => simp [intOf]; omega
      have hne : t ≠ [] := by rw [← HT.out]; exact prT_ne HD.out HFO.out
      obtain ⟨gb, cb, hvb, hcb, hab, _⟩ := row_by O6.out hne
      simp only [Value.slice.injEq] at hvb
      obtain ⟨rfl, _, rfl⟩ := hvb
      have HAB : Hid (At w6 gb 0 t.length (numF .u8 (bF t))) := hab
      have HRB : Hid (rdA d t = (0, 0, prL len F)) := (by
        have := read_back d HD.out len F HFO.out (by rw [HT.out]; omega)
        rw [HT.out] at this
        exact this : rdA d t = (0, 0, prL len F))
      clear hab hne
      go_wp2_with fail
      refine (implRead_any readLine_any _ _ _ t d _ (by omega) hcb HAB.out (T2.out _ W6.out)).mono ?_
      rintro e w7 ⟨hr7, hb7⟩
      rw [HRB.out] at hr7
      obtain ⟨rv, rfl, ho7⟩ := hr7
      simp only at ho7
      rw [prL_len] at ho7
      obtain ⟨gr, cr, rfl⟩ := row_some2 ho7 (by have := (flat_facts HFO.out).1; omega)
      have R7 : Hid (At w7 gr 0 (len * 6) (insF F)) := ⟨(ho7.lt gr rfl).2, fun i hi => by
        rw [Nat.zero_add, ho7.cellAt i hi, ci_get _ i (by rw [prL_len]; exact hi)]
        unfold insF
        rw [prL_at len F (i / 6) (i % 6) (by omega) (by omega)]⟩
      have A7 : Hid (At w7 g 0 (len * 6) (insF F)) := A6.out.below hb7 A6.out.lt
      have B7 : Hid (Below w2.heap.size w2 w7) := B6.out.trans (hb7.mono B6.out.size)
      clear ho7 hb7 A6 B6 W6 O6 HAB HRB HT T1 T2
      simp only
      go_upto_region 13 with fail
      obtain ⟨u7, hu, bu, pu⟩ : ∃ v, w7.alloc (.cells #[.int .i64 0, .int .i64 0, .slice (some ⟨gr, 0, none⟩) len cr] 29) = v ∧ Below w7.heap.size w7 v ∧ v.heap[w7.heap.size]? = some (.cells #[.int .i64 0, .int .i64 0, .slice (some ⟨gr, 0, none⟩) len cr] 29) := ⟨_, rfl, (Below.refl _ _).alloc (Nat.le_refl _) _, heap_alloc_newB _ _⟩
      rw [hu]
      clear hu
      have RU : Hid (At u7 gr 0 (len * 6) (insF F)) := R7.out.below bu R7.out.lt
      have AU : Hid (At u7 g 0 (len * 6) (insF F)) := A7.out.below bu A7.out.lt
      have BU : Hid (Below w2.heap.size w2 u7) := B7.out.trans (bu.mono B7.out.size)
      have r0 := hp_cell pu 0
      have r1 := hp_cell pu 1
      have r2 := hp_cell pu 2
      simp only [List.getElem?_toArray, List.getElem?_cons_zero, List.getElem?_cons_succ] at r0 r1 r2
      obtain ⟨pr, hpr⟩ : ∃ p, w7.heap.size = p := ⟨_, rfl⟩
      rw [hpr] at r0 r1 r2 ⊢
      clear bu pu hpr R7 A7 B7
      go_wp2_with fail
      refine (lwProg_same _ _ _ _ _ _ _ F _ hlen RU.out AU.out).mono ?_
      rintro e w8 ⟨rfl, hb8⟩
      have B8 : Hid (Below w2.heap.size w2 w8) := BU.out.trans (hb8.mono BU.out.size)
      clear hb8 r0 r1 r2
      go_wp2_with fail
      go_roundw
      case rel => exact ⟨d + 1, by omega, by omega, by go_num, B8.out⟩
      case measure => simp [intOf]; omega
end Go.Proofs.YtdbhgaegblclaaaDoor
/- Bytes that are cut and joined while a text is drawn. -/
namespace Go.Proofs.YtdbhgaegblclaaaDoor
open Go.RowKit

theorem itoa_len (x : Int) (h : x.natAbs < 10000000) : (Lib.itoa x).length ≤ 8 := by
  unfold Lib.itoa
  split
  · have := dec_len 6 x.natAbs (by omega)
    simp; omega
  · have := dec_len 6 x.toNat (by omega)
    omega
theorem digS_len (x : Int) (h : x.natAbs < 10000000) : (digS x).size ≤ 8 := by
  have := itoa_len x h
  simpa [digS, ByteArray.size] using this
theorem line_len (d : Int) (x : NV) (h : implIns x.op x.d x.a x.b x.imm x.h = true) : (lineS d x.op x.d x.a x.b x.imm x.h).size ≤ 260 := by
  obtain ⟨h1, h2, hD, hA, hB, hH, hI, _⟩ := ins_facts h
  have hf : ∀ c, (rbS x.d x.a x.b x.imm x.h c).size ≤ 8 := fun c => by
    unfold rbS
    repeat' apply ite_size
    · exact digS_len _ (by omega)
    · exact digS_len _ (by omega)
    · exact digS_len _ (by omega)
    · exact digS_len _ (by omega)
    · exact digS_len _ (by omega)
    · exact digS_len _ (by omega)
    · show 1 ≤ 8; omega
  have h3 := rend_size (rbS x.d x.a x.b x.imm x.h) 8 hf (shpS d x.op).data.toList (begS d x.op)
  have h4 := shpS_size d x.op
  have h5 := nmS_size x.op
  have h6 : (begS d x.op).size ≤ 11 := by
    unfold begS
    apply ite_size
    · omega
    · simp only [ByteArray.size_append]
      show (nmS x.op).size + 1 ≤ 11
      omega
  have h7 : (shpS d x.op).data.toList.length = (shpS d x.op).size := rfl
  unfold lineS
  omega
theorem lab_len (d n : Int) (h : n.natAbs < 10000000) : (labS d n).size ≤ 11 := by
  have := digS_len n h
  unfold labS
  simp only [ByteArray.size_append]
  have h1 : (if d = 0 then (⟨#[46, 76]⟩ : ByteArray) else ⟨#[76]⟩).size ≤ 2 := by split <;> decide
  have h2 : (⟨#[58]⟩ : ByteArray).size = 1 := rfl
  omega
theorem txt_len (d : Int) {len : Nat} {F : Nat → Nat → Int} (h : flatOK len F = true) : ∀ k, k ≤ len → (txt d len F k).length ≤ k * 300
  | 0, _ => by simp [txt]
  | k + 1, hk => by
    obtain ⟨_, l2, hall⟩ := flat_facts h
    have ih := txt_len d h k (by omega)
    have h1 := line_len d (nvG F k) (hall k (by omega)).1
    have h1' : (lineS d (F k 0) (F k 1) (F k 2) (F k 3) (F k 4) (F k 5)).size ≤ 260 := h1
    have h2 := lab_len d k (by omega)
    have e : ∀ s : ByteArray, (s ++ ⟨#[10]⟩).data.toList.length = s.size + 1 := fun s => by
      show (s ++ ⟨#[10]⟩).size = _
      rw [ByteArray.size_append]; rfl
    rw [txt, lineAt, List.length_append, List.length_append, e]
    have h3 : (if reachB F k len = true then (labS d k ++ ⟨#[10]⟩).data.toList else []).length ≤ 12 := by
      split
      · rw [e]; omega
      · simp
    omega
theorem prT_len (d : Int) (len : Nat) (F : Nat → Nat → Int) : (prT d len F).length ≤ len * 300 := by
  unfold prT
  split
  · rename_i h
    rw [Bool.and_eq_true] at h
    exact txt_len d h.1 len (Nat.le_refl _)
  · simp
/-- Bytes that can be read. -/
structure ByR (w : World) (B g o cap : Nat) (t : List UInt8) : Prop where
  lt : B ≤ g
  A : At w g o t.length (numF .u8 (bF t))
  le : t.length ≤ cap
/-- Bytes that can be appended to. -/
structure ByS (w : World) (B g o cap : Nat) (t : List UInt8) : Prop where
  R : ByR w B g o cap t
  sp : ∀ j, t.length ≤ j → j < cap → (w.cell? ⟨g, o + j, none⟩).isSome = true ∧ w.frozen? ⟨g, o + j, none⟩ = false
theorem ByR.below {w w' : World} {B C g o cap : Nat} {t : List UInt8} (h : ByR w B g o cap t) (hb : Below C w w') (hg : g < C) : ByR w' B g o cap t := ⟨h.lt, h.A.below hb hg, h.le⟩
theorem ByR.fw {p : Nat} {w w' : World} {B g o cap : Nat} {t : List UInt8} (h : ByR w B g o cap t) (f : Fw p w w') (hp : p < B) : ByR w' B g o cap t :=
  ⟨h.lt, ⟨Nat.lt_of_lt_of_le h.A.lt f.size, fun i hi => (f.cell h.A.lt (by have := h.lt; omega)).trans (h.A.cell hi)⟩, h.le⟩
theorem ByS.fw {p : Nat} {w w' : World} {B g o cap : Nat} {t : List UInt8} (h : ByS w B g o cap t) (f : Fw p w w') (hp : p < B) : ByS w' B g o cap t :=
  ⟨h.R.fw f hp, fun j h1 h2 => by
    have hg := h.R.A.lt
    have hne : g ≠ p := by have := h.R.lt; omega
    rw [f.cell hg hne, f.frozen hg hne]
    exact h.sp j h1 h2⟩
theorem ByS.below {w w' : World} {B C g o cap : Nat} {t : List UInt8} (h : ByS w B g o cap t) (hb : Below C w w') (hg : g < C) : ByS w' B g o cap t :=
  ⟨h.R.below hb hg, fun j h1 h2 => by rw [hb.cell (p := ⟨g, o + j, none⟩) hg, hb.frozen (p := ⟨g, o + j, none⟩) hg]; exact h.sp j h1 h2⟩
theorem ByR.mono {w : World} {B C g o cap : Nat} {t : List UInt8} (h : ByR w B g o cap t) (hc : C ≤ B) : ByR w C g o cap t := ⟨Nat.le_trans hc h.lt, h.A, h.le⟩
theorem ByS.mono {w : World} {B C g o cap : Nat} {t : List UInt8} (h : ByS w B g o cap t) (hc : C ≤ B) : ByS w C g o cap t := ⟨h.R.mono hc, h.sp⟩
theorem bF_drop (t : List UInt8) (k i : Nat) : bF (t.drop k) i = bF t (k + i) := by simp [bF, List.getD_eq_getElem?_getD, List.getElem?_drop]
theorem bF_take (t : List UInt8) (k i : Nat) (h : i < k) : bF (t.take k) i = bF t i := by simp [bF, List.getD_eq_getElem?_getD, h]
theorem ByR.drop {w : World} {B g o cap : Nat} {t : List UInt8} (h : ByR w B g o cap t) (k : Nat) (hk : k ≤ t.length) : ByR w B g (o + k) (cap - k) (t.drop k) :=
  ⟨h.lt, ⟨h.A.lt, fun i hi => by
    rw [List.length_drop] at hi
    have := h.A.cell (i := k + i) (by omega)
    rw [← Nat.add_assoc] at this
    rw [this]
    show some (Value.int .u8 (bF t (k + i))) = some (Value.int .u8 (bF (t.drop k) i))
    rw [bF_drop]⟩, by rw [List.length_drop]; have := h.le; omega⟩
theorem ByR.take {w : World} {B g o cap : Nat} {t : List UInt8} (h : ByR w B g o cap t) (k : Nat) (hk : k ≤ t.length) : ByR w B g o cap (t.take k) :=
  ⟨h.lt, ⟨h.A.lt, fun i hi => by
    rw [List.length_take] at hi
    have := h.A.cell (i := i) (by omega)
    rw [this]
    show some (Value.int .u8 (bF t i)) = some (Value.int .u8 (bF (t.take k) i))
    rw [bF_take t k i (by omega)]⟩, by rw [List.length_take]; have := h.le; omega⟩
theorem ByR.nil {w : World} {B g o cap : Nat} (h : g < w.heap.size) (hB : B ≤ g) : ByR w B g o cap [] := ⟨hB, ⟨h, fun i hi => by simp at hi⟩, Nat.zero_le _⟩
theorem ByR.cells {w : World} {B g o cap : Nat} {t : List UInt8} (h : ByR w B g o cap t) : ∀ j u, (Lib.byteCells t)[j]? = some u → w.cell? ⟨g, o + j, none⟩ = some u := fun j u hu => by
  have hj : j < t.length := by
    have := (List.getElem?_eq_some_iff.1 hu).1
    simpa [Lib.byteCells] using this
  rw [h.A.cell hj, ← bc_at t j hj, hu]
theorem bcl (t : List UInt8) : (Lib.byteCells t).length = t.length * 1 := by simp [Lib.byteCells]
theorem bc_one (t : List UInt8) : ∀ u ∈ Lib.byteCells t, u.oneCell' = true := by
  intro u hu
  simp only [Lib.byteCells, List.mem_map] at hu
  obtain ⟨b, _, rfl⟩ := hu
  rfl
theorem bc_app (a b : List UInt8) : Lib.byteCells (a ++ b) = Lib.byteCells a ++ Lib.byteCells b := by simp [Lib.byteCells]
/-- A row of the call's own can be appended to. -/
theorem ByS.of_row {w : World} {B e g cap : Nat} {t : List UInt8} (h : w.ownsRow B e 1 (.slice (some ⟨g, 0, none⟩) t.length cap) t.length (Lib.byteCells t)) : ByS w B g 0 cap t := by
  rcases h.2 with ⟨h', _⟩ | ⟨g', cap', cur, h', h1, h2, h3, h4, h5, h6⟩
  · simp at h'
  · simp only [Value.slice.injEq, Option.some.injEq, Addr.mk.injEq, and_true, true_and] at h'
    obtain ⟨rfl, rfl⟩ := h'
    refine ⟨⟨h1, ⟨(h.lt g rfl).2, fun i hi => ?_⟩, h3⟩, fun j _ hj => ⟨?_, ?_⟩⟩
    · rw [Nat.zero_add, h.cellAt i (by omega), bc_at t i hi]
    · rw [Nat.zero_add, hp_cell h2 j]
      have : j < cur.size := by omega
      simp [this]
    · rw [Nat.zero_add]; exact hp_free h2 j
theorem row_nz {w : World} {B e n : Nat} {v : Value} {t : List UInt8} (h : w.ownsRow B e 1 v n (Lib.byteCells t)) (ht : t ≠ []) : ∃ g cap, v = .slice (some ⟨g, 0, none⟩) t.length cap ∧ ByS w B g 0 cap t := by
  obtain ⟨g, cap, hv, _, _, hn⟩ := row_by h ht
  subst hv hn
  exact ⟨g, cap, rfl, ByS.of_row h⟩

theorem bF_left (a b : List UInt8) (i : Nat) (h : i < a.length) : bF (a ++ b) i = bF a i := by simp [bF, List.getD_eq_getElem?_getD, List.getElem?_append_left h]
theorem bF_right (a b : List UInt8) (i : Nat) (h : a.length ≤ i) : bF (a ++ b) i = bF b (i - a.length) := by simp [bF, List.getD_eq_getElem?_getD, List.getElem?_append_right h]
/-- Bytes are appended to bytes. -/
theorem wpList_append_by {P : Program} (w : World) {ops : Array Oper} {rest : List Oper} {o : Oper} {a : Act} {Q : Exit → Act → World → Prop}
    (hg : o.guard = none) (s x : Operand) (t : TypeId) (hop : o.op = Op.call { callee := Callee.builtin Builtin.append, args := #[s, x], argTypes := #[t, t] })
    (e : TypeId) (i : TypeInfo) (z : Value) (h1 : P.underlying t = some (.slice e)) (h2 : P.info? e = some i) (h3 : i.zero = some z) (h4 : i.size = 1) (h5 : i.bytes = 1) (h6 : z.cells.size = 1)
    (B b off cap nl : Nat) (l : List UInt8) (hs : a.eval s = .slice (some ⟨b, off, none⟩) nl cap) (hnl : l.length = nl) (hl : ByS w B b off cap l) (hB : B ≤ w.heap.size)
    (C b' off' c nl' : Nat) (l' : List UInt8) (hx : a.eval x = .slice (some ⟨b', off', none⟩) nl' c) (hnl' : l'.length = nl') (hl' : ByR w C b' off' c l') (hz : nl + nl' ≤ 1000000)
    (hK : ∀ g' o' c' w', ByS w' B g' o' c' (l ++ l') → Below B w w' → wpList P ops Q rest (a.put o.dst (.slice (some ⟨g', o', none⟩) (nl + nl') c')) w') :
    wpList P ops Q (o :: rest) a w := by
  subst hnl hnl'
  have hlen : (l ++ l').length = l.length + l'.length := List.length_append
  refine wpList_append_arg w hg s x t hop e i z 1 1 h1 h2 h3 h4 h5 h6 (by omega) b off l.length cap (Lib.byteCells l) hs (bcl l) hl.R.cells ⟨b', off', none⟩ l'.length c (Lib.byteCells l') hx (bcl l')
    (fun j u hu => by
      have e2 : (⟨b', off', none⟩ : Addr).add j = ⟨b', off' + j, none⟩ := by unfold Addr.add; split <;> simp_all
      rw [e2]; exact hl'.cells j u hu) (bc_one l') (fun hr j hj => ?_) (by unfold maxLen; omega) (by omega) (fun hr => ?_) (fun hr v' w' ho hgb => ?_)
  · rw [bcl] at hj
    rw [Nat.mul_one, Nat.add_assoc]
    exact hl.sp (l.length + j) (by omega) (by omega)
  · refine hK b off cap _ ?_ (below_setCells hl.R.lt _ _ (Below.refl _ _))
    have hin : ∀ j, j < l'.length → (w.setCells b (off + l.length * 1) (Lib.byteCells l')).cell? ⟨b, off + l.length * 1 + j, none⟩ = (Lib.byteCells l')[j]? := fun j hj => by
      have hj' : j < (Lib.byteCells l').length := by rw [bcl]; omega
      rw [World.cell?_setCells_in b (Lib.byteCells l') (off + l.length * 1) w (fun k hk => by
        rw [bcl] at hk
        have := (hl.sp (l.length + k) (by omega) (by omega)).1
        rw [← Nat.add_assoc] at this
        rw [Nat.mul_one]
        exact this) j hj']
      rw [List.getElem?_eq_getElem hj']
    have hout : ∀ j, j < l.length ∨ l.length + l'.length ≤ j → (w.setCells b (off + l.length * 1) (Lib.byteCells l')).cell? ⟨b, off + j, none⟩ = w.cell? ⟨b, off + j, none⟩ := fun j hj => by
      refine World.cell?_setCells_out b _ _ w ⟨b, off + j, none⟩ (fun _ _ => ?_)
      rw [bcl]
      simp only
      omega
    refine ⟨⟨hl.R.lt, ⟨by rw [size_setCells]; exact hl.R.A.lt, fun k hk => ?_⟩, by rw [hlen]; exact hr⟩, fun j hj1 hj2 => ?_⟩
    · rw [hlen] at hk
      by_cases hkl : k < l.length
      · rw [hout k (.inl hkl), hl.R.A.cell hkl]
        show some (Value.int .u8 (bF l k)) = some (Value.int .u8 (bF (l ++ l') k))
        rw [bF_left l l' k hkl]
      · have := hin (k - l.length) (by omega)
        rw [show off + l.length * 1 + (k - l.length) = off + k by omega] at this
        rw [this, bc_at l' (k - l.length) (by omega)]
        show some (Value.int .u8 (bF l' (k - l.length))) = some (Value.int .u8 (bF (l ++ l') k))
        rw [bF_right l l' k (by omega)]
    · rw [hlen] at hj1
      rw [hout j (.inr hj1), World.frozen?_setCells]
      exact hl.sp j (by omega) hj2
  · have hne : l ++ l' ≠ [] := fun e => by
      have h0 : l.length + l'.length = 0 := by rw [← hlen, e]; rfl
      omega
    rw [← bc_app] at ho
    obtain ⟨g', c', hv', hby⟩ := row_nz ho hne
    subst hv'
    rw [hlen]
    exact hK g' 0 c' w' (hby.mono hB) ((Below.refl _ _).grown hgb hB (by intro k hk; cases hk))
end Go.Proofs.YtdbhgaegblclaaaDoor
/- ReadAsm's draw: the parts. -/
namespace Go.Proofs.YtdbhgaegblclaaaDoor
open Go.RowKit

set_option maxHeartbeats 800000 in
theorem specPrint_nil (b off len cap : Nat) (F : Nat → Nat → Int) (d : Int) (w : World) (hm : len ≤ 1048576) (hat : At w b off (len * 6) (insF F)) (hok : (flatOK len F && inB d 0 1) = false) :
    Calls Tryd.prog 11 #[.slice (some ⟨b, off, none⟩) len cap, .int .i64 d] w fun e w' => e = .returned (.slice (some ⟨w.heap.size, 0, none⟩) 0 0) ∧ w.heap.size < w'.heap.size ∧ Below w.heap.size w w' := by
  have hb := hat.lt
  have HA : Hid (At w b off (len * 6) (insF F)) := hat
  clear hat
  go_enter Tryd.func11, Tryd.ntmps11
  go_upto_region 2 with fail
  obtain ⟨u, hu, hbu, hz⟩ : ∃ v, w.alloc (.cells #[] 5) = v ∧ Below w.heap.size w v ∧ w.heap.size < v.heap.size := ⟨_, rfl, (Below.refl _ _).alloc (Nat.le_refl _) _, by simp⟩
  rw [hu]
  clear hu
  cases hf : flatOK len F with
  | false =>
    clear hok
    go_wp2_with (first | (go_at_call 9; refine (specFlat_any b off len cap F _ hm (HA.out.below hbu hb)).mono ?_; rintro e w1 ⟨rfl, hb1⟩; rw [hf]))
    go_ret
    exact ⟨rfl, Nat.lt_of_lt_of_le hz hb1.size, hbu.trans (hb1.mono hbu.size)⟩
  | true =>
    have hin : inB d 0 1 = false := by simpa [hf] using hok
    clear hok
    go_wp2_with (first | (go_at_call 9; refine (specFlat_any b off len cap F _ hm (HA.out.below hbu hb)).mono ?_; rintro e w1 ⟨rfl, hb1⟩; rw [hf]) | (go_at_call 39; refine (in_any _ _ _ _).mono ?_; rintro e w2 ⟨rfl, hw2⟩; rw [hw2, hin]; clear hw2))
    go_ret
    exact ⟨rfl, Nat.lt_of_lt_of_le hz hb1.size, hbu.trans (hb1.mono hbu.size)⟩
theorem specPrint_by (b off len cap : Nat) (F : Nat → Nat → Int) (d : Int) (w : World) (hm : len ≤ 1048576) (hat : At w b off (len * 6) (insF F)) :
    Calls Tryd.prog 11 #[.slice (some ⟨b, off, none⟩) len cap, .int .i64 d] w fun e w' => ∃ g c t, e = .returned (.slice (some ⟨g, 0, none⟩) t.length c) ∧ t.length ≤ len * 300 ∧ ByR w' w.heap.size g 0 c t ∧ Below w.heap.size w w' := by
  by_cases ht : prT d len F = []
  · have hok : (flatOK len F && inB d 0 1) = false := by
      cases h : (flatOK len F && inB d 0 1) with
      | false => rfl
      | true =>
        unfold prT at ht
        rw [if_pos h] at ht
        rw [Bool.and_eq_true] at h
        exact absurd ht (txt_ne d len F len (flat_facts h.1).1)
    refine (specPrint_nil b off len cap F d w hm hat hok).mono ?_
    rintro e w' ⟨rfl, hz, hb⟩
    exact ⟨w.heap.size, 0, [], rfl, Nat.zero_le _, .nil hz (Nat.le_refl _), hb⟩
  · refine (specPrint_any b off len cap F d w hm hat).mono ?_
    rintro e w' ⟨v, n, rfl, ho, hb⟩
    obtain ⟨g, c, rfl, hby⟩ := row_nz ho ht
    exact ⟨g, c, _, rfl, prT_len d len F, hby.R, hb⟩

def shortS : Value → Bool
  | .string s => decide (s.size ≤ 20)
  | _ => false
theorem pick_cells (w : World) (cs : Array Value) (T : TypeId) (m : Nat) (hm : cs.size = m) (h : cs.toList.all shortS = true) : ∀ i, i < m → ∃ s : ByteArray, s.size ≤ 20 ∧ (w.alloc (.cells cs T)).cell? ⟨w.heap.size, i, none⟩ = some (.string s) := fun i hi => by
  subst hm
  rw [hp_cell (heap_alloc_newB w (.cells cs T)) i, Array.getElem?_eq_getElem hi]
  have h1 := List.all_eq_true.1 h cs[i] (by simp)
  rcases hv : cs[i] with _ | _ | _ | _ | _
  all_goals (rw [hv] at h1; first | (cases h1; done) | exact ⟨_, by simpa [shortS] using h1, rfl⟩)
set_option maxHeartbeats 800000 in
theorem l2Pick_any (p : Nat) (ao : Option Addr) (n cap q m : Nat) (w : World) (hc : Cur w p ao n cap) (h1 : 1 ≤ m) (h2 : m ≤ 100) (hq : ∀ i, i < m → ∃ s : ByteArray, s.size ≤ 20 ∧ w.cell? ⟨q, i, none⟩ = some (.string s)) (hqp : q ≠ p) (hql : q < w.heap.size) :
    Calls Tryd.prog 48 #[.pointer (some ⟨p, 0, none⟩), .slice (some ⟨q, 0, none⟩) m m] w fun e w' => ∃ s : ByteArray, e = .returned (.string s) ∧ s.size ≤ 20 ∧ Fw p w w' ∧ Cur w' p ao n cap := by
  have HC : Hid (Cur w p ao n cap) := hc
  have HQ : Hid (∀ i, i < m → ∃ s : ByteArray, s.size ≤ 20 ∧ w.cell? ⟨q, i, none⟩ = some (.string s)) := hq
  clear hc hq
  go_enter Tryd.func48, Tryd.ntmps48
  go_wp2_with fail
  refine (l1Below_any p ao n cap (m : Int) _ (by omega) HC.out).mono ?_
  rintro e w1 ⟨x, rfl, x0, x1, f1, k1⟩
  obtain ⟨j, rfl⟩ : ∃ j : Nat, x = (j : Int) := ⟨x.toNat, by omega⟩
  obtain ⟨s, hs, hcell⟩ := HQ.out j (by omega)
  have c1 : w1.cell? ⟨q, j, none⟩ = some (.string s) := (f1.cell hql hqp).trans hcell
  have F1 : Hid (Fw p w w1 ∧ Cur w1 p ao n cap) := ⟨f1, k1⟩
  have HS : Hid (s.size ≤ 20) := hs
  clear f1 k1 hcell hs
  go_wp2
  go_ret
  exact ⟨s, rfl, HS.out, F1.out.1, F1.out.2⟩
theorem conv_by (W : World) (s : ByteArray) : ∃ cp W2, (convert 9 22 (.string s)).run Tryd.prog W = .ok (.slice (some ⟨W.heap.size, 0, none⟩) s.size cp) W2 ∧ Below W.heap.size W W2 ∧ ByS W2 W.heap.size W.heap.size 0 cp s.data.toList := by
  refine ⟨_, _, run_bytes_of_string W 9 22 5 s Tryd.underlying9 Tryd.underlying22 Tryd.underlying5, (Below.refl _ _).drew.alloc (Nat.le_refl _) _, ?_⟩
  have hge := grownCap_ge W s.size 0 5
  obtain ⟨cp, hcp⟩ : ∃ c, grownCap W s.size 0 5 = c := ⟨_, rfl⟩
  rw [hcp] at hge ⊢
  have h2 := heap_alloc_newB W.drew (.cells (bytesRow s cp) 5 ((bytesRow s cp).size, (bytesRow s cp).size + 1))
  have h3 : W.drew.heap.size = W.heap.size := rfl
  rw [h3] at h2
  have hsz : (bytesRow s cp).size = cp := by
    simp only [bytesRow, Array.size_append, Array.size_map, Array.size_replicate]
    show s.size + (cp - s.size) = cp
    omega
  refine ⟨⟨Nat.le_refl _, ⟨?_, fun i hi => ?_⟩, hge⟩, fun j _ hj => ⟨?_, ?_⟩⟩
  · show W.heap.size < (W.drew.alloc _).heap.size
    simp
  · have hi' : i < s.data.size := by simpa using hi
    rw [Nat.zero_add, hp_cell h2 i, bytesRow_at s cp i hi']
    show some (Value.int .u8 _) = some (Value.int .u8 (bF s.data.toList i))
    unfold bF
    rw [List.getD_eq_getElem?_getD, List.getElem?_eq_getElem (by simpa using hi')]
    simp
  · rw [Nat.zero_add, hp_cell h2 j]
    have : j < (bytesRow s cp).size := by omega
    simp [this]
  · rw [Nat.zero_add]
    unfold World.frozen?
    rw [h2]
    simp
    omega
end Go.Proofs.YtdbhgaegblclaaaDoor
/- ReadAsm's draw. -/
namespace Go.Proofs.YtdbhgaegblclaaaDoor
open Go.RowKit

/-- While a text is drawn: the cursor in block p, the text. -/
structure TS (w1 : World) (p : Nat) (ao : Option Addr) (n cap g o c : Nat) (t : List UInt8) (v : World) : Prop where
  F : Fw p w1 v
  K : Cur v p ao n cap
  T : ByR v w1.heap.size g o c t
  pw : p < w1.heap.size
theorem TS.fw {w1 v v' : World} {p n cap g o c : Nat} {ao : Option Addr} {t : List UInt8} (h : TS w1 p ao n cap g o c t v) (f : Fw p v v') (k : Cur v' p ao n cap) : TS w1 p ao n cap g o c t v' := ⟨h.F.trans f, k, h.T.fw f h.pw, h.pw⟩
theorem TS.below {w1 v v' : World} {p n cap g o c : Nat} {ao : Option Addr} {t : List UInt8} (h : TS w1 p ao n cap g o c t v) (f : Below v.heap.size v v') : TS w1 p ao n cap g o c t v' := h.fw (.of_below f) (h.K.below f)
theorem Cur.belowB {w w' : World} {p n cap B : Nat} {ao : Option Addr} (h : Cur w p ao n cap) (hb : Below B w w') (hp : p < B) : Cur w' p ao n cap := by
  obtain ⟨i, hh, q0, q1, q2, q3⟩ := h.cs
  refine ⟨Nat.lt_of_lt_of_le h.lt hb.size, fun i => (hb.frozen (p := ⟨p, i, none⟩) hp).trans (h.fz i), ⟨i, hh, q0, (hb.cell (p := ⟨p, 0, none⟩) hp).trans q1, (hb.cell (p := ⟨p, 1, none⟩) hp).trans q2, (hb.cell (p := ⟨p, 2, none⟩) hp).trans q3⟩, ?_, h.ln⟩
  rcases h.row with h | ⟨b, off, h1, h2, h3⟩
  · exact .inl h
  · exact .inr ⟨b, off, h1, h2, fun i hi => by obtain ⟨v, q1, q2, q3⟩ := h3 i hi; exact ⟨v, q1, q2, (hb.cell (p := ⟨b, off + i, none⟩) (by simp; omega)).trans q3⟩⟩
theorem Fw.belowB {p B : Nat} {a b c : World} (h : Fw p a b) (hb : Below B b c) (hB : a.heap.size ≤ B) : Fw p a c :=
  ⟨hb.os.trans h.os, hb.tape.trans h.tape, hb.output.trans h.output, Nat.le_trans h.size hb.size, fun k hk hn => (hb.block k (by omega)).trans (h.block k hk hn)⟩
/-- Another text, in blocks of its own. -/
theorem TS.other {w1 v v' : World} {p n cap g o c g' o' c' B : Nat} {ao : Option Addr} {t t' : List UInt8} (h : TS w1 p ao n cap g o c t v) (hb : Below B v v') (hB : w1.heap.size ≤ B) (ht : ByR v' w1.heap.size g' o' c' t') : TS w1 p ao n cap g' o' c' t' v' :=
  ⟨h.F.belowB hb hB, h.K.belowB hb (by have := h.pw; omega), ht, h.pw⟩

set_option maxRecDepth 20000 in
set_option maxHeartbeats 16000000 in
theorem drawRead_any (ao : Option Addr) (n cap : Nat) (w : World) (hn : n ≤ 1048576) (hr : Bytes0 w w.heap.size ao n) :
    Calls Tryd.prog 14 #[.slice ao n cap] w fun e w' => ∃ g o c t d, e = .returned (.tuple #[.slice (some ⟨g, o, none⟩) t.length c, .int .i64 d]) ∧ t.length ≤ 200000 ∧ ByR w' w.heap.size g o c t ∧ Below w.heap.size w w' := by
  have HR : Hid (Bytes0 w w.heap.size ao n) := hr
  obtain ⟨iS, hi, hz0, hz1, hz2⟩ := info_parts info_u8
  have HIS : Hid (Tryd.prog.info? 5 = some iS ∧ iS.zero = some (.int .u8 0) ∧ iS.size = 1 ∧ iS.bytes = 1) := ⟨hi, hz0, hz1, hz2⟩
  clear hr hi hz0 hz1 hz2
  go_enter Tryd.func14, Tryd.ntmps14
  go_wp2_with fail
  refine (l1New_any ao n cap w hn HR.out).mono ?_
  rintro e w1 ⟨p, rfl, lp, hb1, c1⟩
  have B1 : Hid (Below w.heap.size w w1) := hb1
  have K1 : Hid (Cur w1 p ao n cap) := c1
  have pw := c1.lt
  clear hb1 c1 HR
  go_wp2_with fail
  refine (l1Below_any p ao n cap 14 _ (by omega) K1.out).mono ?_
  rintro e w2 ⟨m, rfl, m0, m1, f, c⟩
  have F2 : Hid (Fw p w1 w2) := f
  have K2 : Hid (Cur w2 p ao n cap) := c
  clear f c K1
  go_wp2_with fail
  refine (l1DrawFlat_any p ao n cap (1 + m) _ (by omega) (by omega) K2.out).mono ?_
  rintro e w3 ⟨v, ys, rfl, hyl, fw⟩
  obtain ⟨gp, gc, rfl⟩ := fw.nn (by omega)
  have W3 : Hid (FW w1 p ao n cap (.slice (some ⟨gp, 0, none⟩) ys.length gc) ys w3) := fw.down F2.out pw
  have hy : ys.length ≤ 15 := by omega
  clear fw F2 K2 hyl
  go_wp2_with fail
  refine (l1Below_any p ao n cap 2 _ (by omega) W3.out.K).mono ?_
  rintro e w4 ⟨d, rfl, d0, d1, f, c⟩
  have W4 : Hid (FW w1 p ao n cap (.slice (some ⟨gp, 0, none⟩) ys.length gc) ys w4) := W3.out.fw f c
  clear f c W3
  go_wp2_with fail
  refine (specPrint_by gp 0 ys.length gc (icF ys) d w4 (by omega) (row_at W4.out.O)).mono ?_
  rintro e w5 ⟨g, tc, t, rfl, tl, hby, hb5⟩
  have T5 : Hid (TS w1 p ao n cap g 0 tc t w5) := ⟨W4.out.F.trans (.of_below hb5), W4.out.K.below hb5, hby.mono W4.out.F.size, pw⟩
  have tl' : t.length ≤ 10000 := by omega
  clear hby hb5 W4 tl hy m0 m1
  go_wp2_with fail
  refine (l1Below_any p ao n cap 9 _ (by omega) T5.out.K).mono ?_
  rintro e w6 ⟨k, rfl, k0, k1, f, c⟩
  have T6 : Hid (TS w1 p ao n cap g 0 tc t w6) := T5.out.fw f c
  clear f c T5
  go_upto_region 6 with fail
  go_cut [4, 6, 7, 8, 33] (fun s4 s6 s7 s8 z wx => s4 = .pointer (some ⟨p, 0, none⟩) ∧ s8 = .int .i64 k ∧ s6 = .int .i64 d ∧ s7 = .slice (some ⟨g, 0, none⟩) t.length tc ∧ (∃ y : Bool, z = .bool y ∧ (y = true → 1 ≤ t.length)) ∧ wx = w6)
  case first =>
    by_cases h1 : k < 4
    · by_cases h2 : (0 : Int) < t.length
      · go_wp2_with fail
        go_meet
        exact ⟨rfl, rfl, rfl, rfl, ⟨_, rfl, fun _ => by omega⟩, rfl⟩
      · go_wp2_with fail
        go_meet
        exact ⟨rfl, rfl, rfl, rfl, ⟨_, rfl, fun h => by simp at h; omega⟩, rfl⟩
    · go_wp2_with fail
      go_meet
      exact ⟨rfl, rfl, rfl, rfl, ⟨_, rfl, fun h => by simp at h⟩, rfl⟩
  case rest =>
    obtain ⟨rfl, rfl, rfl, rfl, ⟨z, rfl, hz⟩, hwc⟩ := hcut
    rw [hwc]
    clear hwc
    go_upto_if 33 with fail
    go_cut [4, 6, 7, 8] (fun s4 s6 s7 s8 wx => s4 = .pointer (some ⟨p, 0, none⟩) ∧ s8 = .int .i64 k ∧ (∃ d : Int, s6 = .int .i64 d) ∧ ∃ g o tc t tn, s7 = .slice (some ⟨g, o, none⟩) tn tc ∧ t.length = tn ∧ tn ≤ 30000 ∧ TS w1 p ao n cap g o tc t wx)
    case first =>
      cases z with
      | false =>
        go_wp2_with fail
        go_meet
        exact ⟨rfl, rfl, ⟨_, rfl⟩, g, 0, tc, t, _, rfl, rfl, by omega, T6.out⟩
      | true =>
        have hl1 := hz rfl
        clear hz
        go_wp2_with fail
        refine (l1Below_any p ao n cap (t.length : Int) _ (by omega) T6.out.K).mono ?_
        rintro e w7 ⟨x, rfl, x0, x1, f, c⟩
        obtain ⟨a, rfl⟩ : ∃ a : Nat, x = (a : Int) := ⟨x.toNat, by omega⟩
        have T7 : Hid (TS w1 p ao n cap g 0 tc t w7) := T6.out.fw f c
        have hat : a < t.length := by omega
        have hcp := T7.out.T.le
        clear f c T6 x0 x1
        obtain ⟨tn, htn⟩ : ∃ l, t.length = l := ⟨_, rfl⟩
        have HTN : Hid (t.length = tn) := htn
        rw [htn] at hat hl1 hcp tl' ⊢
        clear htn
        go_wp2_with fail
        refine (l1Once_any p ao n cap 2 _ (by omega) T7.out.K).mono ?_
        rintro e w8 ⟨z, rfl, f, c⟩
        have T8 : Hid (TS w1 p ao n cap g 0 tc t w8) := T7.out.fw f c
        clear f c T7
        go_upto_if 42 with fail
        go_cut [4, 6, 7, 8, 9, 10] (fun s4 s6 s7 s8 s9 s10 wx => s4 = .pointer (some ⟨p, 0, none⟩) ∧ s8 = .int .i64 k ∧ s6 = .int .i64 d ∧ s7 = .slice (some ⟨g, 0, none⟩) tn tc ∧ s9 = .int .i64 (a : Int) ∧ (∃ o' c' r rn, s10 = .slice (some ⟨g, o', none⟩) rn c' ∧ r.length = rn ∧ rn ≤ 10000 ∧ ByR w8 w1.heap.size g o' c' r) ∧ wx = w8)
        case first =>
          have D8 : Hid (ByR w8 w1.heap.size g a (tc - a) (t.drop a)) := (by have := T8.out.T.drop a (by have := HTN.out; omega); rw [Nat.zero_add] at this; exact this : ByR w8 w1.heap.size g a (tc - a) (t.drop a))
          have HDL : Hid ((t.drop a).length = tn - a) := (by rw [List.length_drop, HTN.out] : (t.drop a).length = tn - a)
          cases z with
          | false =>
            go_wp2_with fail
            go_meet
            exact ⟨rfl, rfl, rfl, rfl, rfl, ⟨_, _, t.drop a, _, rfl, HDL.out, by omega, D8.out⟩, rfl⟩
          | true =>
            obtain ⟨r, hr⟩ : ∃ l, tn - a = l + 1 := ⟨tn - a - 1, by omega⟩
            obtain ⟨rc, hrc⟩ : ∃ l, tc - a = l + 1 := ⟨tc - a - 1, by omega⟩
            have hrr : r ≤ rc := by omega
            have hr9 : r ≤ 10000 := by omega
            have HR2 : Hid (tc - a = rc + 1) := hrc
            have HR1 : Hid (tn - a = r + 1) := hr
            rw [hr, hrc]
            clear hr hrc
            by_cases hrc : rc = 0
            · subst hrc
              obtain rfl : r = 0 := by omega
              go_wp2_with fail
              go_meet
              exact ⟨rfl, rfl, rfl, rfl, rfl, ⟨_, _, [], _, rfl, rfl, by omega, .nil D8.out.A.lt D8.out.lt⟩, rfl⟩
            · have hrc' : 1 < rc + 1 := by omega
              have D9 : Hid (ByR w8 w1.heap.size g (a + 1) rc ((t.drop a).drop 1)) := (by
                have := D8.out.drop 1 (by rw [HDL.out, HR1.out]; omega)
                rw [HR2.out] at this
                exact this : ByR w8 w1.heap.size g (a + 1) rc ((t.drop a).drop 1))
              have HD9 : Hid (((t.drop a).drop 1).length = r) := (by rw [List.length_drop, HDL.out, HR1.out]; rfl : ((t.drop a).drop 1).length = r)
              go_wp2_with fail
              go_meet
              exact ⟨rfl, rfl, rfl, rfl, rfl, ⟨_, _, (t.drop a).drop 1, _, rfl, HD9.out, by omega, D9.out⟩, rfl⟩
        case rest =>
          obtain ⟨rfl, rfl, rfl, rfl, rfl, ⟨ro, rc, r, rn, rfl, hrn, hr9, hbr⟩, hwc⟩ := hcut
          rw [hwc]
          have R8 : Hid (ByR w8 w1.heap.size g ro rc r) := hbr
          have HRN : Hid (r.length = rn) := hrn
          clear hwc hbr hrn
          go_wp2_with fail
          refine (l2Pick_any p ao n cap _ 21 _ (T8.out.below ((Below.refl _ _).alloc (Nat.le_refl _) _)).K (by omega) (by omega) ?hq (by have := T8.out.K.lt; omega) (by simp)).mono ?_
          case hq =>
            refine pick_cells w8 _ _ 21 rfl ?_
            decide
          rintro e w9 ⟨s, rfl, hs, f, c⟩
          have F9 : Hid (Fw p w8 w9) := (Fw.of_below ((Below.refl _ _).alloc (Nat.le_refl _) _)).trans f
          have T9 : Hid (TS w1 p ao n cap g 0 tc t w9) := T8.out.fw F9.out c
          have R9 : Hid (ByR w9 w1.heap.size g ro rc r) := R8.out.fw F9.out T8.out.pw
          clear f c T8 R8 F9
          have gl9 := T9.out.T.A.lt
          have BU9 : Hid (∀ x, Below w9.heap.size w9 (w9.alloc x)) := fun x => (Below.refl _ _).alloc (Nat.le_refl _) _
          have TA : Hid (∀ x, ByR (w9.alloc x) w1.heap.size g 0 tc (t.take a)) := fun x => (T9.out.T.take a (by have := HTN.out; omega)).below (BU9.out x) gl9
          have HTA : Hid ((t.take a).length = a) := (by rw [List.length_take, HTN.out]; omega : (t.take a).length = a)
          have L9 : Hid (ByS (w9.alloc (.cells #[] 5)) w9.heap.size w9.heap.size 0 0 []) := ⟨.nil (by simp) (Nat.le_refl _), fun j h1 h2 => by omega⟩
          have zu9 : ∀ x, w9.heap.size ≤ (w9.alloc x).heap.size := fun x => (BU9.out x).size
          have hw9 : w1.heap.size ≤ w9.heap.size := T9.out.F.size
          have ha9 : 0 + a ≤ 1000000 := by omega
          go_wp2_with (first | (at_builtin; refine wpList_append_by _ rfl _ _ 22 rfl 5 iS _ Tryd.underlying22 HIS.out.1 HIS.out.2.1 HIS.out.2.2.1 HIS.out.2.2.2 rfl w9.heap.size w9.heap.size 0 0 0 [] rfl rfl L9.out (zu9 _) w1.heap.size g 0 tc a (t.take a) rfl HTA.out (TA.out _) ha9 ?_))
          intro g1 o1 c1 w10 hby1 hb10
          try rw [Nat.zero_add]
          obtain ⟨cp, w11, hrun, hb11, hby11⟩ := conv_by w10 s
          have B10 : Hid (Below w9.heap.size w9 w10) := (BU9.out _).trans hb10
          have B11 : Hid (Below w9.heap.size w9 w11) := B10.out.trans (hb11.mono B10.out.size)
          have L11 : Hid (ByS w11 w9.heap.size g1 o1 c1 ([] ++ t.take a)) := hby1.below hb11 hby1.R.A.lt
          have S11 : Hid (ByR w11 w10.heap.size w10.heap.size 0 cp s.data.toList) := hby11.R
          have z11 : w9.heap.size ≤ w11.heap.size := B11.out.size
          have HTB : Hid ((([] : List UInt8) ++ t.take a).length = a) := HTA.out
          have has : a + s.size ≤ 1000000 := by omega
          clear hby1 hb10 hb11 hby11 L9 TA zu9 BU9 ha9
          go_wp2_with (first | (at_builtin; refine wpList_append_by _ rfl _ _ 22 rfl 5 iS _ Tryd.underlying22 HIS.out.1 HIS.out.2.1 HIS.out.2.2.1 HIS.out.2.2.2 rfl w9.heap.size g1 o1 c1 a ([] ++ t.take a) rfl HTB.out L11.out z11 w10.heap.size w10.heap.size 0 cp s.size s.data.toList rfl rfl S11.out has ?_))
          intro g2 o2 c2 w12 hby2 hb12
          have B12 : Hid (Below w9.heap.size w9 w12) := B11.out.trans hb12
          have L12 : Hid (ByS w12 w9.heap.size g2 o2 c2 ((([] : List UInt8) ++ t.take a) ++ s.data.toList)) := hby2
          have R12 : Hid (ByR w12 w1.heap.size g ro rc r) := R9.out.below B12.out gl9
          have z12 : w9.heap.size ≤ w12.heap.size := B12.out.size
          have HTC : Hid (((([] : List UInt8) ++ t.take a) ++ s.data.toList).length = a + s.size) := (by rw [List.length_append, HTB.out]; rfl : ((([] : List UInt8) ++ t.take a) ++ s.data.toList).length = a + s.size)
          have har : a + s.size + rn ≤ 1000000 := by omega
          clear hby2 hb12 hrun B10 B11 L11 S11 z11
          go_wp2_with (first | (at_builtin; refine wpList_append_by _ rfl _ _ 22 rfl 5 iS _ Tryd.underlying22 HIS.out.1 HIS.out.2.1 HIS.out.2.2.1 HIS.out.2.2.2 rfl w9.heap.size g2 o2 c2 (a + s.size) ((([] : List UInt8) ++ t.take a) ++ s.data.toList) rfl HTC.out L12.out z12 w1.heap.size g ro rc rn r rfl HRN.out R12.out har ?_))
          intro g3 o3 c3 w13 hby3 hb13
          have B13 : Hid (Below w9.heap.size w9 w13) := B12.out.trans hb13
          have T13 : Hid (TS w1 p ao n cap g3 o3 c3 (((([] : List UInt8) ++ t.take a) ++ s.data.toList) ++ r) w13) := T9.out.other B13.out hw9 (by simpa [List.append_assoc] using hby3.R.mono hw9)
          have HTE : Hid ((((([] : List UInt8) ++ t.take a) ++ s.data.toList) ++ r).length = a + s.size + rn) := (by rw [List.length_append, HTC.out, HRN.out] : (((([] : List UInt8) ++ t.take a) ++ s.data.toList) ++ r).length = a + s.size + rn)
          clear hby3 hb13
          go_wp2_with fail
          go_meet
          exact ⟨rfl, rfl, ⟨_, rfl⟩, g3, o3, c3, _, _, rfl, HTE.out, by omega, T13.out⟩
    case rest =>
      clear T6 hz z tl' d0 d1 d t tc g
      obtain ⟨rfl, rfl, ⟨d, rfl⟩, g, o, tc, t, tn, rfl, htn, tl, ts⟩ := hcut
      have T6 : Hid (TS w1 p ao n cap g o tc t wc) := ts
      have HTN : Hid (t.length = tn) := htn
      clear ts htn
      generalize wc = w6 at T6 ⊢
      go_upto_if 59 with fail
      go_cut [4, 6, 7, 8] (fun s4 s6 s7 s8 wx => s4 = .pointer (some ⟨p, 0, none⟩) ∧ s8 = .int .i64 k ∧ (∃ d : Int, s6 = .int .i64 d) ∧ ∃ g o tc t tn, s7 = .slice (some ⟨g, o, none⟩) tn tc ∧ t.length = tn ∧ tn ≤ 50000 ∧ TS w1 p ao n cap g o tc t wx)
      case first =>
        by_cases hk : k = 4
        rotate_left
        · have hk' : (k == 4) = false := by rw [beq_eq_false_iff_ne]; exact hk
          go_wp2_with fail
          go_meet
          exact ⟨rfl, rfl, ⟨_, rfl⟩, g, o, tc, t, _, rfl, HTN.out, by omega, T6.out⟩
        subst hk
        go_wp2_with fail
        refine (l2Pick_any p ao n cap _ 7 _ (T6.out.below ((Below.refl _ _).alloc (Nat.le_refl _) _)).K (by omega) (by omega) ?hq (by have := T6.out.K.lt; omega) (by simp)).mono ?_
        case hq =>
          refine pick_cells w6 _ _ 7 rfl ?_
          decide
        rintro e w7 ⟨s, rfl, hs, f, c⟩
        have T7 : Hid (TS w1 p ao n cap g o tc t w7) := T6.out.fw ((Fw.of_below ((Below.refl _ _).alloc (Nat.le_refl _) _)).trans f) c
        clear f c T6
        obtain ⟨cp, w8, hrun, hb8, hby8⟩ := conv_by w7 s
        have gl7 := T7.out.T.A.lt
        have hw7 : w1.heap.size ≤ w7.heap.size := T7.out.F.size
        have B8 : Hid (Below w7.heap.size w7 w8) := hb8
        have L8 : Hid (ByS w8 w7.heap.size w7.heap.size 0 cp s.data.toList) := hby8
        have T8 : Hid (ByR w8 w1.heap.size g o tc t) := T7.out.T.below hb8 gl7
        have z8 := hb8.size
        have hst : s.size + tn ≤ 1000000 := by omega
        clear hb8 hby8
        go_wp2_with (first | (at_builtin; refine wpList_append_by _ rfl _ _ 22 rfl 5 iS _ Tryd.underlying22 HIS.out.1 HIS.out.2.1 HIS.out.2.2.1 HIS.out.2.2.2 rfl w7.heap.size w7.heap.size 0 cp s.size s.data.toList rfl rfl L8.out z8 w1.heap.size g o tc tn t rfl HTN.out T8.out hst ?_))
        intro g2 o2 c2 w9 hby9 hb9
        have B9 : Hid (Below w7.heap.size w7 w9) := B8.out.trans hb9
        have L9 : Hid (ByS w9 w1.heap.size g2 o2 c2 (s.data.toList ++ t)) := hby9.mono hw7
        have T9 : Hid (TS w1 p ao n cap g2 o2 c2 (s.data.toList ++ t) w9) := T7.out.other B9.out hw7 L9.out.R
        have HT9 : Hid ((s.data.toList ++ t).length = s.size + tn) := (by rw [List.length_append, HTN.out]; rfl : (s.data.toList ++ t).length = s.size + tn)
        clear hby9 hb9 hrun B8 L8 T8 z8 T7 B9
        go_wp2_with fail
        refine (l1Once_any p ao n cap 3 _ (by omega) T9.out.K).mono ?_
        rintro e w10 ⟨y, rfl, f, c⟩
        have T10 : Hid (TS w1 p ao n cap g2 o2 c2 (s.data.toList ++ t) w10) := T9.out.fw f c
        have L10 : Hid (ByS w10 w1.heap.size g2 o2 c2 (s.data.toList ++ t)) := L9.out.fw f T9.out.pw
        clear f c T9 L9
        cases y with
        | false =>
          go_wp2_with fail
          go_meet
          exact ⟨rfl, rfl, ⟨_, rfl⟩, g2, o2, c2, _, _, rfl, HT9.out, by omega, T10.out⟩
        | true =>
          go_wp2_with fail
          refine (l2Pick_any p ao n cap _ 5 _ (T10.out.below ((Below.refl _ _).alloc (Nat.le_refl _) _)).K (by omega) (by omega) ?hq (by have := T10.out.K.lt; omega) (by simp)).mono ?_
          case hq =>
            refine pick_cells w10 _ _ 5 rfl ?_
            decide
          rintro e w11 ⟨s2, rfl, hs2, f, c⟩
          have FF : Hid (Fw p w10 w11) := (Fw.of_below ((Below.refl _ _).alloc (Nat.le_refl _) _)).trans f
          have T11 : Hid (TS w1 p ao n cap g2 o2 c2 (s.data.toList ++ t) w11) := T10.out.fw FF.out c
          have L11 : Hid (ByS w11 w1.heap.size g2 o2 c2 (s.data.toList ++ t)) := L10.out.fw FF.out T10.out.pw
          clear f c T10 L10 FF
          obtain ⟨cq, w12, hrun, hb12, hby12⟩ := conv_by w11 s2
          have L12 : Hid (ByS w12 w1.heap.size g2 o2 c2 (s.data.toList ++ t)) := L11.out.below hb12 L11.out.R.A.lt
          have T12 : Hid (TS w1 p ao n cap g2 o2 c2 (s.data.toList ++ t) w12) := T11.out.below hb12
          have S12 : Hid (ByR w12 w11.heap.size w11.heap.size 0 cq s2.data.toList) := hby12.R
          have z12 : w1.heap.size ≤ w12.heap.size := T12.out.F.size
          have hst2 : s.size + tn + s2.size ≤ 1000000 := by omega
          clear hb12 hby12 T11 L11
          go_wp2_with (first | (at_builtin; refine wpList_append_by _ rfl _ _ 22 rfl 5 iS _ Tryd.underlying22 HIS.out.1 HIS.out.2.1 HIS.out.2.2.1 HIS.out.2.2.2 rfl w1.heap.size g2 o2 c2 (s.size + tn) (s.data.toList ++ t) rfl HT9.out L12.out z12 w11.heap.size w11.heap.size 0 cq s2.size s2.data.toList rfl rfl S12.out hst2 ?_))
          intro g3 o3 c3 w13 hby13 hb13
          have T13 : Hid (TS w1 p ao n cap g3 o3 c3 ((s.data.toList ++ t) ++ s2.data.toList) w13) := T12.out.other hb13 (Nat.le_refl _) (by simpa [List.append_assoc] using hby13.R)
          have HT13 : Hid (((s.data.toList ++ t) ++ s2.data.toList).length = s.size + tn + s2.size) := (by rw [List.length_append, HT9.out]; rfl : ((s.data.toList ++ t) ++ s2.data.toList).length = s.size + tn + s2.size)
          clear hby13 hb13 hrun
          go_wp2_with fail
          go_meet
          exact ⟨rfl, rfl, ⟨_, rfl⟩, g3, o3, c3, _, _, rfl, HT13.out, by omega, T13.out⟩
      case rest =>
        clear T6 HTN tl
        obtain ⟨rfl, rfl, ⟨d, rfl⟩, g, o, tc, t, tn, rfl, htn, tl, ts⟩ := hcut
        have T6 : Hid (TS w1 p ao n cap g o tc t wc) := ts
        have HTN : Hid (t.length = tn) := htn
        clear ts htn
        generalize wc = w6 at T6 ⊢
        go_upto_region 18 with fail
        go_cut [4, 6, 7, 8, 81] (fun s4 s6 s7 s8 z wx => s4 = .pointer (some ⟨p, 0, none⟩) ∧ s8 = .int .i64 k ∧ s6 = .int .i64 d ∧ s7 = .slice (some ⟨g, o, none⟩) tn tc ∧ (∃ y : Bool, z = .bool y ∧ (y = true → 1 ≤ tn)) ∧ wx = w6)
        case first =>
          by_cases h1 : k = 5
          · subst h1
            by_cases h2 : (0 : Int) < tn
            · go_wp2_with fail
              go_meet
              exact ⟨rfl, rfl, rfl, rfl, ⟨_, rfl, fun _ => by omega⟩, rfl⟩
            · go_wp2_with fail
              go_meet
              exact ⟨rfl, rfl, rfl, rfl, ⟨_, rfl, fun h => by simp at h; omega⟩, rfl⟩
          · have h1' : (k == 5) = false := by rw [beq_eq_false_iff_ne]; exact h1
            go_wp2_with fail
            go_meet
            exact ⟨rfl, rfl, rfl, rfl, ⟨_, rfl, fun h => by simp at h⟩, rfl⟩
        case rest =>
          obtain ⟨rfl, rfl, rfl, rfl, ⟨z, rfl, hz⟩, hwc⟩ := hcut
          rw [hwc]
          clear hwc
          go_upto_if 81 with fail
          go_cut [4, 6, 7, 8] (fun s4 s6 s7 s8 wx => s4 = .pointer (some ⟨p, 0, none⟩) ∧ s8 = .int .i64 k ∧ (∃ d : Int, s6 = .int .i64 d) ∧ ∃ g o tc t tn, s7 = .slice (some ⟨g, o, none⟩) tn tc ∧ t.length = tn ∧ tn ≤ 50000 ∧ TS w1 p ao n cap g o tc t wx)
          case first =>
            cases z with
            | false =>
              go_wp2_with fail
              go_meet
              exact ⟨rfl, rfl, ⟨_, rfl⟩, g, o, tc, t, _, rfl, HTN.out, by omega, T6.out⟩
            | true =>
              obtain ⟨m, rfl⟩ : ∃ m, tn = m + 1 := ⟨tn - 1, by have := hz rfl; omega⟩
              have hle : m + 1 ≤ tc := by have := T6.out.T.le; have := HTN.out; omega
              have hm' : (m : Int) ≤ tc := by omega
              have T7 : Hid (TS w1 p ao n cap g o tc (t.take m) w6) := ⟨T6.out.F, T6.out.K, T6.out.T.take m (by have := HTN.out; omega), T6.out.pw⟩
              have HT7 : Hid ((t.take m).length = m) := (by rw [List.length_take, HTN.out]; omega : (t.take m).length = m)
              clear hz
              go_wp2_with fail
              go_meet
              exact ⟨rfl, rfl, ⟨_, rfl⟩, g, o, tc, _, _, rfl, HT7.out, by omega, T7.out⟩
          case rest =>
            clear T6 HTN tl hz z
            obtain ⟨rfl, rfl, ⟨d, rfl⟩, g, o, tc, t, tn, rfl, htn, tl, ts⟩ := hcut
            have T6 : Hid (TS w1 p ao n cap g o tc t wc) := ts
            have HTN : Hid (t.length = tn) := htn
            clear ts htn
            generalize wc = w6 at T6 ⊢
            go_wp2_with fail
            refine (l1Once_any p ao n cap 12 _ (by omega) T6.out.K).mono ?_
            rintro e w7 ⟨y, rfl, f, c⟩
            have T7 : Hid (TS w1 p ao n cap g o tc t w7) := T6.out.fw f c
            clear f c T6
            go_upto_if 88 with fail
            go_cut [4, 6, 7, 8] (fun s4 s6 s7 s8 wx => s4 = .pointer (some ⟨p, 0, none⟩) ∧ s8 = .int .i64 k ∧ (∃ d : Int, s6 = .int .i64 d) ∧ ∃ g o tc t tn, s7 = .slice (some ⟨g, o, none⟩) tn tc ∧ t.length = tn ∧ tn ≤ 50000 ∧ TS w1 p ao n cap g o tc t wx)
            case first =>
              cases y with
              | false =>
                go_wp2_with fail
                go_meet
                exact ⟨rfl, rfl, ⟨_, rfl⟩, g, o, tc, t, _, rfl, HTN.out, by omega, T7.out⟩
              | true =>
                go_wp2_with fail
                refine (l2Dialect_any p ao n cap _ T7.out.K).mono ?_
                rintro e w8 ⟨d2, rfl, _, _, f, c⟩
                have T8 : Hid (TS w1 p ao n cap g o tc t w8) := T7.out.fw f c
                clear f c T7
                go_wp2_with fail
                go_meet
                exact ⟨rfl, rfl, ⟨_, rfl⟩, g, o, tc, t, _, rfl, HTN.out, by omega, T8.out⟩
            case rest =>
              clear T7 HTN tl
              obtain ⟨rfl, rfl, ⟨d, rfl⟩, g, o, tc, t, tn, rfl, htn, tl, ts⟩ := hcut
              have T6 : Hid (TS w1 p ao n cap g o tc t wc) := ts
              have HTN : Hid (t.length = tn) := htn
              clear ts htn
              generalize wc = w6 at T6 ⊢
              go_wp2_with fail
              refine (l1Once_any p ao n cap 60 _ (by omega) T6.out.K).mono ?_
              rintro e w7 ⟨y, rfl, f, c⟩
              have T7 : Hid (TS w1 p ao n cap g o tc t w7) := T6.out.fw f c
              clear f c T6
              cases y with
              | false =>
                go_wp2_with fail
                refine bodyPost_ret (v := .tuple #[.slice (some ⟨g, o, none⟩) tn tc, .int .i64 d]) (by simp [results, Tryd.results14, go_sem]) rfl ?_
                exact ⟨g, o, tc, t, d, by rw [HTN.out], by have := HTN.out; omega, T7.out.T.mono B1.out.size, T7.out.F.below B1.out lp B1.out.size⟩
              | true =>
                go_wp2_with fail
                refine (l1Below_any p ao n cap 2 _ (by omega) T7.out.K).mono ?_
                rintro e w8 ⟨x, rfl, x0, x1, f, c⟩
                have T8 : Hid (TS w1 p ao n cap g o tc t w8) := T7.out.fw f c
                clear f c T7
                obtain rfl | rfl : x = 0 ∨ x = 1 := by omega
                · go_wp2_with (first | (at_make; refine wpList_make_full _ rfl _ _ 22 rfl w8.heap.size 5 iS _ 1 Tryd.underlying22 HIS.out.1 HIS.out.2.1 HIS.out.2.2.1 .i64 .i64 _ _ 100000 rfl rfl ?c1 ?c2 ?c3 ?c4 ?c5 ?_) | go_in)
                  case c1 => rfl
                  case c2 => rfl
                  case c3 => rw [HIS.out.2.2.2]; omega
                  case c4 => unfold maxLen; omega
                  case c5 => exact Nat.le_refl _
                  intro w9 hown hgrow
                  have hb9 : Below w8.heap.size w8 w9 := (Below.refl _ _).grown hgrow (Nat.le_refl _) (by intro k hk; cases hk)
                  have ha9 : Arr w9 w8.heap.size (100000 * 1) (fun _ => .int .u8 0) := Arr.made hown fun i hi => by
                    rw [made_get _ 100000 i (by omega)]
                    simp [Nat.mod_one]
                  have T9 : Hid (TS w1 p ao n cap w8.heap.size 0 100000 (List.replicate 100000 0) w9) := T8.out.other hb9 T8.out.F.size ⟨T8.out.F.size, ⟨ha9.lt, fun i hi => by
                    rw [List.length_replicate] at hi
                    rw [Nat.zero_add, ha9.cell (by omega)]
                    show some (Value.int .u8 0) = some (Value.int .u8 (bF (List.replicate 100000 0) i))
                    unfold bF
                    rw [List.getD_eq_getElem?_getD, List.getElem?_replicate, if_pos hi]
                    rfl⟩, by rw [List.length_replicate]; exact Nat.le_refl _⟩
                  clear hown hgrow hb9 ha9
                  go_wp2_with fail
                  refine bodyPost_ret (v := .tuple #[.slice (some ⟨w8.heap.size, 0, none⟩) 100000 100000, .int .i64 d]) (by simp [results, Tryd.results14, go_sem]) rfl ?_
                  exact ⟨w8.heap.size, 0, 100000, List.replicate 100000 0, d, by rw [List.length_replicate], by rw [List.length_replicate]; omega, T9.out.T.mono B1.out.size, T9.out.F.below B1.out lp B1.out.size⟩
                · go_wp2_with (first | (at_make; refine wpList_make_full _ rfl _ _ 22 rfl w8.heap.size 5 iS _ 1 Tryd.underlying22 HIS.out.1 HIS.out.2.1 HIS.out.2.2.1 .i64 .i64 _ _ 100001 rfl rfl ?c1 ?c2 ?c3 ?c4 ?c5 ?_) | go_in)
                  case c1 => rfl
                  case c2 => rfl
                  case c3 => rw [HIS.out.2.2.2]; omega
                  case c4 => unfold maxLen; omega
                  case c5 => exact Nat.le_refl _
                  intro w9 hown hgrow
                  have hb9 : Below w8.heap.size w8 w9 := (Below.refl _ _).grown hgrow (Nat.le_refl _) (by intro k hk; cases hk)
                  have ha9 : Arr w9 w8.heap.size (100001 * 1) (fun _ => .int .u8 0) := Arr.made hown fun i hi => by
                    rw [made_get _ 100001 i (by omega)]
                    simp [Nat.mod_one]
                  have T9 : Hid (TS w1 p ao n cap w8.heap.size 0 100001 (List.replicate 100001 0) w9) := T8.out.other hb9 T8.out.F.size ⟨T8.out.F.size, ⟨ha9.lt, fun i hi => by
                    rw [List.length_replicate] at hi
                    rw [Nat.zero_add, ha9.cell (by omega)]
                    show some (Value.int .u8 0) = some (Value.int .u8 (bF (List.replicate 100001 0) i))
                    unfold bF
                    rw [List.getD_eq_getElem?_getD, List.getElem?_replicate, if_pos hi]
                    rfl⟩, by rw [List.length_replicate]; exact Nat.le_refl _⟩
                  clear hown hgrow hb9 ha9
                  go_wp2_with fail
                  refine bodyPost_ret (v := .tuple #[.slice (some ⟨w8.heap.size, 0, none⟩) 100001 100001, .int .i64 d]) (by simp [results, Tryd.results14, go_sem]) rfl ?_
                  exact ⟨w8.heap.size, 0, 100001, List.replicate 100001 0, d, by rw [List.length_replicate], by rw [List.length_replicate]; omega, T9.out.T.mono B1.out.size, T9.out.F.below B1.out lp B1.out.size⟩
end Go.Proofs.YtdbhgaegblclaaaDoor
/- FnRead: the walk. -/
namespace Go.Proofs.YtdbhgaegblclaaaDoor
open Go.RowKit

theorem lwProg_rows {b1 b2 : Nat} {v v' : Value} (xs : List NV) (w : World) (hlen : xs.length ≤ 1048576) (h : w.ownsRow b1 56 6 v xs.length (ci xs)) (h' : w.ownsRow b2 56 6 v' xs.length (ci xs)) :
    Calls Tryd.prog 13 #[v, v'] w fun e w' => e = .returned (.bool true) ∧ Below w.heap.size w w' := by
  by_cases h0 : xs.length = 0
  · obtain ⟨ao, c, rfl⟩ := rowI_zero h h0
    obtain ⟨ao', c', rfl⟩ := rowI_zero h' h0
    exact lwProg_nil ao ao' c c' w
  · obtain ⟨g, c, rfl⟩ := row_some2 h (by omega)
    obtain ⟨g', c', rfl⟩ := row_some2 h' (by omega)
    exact lwProg_same g 0 xs.length c g' 0 c' _ w hlen (rowI_arr h).at (rowI_arr h').at
theorem rdA_zero {d : Int} {t : List UInt8} {er ln : Int} {xs : List NV} (h : rdA d t = (er, ln, xs)) (h0 : er = 0) : ln = 0 ∧ flatOK xs.length (prF xs) = true ∧ inB d 0 1 = true := by
  unfold rdA at h
  split at h
  · rename_i hc
    simp only [Prod.mk.injEq] at h
    omega
  · rename_i hc
    split at h
    · rename_i h1
      simp only [Prod.mk.injEq] at h
      exact absurd (h.1.trans h0) h1
    · split at h
      · simp only [Prod.mk.injEq] at h
        omega
      · split at h
        · rename_i h3
          simp only [Prod.mk.injEq] at h
          obtain ⟨_, h4, h5⟩ := h
          refine ⟨h4.symm, by rw [← h5]; exact h3, ?_⟩
          cases hi : inB d 0 1 with
          | true => rfl
          | false => exact absurd (.inr hi) hc
        · simp only [Prod.mk.injEq] at h
          omega
theorem nvG_prF (xs : List NV) (i : Nat) (hi : i < xs.length) : nvG (prF xs) i = xs[i] := by
  unfold nvG prF
  rw [List.getD_eq_getElem?_getD, List.getElem?_eq_getElem hi]
  rfl
theorem prL_prF (xs : List NV) : prL xs.length (prF xs) = xs := by
  refine List.ext_getElem? fun i => ?_
  unfold prL
  rw [List.getElem?_map]
  by_cases hi : i < xs.length
  · rw [List.getElem?_range hi, List.getElem?_eq_getElem hi]
    show some (nvG (prF xs) i) = _
    rw [nvG_prF xs i hi]
  · rw [List.getElem?_eq_none (by simp; omega), List.getElem?_eq_none (by omega)]
    rfl

set_option maxRecDepth 20000 in
set_option maxHeartbeats 8000000 in
theorem lawFnRead_walk (ao : Option Addr) (n cap : Nat) (w : World) (hn : n ≤ 1048576) (hr : Bytes0 w w.heap.size ao n)
    (ht1 : Lib.TabIs Tryd.prog w "internal/strconv.uint64pow10" .u64 Lib.pow10Tab) (ht2 : Lib.TabIs Tryd.prog w "strings.asciiSpace" .u8 Lib.asciiSpaceTab) :
    Calls Tryd.prog 4 #[.slice ao n cap] w fun e w' => e = .returned (.bool true) ∧ Below w.heap.size w w' := by
  have HR : Hid (Bytes0 w w.heap.size ao n) := hr
  have T1 : Hid (Lib.TabBelow Tryd.prog w.heap.size w "internal/strconv.uint64pow10" .u64 Lib.pow10Tab) := Lib.tabBelow_of_tabIs ht1
  have T2 : Hid (Lib.TabBelow Tryd.prog w.heap.size w "strings.asciiSpace" .u8 Lib.asciiSpaceTab) := Lib.tabBelow_of_tabIs ht2
  clear hr ht1 ht2
  have hn' : (n : Int) ≤ 1048576 := by omega
  go_enter Tryd.func4, Tryd.ntmps4
  go_wp2_with fail
  refine (drawRead_any ao n cap w hn HR.out).mono ?_
  rintro e w1 ⟨g, o, c, t, d, rfl, hl, hby, hb1⟩
  have B1 : Hid (Below w.heap.size w w1) := hb1
  have A1 : Hid (ByR w1 w.heap.size g o c t) := hby
  have hlt : (t.length : Int) ≤ 1048576 := by omega
  have hlc := hby.le
  obtain ⟨er, ln, xs, hA⟩ : ∃ er ln xs, rdA d t = (er, ln, xs) := ⟨_, _, _, rfl⟩
  have HA : Hid (rdA d t = (er, ln, xs)) := hA
  have hxl : xs.length ≤ 1048576 := by
    have := rdA_len d t
    rw [hA] at this
    have h2 : xs.length ≤ 100000 := this
    omega
  clear hb1 hby hA HR hl
  go_wp2_with fail
  refine (specRead_any _ _ _ t d _ hlt A1.out.A).mono ?_
  rintro e w2 ⟨hr2, hb2⟩
  rw [HA.out] at hr2
  obtain ⟨sv, rfl, ho2⟩ := hr2
  obtain ⟨aos, cs, rfl⟩ := row_sl ho2
  have B2 : Hid (Below w.heap.size w w2) := B1.out.trans (hb2.mono B1.out.size)
  have A2 : Hid (ByR w2 w.heap.size g o c t) := A1.out.below hb2 A1.out.A.lt
  have S2 : Hid (w2.ownsRow w1.heap.size 56 6 (.slice aos xs.length cs) xs.length (ci xs)) := ho2
  clear hb2 ho2 A1 B1
  go_wp2_with fail
  obtain ⟨u2, hu, bu, pu⟩ : ∃ v, w2.alloc (.cells #[.int .i64 er, .int .i64 ln, .slice aos xs.length cs] 29) = v ∧ Below w2.heap.size w2 v ∧ v.heap[w2.heap.size]? = some (.cells #[.int .i64 er, .int .i64 ln, .slice aos xs.length cs] 29) := ⟨_, rfl, (Below.refl _ _).alloc (Nat.le_refl _) _, heap_alloc_newB _ _⟩
  rw [hu]
  obtain ⟨p2, hp⟩ : ∃ p, w2.heap.size = p := ⟨_, rfl⟩
  rw [hp] at pu ⊢
  have P2 : Hid (u2.heap[p2]? = some (.cells #[.int .i64 er, .int .i64 ln, .slice aos xs.length cs] 29)) := pu
  have BU : Hid (Below w.heap.size w u2) := B2.out.trans (bu.mono B2.out.size)
  have AU : Hid (ByR u2 w.heap.size g o c t) := A2.out.below bu A2.out.A.lt
  have SU : Hid (u2.ownsRow w1.heap.size 56 6 (.slice aos xs.length cs) xs.length (ci xs)) := row_belowB S2.out bu
  clear hu bu pu hp B2 A2 S2
  refine (implRead_any readLine_any _ _ _ t d _ hlt hlc AU.out.A (T2.out _ BU.out)).mono ?_
  rintro e w4 ⟨hr4, hb4⟩
  rw [HA.out] at hr4
  obtain ⟨gv, rfl, ho4⟩ := hr4
  obtain ⟨aog, cg, rfl⟩ := row_sl ho4
  have B4 : Hid (Below w.heap.size w w4) := BU.out.trans (hb4.mono BU.out.size)
  have S4 : Hid (w4.ownsRow w1.heap.size 56 6 (.slice aos xs.length cs) xs.length (ci xs)) := row_belowB SU.out hb4
  have Q4 : Hid (w4.heap[p2]? = some (.cells #[.int .i64 er, .int .i64 ln, .slice aos xs.length cs] 29)) := obj_below P2.out hb4
  have G4 : Hid (w4.ownsRow u2.heap.size 56 6 (.slice aog xs.length cg) xs.length (ci xs)) := ho4
  clear ho4 hb4 SU P2 AU BU
  go_upto_region 6 with fail
  obtain ⟨u4, hu, bu, pu⟩ : ∃ v, w4.alloc (.cells #[.int .i64 er, .int .i64 ln, .slice aog xs.length cg] 29) = v ∧ Below w4.heap.size w4 v ∧ v.heap[w4.heap.size]? = some (.cells #[.int .i64 er, .int .i64 ln, .slice aog xs.length cg] 29) := ⟨_, rfl, (Below.refl _ _).alloc (Nat.le_refl _) _, heap_alloc_newB _ _⟩
  rw [hu]
  obtain ⟨p4, hp⟩ : ∃ p, w4.heap.size = p := ⟨_, rfl⟩
  rw [hp] at pu ⊢
  have P5 : Hid (u4.heap[p4]? = some (.cells #[.int .i64 er, .int .i64 ln, .slice aog xs.length cg] 29)) := pu
  have B5 : Hid (Below w.heap.size w u4) := B4.out.trans (bu.mono B4.out.size)
  have S5 : Hid (u4.ownsRow w1.heap.size 56 6 (.slice aos xs.length cs) xs.length (ci xs)) := row_belowB S4.out bu
  have G5 : Hid (u4.ownsRow u2.heap.size 56 6 (.slice aog xs.length cg) xs.length (ci xs)) := row_belowB G4.out bu
  have Q5 : Hid (u4.heap[p2]? = some (.cells #[.int .i64 er, .int .i64 ln, .slice aos xs.length cs] 29)) := obj_below Q4.out bu
  clear hu bu pu hp B4 S4 G4 Q4
  have q0 := hp_cell Q5.out 0
  have q1 := hp_cell Q5.out 1
  have q2 := hp_cell Q5.out 2
  have g0 := hp_cell P5.out 0
  have g1 := hp_cell P5.out 1
  have g2 := hp_cell P5.out 2
  simp only [List.getElem?_toArray, List.getElem?_cons_zero, List.getElem?_cons_succ] at q0 q1 q2 g0 g1 g2
  go_wp2_with fail
  refine (lwProg_rows xs _ hxl G5.out S5.out).mono ?_
  rintro e w6 ⟨rfl, hb6⟩
  have B6 : Hid (Below w.heap.size w w6) := B5.out.trans (hb6.mono B5.out.size)
  have S6 : Hid (w6.ownsRow w1.heap.size 56 6 (.slice aos xs.length cs) xs.length (ci xs)) := row_belowB S5.out hb6
  have G6 : Hid (w6.ownsRow u2.heap.size 56 6 (.slice aog xs.length cg) xs.length (ci xs)) := row_belowB G5.out hb6
  have Q6 : Hid (w6.heap[p2]? = some (.cells #[.int .i64 er, .int .i64 ln, .slice aos xs.length cs] 29)) := obj_below Q5.out hb6
  have P6 : Hid (w6.heap[p4]? = some (.cells #[.int .i64 er, .int .i64 ln, .slice aog xs.length cg] 29)) := obj_below P5.out hb6
  clear hb6 q0 q1 q2 g0 g1 g2 B5 S5 G5 Q5 P5
  have q0 := hp_cell Q6.out 0
  have q1 := hp_cell Q6.out 1
  have q2 := hp_cell Q6.out 2
  have g0 := hp_cell P6.out 0
  have g1 := hp_cell P6.out 1
  have g2 := hp_cell P6.out 2
  simp only [List.getElem?_toArray, List.getElem?_cons_zero, List.getElem?_cons_succ] at q0 q1 q2 g0 g1 g2
  by_cases h0 : er = 0
  rotate_left
  · have h0' : (er != 0) = true := by rw [bne_iff_ne]; exact h0
    go_wp2_with fail
    go_ret
    exact ⟨rfl, B6.out⟩
  subst h0
  have hz := rdA_zero HA.out rfl
  have HFO : Hid (flatOK xs.length (prF xs) = true) := hz.2.1
  have HD : Hid (1 - d = 0 ∨ 1 - d = 1) := (by
    have := hz.2.2
    unfold inB at this
    simp only [Bool.and_eq_true, decide_eq_true_eq] at this
    omega : 1 - d = 0 ∨ 1 - d = 1)
  have hd1 : -1 ≤ d := by have := HD.out; omega
  have hd2 : d ≤ 2 := by have := HD.out; omega
  have hx1 : 1 ≤ xs.length := (flat_facts hz.2.1).1
  have hx2 : xs.length ≤ 2000 := (flat_facts hz.2.1).2.1
  obtain ⟨gg, cgg, hgv⟩ := row_some2 G6.out (by omega)
  simp only [Value.slice.injEq, true_and] at hgv
  obtain ⟨rfl, rfl⟩ := hgv
  have A6 : Hid (At w6 gg 0 (xs.length * 6) (insF (prF xs))) := (rowI_arr G6.out).at
  obtain ⟨d', hd'⟩ : ∃ y : Int, 1 - d = y := ⟨_, rfl⟩
  rw [hd'] at HD
  clear hz
  go_wp2_with fail
  refine (implPrint_any _ _ _ _ (prF xs) d' _ hxl A6.out (T1.out _ B6.out) (T2.out _ B6.out)).mono ?_
  rintro e w7 ⟨vp, np, rfl, ho7, hnp, hb7⟩
  obtain ⟨t2, ht2⟩ : ∃ t, prT d' xs.length (prF xs) = t := ⟨_, rfl⟩
  have HT : Hid (prT d' xs.length (prF xs) = t2) := ht2
  rw [ht2] at ho7
  have hne : t2 ≠ [] := by rw [← ht2]; exact prT_ne HD.out HFO.out
  have hl2 : t2.length ≤ 600000 := by
    have := prT_len d' xs.length (prF xs)
    rw [ht2] at this
    omega
  obtain ⟨gb, cb, rfl, hcb, hab, _⟩ := row_by ho7 hne
  have B7 : Hid (Below w.heap.size w w7) := B6.out.trans (hb7.mono B6.out.size)
  have S7 : Hid (w7.ownsRow w1.heap.size 56 6 (.slice aos xs.length cs) xs.length (ci xs)) := row_belowB S6.out hb7
  have A7 : Hid (At w7 gg 0 (xs.length * 6) (insF (prF xs))) := A6.out.below hb7 A6.out.lt
  have Q7 : Hid (w7.heap[p2]? = some (.cells #[.int .i64 0, .int .i64 ln, .slice aos xs.length cs] 29)) := obj_below Q6.out hb7
  have P7 : Hid (w7.heap[p4]? = some (.cells #[.int .i64 0, .int .i64 ln, .slice (some ⟨gg, 0, none⟩) xs.length cg] 29)) := obj_below P6.out hb7
  have HAB : Hid (At w7 gb 0 t2.length (numF .u8 (bF t2))) := hab
  clear hb7 ho7 hab hnp ht2 hne S6 G6 Q6 P6 A6 q0 q1 q2 g0 g1 g2 B6
  obtain ⟨er2, ln2, xs2, hA2⟩ : ∃ er ln xs, rdA d' t2 = (er, ln, xs) := ⟨_, _, _, rfl⟩
  have HA2 : Hid (rdA d' t2 = (er2, ln2, xs2)) := hA2
  clear hA2
  have hx3 : xs2.length ≤ 1048576 := by
    have := rdA_len d' t2
    rw [HA2.out] at this
    have h2 : xs2.length ≤ 100000 := this
    omega
  go_wp2_with fail
  refine (implRead_any readLine_any _ _ _ t2 d' _ (by omega) hcb HAB.out (T2.out _ B7.out)).mono ?_
  rintro e w8 ⟨hr8, hb8⟩
  rw [HA2.out] at hr8
  obtain ⟨av, rfl, ho8⟩ := hr8
  obtain ⟨aoa, ca, rfl⟩ := row_sl ho8
  have B8 : Hid (Below w.heap.size w w8) := B7.out.trans (hb8.mono B7.out.size)
  have S8 : Hid (w8.ownsRow w1.heap.size 56 6 (.slice aos xs.length cs) xs.length (ci xs)) := row_belowB S7.out hb8
  have A8 : Hid (At w8 gg 0 (xs.length * 6) (insF (prF xs))) := A7.out.below hb8 A7.out.lt
  have Q8 : Hid (w8.heap[p2]? = some (.cells #[.int .i64 0, .int .i64 ln, .slice aos xs.length cs] 29)) := obj_below Q7.out hb8
  have P8 : Hid (w8.heap[p4]? = some (.cells #[.int .i64 0, .int .i64 ln, .slice (some ⟨gg, 0, none⟩) xs.length cg] 29)) := obj_below P7.out hb8
  have O8 : Hid (w8.ownsRow w7.heap.size 56 6 (.slice aoa xs2.length ca) xs2.length (ci xs2)) := ho8
  clear hb8 ho8 S7 A7 Q7 P7 HAB B7
  go_upto_region 11 with fail
  obtain ⟨u8, hu, bu, pu⟩ : ∃ v, w8.alloc (.cells #[.int .i64 er2, .int .i64 ln2, .slice aoa xs2.length ca] 29) = v ∧ Below w8.heap.size w8 v ∧ v.heap[w8.heap.size]? = some (.cells #[.int .i64 er2, .int .i64 ln2, .slice aoa xs2.length ca] 29) := ⟨_, rfl, (Below.refl _ _).alloc (Nat.le_refl _) _, heap_alloc_newB _ _⟩
  rw [hu]
  obtain ⟨p8, hp⟩ : ∃ p, w8.heap.size = p := ⟨_, rfl⟩
  rw [hp] at pu ⊢
  have R9 : Hid (u8.heap[p8]? = some (.cells #[.int .i64 er2, .int .i64 ln2, .slice aoa xs2.length ca] 29)) := pu
  have B9 : Hid (Below w.heap.size w u8) := B8.out.trans (bu.mono B8.out.size)
  have S9 : Hid (u8.ownsRow w1.heap.size 56 6 (.slice aos xs.length cs) xs.length (ci xs)) := row_belowB S8.out bu
  have O9 : Hid (u8.ownsRow w7.heap.size 56 6 (.slice aoa xs2.length ca) xs2.length (ci xs2)) := row_belowB O8.out bu
  have A9 : Hid (At u8 gg 0 (xs.length * 6) (insF (prF xs))) := A8.out.below bu A8.out.lt
  have Q9 : Hid (u8.heap[p2]? = some (.cells #[.int .i64 0, .int .i64 ln, .slice aos xs.length cs] 29)) := obj_below Q8.out bu
  have P9 : Hid (u8.heap[p4]? = some (.cells #[.int .i64 0, .int .i64 ln, .slice (some ⟨gg, 0, none⟩) xs.length cg] 29)) := obj_below P8.out bu
  clear hu bu pu hp B8 S8 O8 A8 Q8 P8
  have g2 := hp_cell P9.out 2
  simp only [List.getElem?_toArray, List.getElem?_cons_zero, List.getElem?_cons_succ] at g2
  go_wp2_with fail
  refine (specFlat_any _ _ _ _ (prF xs) _ hxl A9.out).mono ?_
  rintro e w10 ⟨rfl, hb10⟩
  rw [HFO.out]
  have B10 : Hid (Below w.heap.size w w10) := B9.out.trans (hb10.mono B9.out.size)
  have S10 : Hid (w10.ownsRow w1.heap.size 56 6 (.slice aos xs.length cs) xs.length (ci xs)) := row_belowB S9.out hb10
  have O10 : Hid (w10.ownsRow w7.heap.size 56 6 (.slice aoa xs2.length ca) xs2.length (ci xs2)) := row_belowB O9.out hb10
  have A10 : Hid (At w10 gg 0 (xs.length * 6) (insF (prF xs))) := A9.out.below hb10 A9.out.lt
  have Q10 : Hid (w10.heap[p2]? = some (.cells #[.int .i64 0, .int .i64 ln, .slice aos xs.length cs] 29)) := obj_below Q9.out hb10
  have P10 : Hid (w10.heap[p4]? = some (.cells #[.int .i64 0, .int .i64 ln, .slice (some ⟨gg, 0, none⟩) xs.length cg] 29)) := obj_below P9.out hb10
  have R10 : Hid (w10.heap[p8]? = some (.cells #[.int .i64 er2, .int .i64 ln2, .slice aoa xs2.length ca] 29)) := obj_below R9.out hb10
  clear hb10 g2 B9 S9 O9 A9 Q9 P9 R9
  have g2 := hp_cell P10.out 2
  simp only [List.getElem?_toArray, List.getElem?_cons_zero, List.getElem?_cons_succ] at g2
  go_wp2_with fail
  refine (specPrint_any _ _ _ _ (prF xs) d' _ hxl A10.out).mono ?_
  rintro e w11 ⟨vs, ns, rfl, ho11, hb11⟩
  rw [HT.out] at ho11
  obtain ⟨_, aob, cb2, hvs, _, _⟩ := row_wr ho11
  subst hvs
  have B11 : Hid (Below w.heap.size w w11) := B10.out.trans (hb11.mono B10.out.size)
  have S11 : Hid (w11.ownsRow w1.heap.size 56 6 (.slice aos xs.length cs) xs.length (ci xs)) := row_belowB S10.out hb11
  have O11 : Hid (w11.ownsRow w7.heap.size 56 6 (.slice aoa xs2.length ca) xs2.length (ci xs2)) := row_belowB O10.out hb11
  have Q11 : Hid (w11.heap[p2]? = some (.cells #[.int .i64 0, .int .i64 ln, .slice aos xs.length cs] 29)) := obj_below Q10.out hb11
  have R11 : Hid (w11.heap[p8]? = some (.cells #[.int .i64 er2, .int .i64 ln2, .slice aoa xs2.length ca] 29)) := obj_below R10.out hb11
  clear hb11 ho11 g2 B10 S10 O10 A10 Q10 P10 R10
  have q2 := hp_cell Q11.out 2
  have r2 := hp_cell R11.out 2
  simp only [List.getElem?_toArray, List.getElem?_cons_zero, List.getElem?_cons_succ] at q2 r2
  by_cases hl3 : (100000 : Int) < t2.length
  · go_wp2_with fail
    go_ret
    exact ⟨rfl, B11.out⟩
  · have HX : Hid (xs2 = xs) := (by
      have h1 := read_back d' HD.out xs.length (prF xs) HFO.out (by rw [HT.out]; omega)
      rw [HT.out, HA2.out, prL_prF] at h1
      simp only [Prod.mk.injEq] at h1
      exact h1.2.2 : xs2 = xs)
    have O12 : Hid (w11.ownsRow w7.heap.size 56 6 (.slice aoa xs2.length ca) xs.length (ci xs)) := (by have := O11.out; rw [HX.out] at this ⊢; exact this : w11.ownsRow w7.heap.size 56 6 (.slice aoa xs2.length ca) xs.length (ci xs))
    clear O11
    go_wp2_with fail
    refine (lwProg_rows xs _ hxl O12.out S11.out).mono ?_
    rintro e w12 ⟨rfl, hb12⟩
    go_wp2_with fail
    go_ret
    exact ⟨rfl, B11.out.trans (hb12.mono B11.out.size)⟩
end Go.Proofs.YtdbhgaegblclaaaDoor
/- FnRead: proved. -/
namespace Go.Proofs.YtdbhgaegblclaaaDoor
open Go.ChangeShapes Go.WideShapes Go.ChangeAt Go.RowKit Go.Deep

theorem fnRead_own : ownKnob Tryd.prog.godebug = none := by kernel_rfl
theorem fnRead_laidOut : laidOutB Tryd.prog = true := by kernel_rfl
set_option maxHeartbeats 400000 in
theorem fnRead_great (ao : Option Addr) (len cap : Nat) (w : World) (h : 1048576 < len) (hm : len ≤ maxLen) :
    Calls Tryd.prog 4 #[.slice ao len cap] w fun e w' => e = .returned (.bool true) ∧ Below w.heap.size w w' := by
  unfold maxLen at hm
  have h' : (1048576 : Int) < len := by omega
  go_enter Tryd.func4, Tryd.ntmps4
  go_wp2
  go_ret
  exact ⟨rfl, Below.refl _ _⟩
theorem tabFnRead_laid {name : String} {k : IntKind} {zs : List Int} {dd : DataW Unit} (hd : dd = Lib.tabData k zs) {W : World} (h : laidMetH Tryd.prog Rows.fnReadRow.laid W) (hx : (Rows.fnReadRow.laid.filter fun x => x.1 == name) = [(name, dd)]) {g : Nat} {t e : TypeId} {n : Nat}
    (hg : Tryd.prog.globalNamed name = some g) (hty : (Tryd.prog.globals[g]?).map (·.type) = some t) (ht : Tryd.prog.underlying t = some (.array n e)) (he : Tryd.prog.underlying e = some (.int k)) (hce : Tryd.prog.cellsOf e = 1) (hct : Tryd.prog.cellsOf t = n) :
    Lib.TabIs Tryd.prog W name k zs := by
  rw [MakeChecks.laidMetH_plain _ _ _ (by kernel_rfl)] at h
  have h1 := laidMet.filter (fun x => x.1 == name) h
  rw [hx, hd] at h1
  exact Lib.tabIs_of_head hg hty ht he hce hct h1
theorem fnRead_u8 : Tryd.prog.cellsOf 5 = 1 := by kernel_rfl
theorem fnRead_wf {n : Int} (h : (Lit.int .u8 n).wf = true) : 0 ≤ n ∧ n ≤ 255 := by
  simpa [Lit.wf, IntKind.min, IntKind.max, IntKind.signed, IntKind.bits] using h
theorem fnRead_open {H : Type} {enc : TypeId × Value → H} {w : World} {base : Nat} {spare : Nat → Bool} {held : Bool} {fuel : Nat} {ao : Option Addr} {len cap : Nat} {x : DataW H × List MemPlace}
    (h : DataW.trod enc Tryd.prog w base spare held fuel 22 [.slice ao len cap] = some x) : len ≤ maxLen ∧ Bytes0 w w.heap.size ao len := by
  obtain ⟨hm, f, hin, hel⟩ := open_row Tryd.underlying22 fnRead_u8 (by omega) h
  refine ⟨hm, ?_⟩
  rw [Nat.mul_one] at hin
  rcases hin with h0 | ⟨b, off, h1, h2⟩
  · exact .inl h0
  · refine .inr ⟨b, off, h1, h2.lt, fun i hi => ?_⟩
    obtain ⟨n, y, hy⟩ := hel i hi
    simp [List.range, List.range.loop] at hy
    obtain ⟨r, e1, _, wb⟩ := DataW.trod_int Tryd.underlying5 hy
    simp at e1
    exact ⟨r, (fnRead_wf wb).1, (fnRead_wf wb).2, by rw [h2.cell hi, e1]⟩

set_option maxRecDepth 100000 in
theorem fnRead_lifted (os : Os) (started : os.Started) (H : Type) (enc : TypeId × Value → H) :
    ReturnsInHanded {} Tryd.checked os 4 .any (fun w args => (Rows.fnReadSpec.pre enc Tryd.prog Tryd.f4 Rows.fnReadRow.domain false w args ∧ laidMetH Tryd.prog Rows.fnReadRow.laid w) ∧ sizedMet enc Tryd.prog Tryd.f4 (OpenSpec.ofChange Rows.fnReadSpec) false w args)
      (Rows.fnReadSpec.post enc Tryd.prog Tryd.f4 false true false false) := by
  refine returnsInHanded_of_change_and (C := Tryd.checked) (X := fun w _ => laidMetH Tryd.prog Rows.fnReadRow.laid w) (fun _ _ _ hh h => h.of_heap hh) fnRead_own started (by kernel_rfl) Tryd.func4
    (ChangeSpec.witness_shaped (enc := enc) (C := Tryd.checked) (os := os) (X := fun w _ => laidMetH Tryd.prog Rows.fnReadRow.laid w) false (World.laidAll Tryd.prog os Rows.fnReadRow.laid) #[.slice none 0 0] 8 (World.laidAll_os _ _ _)
      (World.shaped_of_ZipB (by kernel_rfl) (by kernel_rfl)) (by kernel_rfl) (by kernel_rfl) (by kernel_rfl)
      (by rw [MakeChecks.laidMetH_plain _ _ _ (by kernel_rfl)]; exact laidMet_laidAll _ (by kernel_rfl) (by kernel_rfl))) ?_
  intro W base args ds gs before hval0 hW hc _ hL _
  have hval : ∀ (j : Nat) t v, Tryd.f4.params[j]? = some t → args[j]? = some v → Value.okWide Tryd.prog W .any base t v := hval0
  have hW' := hW
  obtain ⟨p, q, hA0, hV, rfl, _, _⟩ := hW
  have hA : DataW.TrodAll enc Tryd.prog W 0 (fun _ => true) true Tryd.f4.params.toList args.toList ds p := hA0
  rw [Tryd.params4] at hA hval
  obtain ⟨v0, d0, rfl, rfl, h0⟩ := trodAll_one hA
  obtain ⟨rfl, rfl⟩ := trodVars_none hV
  obtain ⟨ao, len, cap, rfl⟩ := okWide_slice Tryd.underlying22 (hval 0 22 v0 rfl rfl)
  have k0 := h0
  have lt0 : ∀ x ∈ p, x.block < W.heap.size := by obtain ⟨m, hm⟩ := k0; exact DataW.trod_lt m _ _ _ hm
  obtain ⟨fuel, hf⟩ := h0
  obtain ⟨hm, hin⟩ := fnRead_open (by simpa [Value.cells] using hf)
  clear hA0 hval0
  have t1 : Lib.TabIs Tryd.prog W "internal/strconv.uint64pow10" .u64 Lib.pow10Tab := tabFnRead_laid (by rfl) hL (by kernel_rfl) (g := 3) (t := 162) (e := 150) (n := 20) (by kernel_rfl) (by kernel_rfl) (by kernel_rfl) (by kernel_rfl) (by kernel_rfl) (by kernel_rfl)
  have t2 : Lib.TabIs Tryd.prog W "strings.asciiSpace" .u8 Lib.asciiSpaceTab := tabFnRead_laid (by rfl) hL (by kernel_rfl) (g := 0) (t := 116) (e := 5) (n := 256) (by kernel_rfl) (by kernel_rfl) (by kernel_rfl) (by kernel_rfl) (by kernel_rfl) (by kernel_rfl)
  have fin : ∀ (e : Ending) (W' : World), e = .returned (.bool true) ∧ Below W.heap.size W W' → ∃ v, e = .returned v ∧ Rows.fnReadSpec.post enc Tryd.prog Tryd.f4 false true false false W #[.slice ao len cap] v W' := by
    rintro e W' ⟨he, bel⟩
    subst he
    exact ⟨_, rfl, _, _, _, [], _, [], hW', trodAll_mk1 (shut_bool Tryd.underlying4 _), trodAll_mk1 (Below.trod fnRead_laidOut (by kernel_rfl) (of_decide_eq_true (by kernel_rfl)) k0 bel lt0), rfl, bel.frame _, fun h => by cases h⟩
  by_cases hl : len ≤ 1048576
  · exact (lawFnRead_walk ao len cap W hl hin t1 t2).mono fin
  · exact (fnRead_great ao len cap W (by omega) hm).mono fin

theorem fnReadRow_holds : Rows.FnReadSaid :=
  OpenClaim.holds_of_wide 4 Tryd.f4 rfl rfl rfl rfl rfl rfl rfl ⟨rfl, rfl, rfl, rfl, rfl⟩ rfl rfl rfl rfl rfl (by kernel_rfl) Tryd.func4 (by kernel_rfl)
    (of_decide_eq_true (by kernel_rfl)) (by unfold Func.isWrapper; first | (rw [if_pos (by decide +kernel)]; kernel_rfl) | (rw [if_neg (by decide +kernel)]; exact ⟨rfl, rfl⟩))
    (fun os started H enc _ => fnRead_lifted os started H enc)
theorem fnRead_holds : Rows.FnReadCardSaid :=
  Claim7.holds_tied_plain_at .later [] [.data, .data, .data, .listed, .data] true (true, "526a9e8472aaa462521bd2fe3cf1c21a57e56d06059a78feaaf6406b119f1658") false fnReadRow_holds (fun _ h => by cases h) (by kernel_rfl) (fun _ h => by cases h) fnRead_row_tie rfl ⟨rfl, rfl⟩ (by kernel_rfl) rfl
    (fun f fn hf hfn => by
      obtain rfl : f = 4 := Option.some.inj ((show Tryd.prog.funcNamed "loop.example/s01319/laws.FnRead" = some 4 by kernel_rfl).symm.trans hf) |>.symm
      obtain rfl : fn = Tryd.f4 := (Option.some.inj (Tryd.func4.symm.trans hfn)).symm
      exact ⟨by kernel_rfl, fun j t ht => by
        rw [Tryd.params4] at ht
        have hm : t ∈ [22] := by simpa using Array.mem_of_getElem? ht
        have hall : ([22].all fun u => !Tryd.prog.wantsStandIn u) = true := by kernel_rfl
        exact (show Tryd.prog.wantsStandIn t = false by simpa using List.all_eq_true.1 hall t hm)⟩)
    (by kernel_rfl)
end Go.Proofs.YtdbhgaegblclaaaDoor
