import Derived.Test.YtdbhgaegblclaaaDoorAsmProg
import Derived.Test.YtdbhgaegblclaaaDoorOfFlatAny
/- Reading lines of text: the mathematics. -/
namespace Go.Proofs.YtdbhgaegblclaaaDoor
open Go.RowKit

/-- An instruction. -/
structure NV where
  op : Int
  d : Int
  a : Int
  b : Int
  imm : Int
  h : Int
def nv0 : NV := ⟨0, 0, 0, 0, 0, 0⟩
def isDg (c : UInt8) : Bool := decide (48 ≤ c.toNat) && decide (c.toNat ≤ 57)
def isAz (c : UInt8) : Bool := decide (97 ≤ c.toNat) && decide (c.toNat ≤ 122)
def noNl (c : UInt8) : Bool := decide (c.toNat ≠ 10)
/-- How many signs at the beginning are such. -/
def pre (p : UInt8 → Bool) : List UInt8 → Nat
  | [] => 0
  | c :: l => if p c = true then pre p l + 1 else 0
theorem pre_le (p : UInt8 → Bool) : ∀ l, pre p l ≤ l.length
  | [] => Nat.le_refl _
  | c :: l => by
    have := pre_le p l
    unfold pre
    split
    · simp; omega
    · simp
theorem pre_step (p : UInt8 → Bool) : ∀ (l : List UInt8) (k : Nat), k ≤ pre p l → k < l.length → (p (l.getD k 0) = true → k + 1 ≤ pre p l) ∧ (p (l.getD k 0) = false → pre p l = k)
  | [], k, _, h => by simp at h
  | c :: l, 0, _, _ => by
    unfold pre
    refine ⟨fun h => ?_, fun h => ?_⟩
    · simp at h; rw [if_pos h]; omega
    · simp at h; rw [if_neg (by simp [h])]
  | c :: l, k + 1, h1, h2 => by
    unfold pre at h1 ⊢
    by_cases hc : p c = true
    · rw [if_pos hc] at h1 ⊢
      have := pre_step p l k (by omega) (by simpa using h2)
      simp only [List.getD_cons_succ]
      exact ⟨fun h => by have := this.1 h; omega, fun h => by have := this.2 h; omega⟩
    · rw [if_neg hc] at h1; omega
theorem pre_all (p : UInt8 → Bool) (l : List UInt8) (k : Nat) (h : k ≤ pre p l) (he : k = l.length) : pre p l = k := by
  have := pre_le p l; omega
theorem pre_mem (p : UInt8 → Bool) : ∀ (l : List UInt8) (k : Nat), k < pre p l → p (l.getD k 0) = true
  | [], k, h => by simp [pre] at h
  | c :: l, k, h => by
    unfold pre at h
    by_cases hc : p c = true
    · rw [if_pos hc] at h
      cases k with
      | zero => simpa using hc
      | succ k => simpa using pre_mem p l k (by omega)
    · rw [if_neg hc] at h; omega
theorem pre_end (p : UInt8 → Bool) (l : List UInt8) (h : pre p l < l.length) : p (l.getD (pre p l) 0) = false := by
  cases hc : p (l.getD (pre p l) 0) with
  | false => rfl
  | true => have := (pre_step p l (pre p l) (Nat.le_refl _) h).1 hc; omega
theorem pre_app (p : UInt8 → Bool) : ∀ (n r : List UInt8), (∀ c ∈ n, p c = true) → (∀ c, r.head? = some c → p c = false) → pre p (n ++ r) = n.length
  | [], r, _, h2 => by
    cases r with
    | nil => rfl
    | cons c r => show (if p c = true then _ else 0) = 0; rw [if_neg (by simp [h2 c rfl])]
  | c :: n, r, h1, h2 => by
    show (if p c = true then pre p (n ++ r) + 1 else 0) = n.length + 1
    rw [if_pos (h1 c (by simp)), pre_app p n r (fun c hc => h1 c (by simp [hc])) h2]
/-- The value of digits. -/
def valN (l : List UInt8) : Int := l.foldl (fun v c => v * 10 + ((c.toNat : Int) - 48)) 0
theorem valN_snoc (l : List UInt8) (c : UInt8) : valN (l ++ [c]) = valN l * 10 + ((c.toNat : Int) - 48) := by simp [valN]
theorem tk_snoc (l : List UInt8) (k : Nat) (h : k < l.length) : l.take (k + 1) = l.take k ++ [l.getD k 0] := by
  rw [List.take_add_one, List.getElem?_eq_getElem h]
  simp [h]
theorem valN_step (l : List UInt8) (k : Nat) (h : k < l.length) : valN (l.take (k + 1)) = valN (l.take k) * 10 + (((l.getD k 0).toNat : Int) - 48) := by
  rw [tk_snoc l k h, valN_snoc]
theorem valN_bound (l : List UInt8) : ∀ k, k ≤ pre isDg l → 0 ≤ valN (l.take k) ∧ valN (l.take k) < 10 ^ k
  | 0, _ => by simp [valN]
  | k + 1, h => by
    have hk := pre_le isDg l
    have ih := valN_bound l k (by omega)
    have hd := pre_mem isDg l k (by omega)
    unfold isDg at hd
    simp only [Bool.and_eq_true, decide_eq_true_eq] at hd
    rw [valN_step l k (by omega), Int.pow_succ]
    omega
theorem valN_pos (l : List UInt8) (h : 1 ≤ pre isDg l) (h0 : (l.getD 0 0).toNat ≠ 48) : ∀ k, 1 ≤ k → k ≤ pre isDg l → 1 ≤ valN (l.take k)
  | 0, h1, _ => by omega
  | k + 1, _, h2 => by
    have hk := pre_le isDg l
    have hd := pre_mem isDg l k (by omega)
    unfold isDg at hd
    simp only [Bool.and_eq_true, decide_eq_true_eq] at hd
    rw [valN_step l k (by omega)]
    cases k with
    | zero =>
      have e : valN (l.take 0) = 0 := by simp [valN]
      rw [e]; omega
    | succ k => have := valN_pos l h h0 (k + 1) (by omega) (by omega); omega
/-- A number without sign at the beginning: its value, its length. -/
def numAt (l : List UInt8) : Option (Int × Nat) :=
  if pre isDg l = 0 ∨ 9 < pre isDg l ∨ (1 < pre isDg l ∧ (l.getD 0 0).toNat = 48) then none else some (valN (l.take (pre isDg l)), pre isDg l)
theorem num_bound {l : List UInt8} {v : Int} {n : Nat} (h : numAt l = some (v, n)) : 0 ≤ v ∧ v < 1000000000 ∧ 1 ≤ n ∧ n ≤ 9 ∧ n ≤ l.length ∧ n = pre isDg l ∧ (v = 0 ↔ (l.getD 0 0).toNat = 48) := by
  unfold numAt at h
  split at h
  · cases h
  · rename_i hc
    simp only [Option.some.injEq, Prod.mk.injEq] at h
    obtain ⟨rfl, rfl⟩ := h
    have hb := valN_bound l (pre isDg l) (Nat.le_refl _)
    have hk := pre_le isDg l
    have hp : (10 : Int) ^ (pre isDg l) ≤ 10 ^ 9 := by
      have : (10 : Int) ^ (pre isDg l) * 10 ^ (9 - pre isDg l) = 10 ^ 9 := by rw [← Int.pow_add]; congr 1; omega
      have h1 : (1 : Int) ≤ 10 ^ (9 - pre isDg l) := by
        have := Int.pow_pos (n := 10) (m := 9 - pre isDg l) (by decide)
        omega
      have h2 : (0 : Int) ≤ 10 ^ (pre isDg l) := by
        have := Int.pow_pos (n := 10) (m := pre isDg l) (by decide)
        omega
      have := Int.mul_le_mul_of_nonneg_left h1 h2
      omega
    refine ⟨hb.1, by omega, by omega, by omega, by omega, rfl, ?_⟩
    constructor
    · intro hv
      by_cases h0 : (l.getD 0 0).toNat = 48
      · exact h0
      · have := valN_pos l (by omega) h0 (pre isDg l) (by omega) (Nat.le_refl _)
        omega
    · intro h0
      have h1 : pre isDg l = 1 := by omega
      rw [h1]
      have h2 := valN_step l 0 (by omega)
      rw [h2, h0]
      simp [valN]
/-- A number, which may be below nought where 'sg' says so: its value, its length. -/
def numS (sg : Bool) (l : List UInt8) : Option (Int × Nat) :=
  if sg = true ∧ (l.head?.map UInt8.toNat) = some 45 then
    match numAt l.tail with
    | some (v, n) => if v = 0 then none else some (-v, n + 1)
    | none => none
  else numAt l
def isFd (c : UInt8) : Bool := c == 65 || c == 66 || c == 68 || c == 72 || c == 73 || c == 78 || c == 64
def setF (x : NV) (c : UInt8) (v : Int) : NV :=
  if c = 65 then { x with a := v } else if c = 66 then { x with b := v } else if c = 68 then { x with d := v } else if c = 72 then { x with h := v } else { x with imm := v }
/-- A form laid at a line. -/
def fit : List UInt8 → List UInt8 → NV → Option NV
  | [], l, x => if l = [] then some x else none
  | c :: ps, l, x =>
    if isFd c = true then
      match numS (c == 73) l with
      | some (v, n) => fit ps (l.drop n) (setF x c v)
      | none => none
    else
      match l with
      | [] => none
      | r :: l' => if r = c then fit ps l' x else none
theorem setF_op (x : NV) (c : UInt8) (v o : Int) : setF { x with op := o } c v = { setF x c v with op := o } := by
  unfold setF; repeat' split
  all_goals rfl
theorem fit_op : ∀ (ps l : List UInt8) (x : NV) (o : Int), fit ps l { x with op := o } = (fit ps l x).map fun y => { y with op := o }
  | [], l, x, o => by unfold fit; split <;> rfl
  | c :: ps, l, x, o => by
    unfold fit
    split
    · cases numS (c == 73) l with
      | none => rfl
      | some v => obtain ⟨v, n⟩ := v; simp only; rw [setF_op, fit_op]
    · cases l with
      | nil => rfl
      | cons r l => simp only; split <;> first | rfl | exact fit_op ps l x o
def lbl (c : UInt8) : UInt8 := if c = 64 then 78 else c
theorem fit_lbl : ∀ (ps l : List UInt8) (x : NV), fit (ps.map lbl) l x = fit ps l x
  | [], l, x => rfl
  | c :: ps, l, x => by
    by_cases h : c = 64
    · subst h
      show fit (78 :: ps.map lbl) l x = fit (64 :: ps) l x
      have e1 : isFd 78 = true := rfl
      have e2 : isFd 64 = true := rfl
      simp only [fit, e1, e2, if_true]
      have e3 : ((78 : UInt8) == 73) = ((64 : UInt8) == 73) := rfl
      rw [e3]
      cases numS ((64 : UInt8) == 73) l with
      | none => rfl
      | some v => obtain ⟨v, n⟩ := v; exact fit_lbl ps _ _
    · show fit (lbl c :: ps.map lbl) l x = fit (c :: ps) l x
      have e : lbl c = c := by unfold lbl; rw [if_neg h]
      rw [e]
      unfold fit
      split
      · cases numS (c == 73) l with
        | none => rfl
        | some v => obtain ⟨v, n⟩ := v; exact fit_lbl ps _ _
      · cases l with
        | nil => rfl
        | cons r l => simp only; split <;> first | rfl | exact fit_lbl ps l x
/-- The number of the op that has this name; nought, if none has. -/
def opOf (n : List UInt8) : Int := if (nmT.map fun s => s.data.toList).contains n = true then (((nmT.map fun s => s.data.toList).idxOf n : Nat) : Int) else 0
/-- The form of an op, or of a label. -/
def ptL (d h : Int) : List UInt8 := (ptS d h).data.toList
/-- An instruction's line. -/
def insL (d : Int) (l : List UInt8) : Option NV :=
  if opOf (l.take (pre isAz l)) = 0 then none else fit (ptL d (shpI (opOf (l.take (pre isAz l))))) (l.drop (pre isAz l)) { nv0 with op := opOf (l.take (pre isAz l)) }
def canS (x : NV) : Bool := implIns x.op x.d x.a x.b (if jumpB x.op = true then 0 else x.imm) x.h
/-- What a line says: a label or an instruction. -/
def rdLine (d : Int) (l : List UInt8) : Option (Bool × NV) :=
  match fit (ptL d 64) l nv0 with
  | some x => some (true, x)
  | none =>
    match insL d l with
    | some x => if canS x = true then some (false, x) else none
    | none => none
abbrev Row := Bool × NV
/-- How many instructions. -/
def cntI (rows : List Row) : Nat := (rows.filter fun r => !r.1).length
/-- Where a label leads. -/
def labI : List Row → Nat → Int → Option Nat
  | [], _, _ => none
  | r :: rows, at', num => if r.1 = true ∧ r.2.imm = num then some at' else labI rows (if r.1 = true then at' else at' + 1) num
def labOf (rows : List Row) (num : Int) : Option Nat := labI rows 0 num
/-- The lines of a text, up to the first that is wrong: the error, the lines ahead of it. -/
def rdT (d : Int) (t : List UInt8) (rows : List Row) : Int × List Row :=
  if _h : t = [] then (0, rows) else
  if _hn : pre noNl t = t.length then (2, rows) else
  match rdLine d (t.take (pre noNl t)) with
  | none => (2, rows)
  | some (true, x) => if (labOf rows x.imm).isSome = true then (3, rows) else rdT d (t.drop (pre noNl t + 1)) (rows ++ [(true, x)])
  | some (false, x) => rdT d (t.drop (pre noNl t + 1)) (rows ++ [(false, x)])
termination_by t.length
decreasing_by
  all_goals
    have : t.length ≠ 0 := fun e => _h (List.length_eq_zero_iff.1 e)
    simp only [List.length_drop]
    omega
/-- Does a line's label lead to no instruction? -/
def lostR (rows : List Row) (r : Row) : Bool := (r.1 || jumpB r.2.op) && (match labOf rows r.2.imm with | some at' => at' == cntI rows | none => true)
/-- The number of the first such line; nought, if there is none. -/
def lostI (rows : List Row) : Int := match rows.findIdx? (lostR rows) with | some i => (i : Int) + 1 | none => 0
def toI (rows : List Row) (x : NV) : NV := if jumpB x.op = true then { x with imm := (((labOf rows x.imm).getD 0 : Nat) : Int) } else x
def prgI (rows part : List Row) : List NV := (part.filter fun r => !r.1).map fun r => toI rows r.2
def nvF (x : NV) : Nat → Int
  | 0 => x.op
  | 1 => x.d
  | 2 => x.a
  | 3 => x.b
  | 4 => x.imm
  | _ => x.h
def prF (xs : List NV) (i j : Nat) : Int := nvF (xs.getD i nv0) j
/-- What is read: the error, its line, the program. -/
def rdA (d : Int) (t : List UInt8) : Int × Int × List NV :=
  if 100000 < t.length ∨ inB d 0 1 = false then (1, 0, []) else
  if (rdT d t []).1 ≠ 0 then ((rdT d t []).1, ((rdT d t []).2.length : Int) + 1, []) else
  if lostI (rdT d t []).2 ≠ 0 then (4, lostI (rdT d t []).2, []) else
  if flatOK (prgI (rdT d t []).2 (rdT d t []).2).length (prF (prgI (rdT d t []).2 (rdT d t []).2)) = true then (0, 0, prgI (rdT d t []).2 (rdT d t []).2) else (5, 0, [])
end Go.Proofs.YtdbhgaegblclaaaDoor
/- Reading lines of text: the model's way is the program's. -/
namespace Go.Proofs.YtdbhgaegblclaaaDoor
open Go.RowKit

def nmL (op : Int) : List UInt8 := (nmS op).data.toList
def shL (d op : Int) : List UInt8 := (shpS d op).data.toList
def frL (d op : Int) : List UInt8 := nmL op ++ (if shL d op = [] then [] else [32])
theorem ptL_shL (d op : Int) (h1 : 1 ≤ op) (h2 : op ≤ 34) (hd : d = 0 ∨ d = 1) : ptL d (shpI op) = if shL d op = [] then [] else 32 :: (shL d op).map lbl := by
  obtain rfl | rfl | rfl | rfl | rfl | rfl | rfl | rfl | rfl | rfl | rfl | rfl | rfl | rfl | rfl | rfl | rfl | rfl | rfl | rfl | rfl | rfl | rfl | rfl | rfl | rfl | rfl | rfl | rfl | rfl | rfl | rfl | rfl | rfl : op = 1 ∨ op = 2 ∨ op = 3 ∨ op = 4 ∨ op = 5 ∨ op = 6 ∨ op = 7 ∨ op = 8 ∨ op = 9 ∨ op = 10 ∨ op = 11 ∨ op = 12 ∨ op = 13 ∨ op = 14 ∨ op = 15 ∨ op = 16 ∨ op = 17 ∨ op = 18 ∨ op = 19 ∨ op = 20 ∨ op = 21 ∨ op = 22 ∨ op = 23 ∨ op = 24 ∨ op = 25 ∨ op = 26 ∨ op = 27 ∨ op = 28 ∨ op = 29 ∨ op = 30 ∨ op = 31 ∨ op = 32 ∨ op = 33 ∨ op = 34 := by omega
  all_goals (rcases hd with rfl | rfl <;> rfl)
theorem nm_facts : ∀ k : Nat, k < 34 → (nmL ((k : Int) + 1)).all isAz = true ∧ nmL ((k : Int) + 1) ≠ [] ∧ opOf (nmL ((k : Int) + 1)) = (k : Int) + 1 := by decide
theorem nm_all {op : Int} (h1 : 1 ≤ op) (h2 : op ≤ 34) : (∀ c ∈ nmL op, isAz c = true) ∧ nmL op ≠ [] ∧ opOf (nmL op) = op := by
  have h := nm_facts (op - 1).toNat (by omega)
  rw [show (((op - 1).toNat : Nat) : Int) + 1 = op by omega] at h
  exact ⟨fun c hc => List.all_eq_true.1 h.1 c hc, h.2⟩
theorem op_back {n : List UInt8} {op : Int} (h : opOf n = op) (h0 : op ≠ 0) : 1 ≤ op ∧ op ≤ 34 ∧ n = nmL op := by
  unfold opOf at h
  split at h
  · rename_i hc
    have hm : n ∈ nmT.map fun s => s.data.toList := by simpa using hc
    have hl := List.idxOf_lt_length_of_mem hm
    have h35 : (nmT.map fun s => s.data.toList).length = 35 := rfl
    have hg : (nmT.map fun s => s.data.toList)[(nmT.map fun s => s.data.toList).idxOf n]'hl = n := List.getElem_idxOf hl
    have e1 : (nmT.map fun s => s.data.toList).idxOf n = op.toNat := by omega
    refine ⟨by omega, by omega, ?_⟩
    rw [← hg]
    unfold nmL nmS
    simp only [List.getElem_map, e1]
    have : op.toNat < nmT.length := by have : nmT.length = 35 := rfl; omega
    rw [List.getD_eq_getElem?_getD, List.getElem?_eq_getElem this]
    rfl
  · exact absurd h.symm h0
theorem take_split {s f : List UInt8} (h : s.take f.length = f) : s = f ++ s.drop f.length := by
  have := List.take_append_drop f.length s
  rw [h] at this
  exact this.symm
theorem fit_cons_lit (c : UInt8) (ps l : List UInt8) (x : NV) (h : isFd c = false) : fit (c :: ps) l x = match l with | [] => none | r :: l' => if r = c then fit ps l' x else none := by
  show (if isFd c = true then _ else _) = _
  rw [if_neg (by simp [h])]
  cases l <;> rfl
/-- The model's look at one op, and the program's. -/
theorem hit_same (d op : Int) (h1 : 1 ≤ op) (h2 : op ≤ 34) (hd : d = 0 ∨ d = 1) (s : List UInt8) (x : NV) :
    (if s.take (frL d op).length = frL d op then fit (shL d op) (s.drop (frL d op).length) x else none) = if s.take (pre isAz s) = nmL op then fit (ptL d (shpI op)) (s.drop (pre isAz s)) x else none := by
  obtain ⟨hall, hne, _⟩ := nm_all h1 h2
  rw [ptL_shL d op h1 h2 hd]
  by_cases hsh : shL d op = []
  · have hfr : frL d op = nmL op := by unfold frL; rw [if_pos hsh, List.append_nil]
    rw [hfr, hsh, if_pos rfl]
    by_cases ht : s.take (nmL op).length = nmL op
    · rw [if_pos ht]
      have hs := take_split ht
      by_cases hdr : s.drop (nmL op).length = []
      · have hp : pre isAz s = (nmL op).length := by
          rw [hs, hdr]; exact pre_app isAz _ _ hall (by simp)
        rw [hp, if_pos ht]
      · have e1 : fit [] (s.drop (nmL op).length) x = none := by show (if _ = [] then _ else _) = _; rw [if_neg hdr]
        rw [e1]
        split
        · rename_i hq
          have hl : pre isAz s = (nmL op).length := by
            have := congrArg List.length hq
            rw [List.length_take] at this
            have := pre_le isAz s
            omega
          rw [hl]
          show none = (if _ = [] then _ else _)
          rw [if_neg hdr]
        · rfl
    · rw [if_neg ht]
      split
      · rename_i hq
        have hl : pre isAz s = (nmL op).length := by
          have := congrArg List.length hq
          rw [List.length_take] at this
          have := pre_le isAz s
          omega
        rw [hl] at hq
        exact absurd hq ht
      · rfl
  · have hfr : frL d op = nmL op ++ [32] := by unfold frL; rw [if_neg hsh]
    rw [hfr, if_neg hsh]
    by_cases ht : s.take (nmL op ++ [32]).length = nmL op ++ [32]
    · rw [if_pos ht]
      have hs := take_split ht
      have hs2 : s = nmL op ++ 32 :: s.drop (nmL op ++ [32]).length := by
        have : nmL op ++ 32 :: s.drop (nmL op ++ [32]).length = (nmL op ++ [32]) ++ s.drop (nmL op ++ [32]).length := by simp
        rw [this]; exact hs
      have hp : pre isAz s = (nmL op).length := by
        rw [hs2]
        exact pre_app isAz _ _ hall (by intro c hc; simp at hc; subst hc; decide)
      have htk : s.take (pre isAz s) = nmL op := by rw [hp, hs2]; simp
      have hdr : s.drop (pre isAz s) = 32 :: s.drop (nmL op ++ [32]).length := by
        rw [hp]
        conv => lhs; rw [hs2]
        simp
      rw [if_pos htk, hdr, fit_cons_lit 32 _ _ _ rfl]
      simp only [if_true]
      rw [fit_lbl]
    · rw [if_neg ht]
      split
      · rename_i hq
        rw [fit_cons_lit 32 _ _ _ rfl]
        have hs := List.take_append_drop (pre isAz s) s
        rw [hq] at hs
        rcases hdr : s.drop (pre isAz s) with _ | ⟨c, r⟩
        · rfl
        · simp only
          split
          · rename_i hc
            subst hc
            rw [hdr] at hs
            refine absurd ?_ ht
            rw [← hs]
            have : nmL op ++ 32 :: r = (nmL op ++ [32]) ++ r := by simp
            rw [this, List.take_left']
            rfl
          · rfl
      · rfl
/-- One op's look. -/
def hitO (d op : Int) (s : List UInt8) : Option NV := if s.take (pre isAz s) = nmL op then fit (ptL d (shpI op)) (s.drop (pre isAz s)) nv0 else none
theorem insL_hit {d op : Int} {s : List UInt8} {x : NV} (h1 : 1 ≤ op) (h2 : op ≤ 34) (h : hitO d op s = some x) : insL d s = some { x with op := op } := by
  unfold hitO at h
  split at h
  · rename_i hq
    have ho := (nm_all h1 h2).2.2
    unfold insL
    rw [hq, ho, if_neg (by omega), fit_op, h]
    rfl
  · cases h
theorem insL_none {d : Int} {s : List UInt8} (h : ∀ op : Int, 1 ≤ op → op ≤ 34 → hitO d op s = none) : insL d s = none := by
  unfold insL
  split
  · rfl
  · rename_i h0
    obtain ⟨h1, h2, h3⟩ := op_back rfl h0
    have := h _ h1 h2
    unfold hitO at this
    rw [if_pos h3] at this
    rw [fit_op, this]
    rfl
/-- How a label begins. -/
def lbF (d : Int) : List UInt8 := if d = 0 then [46, 76] else [76]
theorem mark_same (d : Int) (hd : d = 0 ∨ d = 1) (s : List UInt8) :
    fit (ptL d 64) s nv0 = if s.take (lbF d).length = lbF d then (match numAt (s.drop (lbF d).length) with | some (v, n) => if s.drop ((lbF d).length + n) = [58] then some { nv0 with imm := v } else none | none => none) else none := by
  have last : ∀ (r : List UInt8) (x : NV), fit [58] r x = if r = [58] then some x else none := fun r x => by
    rw [fit_cons_lit 58 _ _ _ rfl]
    rcases r with _ | ⟨c, r⟩
    · rfl
    · simp only
      by_cases hc : c = 58
      · subst hc
        rw [if_pos rfl]
        show (if r = [] then _ else _) = _
        by_cases hr : r = []
        · subst hr; rfl
        · rw [if_neg hr, if_neg (by simpa using hr)]
      · rw [if_neg hc, if_neg (by intro h; exact hc (List.cons.inj h).1)]
  have num : ∀ (r : List UInt8), fit [78, 58] r nv0 = match numAt r with | some (v, n) => if r.drop n = [58] then some { nv0 with imm := v } else none | none => none := fun r => by
    show (if isFd 78 = true then (match numS ((78 : UInt8) == 73) r with | some (v, n) => fit [58] (r.drop n) (setF nv0 78 v) | none => none) else _) = _
    rw [if_pos (show isFd 78 = true from rfl)]
    have e : numS ((78 : UInt8) == 73) r = numAt r := by unfold numS; rw [if_neg (by intro h; exact absurd h.1 (by decide))]
    rw [e]
    cases numAt r with
    | none => rfl
    | some p => obtain ⟨v, n⟩ := p; simp only [last]; rfl
  rcases hd with rfl | rfl
  · have e : ptL 0 64 = [46, 76, 78, 58] := rfl
    have e2 : lbF 0 = [46, 76] := rfl
    rw [e, e2, fit_cons_lit 46 _ _ _ rfl]
    rcases s with _ | ⟨c, s⟩
    · rfl
    · simp only
      by_cases hc : c = 46
      · subst hc
        rw [if_pos rfl, fit_cons_lit 76 _ _ _ rfl]
        rcases s with _ | ⟨c2, s⟩
        · rfl
        · simp only
          by_cases hc2 : c2 = 76
          · subst hc2
            rw [if_pos rfl, num, if_pos (by rfl)]
            have : ∀ n, (46 :: 76 :: s).drop (([46, 76] : List UInt8).length + n) = s.drop n := fun n => by rw [Nat.add_comm]; rfl
            rw [show List.drop ([46, 76] : List UInt8).length (46 :: 76 :: s) = s from rfl]
            cases numAt s with
            | none => rfl
            | some p => obtain ⟨v, n⟩ := p; simp only [this]
          · rw [if_neg hc2, if_neg (by intro h; simp at h; exact hc2 h)]
      · rw [if_neg hc, if_neg (by intro h; simp at h; exact hc h.1)]
  · have e : ptL 1 64 = [76, 78, 58] := rfl
    have e2 : lbF 1 = [76] := rfl
    rw [e, e2, fit_cons_lit 76 _ _ _ rfl]
    rcases s with _ | ⟨c, s⟩
    · rfl
    · simp only
      by_cases hc : c = 76
      · subst hc
        rw [if_pos rfl, num, if_pos (by rfl)]
        have : ∀ n, (76 :: s).drop (([76] : List UInt8).length + n) = s.drop n := fun n => by rw [Nat.add_comm]; rfl
        rw [show List.drop ([76] : List UInt8).length (76 :: s) = s from rfl]
        cases numAt s with
        | none => rfl
        | some p => obtain ⟨v, n⟩ := p; simp only [this]
      · rw [if_neg hc, if_neg (by intro h; simp at h; exact hc h)]
def lbC (d : Int) : UInt8 := if d = 0 then 46 else 76
theorem label_head {d : Int} (hd : d = 0 ∨ d = 1) {s : List UInt8} (h : s.head? ≠ some (lbC d)) : fit (ptL d 64) s nv0 = none := by
  rcases hd with rfl | rfl
  · show fit (46 :: [76, 78, 58]) s nv0 = none
    rw [fit_cons_lit 46 _ _ _ rfl]
    rcases s with _ | ⟨c, s⟩
    · rfl
    · simp only
      rw [if_neg (by intro e; subst e; exact h rfl)]
  · show fit (76 :: [78, 58]) s nv0 = none
    rw [fit_cons_lit 76 _ _ _ rfl]
    rcases s with _ | ⟨c, s⟩
    · rfl
    · simp only
      rw [if_neg (by intro e; subst e; exact h rfl)]
theorem label_ins {d : Int} (hd : d = 0 ∨ d = 1) {s : List UInt8} (h : s.head? = some (lbC d)) : insL d s = none := by
  have hp : pre isAz s = 0 := by
    rcases s with _ | ⟨c, s⟩
    · cases h
    · have hc : c = lbC d := by simpa using h
      show (if isAz c = true then _ else 0) = 0
      rw [if_neg (by subst hc; rcases hd with rfl | rfl <;> decide)]
  unfold insL
  rw [hp]
  rfl
/-- The lines of a text, and what stands behind the last newline. -/
def splitL : List UInt8 → List UInt8 → List (List UInt8) × List UInt8
  | [], cur => ([], cur)
  | c :: t, cur => if c.toNat = 10 then (cur :: (splitL t []).1, (splitL t []).2) else splitL t (cur ++ [c])
/-- The lines read one by one. -/
def rdLs (d : Int) : List (List UInt8) → Bool → List Row → Int × List Row
  | [], b, rows => if b = true then (2, rows) else (0, rows)
  | l :: ls, b, rows =>
    match rdLine d l with
    | none => (2, rows)
    | some (true, x) => if (labOf rows x.imm).isSome = true then (3, rows) else rdLs d ls b (rows ++ [(true, x)])
    | some (false, x) => rdLs d ls b (rows ++ [(false, x)])
theorem rdT_nil (d : Int) (rows : List Row) : rdT d [] rows = (0, rows) := by rw [rdT]; rfl
theorem rdT_tail (d : Int) (l : List UInt8) (rows : List Row) (h0 : l ≠ []) (h : ∀ c ∈ l, noNl c = true) : rdT d l rows = (2, rows) := by
  have hp : pre noNl l = l.length := by
    have := pre_app noNl l [] h (by simp)
    simpa using this
  rw [rdT, dif_neg h0, dif_pos hp]
theorem rdT_line (d : Int) (l r : List UInt8) (rows : List Row) (h : ∀ c ∈ l, noNl c = true) : rdT d (l ++ 10 :: r) rows =
    match rdLine d l with
    | none => (2, rows)
    | some (true, x) => if (labOf rows x.imm).isSome = true then (3, rows) else rdT d r (rows ++ [(true, x)])
    | some (false, x) => rdT d r (rows ++ [(false, x)]) := by
  have hp : pre noNl (l ++ 10 :: r) = l.length := pre_app noNl l _ h (by intro c hc; simp at hc; subst hc; decide)
  have h1 : (l ++ 10 :: r).take l.length = l := List.take_left' rfl
  have h2 : (l ++ 10 :: r).drop (l.length + 1) = r := by
    rw [← List.drop_drop, List.drop_left' rfl]; rfl
  rw [rdT, dif_neg (by simp), dif_neg (by rw [hp]; simp), hp, h1, h2]
  rcases rdLine d l with _ | ⟨_ | _, x⟩ <;> rfl
theorem rdT_split (d : Int) : ∀ (t cur : List UInt8) (rows : List Row), (∀ c ∈ cur, noNl c = true) → rdT d (cur ++ t) rows = rdLs d (splitL t cur).1 (!(splitL t cur).2.isEmpty) rows
  | [], cur, rows, h => by
    rw [List.append_nil]
    show _ = rdLs d [] (!cur.isEmpty) rows
    by_cases h0 : cur = []
    · subst h0; rw [rdT_nil]; rfl
    · rw [rdT_tail d cur rows h0 h]
      have : cur.isEmpty = false := by cases cur with | nil => exact absurd rfl h0 | cons a l => rfl
      rw [this]; rfl
  | c :: t, cur, rows, h => by
    by_cases hc : c.toNat = 10
    · have hc' : c = 10 := by
        apply UInt8.toNat_inj.1
        rw [hc]; rfl
      subst hc'
      have e : splitL (10 :: t) cur = (cur :: (splitL t []).1, (splitL t []).2) := by show (if _ then _ else _) = _; rw [if_pos hc]
      rw [e, rdT_line d cur t rows h]
      show _ = rdLs d (cur :: (splitL t []).1) _ rows
      unfold rdLs
      cases rdLine d cur with
      | none => rfl
      | some p =>
        obtain ⟨b, x⟩ := p
        cases b with
        | true =>
          simp only
          split
          · rfl
          · exact rdT_split d t [] _ (by simp)
        | false => exact rdT_split d t [] _ (by simp)
    · have e : splitL (c :: t) cur = splitL t (cur ++ [c]) := by show (if _ then _ else _) = _; rw [if_neg hc]
      rw [e]
      have e2 : cur ++ c :: t = (cur ++ [c]) ++ t := by simp
      rw [e2]
      refine rdT_split d t (cur ++ [c]) rows fun c' hc' => ?_
      rcases List.mem_append.1 hc' with h1 | h1
      · exact h c' h1
      · have : c' = c := by simpa using h1
        subst this
        simp [noNl, hc]
end Go.Proofs.YtdbhgaegblclaaaDoor
