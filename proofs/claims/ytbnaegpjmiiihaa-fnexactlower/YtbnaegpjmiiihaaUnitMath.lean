/- Units: the mathematics of the model's check. -/
import Derived.Test.YtbnaegpjmiiihaaUnitSize
namespace Go.Proofs.Ytbnaegpjmiiihaa
open Go.RowKit
/-- A procedure's list. -/
structure PV where
  n : Nat
  L : Nat → SV
def pF (Pv : Nat → PV) (blk : Nat → Nat) (i : Nat) : Value := .slice (some ⟨blk i, 0, none⟩) (Pv i).n (Pv i).n
/-- A list of procedures, copied. -/
structure PCp (w : World) (bp np : Nat) (Pv : Nat → PV) (blk : Nat → Nat) : Prop where
  r : Arr w bp np (pF Pv blk)
  b : ∀ i, i < np → Arr w (blk i) ((Pv i).n * 11) (stF (Pv i).L)
theorem PCp.below {w w' : World} {bp np : Nat} {Pv : Nat → PV} {blk : Nat → Nat} (h : PCp w bp np Pv blk) (hb : Below w.heap.size w w') : PCp w' bp np Pv blk :=
  ⟨h.r.below hb h.r.lt, fun i hi => (h.b i hi).below hb (h.b i hi).lt⟩
def findBad (Pv : Nat → PV) (np : Nat) : Nat → Nat → Int × Int × Int
  | 0, _ => (0, 0, 0)
  | k + 1, p => if 500 < (Pv p).n then (1, (p : Int), 0) else if (chk (Pv p).L (p : Int) (np : Int) 16 0 (Pv p).n 0).1 ≠ 0 then ((chk (Pv p).L (p : Int) (np : Int) 16 0 (Pv p).n 0).1, (p : Int), (chk (Pv p).L (p : Int) (np : Int) 16 0 (Pv p).n 0).2) else findBad Pv np k (p + 1)
def zs (Pv : Nat → PV) (np : Nat) : Nat → Nat → Int
  | 0 => fun _ => 0
  | k + 1 => fun i => if i = np - 1 - k then capI (szTo (Pv (np - 1 - k)).L (zs Pv np k) (Pv (np - 1 - k)).n) else zs Pv np k i
/-- What is wrong with a unit: Err, Proc, At. -/
def unitR (Pv : Nat → PV) (np : Nat) : Int × Int × Int :=
  if np < 1 ∨ 20 < np then (1, 0, 0) else if (findBad Pv np np 0).1 ≠ 0 then findBad Pv np np 0 else if 2000 < zs Pv np np 0 + 1 then (6, 0, 0) else (0, 0, 0)
theorem capI_in {x : Int} (h : 0 ≤ x) : 0 ≤ capI x ∧ capI x ≤ 2001 := by unfold capI; split <;> omega
theorem zs_in (Pv : Nat → PV) (np k : Nat) : ∀ i, 0 ≤ zs Pv np k i ∧ zs Pv np k i ≤ 2001 := by
  induction k with
  | zero => intro i; exact ⟨Int.le_refl _, by show (0 : Int) ≤ 2001; decide⟩
  | succ k ih =>
    intro i
    show 0 ≤ (if i = np - 1 - k then capI (szTo (Pv (np - 1 - k)).L (zs Pv np k) (Pv (np - 1 - k)).n) else zs Pv np k i) ∧ (if i = np - 1 - k then capI (szTo (Pv (np - 1 - k)).L (zs Pv np k) (Pv (np - 1 - k)).n) else zs Pv np k i) ≤ 2001
    split
    · exact capI_in (szTo_pos (fun i => (ih i).1) _)
    · exact ih i
theorem chk_all (L : Nat → SV) (me procs deep : Int) : ∀ (m i te : Nat) (depth : Int), te - i ≤ m → (chk L me procs deep i te depth).1 = 0 → ∀ j, i ≤ j → j < te → stOK (L j) procs = true := by
  intro m
  induction m using Nat.strongRecOn with
  | ind m ih =>
  intro i te depth hm h0 j hij hjt
  have hlt : i < te := by omega
  by_cases h1 : stOK (L i) procs = false
  · rw [chk_bad hlt h1] at h0; exact absurd h0 (by simp)
  by_cases h2 : i + 1 + (L i).thn.toNat + (L i).els.toNat ≤ te
  rotate_left
  · rw [chk_shape hlt h1 h2] at h0; exact absurd h0 (by simp)
  by_cases h3 : ((L i).k = 2 ∨ (L i).k = 3) ∧ deep ≤ depth
  · rw [chk_deep hlt h1 h2 h3] at h0; exact absurd h0 (by simp)
  by_cases h4 : (L i).k = 4 ∧ (L i).proc ≤ me
  · rw [chk_rec hlt h1 h2 h3 h4] at h0; exact absurd h0 (by simp)
  rw [chk_then hlt h1 h2 h3 h4] at h0
  by_cases z1 : (chk L me procs deep (i + 1) (i + 1 + (L i).thn.toNat) (depth + 1)).1 ≠ 0
  · rw [if_pos z1] at h0; exact absurd h0 z1
  rw [if_neg z1] at h0
  by_cases z2 : (chk L me procs deep (i + 1 + (L i).thn.toNat) (i + 1 + (L i).thn.toNat + (L i).els.toNat) (depth + 1)).1 ≠ 0
  · rw [if_pos z2] at h0; exact absurd h0 z2
  rw [if_neg z2] at h0
  by_cases e : j = i
  · rw [e]; simpa using h1
  by_cases e1 : j < i + 1 + (L i).thn.toNat
  · exact ih (te - i - 1) (by omega) (i + 1) _ (depth + 1) (by omega) (by simpa using z1) j (by omega) e1
  by_cases e2 : j < i + 1 + (L i).thn.toNat + (L i).els.toNat
  · exact ih (te - i - 1) (by omega) (i + 1 + (L i).thn.toNat) _ (depth + 1) (by omega) (by simpa using z2) j (by omega) e2
  · exact ih (te - i - 1) (by omega) _ te depth (by omega) h0 j (by omega) hjt
theorem st_call {s : SV} {procs : Int} (h : stOK s procs = true) (k : s.k = 4) : 0 ≤ s.proc ∧ s.proc < procs := by
  unfold stOK at h
  rw [if_neg (by omega), if_neg (by omega), if_neg (by omega), if_pos k] at h
  have := of_decide_eq_true h
  omega
theorem find_step {Pv : Nat → PV} {np k p : Nat} (h1 : ¬ 500 < (Pv p).n) (h2 : ¬ (chk (Pv p).L (p : Int) (np : Int) 16 0 (Pv p).n 0).1 ≠ 0) : findBad Pv np (k + 1) p = findBad Pv np k (p + 1) := by
  show (if 500 < (Pv p).n then _ else _) = _
  rw [if_neg h1, if_neg h2]
theorem find_all {Pv : Nat → PV} {np : Nat} : ∀ (k p : Nat), (findBad Pv np k p).1 = 0 → ∀ q, p ≤ q → q < p + k → ¬ 500 < (Pv q).n ∧ (chk (Pv q).L (q : Int) (np : Int) 16 0 (Pv q).n 0).1 = 0
  | 0, p, _, q, h1, h2 => by omega
  | k + 1, p, h, q, h1, h2 => by
    by_cases a : 500 < (Pv p).n
    · exfalso
      have : findBad Pv np (k + 1) p = (1, (p : Int), 0) := by show (if 500 < (Pv p).n then _ else _) = _; rw [if_pos a]
      rw [this] at h; exact absurd h (by simp)
    · by_cases b : (chk (Pv p).L (p : Int) (np : Int) 16 0 (Pv p).n 0).1 ≠ 0
      · exfalso
        have : findBad Pv np (k + 1) p = ((chk (Pv p).L (p : Int) (np : Int) 16 0 (Pv p).n 0).1, (p : Int), (chk (Pv p).L (p : Int) (np : Int) 16 0 (Pv p).n 0).2) := by show (if 500 < (Pv p).n then _ else _) = _; rw [if_neg a, if_pos b]
        rw [this] at h; exact absurd h b
      · by_cases e : q = p
        · subst e; exact ⟨a, by simpa using b⟩
        · rw [find_step a b] at h
          exact find_all k (p + 1) h q (by omega) (by omega)
end Go.Proofs.Ytbnaegpjmiiihaa
