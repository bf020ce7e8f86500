/- Units inlined: the mathematics. -/
import Derived.Test.YthicfjjaehkcnaaUnitMeasure
namespace Go.Proofs.Ythicfjjaehkcnaa
open Go.RowKit
def stL (s : SV) : List Value := [.int .i64 s.k, .int .i64 s.op, .int .i64 s.d, .int .i64 s.a, .int .i64 s.b, .int .i64 s.imm, .int .i64 s.h, .int .i64 s.cond, .int .i64 s.thn, .int .i64 s.els, .int .i64 s.proc]
/-- The cells of a list. -/
def cs (xs : List SV) : List Value := xs.flatMap stL
theorem cs_len (xs : List SV) : (cs xs).length = xs.length * 11 := by
  induction xs with
  | nil => rfl
  | cons a l ih => show (stL a ++ cs l).length = (l.length + 1) * 11; rw [List.length_append, ih]; show 11 + _ = _; omega
theorem cs_app (a b : List SV) : cs (a ++ b) = cs a ++ cs b := by simp [cs]
theorem cs_one (s : SV) : cs [s] = stL s := by simp [cs]
theorem cs_get (xs : List SV) (d : SV) : ∀ p, p < xs.length * 11 → (cs xs)[p]? = some (stF (fun i => xs.getD i d) p) := by
  induction xs with
  | nil => intro p h; simp at h
  | cons a l ih =>
    intro p h
    show (stL a ++ cs l)[p]? = _
    by_cases hp : p < 11
    · rw [List.getElem?_append_left (by show p < 11; exact hp)]
      unfold stF
      rw [show p / 11 = 0 by omega, show p % 11 = p by omega]
      match p, hp with
      | 0, _ => rfl
      | 1, _ => rfl
      | 2, _ => rfl
      | 3, _ => rfl
      | 4, _ => rfl
      | 5, _ => rfl
      | 6, _ => rfl
      | 7, _ => rfl
      | 8, _ => rfl
      | 9, _ => rfl
      | 10, _ => rfl
    · rw [List.getElem?_append_right (by show 11 ≤ p; omega)]
      show (cs l)[p - 11]? = _
      rw [ih (p - 11) (by simp at h; omega)]
      unfold stF
      rw [show (p - 11) / 11 = p / 11 - 1 by omega, show (p - 11) % 11 = p % 11 by omega]
      obtain ⟨k, hk⟩ : ∃ k, p / 11 = k + 1 := ⟨p / 11 - 1, by omega⟩
      rw [hk]
      rfl
/-- A block with its calls replaced. -/
def inlB (B : Nat → List SV) (L : Nat → SV) (i te : Nat) : List SV :=
  if _h : i < te then
    if _hs : i + 1 + (L i).thn.toNat + (L i).els.toNat ≤ te then
      (if (L i).k = 4 then B (L i).proc.toNat else { L i with thn := ((inlB B L (i + 1) (i + 1 + (L i).thn.toNat)).length : Int), els := ((inlB B L (i + 1 + (L i).thn.toNat) (i + 1 + (L i).thn.toNat + (L i).els.toNat)).length : Int) } :: (inlB B L (i + 1) (i + 1 + (L i).thn.toNat) ++ inlB B L (i + 1 + (L i).thn.toNat) (i + 1 + (L i).thn.toNat + (L i).els.toNat))) ++ inlB B L (i + 1 + (L i).thn.toNat + (L i).els.toNat) te
    else []
  else []
section
variable {B : Nat → List SV} {L : Nat → SV} {i te : Nat}
theorem inlB_end (h : ¬ i < te) : inlB B L i te = [] := by rw [inlB, dif_neg h]
theorem inlB_over (h : i < te) (hs : ¬ i + 1 + (L i).thn.toNat + (L i).els.toNat ≤ te) : inlB B L i te = [] := by rw [inlB, dif_pos h, dif_neg hs]
theorem inlB_call (h : i < te) (hs : i + 1 + (L i).thn.toNat + (L i).els.toNat ≤ te) (k : (L i).k = 4) : inlB B L i te = B (L i).proc.toNat ++ inlB B L (i + 1 + (L i).thn.toNat + (L i).els.toNat) te := by rw [inlB, dif_pos h, dif_pos hs, if_pos k]
/-- A statement whose blocks have become a and b. -/
def SV.put (s : SV) (a b : Nat) : SV := { s with thn := (a : Int), els := (b : Int) }
theorem inlB_node (h : i < te) (hs : i + 1 + (L i).thn.toNat + (L i).els.toNat ≤ te) (k : ¬ (L i).k = 4) : inlB B L i te = (L i).put (inlB B L (i + 1) (i + 1 + (L i).thn.toNat)).length (inlB B L (i + 1 + (L i).thn.toNat) (i + 1 + (L i).thn.toNat + (L i).els.toNat)).length :: (inlB B L (i + 1) (i + 1 + (L i).thn.toNat) ++ inlB B L (i + 1 + (L i).thn.toNat) (i + 1 + (L i).thn.toNat + (L i).els.toNat) ++ inlB B L (i + 1 + (L i).thn.toNat + (L i).els.toNat) te) := by
  rw [inlB, dif_pos h, dif_pos hs, if_neg k, List.cons_append, List.append_assoc]; rfl
end
theorem inlB_congr {B B' : Nat → List SV} {L : Nat → SV} : ∀ (m i te : Nat), te - i ≤ m → (∀ j, i ≤ j → j < te → (L j).k = 4 → B (L j).proc.toNat = B' (L j).proc.toNat) → inlB B L i te = inlB B' L i te := by
  intro m
  induction m with
  | zero => intro i te hm _; rw [inlB_end (by omega), inlB_end (by omega)]
  | succ m ih =>
    intro i te hm hc
    by_cases h : i < te
    rotate_left
    · rw [inlB_end h, inlB_end h]
    by_cases hs : i + 1 + (L i).thn.toNat + (L i).els.toNat ≤ te
    rotate_left
    · rw [inlB_over h hs, inlB_over h hs]
    have e3 := ih (i + 1 + (L i).thn.toNat + (L i).els.toNat) te (by omega) (fun j h1 h2 => hc j (by omega) h2)
    by_cases k : (L i).k = 4
    · rw [inlB_call h hs k, inlB_call h hs k, hc i (Nat.le_refl _) h k, e3]
    · have e1 := ih (i + 1) (i + 1 + (L i).thn.toNat) (by omega) (fun j h1 h2 => hc j (by omega) (by omega))
      have e2 := ih (i + 1 + (L i).thn.toNat) (i + 1 + (L i).thn.toNat + (L i).els.toNat) (by omega) (fun j h1 h2 => hc j (by omega) (by omega))
      rw [inlB_node h hs k, inlB_node h hs k, e1, e2, e3]
theorem inlB_len {B : Nat → List SV} {L : Nat → SV} {Z : Nat → Int} (z0 : ∀ i, 0 ≤ Z i) : ∀ (m i te : Nat), te - i ≤ m → i ≤ te → (∀ j, i ≤ j → j < te → (L j).k = 4 → ((B (L j).proc.toNat).length : Int) ≤ Z (L j).proc.toNat) → ((inlB B L i te).length : Int) ≤ szTo L Z te - szTo L Z i := by
  intro m
  induction m with
  | zero => intro i te hm hit _; rw [inlB_end (by omega), show i = te by omega]; simp
  | succ m ih =>
    intro i te hm hit hc
    have mono := szTo_mono (L := L) z0 hit
    by_cases h : i < te
    rotate_left
    · rw [inlB_end h]; simp; omega
    by_cases hs : i + 1 + (L i).thn.toNat + (L i).els.toNat ≤ te
    rotate_left
    · rw [inlB_over h hs]; simp; omega
    have e3 := ih (i + 1 + (L i).thn.toNat + (L i).els.toNat) te (by omega) hs (fun j h1 h2 => hc j (by omega) h2)
    have s1 : szTo L Z (i + 1) = szTo L Z i + wI (L i) Z := rfl
    have m1 := szTo_mono (L := L) z0 (show i + 1 ≤ i + 1 + (L i).thn.toNat + (L i).els.toNat by omega)
    by_cases k : (L i).k = 4
    · have e := hc i (Nat.le_refl _) h k
      have hw : wI (L i) Z = Z (L i).proc.toNat := by unfold wI; rw [if_neg (by omega), if_pos k]
      rw [inlB_call h hs k]
      simp only [List.length_append]
      omega
    · have e1 := ih (i + 1) (i + 1 + (L i).thn.toNat) (by omega) (by omega) (fun j h1 h2 => hc j (by omega) (by omega))
      have e2 := ih (i + 1 + (L i).thn.toNat) (i + 1 + (L i).thn.toNat + (L i).els.toNat) (by omega) (by omega) (fun j h1 h2 => hc j (by omega) (by omega))
      have hw : 1 ≤ wI (L i) Z := by unfold wI; split <;> (try rw [if_neg k]) <;> omega
      rw [inlB_node h hs k]
      simp only [List.length_append, List.length_cons]
      omega
theorem chk_calls (L : Nat → SV) (me procs deep : Int) : ∀ (m i te : Nat) (depth : Int), te - i ≤ m → (chk L me procs deep i te depth).1 = 0 → ∀ j, i ≤ j → j < te → ¬ ((L j).k = 4 ∧ (L j).proc ≤ me) := by
  intro m
  induction m using Nat.strongRecOn with
  | ind m ih =>
  intro i te depth hm h0 j hij hjt
  have hlt : i < te := by omega
  by_cases h1 : stOK (L i) procs = false
  · rw [chk_bad hlt h1] at h0; exact absurd h0 (by simp)
  by_cases h2 : i + 1 + (L i).thn.toNat + (L i).els.toNat ≤ te
  rotate_left
  · rw [chk_shape hlt h1 h2] at h0; exact absurd h0 (by simp)
  by_cases h3 : ((L i).k = 2 ∨ (L i).k = 3) ∧ deep ≤ depth
  · rw [chk_deep hlt h1 h2 h3] at h0; exact absurd h0 (by simp)
  by_cases h4 : (L i).k = 4 ∧ (L i).proc ≤ me
  · rw [chk_rec hlt h1 h2 h3 h4] at h0; exact absurd h0 (by simp)
  rw [chk_then hlt h1 h2 h3 h4] at h0
  by_cases z1 : (chk L me procs deep (i + 1) (i + 1 + (L i).thn.toNat) (depth + 1)).1 ≠ 0
  · rw [if_pos z1] at h0; exact absurd h0 z1
  rw [if_neg z1] at h0
  by_cases z2 : (chk L me procs deep (i + 1 + (L i).thn.toNat) (i + 1 + (L i).thn.toNat + (L i).els.toNat) (depth + 1)).1 ≠ 0
  · rw [if_pos z2] at h0; exact absurd h0 z2
  rw [if_neg z2] at h0
  by_cases e : j = i
  · rw [e]; exact h4
  by_cases e1 : j < i + 1 + (L i).thn.toNat
  · exact ih (te - i - 1) (by omega) (i + 1) _ (depth + 1) (by omega) (by simpa using z1) j (by omega) e1
  by_cases e2 : j < i + 1 + (L i).thn.toNat + (L i).els.toNat
  · exact ih (te - i - 1) (by omega) (i + 1 + (L i).thn.toNat) _ (depth + 1) (by omega) (by simpa using z2) j (by omega) e2
  · exact ih (te - i - 1) (by omega) _ te depth (by omega) h0 j (by omega) hjt
/-- The bodies of the last k procedures. -/
def bz (Pv : Nat → PV) (np : Nat) : Nat → Nat → List SV
  | 0 => fun _ => []
  | k + 1 => fun i => if i = np - 1 - k then inlB (bz Pv np k) (Pv (np - 1 - k)).L 0 (Pv (np - 1 - k)).n else bz Pv np k i
theorem bz_at (Pv : Nat → PV) (np k i : Nat) : bz Pv np (k + 1) i = if i = np - 1 - k then inlB (bz Pv np k) (Pv (np - 1 - k)).L 0 (Pv (np - 1 - k)).n else bz Pv np k i := rfl
theorem pz_at (Pv : Nat → PV) (np k i : Nat) : pz Pv np (k + 1) i = if i = np - 1 - k then min (szTo (Pv (np - 1 - k)).L (pz Pv np k) (Pv (np - 1 - k)).n) 2000 else pz Pv np k i := rfl
theorem bz_stays (Pv : Nat → PV) (np k : Nat) : ∀ d, k + d ≤ np → ∀ i, np - k ≤ i → i < np → bz Pv np (k + d) i = bz Pv np k i
  | 0, _, _, _, _ => rfl
  | d + 1, h, i, h1, h2 => by
    show bz Pv np (k + d + 1) i = _
    rw [bz_at, if_neg (by omega), bz_stays Pv np k d (by omega) i h1 h2]
theorem pz_stays (Pv : Nat → PV) (np k : Nat) : ∀ d, k + d ≤ np → ∀ i, np - k ≤ i → i < np → pz Pv np (k + d) i = pz Pv np k i
  | 0, _, _, _, _ => rfl
  | d + 1, h, i, h1, h2 => by
    show pz Pv np (k + d + 1) i = _
    rw [pz_at, if_neg (by omega), pz_stays Pv np k d (by omega) i h1 h2]
theorem szTo_congr {L : Nat → SV} {Z Z' : Nat → Int} : ∀ n, (∀ j, j < n → (L j).k = 4 → Z (L j).proc.toNat = Z' (L j).proc.toNat) → szTo L Z n = szTo L Z' n
  | 0, _ => rfl
  | n + 1, h => by
    have e := szTo_congr n (fun j hj => h j (by omega))
    show szTo L Z n + wI (L n) Z = szTo L Z' n + wI (L n) Z'
    rw [e]
    congr 1
    unfold wI
    by_cases a : (L n).k = 1
    · rw [if_pos a, if_pos a]
    · rw [if_neg a, if_neg a]
      by_cases b : (L n).k = 4
      · rw [if_pos b, if_pos b]; exact h n (by omega) b
      · rw [if_neg b, if_neg b]
theorem szTo_ge {L : Nat → SV} {Z : Nat → Int} (z0 : ∀ i, 0 ≤ Z i) {j n : Nat} (hj : j < n) (k : (L j).k = 4) : Z (L j).proc.toNat ≤ szTo L Z n := by
  have m := szTo_mono (L := L) z0 (show j + 1 ≤ n from hj)
  have p := szTo_pos (L := L) z0 j
  have s1 : szTo L Z (j + 1) = szTo L Z j + wI (L j) Z := rfl
  have hw : wI (L j) Z = Z (L j).proc.toNat := by unfold wI; rw [if_neg (by omega), if_pos k]
  omega
/-- A unit in which nothing is wrong. -/
structure UGood (Pv : Nat → PV) (np : Nat) : Prop where
  n1 : 1 ≤ np
  n20 : np ≤ 20
  c : ∀ q, q < np → (Pv q).n ≤ 500 ∧ (chk (Pv q).L (q : Int) (np : Int) 16 0 (Pv q).n 0).1 = 0
  z : pz Pv np np 0 < 2000
def Bd (Pv : Nat → PV) (np : Nat) : Nat → List SV := bz Pv np np
def Zd (Pv : Nat → PV) (np : Nat) : Nat → Int := pz Pv np np
theorem Zd_in (Pv : Nat → PV) (np : Nat) : ∀ i, 0 ≤ Zd Pv np i ∧ Zd Pv np i ≤ 2000 := pz_in Pv np np
section
variable {Pv : Nat → PV} {np : Nat}
theorem UGood.calls (g : UGood Pv np) {q j : Nat} (hq : q < np) (hj : j < (Pv q).n) (k : ((Pv q).L j).k = 4) : q < ((Pv q).L j).proc.toNat ∧ ((Pv q).L j).proc.toNat < np ∧ 0 ≤ ((Pv q).L j).proc := by
  have h := (g.c q hq).2
  have a := chk_all (Pv q).L (q : Int) (np : Int) 16 _ 0 (Pv q).n 0 (Nat.le_refl _) h j (Nat.zero_le _) hj
  have b := chk_calls (Pv q).L (q : Int) (np : Int) 16 _ 0 (Pv q).n 0 (Nat.le_refl _) h j (Nat.zero_le _) hj
  have c := st_call a k
  omega
theorem UGood.body (g : UGood Pv np) {q : Nat} (hq : q < np) : Bd Pv np q = inlB (Bd Pv np) (Pv q).L 0 (Pv q).n := by
  have e := bz_stays Pv np (np - q - 1 + 1) q (by omega) q (by omega) hq
  rw [show np - q - 1 + 1 + q = np by omega, bz_at, if_pos (by omega), show np - 1 - (np - q - 1) = q by omega] at e
  show bz Pv np np q = _
  rw [e]
  refine inlB_congr _ 0 _ (Nat.le_refl _) (fun j _ hj k => ?_)
  obtain ⟨c1, c2, c3⟩ := g.calls hq hj k
  have := bz_stays Pv np (np - q - 1) (q + 1) (by omega) ((Pv q).L j).proc.toNat (by omega) c2
  rw [show np - q - 1 + (q + 1) = np by omega] at this
  exact this.symm
theorem UGood.size (g : UGood Pv np) {q : Nat} (hq : q < np) : Zd Pv np q = min (szTo (Pv q).L (Zd Pv np) (Pv q).n) 2000 := by
  have e := pz_stays Pv np (np - q - 1 + 1) q (by omega) q (by omega) hq
  rw [show np - q - 1 + 1 + q = np by omega, pz_at, if_pos (by omega), show np - 1 - (np - q - 1) = q by omega] at e
  show pz Pv np np q = _
  rw [e]
  rw [szTo_congr (Z := pz Pv np (np - q - 1)) (Z' := Zd Pv np) (Pv q).n (fun j hj k => ?_)]
  obtain ⟨c1, c2, c3⟩ := g.calls hq hj k
  have := pz_stays Pv np (np - q - 1) (q + 1) (by omega) ((Pv q).L j).proc.toNat (by omega) c2
  rw [show np - q - 1 + (q + 1) = np by omega] at this
  exact this.symm
/-- What a procedure calls that is not too long is not too long. -/
theorem UGood.small (g : UGood Pv np) {q j : Nat} (hq : q < np) (hz : Zd Pv np q < 2000) (hj : j < (Pv q).n) (k : ((Pv q).L j).k = 4) : Zd Pv np ((Pv q).L j).proc.toNat < 2000 := by
  have a := szTo_ge (fun i => (Zd_in Pv np i).1) hj k
  have b := g.size hq
  omega
theorem UGood.sum (g : UGood Pv np) {q : Nat} (hq : q < np) (hz : Zd Pv np q < 2000) : Zd Pv np q = szTo (Pv q).L (Zd Pv np) (Pv q).n := by
  have b := g.size hq
  omega
theorem UGood.len (g : UGood Pv np) : ∀ (d q : Nat), np - q ≤ d → q < np → Zd Pv np q < 2000 → ((Bd Pv np q).length : Int) ≤ Zd Pv np q := by
  intro d
  induction d with
  | zero => intro q h1 h2; omega
  | succ d ih =>
    intro q h1 hq hz
    rw [g.body hq, g.sum hq hz]
    have := inlB_len (B := Bd Pv np) (L := (Pv q).L) (Z := Zd Pv np) (fun i => (Zd_in Pv np i).1) _ 0 (Pv q).n (Nat.le_refl _) (Nat.zero_le _) (fun j _ hj k => by
      obtain ⟨c1, c2, c3⟩ := g.calls hq hj k
      exact ih _ (by omega) c2 (g.small hq hz hj k))
    rw [show szTo (Pv q).L (Zd Pv np) 0 = 0 from rfl] at this
    omega
theorem UGood.part (g : UGood Pv np) {q i te : Nat} (hq : q < np) (hz : Zd Pv np q < 2000) (hit : i ≤ te) (hte : te ≤ (Pv q).n) : ((inlB (Bd Pv np) (Pv q).L i te).length : Int) ≤ szTo (Pv q).L (Zd Pv np) te - szTo (Pv q).L (Zd Pv np) i ∧ 0 ≤ szTo (Pv q).L (Zd Pv np) i ∧ szTo (Pv q).L (Zd Pv np) te < 2000 := by
  refine ⟨inlB_len (fun i => (Zd_in Pv np i).1) _ i te (Nat.le_refl _) hit (fun j _ hj k => ?_), szTo_pos (fun i => (Zd_in Pv np i).1) i, ?_⟩
  · obtain ⟨c1, c2, c3⟩ := g.calls hq (show j < (Pv q).n by omega) k
    exact g.len _ _ (Nat.le_refl _) c2 (g.small hq hz (by omega) k)
  · have := szTo_mono (L := (Pv q).L) (Z := Zd Pv np) (fun i => (Zd_in Pv np i).1) hte
    have := g.sum hq hz
    omega
end
end Go.Proofs.Ythicfjjaehkcnaa
