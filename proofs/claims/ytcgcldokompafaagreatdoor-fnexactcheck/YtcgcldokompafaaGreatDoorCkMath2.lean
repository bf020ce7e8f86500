import Derived.Test.YtcgcldokompafaaGreatDoorCkMath
/- What Check answers: what stays, and that a round counts alike from wherever it begins. -/
namespace Go.Proofs.YtcgcldokompafaaGreatDoor
open Go.RowKit
def FGd (G : SG) (F : FS) : Prop := FOk G F /\ ∀ i, 8 <= i -> F.V i = zV
section
variable {G : SG}
theorem FGd.join {F B : FS} (h : FGd G F) (k : FGd G B) : FGd G (jF F B) := ⟨h.1.join k.1, fun i hi => by show joinV (F.V i) (B.V i) = zV; rw [h.2 i hi, k.2 i hi]; rfl⟩
theorem FGd.tr {F : FS} {s : SV} (h : FGd G F) (e : trFE G s F = 0) : FGd G (trFF G s F) := by
 refine ⟨FOk.tr e, fun i hi => ?_⟩
 obtain ⟨h1, h2, h3⟩ := trE_zero e
 obtain ⟨o1, d0, d7, _⟩ := ins_nats h2 h3
 show trW G.S F.V F.z F.c s.op s.d s.a s.b s.imm s.h i = zV
 unfold trW
 split
 ·unfold updV
  rw [if_neg (by omega)]
  exact h.2 i hi
 ·exact h.2 i hi
theorem FGd.eq {F B : FS} (h : FGd G F) (k : FGd G B) (e : sameP F B) : F = B := by
 obtain ⟨V, z, c⟩ := F
 obtain ⟨U, z', c'⟩ := B
 obtain ⟨e1, e2, e3⟩ := e
 have : V = U := by
  funext i
  by_cases hi : i < 8
  ·exact e3 i hi
  ·exact (h.2 i (by omega)).trans (k.2 i (by omega)).symm
 simp_all
def Thru (G : SG) (f : FS -> Int -> CR) : Prop := ∀ F r B r', FGd G F -> f F r = .ok B r' -> FGd G B /\ r <= r' /\ (r <= 1000 -> r' <= 1000) /\ ∀ q, q + (r' - r) <= 1000 -> f F q = .ok B (q + (r' - r))
theorem loopF_thru {body : FS -> Int -> CR} (hb : Thru G body) (cond here : Int) : ∀ n, Thru G (loopF body cond here n) := by
 intro n
 induction n with
 | zero => intro F r B r' _ e; simp [loopF] at e
 | succ n ih =>
  intro F r B r' hF e
  unfold loopF at e
  by_cases h1 : 1000 <= r
  ·rw [if_pos h1] at e; cases e
  rw [if_neg h1] at e
  by_cases h2 : cfl F cond ≠ 0
  ·rw [if_pos h2] at e; cases e
  rw [if_neg h2] at e
  cases h3 : body F (r + 1) with
  | inl q => obtain ⟨e1, a1⟩ := q; rw [h3] at e; cases e
  | inr q =>
   obtain ⟨C, r1⟩ := q
   rw [h3] at e
   obtain ⟨gC, l1, k1, s1⟩ := hb F (r + 1) C r1 hF h3
   dsimp only at e
   by_cases h4 : sameB (jF F C) F = true
   ·rw [if_pos h4] at e
    obtain ⟨e1, e2⟩ := CR.okI e
    subst e1 e2
    refine ⟨hF, by omega, fun _ => k1 (by omega), fun q hq => ?_⟩
    have := s1 (q + 1) (by omega)
    unfold loopF
    rw [if_neg (by omega), if_neg h2, this]
    dsimp only
    rw [if_pos h4]
    congr 1
    omega
   ·rw [if_neg h4] at e
    obtain ⟨gB, l2, k2, s2⟩ := ih _ _ _ _ (hF.join gC) e
    refine ⟨gB, by omega, fun _ => k2 (k1 (by omega)), fun q hq => ?_⟩
    have := s1 (q + 1) (by omega)
    unfold loopF
    rw [if_neg (by omega), if_neg h2, this]
    dsimp only
    rw [if_neg h4, s2 _ (by omega)]
    congr 1
    omega
theorem cmpL_thru (s : SV) (x y : List SV) (at' : Int) (hx : Thru G (ckL G x (at' + 1))) (hy : Thru G (ckL G y (at' + 1 + s.thn))) : Thru G (cmpL G s x y at') := by
 intro F r B r' hF e
 unfold cmpL at e
 by_cases h3 : s.k = 3
 ·rw [if_pos h3] at e
  obtain ⟨g1, g2, g3, g4⟩ := loopF_thru (body := fun B q => ckL G x (at' + 1) B q) hx s.cond at' 20 F r B r' hF e
  refine ⟨g1, g2, g3, fun q hq => ?_⟩
  unfold cmpL
  rw [if_pos h3]
  exact g4 q hq
 rw [if_neg h3] at e
 by_cases h2 : cfl F s.cond ≠ 0
 ·rw [if_pos h2] at e; cases e
 rw [if_neg h2] at e
 cases h4 : ckL G x (at' + 1) F r with
 | inl q => obtain ⟨e1, a1⟩ := q; rw [h4] at e; cases e
 | inr q =>
  obtain ⟨C, r1⟩ := q
  rw [h4] at e
  obtain ⟨gC, l1, k1, s1⟩ := hx F r C r1 hF h4
  dsimp only at e
  cases h5 : ckL G y (at' + 1 + s.thn) F r1 with
  | inl q => obtain ⟨e1, a1⟩ := q; rw [h5] at e; cases e
  | inr q =>
   obtain ⟨D, r2⟩ := q
   rw [h5] at e
   obtain ⟨gD, l2, k2, s2⟩ := hy F r1 D r2 hF h5
   dsimp only at e
   obtain ⟨e1, e2⟩ := CR.okI e
   subst e1 e2
   refine ⟨gC.join gD, by omega, fun h => k2 (k1 h), fun q hq => ?_⟩
   unfold cmpL
   rw [if_neg h3, if_neg h2, s1 q (by omega)]
   dsimp only
   rw [s2 _ (by omega)]
   dsimp only
   congr 1
   omega
theorem ckL_thru (G : SG) : ∀ (n : Nat) (xs : List SV) (at' : Int), xs.length <= n -> Thru G (ckL G xs at') := by
 intro n
 induction n with
 | zero =>
  intro xs at' hl F r B r' hF e
  obtain rfl : xs = [] := List.length_eq_zero_iff.1 (by omega)
  rw [ckL_nil] at e
  obtain ⟨e1, e2⟩ := CR.okI e
  subst e1 e2
  exact ⟨hF, Int.le_refl _, fun h => h, fun q _ => by rw [ckL_nil]; congr 1; omega⟩
 | succ n ih =>
  intro xs at' hl F r B r' hF e
  cases xs with
  | nil =>
   rw [ckL_nil] at e
   obtain ⟨e1, e2⟩ := CR.okI e
   subst e1 e2
   exact ⟨hF, Int.le_refl _, fun h => h, fun q _ => by rw [ckL_nil]; congr 1; omega⟩
  | cons s xs =>
   have hl' : xs.length <= n := by simpa using hl
   rw [ckL_unfold] at e
   by_cases h1 : s.k = 1
   ·rw [if_pos h1] at e
    by_cases h2 : trFE G s F ≠ 0
    ·rw [if_pos h2] at e; cases e
    rw [if_neg h2] at e
    obtain ⟨g1, g2, g3, g4⟩ := ih xs (at' + 1) hl' _ r B r' (hF.tr (by simpa using h2)) e
    refine ⟨g1, g2, g3, fun q hq => ?_⟩
    rw [ckL_unfold, if_pos h1, if_neg h2]
    exact g4 q hq
   ·rw [if_neg h1] at e
    have t1 := ih (xs.take s.thn.toNat) (at' + 1) (by rw [List.length_take]; omega)
    have t2 := ih ((xs.drop s.thn.toNat).take s.els.toNat) (at' + 1 + s.thn) (by rw [List.length_take, List.length_drop]; omega)
    have t3 := ih (xs.drop (s.thn.toNat + s.els.toNat)) (at' + 1 + s.thn + s.els) (by rw [List.length_drop]; omega)
    have t4 := cmpL_thru s _ _ at' t1 t2
    cases h5 : cmpL G s (xs.take s.thn.toNat) ((xs.drop s.thn.toNat).take s.els.toNat) at' F r with
    | inl q => obtain ⟨e1, a1⟩ := q; rw [h5] at e; cases e
    | inr q =>
     obtain ⟨C, r1⟩ := q
     rw [h5] at e
     dsimp only at e
     obtain ⟨gC, l1, k1, s1⟩ := t4 F r C r1 hF h5
     obtain ⟨gB, l2, k2, s2⟩ := t3 C r1 B r' gC e
     refine ⟨gB, by omega, fun h => k2 (k1 h), fun q hq => ?_⟩
     rw [ckL_unfold, if_neg h1, s1 q (by omega)]
     dsimp only
     rw [s2 _ (by omega)]
     congr 1
     omega
def rndF (G : SG) (L : Nat -> SV) (p : Nat) (F : FS) (r : Int) : CR :=
 if 1000 <= r then .bad 10 (p : Int) else if cfl F (L p).cond ≠ 0 then .bad (cfl F (L p).cond) (p : Int) else ckL G (seg L (p + 1) (p + 1 + (L p).thn.toNat)) ((p : Int) + 1) F (r + 1)
def Memo (G : SG) (L : Nat -> SV) (p : Nat) (F B : FS) (k : Int) : Prop := FGd G F /\ FGd G B /\ 1 <= k /\ k <= 100000 /\ ∀ q, 0 <= q -> q + k <= 1000 -> rndF G L p F q = .ok B (q + k)
theorem memo_of {L : Nat -> SV} {p : Nat} {F B : FS} {r r' : Int} (hF : FGd G F) (hr : 0 <= r) (h : rndF G L p F r = .ok B r') : Memo G L p F B (r' - r) /\ (r' <= 1000) := by
 unfold rndF at h
 split at h
 ·cases h
 split at h
 ·cases h
 ·rename_i h1 h2
  obtain ⟨g1, g2, g3, g4⟩ := ckL_thru G _ _ _ (Nat.le_refl _) F (r + 1) B r' hF h
  have g5 := g3 (by omega)
  refine ⟨⟨hF, g1, by omega, by omega, fun q _ hq => ?_⟩, g5⟩
  unfold rndF
  rw [if_neg (by omega), if_neg h2, g4 _ (by omega)]
  congr 1
  omega
theorem loopF_rnd (G : SG) (L : Nat -> SV) (p n : Nat) (F : FS) (r : Int) : loopF (fun B q => ckL G (seg L (p + 1) (p + 1 + (L p).thn.toNat)) ((p : Int) + 1) B q) (L p).cond (p : Int) (n + 1) F r = match rndF G L p F r with
  | .inl (e, a) => .bad e a
  | .inr (B, r') => if sameB (jF F B) F then .ok F r' else loopF (fun B q => ckL G (seg L (p + 1) (p + 1 + (L p).thn.toNat)) ((p : Int) + 1) B q) (L p).cond (p : Int) n (jF F B) r' := by
 rw [loopF]
 unfold rndF
 split
 ·rfl
 split
 ·rfl
 ·rfl
end
end Go.Proofs.YtcgcldokompafaaGreatDoor
