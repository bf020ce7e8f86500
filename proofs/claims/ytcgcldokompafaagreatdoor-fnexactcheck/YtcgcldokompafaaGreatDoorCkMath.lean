import Derived.Test.YtcgcldokompafaaGreatDoorOfTransSpS
import Derived.Test.YtcgcldokompafaaGreatDoorOfTransAcc
import Derived.Test.YtcgcldokompafaaGreatDoorOfEvRun
/- What Check answers: the mathematics. -/
namespace Go.Proofs.YtcgcldokompafaaGreatDoor
open Go.RowKit
section
variable {nH nR : Nat} {S : Nat -> HS} {V0 V : Nat -> VV} {z c op d ra rb imm h : Int}
theorem gv_zV {n : Int} : GV zV n := Or.inl ⟨rfl, by decide, by decide, rfl, rfl, rfl⟩
theorem gv_opA {i : Nat} {n : Int} (g : GV (V i) n) : GV (opA V op i) n := by
 unfold opA; split
 ·exact g
 ·exact gv_zV
theorem gv_opB {i : Nat} {n : Int} (g : GV (V i) n) : GV (opB V op i) n := by
 unfold opB; split
 ·exact g
 ·exact gv_zV
theorem gv_trR {a b : VV} {sec : Bool} {fl : Int} {g : HS} {n : Int} (ha : GV a n) (hb : GV b n) : GV (trR op imm a b sec fl g) n := by
 unfold trR
 split
 ·exact gv_pick ha hb
 ·split
  ·exact gv_num _ _ _
  ·split
   ·exact gv_num _ _ _
   ·exact gv_res ha hb
theorem fl_trZ (x : Int) (hx : 0 <= x /\ x <= 2) : 0 <= trZ V z c op ra rb x /\ trZ V z c op ra rb x <= 2 := by
 unfold trZ
 split
 ·split <;> omega
 ·exact hx
theorem out_ok (hok : absOK nH S nR V0 8 V z c = true) (hik : implIns op d ra rb imm h = true) (o28 : op <= 28) : absOK nH S nR V0 8 (trW S V z c op d ra rb imm h) (trZ V z c op ra rb z) (trZ V z c op ra rb c) = true := by
 obtain ⟨_, _, G, hz, hc⟩ := abs_iff.1 hok
 obtain ⟨o1, d0, d7, ra0, ra7, rb0, rb7, h0, h7, _⟩ := ins_nats hik o28
 refine abs_all hok ?_ (fl_trZ z hz) (fl_trZ c hc)
 unfold trW
 split
 ·exact gv_upd G (gv_trR (gv_opA (G _ (by omega))) (gv_opB (G _ (by omega))))
 ·exact G
end
structure FS where
 V : Nat -> VV
 z : Int
 c : Int
def jfl (a b : Int) : Int := if a = 0 ∨ b = 0 then 0 else if a = 2 ∨ b = 2 then 2 else 1
theorem jfl_in (a b : Int) : 0 <= jfl a b /\ jfl a b <= 2 := by unfold jfl; split <;> (try split) <;> omega
def jF (F G : FS) : FS := ⟨fun i => joinV (F.V i) (G.V i), jfl F.z G.z, jfl F.c G.c⟩
def cfl (F : FS) (cond : Int) : Int := if (if 3 <= cond then F.c else F.z) = 0 then 1 else if (if 3 <= cond then F.c else F.z) = 2 then 2 else 0
def sameP (F G : FS) : Prop := F.z = G.z /\ F.c = G.c /\ ∀ i, i < 8 -> F.V i = G.V i
def vvD (a b : VV) : Bool := decide (a.k = b.k /\ a.s = b.s /\ a.m = b.m /\ a.h = b.h /\ a.lo = b.lo /\ a.hi = b.hi)
theorem vvD_iff {a b : VV} : vvD a b = true ↔ a = b := by
 obtain ⟨a1, a2, a3, a4, a5, a6⟩ := a
 obtain ⟨b1, b2, b3, b4, b5, b6⟩ := b
 simp [vvD]
def sameB (F G : FS) : Bool := decide (F.z = G.z) && decide (F.c = G.c) && (List.range 8).all fun i => vvD (F.V i) (G.V i)
theorem sameB_iff {F G : FS} : sameB F G = true ↔ sameP F G := by
 simp [sameB, sameP, vvD_iff, and_assoc]
abbrev CR := Sum (Int × Int) (FS × Int)
abbrev CR.bad (err at' : Int) : CR := .inl (err, at')
abbrev CR.ok (F : FS) (r : Int) : CR := .inr (F, r)
theorem CR.badI {a b c d : Int} (h : CR.bad a b = CR.bad c d) : a = c /\ b = d := Prod.mk.inj (Sum.inl.inj h)
theorem CR.okI {F B : FS} {r q : Int} (h : CR.ok F r = CR.ok B q) : F = B /\ r = q := Prod.mk.inj (Sum.inr.inj h)
structure SG where
 nH : Nat
 S : Nat -> HS
 V0 : Nat -> VV
def trFE (G : SG) (s : SV) (F : FS) : Int := trE G.nH G.S 8 G.V0 8 F.V F.z F.c s.op s.d s.a s.b s.imm s.h
def trFF (G : SG) (s : SV) (F : FS) : FS := ⟨trW G.S F.V F.z F.c s.op s.d s.a s.b s.imm s.h, trZ F.V F.z F.c s.op s.a s.b F.z, trZ F.V F.z F.c s.op s.a s.b F.c⟩
def FOk (G : SG) (F : FS) : Prop := absOK G.nH G.S 8 G.V0 8 F.V F.z F.c = true
def loopF (body : FS -> Int -> CR) (cond here : Int) : Nat -> FS -> Int -> CR
 | 0, _, _ => .bad 10 here
 | n + 1, F, r => if 1000 <= r then .bad 10 here else if cfl F cond ≠ 0 then .bad (cfl F cond) here else
  match body F (r + 1) with
  | .inl (e, a) => .bad e a
  | .inr (B, r') => if sameB (jF F B) F then .ok F r' else loopF body cond here n (jF F B) r'
def cmpC (s : SV) (x y : FS -> Int -> CR) (at' : Int) (F : FS) (r : Int) : CR :=
 if s.k = 3 then loopF (fun B q => x B q) s.cond at' 20 F r
 else if cfl F s.cond ≠ 0 then .bad (cfl F s.cond) at' else
  match x F r with
  | .inl (e, a) => .bad e a
  | .inr (B, r1) => match y F r1 with
   | .inl (e, a) => .bad e a
   | .inr (C, r2) => .ok (jF B C) r2
def ckN (G : SG) : Nat -> List SV -> Int -> FS -> Int -> CR
 | 0, _, _, F, r => .ok F r
 | _ + 1, [], _, F, r => .ok F r
 | n + 1, s :: xs, at', F, r =>
  if s.k = 1 then (if trFE G s F ≠ 0 then .bad (trFE G s F) at' else ckN G n xs (at' + 1) (trFF G s F) r)
  else
   match cmpC s (ckN G n (xs.take s.thn.toNat) (at' + 1)) (ckN G n ((xs.drop s.thn.toNat).take s.els.toNat) (at' + 1 + s.thn)) at' F r with
   | .inl (e, a) => .bad e a
   | .inr (B, r') => ckN G n (xs.drop (s.thn.toNat + s.els.toNat)) (at' + 1 + s.thn + s.els) B r'
def ckL (G : SG) (xs : List SV) (at' : Int) (F : FS) (r : Int) : CR := ckN G (xs.length + 1) xs at' F r
theorem ckN_any (G : SG) : ∀ (n m : Nat) (xs : List SV) (at' : Int), xs.length < n -> xs.length < m -> ckN G n xs at' = ckN G m xs at'
 | 0, _, _, _, h, _ => absurd h (Nat.not_lt_zero _)
 | _ + 1, 0, _, _, _, h => absurd h (Nat.not_lt_zero _)
 | _ + 1, _ + 1, [], _, _, _ => rfl
 | n + 1, m + 1, s :: xs, at', hn, hm => by
  simp only [List.length_cons] at hn hm
  have e : ∀ (ys : List SV) (a : Int), ys.length <= xs.length -> ckN G n ys a = ckN G m ys a := fun ys a h => ckN_any G n m ys a (by omega) (by omega)
  have l1 : (xs.take s.thn.toNat).length <= xs.length := by rw [List.length_take]; omega
  have l2 : ((xs.drop s.thn.toNat).take s.els.toNat).length <= xs.length := by rw [List.length_take, List.length_drop]; omega
  have l3 : (xs.drop (s.thn.toNat + s.els.toNat)).length <= xs.length := by rw [List.length_drop]; omega
  funext F r
  rw [ckN, ckN, e xs _ (Nat.le_refl _), e _ _ l1, e _ _ l2, e _ _ l3]
theorem ckL_n {G : SG} {n : Nat} {xs : List SV} (h : xs.length < n) (at' : Int) : ckN G n xs at' = ckL G xs at' := ckN_any G n (xs.length + 1) xs at' h (Nat.lt_succ_self _)
def cmpL (G : SG) (s : SV) (x y : List SV) (at' : Int) (F : FS) (r : Int) : CR :=
 if s.k = 3 then loopF (fun B q => ckL G x (at' + 1) B q) s.cond at' 20 F r
 else if cfl F s.cond ≠ 0 then .bad (cfl F s.cond) at' else
  match ckL G x (at' + 1) F r with
  | .inl (e, a) => .bad e a
  | .inr (B, r1) => match ckL G y (at' + 1 + s.thn) F r1 with
   | .inl (e, a) => .bad e a
   | .inr (C, r2) => .ok (jF B C) r2
theorem ckL_nil (G : SG) (at' : Int) (F : FS) (r : Int) : ckL G [] at' F r = .ok F r := rfl
theorem ckL_unfold (G : SG) (s : SV) (xs : List SV) (at' : Int) (F : FS) (r : Int) : ckL G (s :: xs) at' F r = if s.k = 1 then (if trFE G s F ≠ 0 then .bad (trFE G s F) at' else ckL G xs (at' + 1) (trFF G s F) r)
  else match cmpL G s (xs.take s.thn.toNat) ((xs.drop s.thn.toNat).take s.els.toNat) at' F r with
   | .inl (e, a) => .bad e a
   | .inr (B, r') => ckL G (xs.drop (s.thn.toNat + s.els.toNat)) (at' + 1 + s.thn + s.els) B r' := by
 have l1 : (xs.take s.thn.toNat).length < xs.length + 1 := by rw [List.length_take]; omega
 have l2 : ((xs.drop s.thn.toNat).take s.els.toNat).length < xs.length + 1 := by rw [List.length_take, List.length_drop]; omega
 have l3 : (xs.drop (s.thn.toNat + s.els.toNat)).length < xs.length + 1 := by rw [List.length_drop]; omega
 show ckN G (xs.length + 1 + 1) (s :: xs) at' F r = _
 rw [ckN, ckL_n (Nat.lt_succ_self _), ckL_n l1, ckL_n l2, ckL_n l3]
 rfl
theorem ckL_ins {G : SG} {s : SV} (h : s.k = 1) (xs : List SV) (at' : Int) (F : FS) (r : Int) : ckL G (s :: xs) at' F r = if trFE G s F ≠ 0 then .bad (trFE G s F) at' else ckL G xs (at' + 1) (trFF G s F) r := by
 rw [ckL_unfold, if_pos h]
theorem ckL_node {G : SG} {s : SV} (h : s.k ≠ 1) {x y xs : List SV} (ht : s.thn = (x.length : Int)) (he : s.els = (y.length : Int)) (at' : Int) (F : FS) (r : Int) :
  ckL G (s :: (x ++ y ++ xs)) at' F r = match cmpL G s x y at' F r with
   | .inl (e, a) => .bad e a
   | .inr (B, r') => ckL G xs (at' + 1 + s.thn + s.els) B r' := by
 have e1 : (x ++ y ++ xs).take s.thn.toNat = x := by rw [ht, Int.toNat_natCast, List.append_assoc, List.take_left]
 have e2 : ((x ++ y ++ xs).drop s.thn.toNat).take s.els.toNat = y := by rw [ht, he, Int.toNat_natCast, Int.toNat_natCast, List.append_assoc, List.drop_left, List.take_left]
 have e3 : (x ++ y ++ xs).drop (s.thn.toNat + s.els.toNat) = xs := by rw [ht, he, Int.toNat_natCast, Int.toNat_natCast, <- List.length_append, List.drop_left]
 rw [ckL_unfold, if_neg h, e1, e2, e3]
section
variable {G : SG}
theorem FOk.join {F B : FS} (h : FOk G F) (k : FOk G B) : FOk G (jF F B) := by
 obtain ⟨q1, _, q3, _, _⟩ := abs_iff.1 h
 obtain ⟨_, _, r3, _, _⟩ := abs_iff.1 k
 exact abs_iff.2 ⟨q1, rfl, fun i hi => gv_join (q3 i hi) (r3 i hi), jfl_in _ _, jfl_in _ _⟩
theorem trE_zero {nH nR : Nat} {S : Nat -> HS} {V0 V : Nat -> VV} {z c op d ra rb imm h : Int} (e : trE nH S nR V0 8 V z c op d ra rb imm h = 0) : absOK nH S nR V0 8 V z c = true /\ implIns op d ra rb imm h = true /\ op <= 28 := by
 unfold trE at e
 by_cases q : absOK nH S nR V0 8 V z c = true /\ implIns op d ra rb imm h = true /\ op <= 28
 ·exact q
 ·rw [if_neg q] at e; omega
theorem FOk.tr {F : FS} {s : SV} (e : trFE G s F = 0) : FOk G (trFF G s F) := by
 obtain ⟨h1, h2, h3⟩ := trE_zero e
 exact out_ok h1 h2 h3
end
def seg (L : Nat -> SV) (i te : Nat) : List SV := (List.range (te - i)).map fun j => L (i + j)
theorem seg_len (L : Nat -> SV) (i te : Nat) : (seg L i te).length = te - i := by simp [seg]
theorem seg_end {L : Nat -> SV} {i te : Nat} (h : ¬ i < te) : seg L i te = [] := by
 unfold seg; rw [show te - i = 0 by omega]; rfl
theorem seg_more {L : Nat -> SV} {i te : Nat} (h : i < te) : seg L i te = L i :: seg L (i + 1) te := by
 unfold seg
 rw [show te - i = (te - (i + 1)) + 1 by omega, List.range_succ_eq_map, List.map_cons, List.map_map]
 simp only [Nat.add_zero, List.cons.injEq, true_and]
 apply List.map_congr_left
 intro j _
 simp only [Function.comp_apply]
 congr 1
 omega
theorem seg_app {L : Nat -> SV} {i m te : Nat} (h : i <= m) (k : m <= te) : seg L i te = seg L i m ++ seg L m te := by
 have H : ∀ n i, m - i = n -> i <= m -> seg L i te = seg L i m ++ seg L m te := by
  intro n
  induction n with
  | zero => intro i h1 h2; rw [seg_end (L := L) (i := i) (te := m) (by omega), show i = m by omega]; rfl
  | succ n ih => intro i h1 h2; rw [seg_more (show i < te by omega), seg_more (show i < m by omega), ih (i + 1) (by omega) (by omega)]; rfl
 exact H _ i rfl h
end Go.Proofs.YtcgcldokompafaaGreatDoor
