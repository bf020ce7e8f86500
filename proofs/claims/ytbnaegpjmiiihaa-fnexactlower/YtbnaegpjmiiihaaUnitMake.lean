/- Trees made: the program's word. -/
import Derived.Test.YtbnaegpjmiiihaaUnitFlat
import Derived.Test.YtbnaegpjmiiihaaUnitWrong
namespace Go.Proofs.Ytbnaegpjmiiihaa
open Go.RowKit
/-- Nothing but block t has changed; there may be new ones. -/
structure Ft (t : Nat) (w w' : World) : Prop where
  os : w'.os = w.os
  tape : w'.tape = w.tape
  output : w'.output = w.output
  size : w.heap.size ≤ w'.heap.size
  block : ∀ k, k < w.heap.size → k ≠ t → w'.heap[k]? = w.heap[k]?
theorem Ft.of_below {t : Nat} {w w' : World} (h : Below w.heap.size w w') : Ft t w w' := ⟨h.os, h.tape, h.output, h.size, fun k hk _ => h.block k hk⟩
theorem Ft.refl (t : Nat) (w : World) : Ft t w w := ⟨rfl, rfl, rfl, Nat.le_refl _, fun _ _ _ => rfl⟩
theorem Ft.trans {t : Nat} {a b c : World} (h : Ft t a b) (k : Ft t b c) : Ft t a c :=
  ⟨k.os.trans h.os, k.tape.trans h.tape, k.output.trans h.output, Nat.le_trans h.size k.size, fun i hi hn => (k.block i (Nat.lt_of_lt_of_le hi h.size) hn).trans (h.block i hi hn)⟩
theorem Ft.set {t : Nat} {a b : World} (h : Ft t a b) (o : Nat) (v : Value) : Ft t a (b.setCell ⟨t, o, none⟩ v) :=
  ⟨h.os, h.tape, h.output, by simpa using h.size, fun i hi hn => (Below.heap_setCell b ⟨t, o, none⟩ v i (by simpa using hn)).trans (h.block i hi hn)⟩
theorem Ft.cell {t : Nat} {w w' : World} (h : Ft t w w') {b o : Nat} (hb : b < w.heap.size) (hn : b ≠ t) : w'.cell? ⟨b, o, none⟩ = w.cell? ⟨b, o, none⟩ := World.cell?_of_block (a := ⟨b, o, none⟩) (h.block b hb hn)
theorem Ft.frozen {t : Nat} {w w' : World} (h : Ft t w w') {b o : Nat} (hb : b < w.heap.size) (hn : b ≠ t) : w'.frozen? ⟨b, o, none⟩ = w.frozen? ⟨b, o, none⟩ := World.frozen?_of_block (a := ⟨b, o, none⟩) (h.block b hb hn)
theorem Ft.arr {t : Nat} {w w' : World} (h : Ft t w w') {b n : Nat} {f : Nat → Value} (ha : Arr w b n f) (hn : b ≠ t) : Arr w' b n f :=
  ⟨Nat.lt_of_lt_of_le ha.1 h.size, fun i => (h.frozen ha.1 hn).trans (ha.2.1 i), fun i hi => (h.cell ha.1 hn).trans (ha.2.2 i hi)⟩
theorem Ft.cl {t : Nat} {w w' : World} (h : Ft t w w') {b : Nat} {vs : List Value} (ha : Cl w b vs) (hn : b ≠ t) : Cl w' b vs :=
  ⟨Nat.lt_of_lt_of_le ha.1 h.size, fun i hi => (h.cell ha.1 hn).trans (ha.2 i hi)⟩
/-- Where a treeMaker lies. -/
structure TmP (w : World) (t b n cap : Nat) (own procs dmax err pos : Int) : Prop where
  C : Cl w t [.slice (some ⟨b, 0, none⟩) n cap, .int .i64 own, .int .i64 procs, .int .i64 dmax, .int .i64 err, .int .i64 pos]
  F : ∀ i, w.frozen? ⟨t, i, none⟩ = false
theorem TmP.below {w w' : World} {t b n cap : Nat} {own procs dmax err pos : Int} (h : TmP w t b n cap own procs dmax err pos) (hb : Below w.heap.size w w') : TmP w' t b n cap own procs dmax err pos :=
  ⟨h.C.below hb, fun i => (hb.frozen (p := ⟨t, i, none⟩) h.C.1).trans (h.F i)⟩
theorem tm_cells {w : World} {t b n cap : Nat} {own procs dmax err pos : Int} (h : TmP w t b n cap own procs dmax err pos) : w.cell? ⟨t, 0, none⟩ = some (.slice (some ⟨b, 0, none⟩) n cap) ∧ w.cell? ⟨t, 1, none⟩ = some (.int .i64 own) ∧ w.cell? ⟨t, 2, none⟩ = some (.int .i64 procs) ∧ w.cell? ⟨t, 3, none⟩ = some (.int .i64 dmax) ∧ w.cell? ⟨t, 4, none⟩ = some (.int .i64 err) ∧ w.cell? ⟨t, 5, none⟩ = some (.int .i64 pos) :=
  ⟨h.C.2 0 (by simp), h.C.2 1 (by simp), h.C.2 2 (by simp), h.C.2 3 (by simp), h.C.2 4 (by simp), h.C.2 5 (by simp)⟩
theorem TmP.setPos {w : World} {t b n cap : Nat} {own procs dmax err pos : Int} (h : TmP w t b n cap own procs dmax err pos) (x : Int) : TmP (w.setCell ⟨t, 5, none⟩ (.int .i64 x)) t b n cap own procs dmax err x := by
  obtain ⟨c0, c1, c2, c3, c4, c5⟩ := tm_cells h
  refine ⟨⟨by simpa using h.C.1, fun i hi => ?_⟩, fun i => by simpa using h.F i⟩
  match i, hi with
  | 0, _ => simp [go_sem, c0]
  | 1, _ => simp [go_sem, c1]
  | 2, _ => simp [go_sem, c2]
  | 3, _ => simp [go_sem, c3]
  | 4, _ => simp [go_sem, c4]
  | 5, _ => simp [go_sem, c5]
theorem TmP.setErr {w : World} {t b n cap : Nat} {own procs dmax err pos : Int} (h : TmP w t b n cap own procs dmax err pos) (x : Int) : TmP (w.setCell ⟨t, 4, none⟩ (.int .i64 x)) t b n cap own procs dmax x pos := by
  obtain ⟨c0, c1, c2, c3, c4, c5⟩ := tm_cells h
  refine ⟨⟨by simpa using h.C.1, fun i hi => ?_⟩, fun i => by simpa using h.F i⟩
  match i, hi with
  | 0, _ => simp [go_sem, c0]
  | 1, _ => simp [go_sem, c1]
  | 2, _ => simp [go_sem, c2]
  | 3, _ => simp [go_sem, c3]
  | 4, _ => simp [go_sem, c4]
  | 5, _ => simp [go_sem, c5]
/-- x stands for statement p. -/
def NodeN (L : Nat → SV) (m : Nat) (w : World) (S : Nat → Prop) (x : Value) (p : Nat) : Prop :=
  ((L p).k = 1 ∧ x = .iface 68 (.agg #[.int .i64 (p : Int), .int .i64 (L p).op, .int .i64 (L p).d, .int .i64 (L p).a, .int .i64 (L p).b, .int .i64 (L p).imm, .int .i64 (L p).h])) ∨
  ((L p).k = 2 ∧ ∃ v1 v2, x = .iface 70 (.agg #[.int .i64 (p : Int), .int .i64 (L p).cond, v1, v2]) ∧ RepN L m w S v1 (p + 1) (p + 1 + (L p).thn.toNat) ∧ RepN L m w S v2 (p + 1 + (L p).thn.toNat) (p + 1 + (L p).thn.toNat + (L p).els.toNat)) ∨
  ((L p).k = 3 ∧ ∃ v1, x = .iface 73 (.agg #[.int .i64 (p : Int), .int .i64 (L p).cond, v1]) ∧ RepN L m w S v1 (p + 1) (p + 1 + (L p).thn.toNat)) ∨
  ((L p).k = 4 ∧ x = .iface 84 (.agg #[.int .i64 (L p).proc]))
/-- blockOf's contract over one range. -/
def BlockC (L : Nat → SV) (t b n cap : Nat) (own procs dmax : Int) (m i te : Nat) (depth : Int) : Prop :=
  ∀ w, Arr w b (n * 11) (stF L) → TmP w t b n cap own procs dmax 0 (i : Int) → Calls Try.prog 25 #[.pointer (some ⟨t, 0, none⟩), .int .i64 ((te : Int) - (i : Int)), .int .i64 depth] w fun e w' => ∃ (ao : Option Addr) (k c : Nat), e = .returned (.slice ao k c) ∧ Ft t w w' ∧ TmP w' t b n cap own procs dmax (chk L own procs (dmax + 1) i te depth).1 (if (chk L own procs (dmax + 1) i te depth).1 = 0 then (te : Int) else (chk L own procs (dmax + 1) i te depth).2) ∧ ((chk L own procs (dmax + 1) i te depth).1 = 0 → RepN L m w' (fun q => w.heap.size ≤ q) (.slice ao k c) i te)

set_option maxRecDepth 20000 in
set_option maxHeartbeats 8000000 in
theorem statementOf_14 (L : Nat → SV) (t b n cap : Nat) (own procs dmax : Int) (m p : Nat) (depth : Int) (w : World) (p0 : p ≤ 1048576) (hT : TmP w t b n cap own procs dmax 0 (p : Int)) (hk : (L p).k = 1 ∨ (L p).k = 4) :
    Calls Try.prog 31 #[.pointer (some ⟨t, 0, none⟩), .agg #[.int .i64 (L p).k, .int .i64 (L p).op, .int .i64 (L p).d, .int .i64 (L p).a, .int .i64 (L p).b, .int .i64 (L p).imm, .int .i64 (L p).h, .int .i64 (L p).cond, .int .i64 (L p).thn, .int .i64 (L p).els, .int .i64 (L p).proc], .int .i64 depth] w fun e w' => ∃ ty a, e = .returned (.iface ty a) ∧ Ft t w w' ∧ TmP w' t b n cap own procs dmax 0 ((p : Int) + 1) ∧ NodeN L m w' (fun q => w.heap.size ≤ q) (.iface ty a) p := by
  have HT : Hid (TmP w t b n cap own procs dmax 0 (p : Int)) := hT
  have lt := hT.C.1
  clear hT
  go_enter Try.func31, Try.ntmps31
  go_upto_region 1 with fail
  obtain ⟨u, hu, hb, hc⟩ : ∃ x, w.alloc (.cells #[.int .i64 (L p).k, .int .i64 (L p).op, .int .i64 (L p).d, .int .i64 (L p).a, .int .i64 (L p).b, .int .i64 (L p).imm, .int .i64 (L p).h, .int .i64 (L p).cond, .int .i64 (L p).thn, .int .i64 (L p).els, .int .i64 (L p).proc] 38) = x ∧ Below w.heap.size w x ∧ Cl x w.heap.size [.int .i64 (L p).k, .int .i64 (L p).op, .int .i64 (L p).d, .int .i64 (L p).a, .int .i64 (L p).b, .int .i64 (L p).imm, .int .i64 (L p).h, .int .i64 (L p).cond, .int .i64 (L p).thn, .int .i64 (L p).els, .int .i64 (L p).proc] := ⟨_, rfl, (Below.refl _ _).alloc (Nat.le_refl _) _, Cl.new⟩
  rw [hu]
  have T0 : Hid (TmP u t b n cap own procs dmax 0 (p : Int)) := HT.out.below hb
  have C0 : Hid (Cl u w.heap.size [.int .i64 (L p).k, .int .i64 (L p).op, .int .i64 (L p).d, .int .i64 (L p).a, .int .i64 (L p).b, .int .i64 (L p).imm, .int .i64 (L p).h, .int .i64 (L p).cond, .int .i64 (L p).thn, .int .i64 (L p).els, .int .i64 (L p).proc]) := hc
  have F0 : Hid (Ft t w u) := Ft.of_below hb
  clear hu hb hc HT
  obtain ⟨q0, q1, q2, q3, q4, q5⟩ := tm_cells T0.out
  have tf := T0.out.F
  have tl := T0.out.C.1
  go_upto_region 3 with fail
  clear q0 q1 q2 q3 q4 q5 tf tl
  obtain ⟨u1, hu1, T1, F1, C1⟩ : ∃ x, u.setCell ⟨t, 5, none⟩ (.int .i64 ((p : Int) + 1)) = x ∧ Hid (TmP x t b n cap own procs dmax 0 ((p : Int) + 1)) ∧ Hid (Ft t w x) ∧ Hid (Cl x w.heap.size [.int .i64 (L p).k, .int .i64 (L p).op, .int .i64 (L p).d, .int .i64 (L p).a, .int .i64 (L p).b, .int .i64 (L p).imm, .int .i64 (L p).h, .int .i64 (L p).cond, .int .i64 (L p).thn, .int .i64 (L p).els, .int .i64 (L p).proc]) := ⟨_, rfl, T0.out.setPos _, F0.out.set _ _, ⟨by simpa using C0.out.1, fun i hi => (World.cell?_setCell_far _ _ _ _ (show t ≠ w.heap.size by omega)).trans (C0.out.2 i hi)⟩⟩
  rw [hu1]
  clear hu1 T0 F0 C0
  obtain ⟨c0, c1, c2, c3, c4, c5, c6, c7, c8, c9, c10⟩ := st_cl C1.out
  have cz := C1.out.1
  rcases hk with k1 | k4
  · have e2 : ((L p).k == 2) = false := by simp [k1]
    have e3 : ((L p).k == 3) = false := by simp [k1]
    have e4 : ((L p).k == 4) = false := by simp [k1]
    have K : Hid ((L p).k = 1) := k1
    clear k1
    go_wp2
    go_ret
    exact ⟨_, _, rfl, F1.out, T1.out, .inl ⟨K.out, rfl⟩⟩
  · have e2 : ((L p).k == 2) = false := by simp [k4]
    have e3 : ((L p).k == 3) = false := by simp [k4]
    have e4 : ((L p).k == 4) = true := by simp [k4]
    have K : Hid ((L p).k = 4) := k4
    clear k4
    go_wp2
    go_ret
    exact ⟨_, _, rfl, F1.out, T1.out, .inr (.inr (.inr ⟨K.out, rfl⟩))⟩
end Go.Proofs.Ytbnaegpjmiiihaa
