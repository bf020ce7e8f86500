/- Labels: the program's word. -/
import Derived.Test.YtbnaegpjmiiihaaLowProg
import Derived.Laws.EntriesVeiled
namespace Go.Proofs.Ytbnaegpjmiiihaa
open Go.RowKit
/-- A label's blocks: the box of l, jumps, place, the box of fill. -/
structure Lab (w : World) (lb xb jb pb fb : Nat) (jv : Value) (pl : Int) : Prop where
  X : Cl w xb [.pointer (some ⟨lb, 0, none⟩)]
  J : Cl w jb [jv]
  P : Cl w pb [.int .i64 pl]
  B : Cl w fb [.func (.func 37) #[] #[.pointer (some ⟨jb, 0, none⟩), .pointer (some ⟨pb, 0, none⟩), .pointer (some ⟨xb, 0, none⟩)]]
  JF : ∀ i, w.frozen? ⟨jb, i, none⟩ = false
  PF : ∀ i, w.frozen? ⟨pb, i, none⟩ = false
  n1 : xb ≠ jb
  n2 : xb ≠ pb
  n3 : xb ≠ fb
  n4 : jb ≠ pb
  n5 : jb ≠ fb
  n6 : pb ≠ fb
/-- Where a label may be: not at lb, not in the program's row. -/
def Off (lb : Nat) (v : Value) (xb jb pb fb : Nat) : Prop := (xb ≠ lb ∧ jb ≠ lb ∧ pb ≠ lb ∧ fb ≠ lb) ∧ v.ownBlock ≠ some xb ∧ v.ownBlock ≠ some jb ∧ v.ownBlock ≠ some pb ∧ v.ownBlock ≠ some fb
theorem Stp.fz {lb : Nat} {E : Nat → Prop} {w w' : World} {v v' : Value} {b : Nat} (h : Stp lb E w v w' v') (hb : b < w.heap.size) (c : ∀ i, w.frozen? ⟨b, i, none⟩ = false) (h1 : b ≠ lb) (h2 : v.ownBlock ≠ some b) (h3 : ¬ E b) : ∀ i, w'.frozen? ⟨b, i, none⟩ = false := h.x.fz hb c (fun e => by
  rcases e with e | e | e
  · exact h1 e
  · exact h2 e
  · exact h3 e)
theorem Lab.step {w w' : World} {lb xb jb pb fb : Nat} {jv v v' : Value} {pl : Int} {E : Nat → Prop} (h : Lab w lb xb jb pb fb jv pl) (o : Off lb v xb jb pb fb) (s : Stp lb E w v w' v') (h1 : ¬ E xb) (h2 : ¬ E jb) (h3 : ¬ E pb) (h4 : ¬ E fb) : Lab w' lb xb jb pb fb jv pl ∧ Off lb v' xb jb pb fb :=
  ⟨⟨s.cl h.X o.1.1 o.2.1 h1, s.cl h.J o.1.2.1 o.2.2.1 h2, s.cl h.P o.1.2.2.1 o.2.2.2.1 h3, s.cl h.B o.1.2.2.2 o.2.2.2.2 h4, s.fz h.J.1 h.JF o.1.2.1 o.2.2.1 h2, s.fz h.P.1 h.PF o.1.2.2.1 o.2.2.2.1 h3, h.n1, h.n2, h.n3, h.n4, h.n5, h.n6⟩, o.1, s.nb h.X.1 o.2.1, s.nb h.J.1 o.2.2.1, s.nb h.P.1 o.2.2.2.1, s.nb h.B.1 o.2.2.2.2⟩

set_option maxRecDepth 20000 in
set_option maxHeartbeats 4000000 in
theorem label_any (lb : Nat) (w : World) :
    Calls Try.prog 32 #[.pointer (some ⟨lb, 0, none⟩)] w fun e w' => e = .returned (.tuple #[.func (.func 38) #[] #[.pointer (some ⟨w.heap.size + 1, 0, none⟩), .pointer (some ⟨w.heap.size, 0, none⟩), .pointer (some ⟨w.heap.size + 1 + 1 + 1, 0, none⟩)], .func (.func 39) #[] #[.pointer (some ⟨w.heap.size, 0, none⟩), .pointer (some ⟨w.heap.size + 1 + 1, 0, none⟩), .pointer (some ⟨w.heap.size + 1 + 1 + 1, 0, none⟩)]]) ∧ Below w.heap.size w w' ∧ Lab w' lb w.heap.size (w.heap.size + 1) (w.heap.size + 1 + 1) (w.heap.size + 1 + 1 + 1) (.slice none 0 0) 0 := by
  go_enter Try.func32, Try.ntmps32
  go_wp2
  refine bodyPost_ret (v := .tuple #[.func (.func 38) #[] #[.pointer (some ⟨w.heap.size + 1, 0, none⟩), .pointer (some ⟨w.heap.size, 0, none⟩), .pointer (some ⟨w.heap.size + 1 + 1 + 1, 0, none⟩)], .func (.func 39) #[] #[.pointer (some ⟨w.heap.size, 0, none⟩), .pointer (some ⟨w.heap.size + 1 + 1, 0, none⟩), .pointer (some ⟨w.heap.size + 1 + 1 + 1, 0, none⟩)]]) (by simp [results, Try.results32, go_sem]) rfl ⟨rfl, ?_, ?_⟩
  · exact ((((Below.refl _ _).alloc (Nat.le_refl _) _).alloc (by simp) _).alloc (by simp; omega) _).alloc (by simp; omega) _
  · refine ⟨⟨by simp <;> omega, ?_⟩, ⟨by simp <;> omega, ?_⟩, ⟨by simp <;> omega, ?_⟩, ⟨by simp, ?_⟩, fun i => by simp [go_sem], fun i => by simp [go_sem], by omega, by omega, by omega, by omega, by omega, by omega⟩
    all_goals
      intro i hi
      match i, hi with
      | 0, _ => simp [go_sem]

set_option maxRecDepth 20000 in
set_option maxHeartbeats 4000000 in
theorem fill0_any (lb xb jb pb fb : Nat) (pl : Int) (w : World) (h : Lab w lb xb jb pb fb (.slice none 0 0) pl) :
    Calls Try.prog 37 #[.pointer (some ⟨jb, 0, none⟩), .pointer (some ⟨pb, 0, none⟩), .pointer (some ⟨xb, 0, none⟩)] w fun e w' => e = .returned (.tuple #[]) ∧ w' = w := by
  have j0 : w.cell? ⟨jb, 0, none⟩ = some (.slice none 0 0) := h.J.2 0 (by simp)
  have jl := h.J.1
  clear h
  go_enter Try.func37, Try.ntmps37
  go_wp2
  go_loopw [7] (fun iv wr => iv = .int .i64 0 ∧ wr = w) (fun _ _ => 0)
  case atStart => exact ⟨rfl, rfl⟩
  case round =>
    obtain ⟨rfl, rfl⟩ := hrel
    go_wp2
    go_end0
    exact ⟨rfl, rfl⟩

set_option maxRecDepth 20000 in
set_option maxHeartbeats 4000000 in
theorem fill1_any (lb xb jb pb fb jr jc k : Nat) (pl : Int) (v : Value) (A R : List NV) (x : NV) (w : World) (hL : Lab w lb xb jb pb fb (.slice (some ⟨jr, 0, none⟩) 1 jc) pl) (hj : Cl w jr [.int .i64 (k : Int)]) (hk : A.length = k) (hP : LP w lb v (A ++ x :: R)) :
    Calls Try.prog 37 #[.pointer (some ⟨jb, 0, none⟩), .pointer (some ⟨pb, 0, none⟩), .pointer (some ⟨xb, 0, none⟩)] w fun e w' => e = .returned (.tuple #[]) ∧ LP w' lb v (A ++ { x with imm := pl } :: R) ∧ Stp lb (fun _ => False) w v w' v := by
  have HP : Hid (LP w lb v (A ++ x :: R)) := hP
  have HL : Hid (Lab w lb xb jb pb fb (.slice (some ⟨jr, 0, none⟩) 1 jc) pl) := hL
  have HJ : Hid (Cl w jr [.int .i64 (k : Int)]) := hj
  have HK : Hid (A.length = k) := hk
  obtain ⟨g, c, hv⟩ := row_some2 hP.O (by simp; omega)
  subst hv
  obtain ⟨n, hn'⟩ : ∃ y, (A ++ x :: R).length = y := ⟨_, rfl⟩
  have hkn : k < n := by rw [← hn', ← hk]; simp
  have HO : Hid (w.ownsRow (lb + 1) 36 6 (.slice (some ⟨g, 0, none⟩) n c) n (ci (A ++ x :: R))) := (by rw [← hn']; exact hP.O : w.ownsRow (lb + 1) 36 6 (.slice (some ⟨g, 0, none⟩) n c) n (ci (A ++ x :: R)))
  have HN : Hid ((A ++ x :: R).length = n) := hn'
  rw [hn'] at hP ⊢
  rw [hn'] at HP
  have j0 : w.cell? ⟨jb, 0, none⟩ = some (.slice (some ⟨jr, 0, none⟩) 1 jc) := hL.J.2 0 (by simp)
  have jl := hL.J.1
  clear hP hL hj hk hn'
  go_enter Try.func37, Try.ntmps37
  go_wp2
  clear j0
  go_loopw [7] (fun iv wr => (iv = .int .i64 0 ∧ wr = w) ∨ (iv = .int .i64 1 ∧ wr = w.drew.setCell ⟨g, k * 6 + 4, none⟩ (.int .i64 pl))) (fun iv _ => 1 - (intOf iv).toNat)
  case atStart => exact .inl ⟨rfl, rfl⟩
  case round =>
    rcases hrel with ⟨rfl, rfl⟩ | ⟨rfl, hw⟩
    rotate_left
    · subst hw
      have P5 : Hid (LP (w.drew.setCell ⟨g, k * 6 + 4, none⟩ (.int .i64 pl)) lb (.slice (some ⟨g, 0, none⟩) n c) (A ++ { x with imm := pl } :: R)) := (by
        have gl := (HO.out.lt g rfl).1
        refine ⟨(World.cell?_setCell_far _ _ _ _ (show g ≠ lb by omega)).trans HP.out.C, by simpa using HP.out.lt, fun i => by simpa using HP.out.F i, ?_⟩
        have h := (HO.out.drew.stored (k * 6 + 4) (.int .i64 pl)).1
        rw [← HK.out, ci_set4] at h
        have hl : (A ++ { x with imm := pl } :: R).length = n := by rw [← HN.out]; simp
        rw [hl, ← HK.out]; exact h : LP (w.drew.setCell ⟨g, k * 6 + 4, none⟩ (.int .i64 pl)) lb (.slice (some ⟨g, 0, none⟩) n c) (A ++ { x with imm := pl } :: R))
      go_wp2
      go_end0
      exact ⟨rfl, P5.out, ⟨(Lx.of_below (Below.refl _ _).drew).set (.inr (.inl rfl)) _, .inl rfl⟩⟩
    have q0 : wr.cell? ⟨jr, 0, none⟩ = some (.int .i64 (k : Int)) := HJ.out.2 0 (by simp)
    have ql := HJ.out.1
    go_upto_region 3 with fail
    clear q0
    have rx : ∀ w', Below wr.heap.size wr w' → w'.cell? ⟨xb, 0, none⟩ = some (.pointer (some ⟨lb, 0, none⟩)) := fun w' h => (HL.out.X.below h).2 0 (by simp)
    have rp : ∀ w', Below wr.heap.size wr w' → w'.cell? ⟨pb, 0, none⟩ = some (.int .i64 pl) := fun w' h => (HL.out.P.below h).2 0 (by simp)
    have rl : ∀ w', Below wr.heap.size wr w' → w'.cell? ⟨lb, 0, none⟩ = some (.slice (some ⟨g, 0, none⟩) n c) := fun w' h => (h.cell (p := ⟨lb, 0, none⟩) HP.out.lt).trans HP.out.C
    have hkn' : (k : Int) < (n : Int) := by omega
    refine wp_region_L (T := fun w' => Below wr.heap.size wr w') (s := 8) (by kernel_rfl) (Below.refl _ _).drew (fun hHeld => ?_)
    refine wpAnyL_tk 0 ?k1v rfl ?k1y ?k1r
    case k1y => (intro w hSw; (try dsimp only at hSw); go_simp; try with_reducible rfl)
    try simp only [Act.put, List.getElem_toArray, List.getElem_cons_zero, List.setIfInBounds_toArray, List.set_cons_zero, List.set_cons_succ]
    refine wpAnyL_tk 1 ?k2v rfl ?k2y ?k2r
    case k2y => (intro w hSw; (try dsimp only at hSw); go_simp; try with_reducible rfl)
    try simp only [Act.put, List.getElem_toArray, List.getElem_cons_zero, List.getElem_cons_succ, List.setIfInBounds_toArray, List.set_cons_zero, List.set_cons_succ]
    refine wpAnyL_tk 2 ?k3v rfl ?k3y ?k3r
    case k3y => (intro w hSw; (try dsimp only at hSw); go_simp; try with_reducible rfl)
    try simp only [Act.put, List.getElem_toArray, List.getElem_cons_zero, List.getElem_cons_succ, List.setIfInBounds_toArray, List.set_cons_zero, List.set_cons_succ]
    refine wpAnyL_tk 3 ?k4v rfl ?k4y ?k4r
    case k4y => (intro w hSw; (try dsimp only at hSw); go_simp; try with_reducible rfl)
    try simp only [Act.put, List.getElem_toArray, List.getElem_cons_zero, List.getElem_cons_succ, List.setIfInBounds_toArray, List.set_cons_zero, List.set_cons_succ]
    refine wpAnyL_tk 4 ?k5v rfl ?k5y ?k5r
    case k5y => (intro w hSw; (try dsimp only at hSw); go_simp; try with_reducible rfl)
    try simp only [Act.put, List.getElem_toArray, List.getElem_cons_zero, List.getElem_cons_succ, List.setIfInBounds_toArray, List.set_cons_zero, List.set_cons_succ]
    refine wpAnyL_tk 5 ?k6v rfl ?k6y ?k6r
    case k6y => (intro w hSw; (try dsimp only at hSw); go_simp; try with_reducible rfl)
    try simp only [Act.put, List.getElem_toArray, List.getElem_cons_zero, List.getElem_cons_succ, List.setIfInBounds_toArray, List.set_cons_zero, List.set_cons_succ]
    refine wpAnyL_tkT 6 ?k7v rfl ?k7y ?k7r
    case k7y => (intro w hSw; (try dsimp only at hSw); go_simp; try with_reducible rfl)
    try simp only [Act.put, List.getElem_toArray, List.getElem_cons_zero, List.getElem_cons_succ, List.setIfInBounds_toArray, List.set_cons_zero, List.set_cons_succ]
    refine wpAnyL_tk 7 ?k8v rfl ?k8y ?k8r
    case k8y => (intro w hSw; (try dsimp only at hSw); go_simp; try with_reducible rfl)
    try simp only [Act.put, List.getElem_toArray, List.getElem_cons_zero, List.getElem_cons_succ, List.setIfInBounds_toArray, List.set_cons_zero, List.set_cons_succ]
    have f6 : ∀ i, wr.drew.frozen? ⟨g, i, none⟩ = false := fun i => HO.out.drew.frozenAt i
    have l6 : g < wr.drew.heap.size := (HO.out.drew.lt g rfl).2
    have e4 : wr.drew.cell? ⟨g, k * 6 + 4, none⟩ = some (.int .i64 x.imm) := by
      rw [HO.out.drew.cellAt _ (by omega), ← HK.out]
      exact ci_at4 A R x
    refine wpAnyL_store rfl (by kernel_rfl) (by kernel_rfl) (fun KK hK => ?_)
    go_simp
    refine hK.out _ _ ?_
    clear hK KK rx rp rl f6 l6 e4 hHeld
    go_wp2
    go_roundw
    case rel => exact .inr ⟨rfl, rfl⟩
    case measure => simp [intOf]

set_option maxRecDepth 20000 in
set_option maxHeartbeats 4000000 in
theorem set0_any (lb xb jb pb fb : Nat) (pl : Int) (v : Value) (xs : List NV) (w : World) (hL : Lab w lb xb jb pb fb (.slice none 0 0) pl) (hP : LP w lb v xs) (ho : Off lb v xb jb pb fb) :
    Calls Try.prog 39 #[.pointer (some ⟨xb, 0, none⟩), .pointer (some ⟨pb, 0, none⟩), .pointer (some ⟨fb, 0, none⟩)] w fun e w' => e = .returned (.tuple #[]) ∧ LP w' lb v xs ∧ Lab w' lb xb jb pb fb (.slice none 0 0) (xs.length : Int) ∧ Stp lb (fun k => k = pb) w v w' v := by
  obtain ⟨aov, kv, cv, hv⟩ := row_slice hP.O
  subst hv
  have hkv : kv = xs.length := by
    rcases hP.O.2 with ⟨e, e2⟩ | ⟨g, cap, cur, e, _⟩
    · have := (Value.slice.inj e).2.1; omega
    · exact (Value.slice.inj e).2.1
  have HP : Hid (LP w lb (.slice aov kv cv) xs) := hP
  have HL : Hid (Lab w lb xb jb pb fb (.slice none 0 0) pl) := hL
  have HO : Hid (Off lb (.slice aov kv cv) xb jb pb fb) := ho
  have x0 : w.cell? ⟨xb, 0, none⟩ = some (.pointer (some ⟨lb, 0, none⟩)) := hL.X.2 0 (by simp)
  have p0 : w.cell? ⟨pb, 0, none⟩ = some (.int .i64 pl) := hL.P.2 0 (by simp)
  have b0 : w.cell? ⟨fb, 0, none⟩ = some (.func (.func 37) #[] #[.pointer (some ⟨jb, 0, none⟩), .pointer (some ⟨pb, 0, none⟩), .pointer (some ⟨xb, 0, none⟩)]) := hL.B.2 0 (by simp)
  have l0 := hP.C
  have z1 := hL.X.1
  have z2 := hL.P.1
  have z3 := hL.B.1
  have z4 := hP.lt
  have pf := hL.PF
  have npf : fb ≠ pb := hL.n6.symm
  obtain ⟨u, hu, LU, PU, SU⟩ : ∃ y, w.setCell ⟨pb, 0, none⟩ (.int .i64 (kv : Int)) = y ∧ Hid (Lab y lb xb jb pb fb (.slice none 0 0) (kv : Int)) ∧ Hid (LP y lb (.slice aov kv cv) xs) ∧ Hid (Stp lb (fun k => k = pb) w (.slice aov kv cv) y (.slice aov kv cv)) := by
    have far : ∀ {b o : Nat}, b ≠ pb → (w.setCell ⟨pb, 0, none⟩ (.int .i64 (kv : Int))).cell? ⟨b, o, none⟩ = w.cell? ⟨b, o, none⟩ := fun h => World.cell?_setCell_far _ _ _ _ (show pb ≠ _ from fun e => h e.symm)
    have cl : ∀ {b : Nat} {vs : List Value}, b ≠ pb → Cl w b vs → Cl (w.setCell ⟨pb, 0, none⟩ (.int .i64 (kv : Int))) b vs := fun h c => ⟨by simpa using c.1, fun i hi => (far h).trans (c.2 i hi)⟩
    refine ⟨_, rfl, ⟨cl hL.n2 hL.X, cl hL.n4 hL.J, ⟨by simpa using hL.P.1, fun i hi => ?_⟩, cl hL.n6.symm hL.B, fun i => by simpa using hL.JF i, fun i => by simpa using hL.PF i, hL.n1, hL.n2, hL.n3, hL.n4, hL.n5, hL.n6⟩, ⟨(far (fun e => ho.1.2.2.1 e.symm)).trans hP.C, by simpa using hP.lt, fun i => by simpa using hP.F i, ownsRow_setCell_other hP.O ho.2.2.2.1 _⟩, ⟨(Lx.refl _ _).set (.inr (.inr rfl)) _, .inl rfl⟩⟩
    match i, hi with
    | 0, _ => simp [go_sem, p0]
  have HKV : Hid (kv = xs.length) := hkv
  have HU : Hid (w.setCell ⟨pb, 0, none⟩ (.int .i64 (kv : Int)) = u) := hu
  clear hL hP ho hkv hu
  go_enter Try.func39, Try.ntmps39
  go_wp2_with fail
  rw [HU.out]
  refine (fill0_any lb xb jb pb fb (kv : Int) u LU.out).mono ?_
  rintro e u' ⟨rfl, hw⟩
  rw [hw]
  go_wp2
  go_end0
  exact ⟨rfl, PU.out, by rw [← HKV.out]; exact LU.out, SU.out⟩
set_option maxRecDepth 20000 in
set_option maxHeartbeats 4000000 in
theorem set1_any (lb xb jb pb fb jr jc k : Nat) (pl : Int) (v : Value) (A R : List NV) (x : NV) (w : World) (hj : Cl w jr [.int .i64 (k : Int)]) (hk : A.length = k) (hjp : jr ≠ pb) (hL : Lab w lb xb jb pb fb (.slice (some ⟨jr, 0, none⟩) 1 jc) pl) (hP : LP w lb v (A ++ x :: R)) (ho : Off lb v xb jb pb fb) :
    Calls Try.prog 39 #[.pointer (some ⟨xb, 0, none⟩), .pointer (some ⟨pb, 0, none⟩), .pointer (some ⟨fb, 0, none⟩)] w fun e w' => e = .returned (.tuple #[]) ∧ LP w' lb v (A ++ { x with imm := ((A ++ x :: R).length : Int) } :: R) ∧ Stp lb (fun k => k = pb) w v w' v := by
  obtain ⟨aov, kv, cv, hv⟩ := row_slice hP.O
  subst hv
  have hkv : kv = (A ++ x :: R).length := by
    rcases hP.O.2 with ⟨e, e2⟩ | ⟨g, cap, cur, e, _⟩
    · have := (Value.slice.inj e).2.1; omega
    · exact (Value.slice.inj e).2.1
  have HP : Hid (LP w lb (.slice aov kv cv) (A ++ x :: R)) := hP
  have HL : Hid (Lab w lb xb jb pb fb (.slice (some ⟨jr, 0, none⟩) 1 jc) pl) := hL
  have HO : Hid (Off lb (.slice aov kv cv) xb jb pb fb) := ho
  have x0 : w.cell? ⟨xb, 0, none⟩ = some (.pointer (some ⟨lb, 0, none⟩)) := hL.X.2 0 (by simp)
  have p0 : w.cell? ⟨pb, 0, none⟩ = some (.int .i64 pl) := hL.P.2 0 (by simp)
  have b0 : w.cell? ⟨fb, 0, none⟩ = some (.func (.func 37) #[] #[.pointer (some ⟨jb, 0, none⟩), .pointer (some ⟨pb, 0, none⟩), .pointer (some ⟨xb, 0, none⟩)]) := hL.B.2 0 (by simp)
  have l0 := hP.C
  have z1 := hL.X.1
  have z2 := hL.P.1
  have z3 := hL.B.1
  have z4 := hP.lt
  have pf := hL.PF
  have npf : fb ≠ pb := hL.n6.symm
  obtain ⟨u, hu, LU, PU, SU, JU⟩ : ∃ y, w.setCell ⟨pb, 0, none⟩ (.int .i64 (kv : Int)) = y ∧ Hid (Lab y lb xb jb pb fb (.slice (some ⟨jr, 0, none⟩) 1 jc) (kv : Int)) ∧ Hid (LP y lb (.slice aov kv cv) (A ++ x :: R)) ∧ Hid (Stp lb (fun k => k = pb) w (.slice aov kv cv) y (.slice aov kv cv)) ∧ Hid (Cl y jr [.int .i64 (k : Int)]) := by
    have far : ∀ {b o : Nat}, b ≠ pb → (w.setCell ⟨pb, 0, none⟩ (.int .i64 (kv : Int))).cell? ⟨b, o, none⟩ = w.cell? ⟨b, o, none⟩ := fun h => World.cell?_setCell_far _ _ _ _ (show pb ≠ _ from fun e => h e.symm)
    have cl : ∀ {b : Nat} {vs : List Value}, b ≠ pb → Cl w b vs → Cl (w.setCell ⟨pb, 0, none⟩ (.int .i64 (kv : Int))) b vs := fun h c => ⟨by simpa using c.1, fun i hi => (far h).trans (c.2 i hi)⟩
    refine ⟨_, rfl, ⟨cl hL.n2 hL.X, cl hL.n4 hL.J, ⟨by simpa using hL.P.1, fun i hi => ?_⟩, cl hL.n6.symm hL.B, fun i => by simpa using hL.JF i, fun i => by simpa using hL.PF i, hL.n1, hL.n2, hL.n3, hL.n4, hL.n5, hL.n6⟩, ⟨(far (fun e => ho.1.2.2.1 e.symm)).trans hP.C, by simpa using hP.lt, fun i => by simpa using hP.F i, ownsRow_setCell_other hP.O ho.2.2.2.1 _⟩, ⟨(Lx.refl _ _).set (.inr (.inr rfl)) _, .inl rfl⟩, cl hjp hj⟩
    match i, hi with
    | 0, _ => simp [go_sem, p0]
  have HKV : Hid (kv = (A ++ x :: R).length) := hkv
  have HU : Hid (w.setCell ⟨pb, 0, none⟩ (.int .i64 (kv : Int)) = u) := hu
  have HK : Hid (A.length = k) := hk
  clear hL hP ho hkv hu hj hk
  go_enter Try.func39, Try.ntmps39
  go_wp2_with fail
  rw [HU.out]
  refine (fill1_any lb xb jb pb fb jr jc k (kv : Int) (.slice aov kv cv) A R x u LU.out JU.out HK.out PU.out).mono ?_
  rintro e u' ⟨rfl, hP', hS'⟩
  have P' : Hid (LP u' lb (.slice aov kv cv) (A ++ { x with imm := (kv : Int) } :: R)) := hP'
  have S' : Hid (Stp lb (fun k => k = pb) w (.slice aov kv cv) u' (.slice aov kv cv)) := SU.out.trans hS' (fun _ _ h => h.elim)
  clear hP' hS'
  go_wp2
  go_end0
  refine ⟨rfl, ?_, S'.out⟩
  have h := P'.out
  rw [HKV.out] at h ⊢
  exact h

theorem info_int : (Try.prog.info? 3).map (fun i => (i.zero, i.size, i.bytes)) = some (some (.int .i64 0), 1, 8) := by kernel_rfl
set_option maxRecDepth 20000 in
set_option maxHeartbeats 8000000 in
theorem labJump_any (lb xb jb pb fb : Nat) (pl op : Int) (v : Value) (xs : List NV) (w : World) (hL : Lab w lb xb jb pb fb (.slice none 0 0) pl) (hP : LP w lb v xs) (hn : xs.length ≤ 4000) (ho : Off lb v xb jb pb fb) :
    Calls Try.prog 38 #[.int .i64 op, .pointer (some ⟨jb, 0, none⟩), .pointer (some ⟨xb, 0, none⟩), .pointer (some ⟨fb, 0, none⟩)] w fun e w' => e = .returned (.tuple #[]) ∧ ∃ v' jr jc, LP w' lb v' (xs ++ [jmpV op pl]) ∧ Lab w' lb xb jb pb fb (.slice (some ⟨jr, 0, none⟩) 1 jc) pl ∧ Cl w' jr [.int .i64 (xs.length : Int)] ∧ w.heap.size ≤ jr ∧ v'.ownBlock ≠ some jr ∧ Off lb v' xb jb pb fb ∧ Stp lb (fun k => k = jb) w v w' v' := by
  obtain ⟨aov, kv, cv, hv⟩ := row_slice hP.O
  subst hv
  have hkv : kv = xs.length := by
    rcases hP.O.2 with ⟨e, e2⟩ | ⟨g, cap, cur, e, _⟩
    · have := (Value.slice.inj e).2.1; omega
    · exact (Value.slice.inj e).2.1
  have HP : Hid (LP w lb (.slice aov kv cv) xs) := hP
  have HL : Hid (Lab w lb xb jb pb fb (.slice none 0 0) pl) := hL
  have HO : Hid (Off lb (.slice aov kv cv) xb jb pb fb) := ho
  have HKV : Hid (kv = xs.length) := hkv
  have kb : kv ≤ 4000 := by omega
  have rj : ∀ w', Below w.heap.size w w' → w'.cell? ⟨jb, 0, none⟩ = some (.slice none 0 0) := fun w' h => (HL.out.J.below h).2 0 (by simp)
  have rx : ∀ w', Below w.heap.size w w' → w'.cell? ⟨xb, 0, none⟩ = some (.pointer (some ⟨lb, 0, none⟩)) := fun w' h => (HL.out.X.below h).2 0 (by simp)
  have rl : ∀ w', Below w.heap.size w w' → w'.cell? ⟨lb, 0, none⟩ = some (.slice aov kv cv) := fun w' h => (h.cell (p := ⟨lb, 0, none⟩) HP.out.lt).trans HP.out.C
  have zj := hL.J.1
  have zl := hP.lt
  clear hL hP ho hkv hn
  obtain ⟨iS, gS, gS0, gS1, gS2⟩ := info_parts info_int
  have HIS : Hid (_ ∧ _ ∧ _ ∧ _) := ⟨gS, gS0, gS1, gS2⟩
  clear gS gS0 gS1 gS2
  go_enter Try.func38, Try.ntmps38
  go_upto_region 0 with fail
  refine wp_region_L (T := fun w' => Below w.heap.size w w') (s := 8) (by kernel_rfl) (Below.refl _ _).drew (fun hHeld => ?_)
  generalize w.drew = t0 at hHeld ⊢
  refine wpAnyL_tk 0 ?k9v rfl ?k9y ?k9r
  case k9y => (intro w hSw; (try dsimp only at hSw); go_simp; try with_reducible rfl)
  try simp only [Act.put, List.getElem_toArray, List.getElem_cons_zero, List.setIfInBounds_toArray, List.set_cons_zero, List.set_cons_succ]
  refine wpAnyL_tk 1 ?k10v rfl ?k10y ?k10r
  case k10y => (intro w hSw; (try dsimp only at hSw); go_simp; try with_reducible rfl)
  try simp only [Act.put, List.getElem_toArray, List.getElem_cons_zero, List.getElem_cons_succ, List.setIfInBounds_toArray, List.set_cons_zero, List.set_cons_succ]
  refine wpAnyL_tk 2 ?k11v rfl ?k11y ?k11r
  case k11y => (intro w hSw; (try dsimp only at hSw); go_simp; try with_reducible rfl)
  try simp only [Act.put, List.getElem_toArray, List.getElem_cons_zero, List.getElem_cons_succ, List.setIfInBounds_toArray, List.set_cons_zero, List.set_cons_succ]
  refine wpAnyL_tk 3 ?k12v rfl ?k12y ?k12r
  case k12y => (intro w hSw; (try dsimp only at hSw); go_simp; try with_reducible rfl)
  try simp only [Act.put, List.getElem_toArray, List.getElem_cons_zero, List.getElem_cons_succ, List.setIfInBounds_toArray, List.set_cons_zero, List.set_cons_succ]
  refine wpAnyL_tk 4 ?k13v rfl ?k13y ?k13r
  case k13y => (intro w hSw; (try dsimp only at hSw); go_simp; try with_reducible rfl)
  try simp only [Act.put, List.getElem_toArray, List.getElem_cons_zero, List.getElem_cons_succ, List.setIfInBounds_toArray, List.set_cons_zero, List.set_cons_succ]
  refine wpAnyL_tk 5 ?k14v rfl ?k14y ?k14r
  case k14y => (intro w hSw; (try dsimp only at hSw); go_simp; try with_reducible rfl)
  try simp only [Act.put, List.getElem_toArray, List.getElem_cons_zero, List.getElem_cons_succ, List.setIfInBounds_toArray, List.set_cons_zero, List.set_cons_succ]
  refine wpAnyL_call (i := 6) rfl (by kernel_rfl) (fun KK hK => ?_)
  go_simp
  obtain ⟨t1, ht1, hbA, hnw⟩ : ∃ y, t0.alloc (.cells #[.int .i64 (kv : Int)] 3) = y ∧ Below t0.heap.size t0 y ∧ (∀ j u, ([.int .i64 (kv : Int)] : List Value)[j]? = some u → y.cell? ((⟨t0.heap.size, 0, none⟩ : Addr).add j) = some u) := ⟨_, rfl, (Below.refl _ _).alloc (Nat.le_refl _) _, cells_new6 _ _ _⟩
  rw [ht1]
  have TE : Below w.heap.size w t1 := hHeld.trans (hbA.mono hHeld.size)
  have NW : Hid _ := hnw
  clear ht1 hbA hnw
  refine hK.out _ _ TE (fun hHeld1 => ?_)
  clear hK KK
  try simp only [Act.put, List.getElem_toArray, List.getElem_cons_zero, List.getElem_cons_succ, List.setIfInBounds_toArray, List.set_cons_zero, List.set_cons_succ]
  have zt := TE.size
  obtain ⟨v', w5, hrun, hown, hgrow, hnil, _⟩ := run_append_own_at (P := Try.prog) t1 w.heap.size 85 85 3 iS _ 1 8 Try.underlying85 HIS.out.1 HIS.out.2.1 HIS.out.2.2.1 HIS.out.2.2.2 rfl (by decide) (.slice none 0 0) 0 [] (World.ownsRow_nil _ _ _ _) ⟨t0.heap.size, 0, none⟩ 1 1 [.int .i64 (kv : Int)] rfl NW.out (by intro u hu; simp at hu; subst hu; rfl) (by unfold maxLen; omega) (by omega) zt
  have T5 : Below w.heap.size w w5 := TE.grown hgrow zt (by intro k hk; cases hk)
  refine wpAnyL_append (.tmp 5) (.tmp 11) (i := 7) rfl (by kernel_rfl) (by kernel_rfl) rfl rfl rfl hrun T5 (fun hHeld5 => ?_)
  try simp only [Act.put, List.getElem_toArray, List.getElem_cons_zero, List.getElem_cons_succ, List.setIfInBounds_toArray, List.set_cons_zero, List.set_cons_succ]
  rw [Nat.zero_add, List.nil_append] at hown
  obtain ⟨jr, jc, hv'⟩ := row_some2 hown (by omega)
  subst hv'
  have JR : w.heap.size ≤ jr := (hown.lt jr rfl).1
  have J5 : Cl w5 jr [.int .i64 (kv : Int)] := ⟨(hown.lt jr rfl).2, fun i hi => by
    match i, hi with
    | 0, _ => exact hown.cellAt 0 (by omega)⟩
  obtain ⟨u, hu, LU, PU, SU, JU, OU⟩ : ∃ y, w5.setCell ⟨jb, 0, none⟩ (.slice (some ⟨jr, 0, none⟩) 1 jc) = y ∧ Hid (Lab y lb xb jb pb fb (.slice (some ⟨jr, 0, none⟩) 1 jc) pl) ∧ Hid (LP y lb (.slice aov kv cv) xs) ∧ Hid (Stp lb (fun k => k = jb) w (.slice aov kv cv) y (.slice aov kv cv)) ∧ Hid (Cl y jr [.int .i64 (kv : Int)]) ∧ Hid (jr < y.heap.size) := by
    have far : ∀ {b o : Nat}, b ≠ jb → (w5.setCell ⟨jb, 0, none⟩ (.slice (some ⟨jr, 0, none⟩) 1 jc)).cell? ⟨b, o, none⟩ = w5.cell? ⟨b, o, none⟩ := fun h => World.cell?_setCell_far _ _ _ _ (show jb ≠ _ from fun e => h e.symm)
    have cl : ∀ {b : Nat} {vs : List Value}, b ≠ jb → Cl w5 b vs → Cl (w5.setCell ⟨jb, 0, none⟩ (.slice (some ⟨jr, 0, none⟩) 1 jc)) b vs := fun h c => ⟨by simpa using c.1, fun i hi => (far h).trans (c.2 i hi)⟩
    have j0 := rj w5 T5
    refine ⟨_, rfl, ⟨cl HL.out.n1 (HL.out.X.below T5), ⟨by simpa using (HL.out.J.below T5).1, fun i hi => ?_⟩, cl HL.out.n4.symm (HL.out.P.below T5), cl HL.out.n5.symm (HL.out.B.below T5), fun i => by simpa using (T5.frozen (p := ⟨jb, i, none⟩) HL.out.J.1).trans (HL.out.JF i), fun i => by simpa using (T5.frozen (p := ⟨pb, i, none⟩) HL.out.P.1).trans (HL.out.PF i), HL.out.n1, HL.out.n2, HL.out.n3, HL.out.n4, HL.out.n5, HL.out.n6⟩, ⟨(far (fun e => HO.out.1.2.1 e.symm)).trans (rl w5 T5), by simpa using (Nat.lt_of_lt_of_le zl T5.size), fun i => by simpa using (T5.frozen (p := ⟨lb, i, none⟩) zl).trans (HP.out.F i), ownsRow_setCell_other (row_belowU HP.out.O T5) HO.out.2.2.1 _⟩, ⟨(Lx.of_below T5).set (.inr (.inr rfl)) _, .inl rfl⟩, cl (by omega) J5, Nat.lt_of_lt_of_le J5.1 (by simp)⟩
    match i, hi with
    | 0, _ => simp [go_sem, j0]
  have j5 := rj w5 T5
  have jf5 : ∀ i, w5.frozen? ⟨jb, i, none⟩ = false := fun i => (T5.frozen (p := ⟨jb, i, none⟩) HL.out.J.1).trans (HL.out.JF i)
  have jl5 : jb < w5.heap.size := Nat.lt_of_lt_of_le zj T5.size
  have HU : Hid (w5.setCell ⟨jb, 0, none⟩ (.slice (some ⟨jr, 0, none⟩) 1 jc) = u) := hu
  clear hown hgrow hnil hrun hHeld hHeld1 hHeld5 TE T5 J5 NW hu rj rx rl
  refine wpAnyL_store rfl (by kernel_rfl) (by kernel_rfl) (fun KK hK => ?_)
  go_simp
  refine hK.out _ _ ?_
  clear hK KK j5 jf5 jl5
  rw [HU.out]
  clear HU
  have ux : u.cell? ⟨xb, 0, none⟩ = some (.pointer (some ⟨lb, 0, none⟩)) := LU.out.X.2 0 (by simp)
  have uxl := LU.out.X.1
  go_wp2_with fail
  refine (add_any lb (.slice aov kv cv) xs (jmpV op 0) u PU.out (by have := HKV.out; omega)).mono ?_
  rintro e u2 ⟨rfl, v2, hP2, hS2⟩
  have P2 : Hid (LP u2 lb v2 (xs ++ [jmpV op 0])) := hP2
  have S2 : Hid (Stp lb (fun k => k = jb) w (.slice aov kv cv) u2 v2) := SU.out.trans hS2 (fun _ _ h => h.elim)
  obtain ⟨hl2, ho2⟩ := LU.out.step HO.out hS2 (fun h => h) (fun h => h) (fun h => h) (fun h => h)
  have L2 : Hid (Lab u2 lb xb jb pb fb (.slice (some ⟨jr, 0, none⟩) 1 jc) pl) := hl2
  have NJ : (Value.slice aov kv cv).ownBlock ≠ some jr := fun e => by have := (HP.out.O.lt _ e).2; omega
  have J2 : Hid (Cl u2 jr [.int .i64 (kv : Int)]) := hS2.cl JU.out (by omega) NJ (fun h => h)
  have N2 : Hid (v2.ownBlock ≠ some jr) := hS2.nb OU.out NJ
  have O2 : Hid (Off lb v2 xb jb pb fb) := ho2
  clear hP2 hS2 hl2 ho2 ux uxl SU LU PU JU
  have b0 : u2.cell? ⟨fb, 0, none⟩ = some (.func (.func 37) #[] #[.pointer (some ⟨jb, 0, none⟩), .pointer (some ⟨pb, 0, none⟩), .pointer (some ⟨xb, 0, none⟩)]) := L2.out.B.2 0 (by simp)
  have bl := L2.out.B.1
  go_wp2_with fail
  refine (fill1_any lb xb jb pb fb jr jc kv pl v2 xs [] (jmpV op 0) u2 L2.out J2.out HKV.out.symm P2.out).mono ?_
  rintro e u3 ⟨rfl, hP3, hS3⟩
  have P3 : Hid (LP u3 lb v2 (xs ++ [jmpV op pl])) := hP3
  have S3 : Hid (Stp lb (fun k => k = jb) w (.slice aov kv cv) u3 v2) := S2.out.trans hS3 (fun _ _ h => h.elim)
  obtain ⟨hl3, ho3⟩ := L2.out.step O2.out hS3 (fun h => h) (fun h => h) (fun h => h) (fun h => h)
  have L3 : Hid (Lab u3 lb xb jb pb fb (.slice (some ⟨jr, 0, none⟩) 1 jc) pl) := hl3
  have J3 : Hid (Cl u3 jr [.int .i64 (kv : Int)]) := hS3.cl J2.out (by omega) N2.out (fun h => h)
  have O3 : Hid (Off lb v2 xb jb pb fb) := ho3
  clear hP3 hS3 hl3 ho3 b0 bl
  go_wp2
  go_end0
  exact ⟨rfl, v2, jr, jc, P3.out, L3.out, by rw [← HKV.out]; exact J3.out, JR, N2.out, O3.out, S3.out⟩
end Go.Proofs.Ytbnaegpjmiiihaa
