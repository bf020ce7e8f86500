/- A flat program on its way: the program's word. -/
import Derived.Test.YtbnaegpjmiiihaaLowSpec
import Derived.Test.YtbnaegpjmiiihaaRegT
namespace Go.Proofs.Ytbnaegpjmiiihaa
open Go.RowKit
/-- Nothing but blocks of E has changed; there may be new ones. -/
structure Lx (E : Nat → Prop) (w w' : World) : Prop where
  os : w'.os = w.os
  tape : w'.tape = w.tape
  output : w'.output = w.output
  size : w.heap.size ≤ w'.heap.size
  block : ∀ k, k < w.heap.size → ¬ E k → w'.heap[k]? = w.heap[k]?
theorem Lx.of_below {E : Nat → Prop} {w w' : World} (h : Below w.heap.size w w') : Lx E w w' := ⟨h.os, h.tape, h.output, h.size, fun k hk _ => h.block k hk⟩
theorem Lx.refl (E : Nat → Prop) (w : World) : Lx E w w := ⟨rfl, rfl, rfl, Nat.le_refl _, fun _ _ _ => rfl⟩
theorem Lx.of_grown {E : Nat → Prop} {w w' : World} {ob : Option Nat} (h : w.grownBy w' ob) (he : ∀ k, ob = some k → E k) : Lx E w w' := ⟨h.os, h.tape, h.output, h.size, fun k hk hn => h.block k hk (fun e => hn (he k e.symm))⟩
theorem Lx.set {E : Nat → Prop} {w w' : World} (h : Lx E w w') {a : Addr} (ha : E a.block) (v : Value) : Lx E w (w'.setCell a v) :=
  ⟨h.os, h.tape, h.output, by simpa using h.size, fun k hk hn => (Below.heap_setCell w' a v k (fun e => hn (e ▸ ha))).trans (h.block k hk hn)⟩
theorem Lx.trans {E E' : Nat → Prop} {w u v : World} (h : Lx E w u) (g : Lx E' u v) (he : ∀ k, k < w.heap.size → E' k → E k) : Lx E w v :=
  ⟨g.os.trans h.os, g.tape.trans h.tape, g.output.trans h.output, Nat.le_trans h.size g.size, fun k hk hn => (g.block k (Nat.lt_of_lt_of_le hk h.size) (fun e => hn (he k hk e))).trans (h.block k hk hn)⟩
theorem Lx.cl {E : Nat → Prop} {w w' : World} {b : Nat} {vs : List Value} (h : Lx E w w') (c : Cl w b vs) (hn : ¬ E b) : Cl w' b vs :=
  ⟨Nat.lt_of_lt_of_le c.1 h.size, fun i hi => (World.cell?_of_block (a := ⟨b, i, none⟩) (h.block b c.1 hn)).trans (c.2 i hi)⟩
theorem Lx.fz {E : Nat → Prop} {w w' : World} {b : Nat} (h : Lx E w w') (hb : b < w.heap.size) (c : ∀ i, w.frozen? ⟨b, i, none⟩ = false) (hn : ¬ E b) : ∀ i, w'.frozen? ⟨b, i, none⟩ = false :=
  fun i => (World.frozen?_of_block (a := ⟨b, i, none⟩) (h.block b hb hn)).trans (c i)
theorem Lx.below {E : Nat → Prop} {w w' : World} {B : Nat} (h : Lx E w w') (hB : B ≤ w.heap.size) (he : ∀ k, k < B → ¬ E k) : Below B w w' := ⟨h.os, h.tape, h.output, h.size, fun k hk => h.block k (by omega) (he k hk)⟩
/-- A program on its way lies behind block lb. -/
structure LP (u : World) (lb : Nat) (v : Value) (xs : List NV) : Prop where
  C : u.cell? ⟨lb, 0, none⟩ = some v
  lt : lb < u.heap.size
  F : ∀ i, u.frozen? ⟨lb, i, none⟩ = false
  O : u.ownsRow (lb + 1) 36 6 v xs.length (ci xs)
/-- A step of it: nothing but lb, its own row and blocks of E has changed. -/
structure Stp (lb : Nat) (E : Nat → Prop) (w : World) (v : Value) (w' : World) (v' : Value) : Prop where
  x : Lx (fun k => k = lb ∨ v.ownBlock = some k ∨ E k) w w'
  a : v'.ownBlock = v.ownBlock ∨ ∃ k, v'.ownBlock = some k ∧ w.heap.size ≤ k
theorem Stp.refl (lb : Nat) (E : Nat → Prop) (w : World) (v : Value) : Stp lb E w v w v := ⟨Lx.refl _ _, .inl rfl⟩
theorem Stp.trans {lb : Nat} {E E' : Nat → Prop} {w w1 w2 : World} {v v1 v2 : Value} (h : Stp lb E w v w1 v1) (g : Stp lb E' w1 v1 w2 v2) (he : ∀ k, k < w.heap.size → E' k → E k) : Stp lb E w v w2 v2 := by
  have hs := h.x.size
  refine ⟨h.x.trans g.x (fun k hk e => ?_), ?_⟩
  · rcases e with e | e | e
    · exact .inl e
    · rcases h.a with a | ⟨k1, a, a1⟩
      · exact .inr (.inl (a ▸ e))
      · rw [a] at e; have := Option.some.inj e; omega
    · exact .inr (.inr (he k hk e))
  · rcases g.a with a | ⟨k, a, a1⟩
    · rw [a]; exact h.a
    · exact .inr ⟨k, a, by omega⟩
theorem Stp.cl {lb : Nat} {E : Nat → Prop} {w w' : World} {v v' : Value} {b : Nat} {vs : List Value} (h : Stp lb E w v w' v') (c : Cl w b vs) (h1 : b ≠ lb) (h2 : v.ownBlock ≠ some b) (h3 : ¬ E b) : Cl w' b vs := h.x.cl c (fun e => by
  rcases e with e | e | e
  · exact h1 e
  · exact h2 e
  · exact h3 e)
theorem Stp.nb {lb : Nat} {E : Nat → Prop} {w w' : World} {v v' : Value} {b : Nat} (h : Stp lb E w v w' v') (hb : b < w.heap.size) (h2 : v.ownBlock ≠ some b) : v'.ownBlock ≠ some b := by
  rcases h.a with a | ⟨k, a, a1⟩
  · rw [a]; exact h2
  · rw [a]; intro e; have := Option.some.inj e; omega
theorem LP.nb {u : World} {lb : Nat} {v : Value} {xs : List NV} (h : LP u lb v xs) : v.ownBlock ≠ some lb := fun e => by have := (h.O.lt lb e).1; omega
theorem row_lx {E : Nat → Prop} {w w' : World} {base e size n : Nat} {v : Value} {xs : List Value} (h : w.ownsRow base e size v n xs) (f : Lx E w w') (hn : ∀ k, v.ownBlock = some k → ¬ E k) : w'.ownsRow base e size v n xs := by
  refine ⟨h.1, ?_⟩
  rcases h.2 with h' | ⟨g, cap, cur, rfl, h1, h2, h3⟩
  · exact .inl h'
  · have hg : g < w.heap.size := (Array.getElem?_eq_some_iff.1 h2).1
    exact .inr ⟨g, cap, cur, rfl, h1, (f.block g hg (hn g rfl)).trans h2, h3⟩
/-- One operation alone may come up: an append. -/
theorem wpAnyL_append {P : Program} {md : Region.Mode} {ops : Array Oper} {Q : Exit → Act → World → Prop} {T : World → Prop} {s' fuel i : Nat} {listed : Array Bool} {a : Act} {w w' : World} {o : Oper} (s x : Operand) {t : TypeId} {v u v' : Value} (ho : ops[i]? = some o) (hr : Region.ready md ops listed = [i]) (hw : Region.wanted o (yielded ops a.tmps) = true)
    (hop : o.op = .call { callee := .builtin .append, args := #[s, x], argTypes := #[t, t] }) (hs : a.eval s = v) (hx : a.eval x = u) (hrun : (Builtin.append_ #[t, t] o.type #[v, u]).run P w = .ok v' w') (hT : T w') (h : T w' → wpAnyL P md ops Q T s' fuel (listed.setIfInBounds i true) (a.put o.dst v') w') : wpAnyL P md ops Q T s' (fuel + 1) listed a w :=
  wpAnyL_call ho hr (fun K' hK => by
    rw [if_pos hw]
    unfold Oper.wp execOp
    simp only [hop, resolve, invoke, builtin, Sem.run_bind, Sem.run_pure, Result.andThen_ok, List.map_toArray, List.map_cons, List.map_nil, hs, hx, hrun]
    exact hK _ _ hT h)
set_option maxHeartbeats 400000 in
theorem skipJump_any (c : Int) (w : World) : Calls Try.prog 33 #[.int .i64 c] w fun e w' => e = .returned (.int .i64 (notI c)) ∧ w' = w := by
  go_enter Try.func33, Try.ntmps33
  go_wp2
  all_goals (go_ret; refine ⟨ret_int ?_, rfl⟩; simp_all [notI])

set_option maxRecDepth 20000 in
set_option maxHeartbeats 8000000 in
theorem add_any (lb : Nat) (v : Value) (xs : List NV) (x : NV) (w : World) (h : LP w lb v xs) (hn : xs.length ≤ 4000) :
    Calls Try.prog 18 #[.pointer (some ⟨lb, 0, none⟩), .agg #[.int .i64 x.op, .int .i64 x.d, .int .i64 x.a, .int .i64 x.b, .int .i64 x.imm, .int .i64 x.h]] w fun e w' => e = .returned (.tuple #[]) ∧ ∃ v', LP w' lb v' (xs ++ [x]) ∧ Stp lb (fun _ => False) w v w' v' := by
  obtain ⟨ao, kl, cl, hv⟩ := row_slice h.O
  subst hv
  have H : Hid (LP w lb (.slice ao kl cl) xs) := h
  have lt := h.lt
  clear h
  obtain ⟨iS, gS, gS0, gS1, gS2⟩ := info_parts info_ins6
  have HIS : Hid (_ ∧ _ ∧ _ ∧ _) := ⟨gS, gS0, gS1, gS2⟩
  clear gS gS0 gS1 gS2
  go_enter Try.func18, Try.ntmps18
  go_upto_region 1 with fail
  obtain ⟨u, hu, hb, hc⟩ : ∃ y, w.alloc (.cells #[.int .i64 x.op, .int .i64 x.d, .int .i64 x.a, .int .i64 x.b, .int .i64 x.imm, .int .i64 x.h] 36) = y ∧ Below w.heap.size w y ∧ Cl y w.heap.size [.int .i64 x.op, .int .i64 x.d, .int .i64 x.a, .int .i64 x.b, .int .i64 x.imm, .int .i64 x.h] := ⟨_, rfl, (Below.refl _ _).alloc (Nat.le_refl _) _, Cl.new⟩
  rw [hu]
  have C0 : u.cell? ⟨lb, 0, none⟩ = some (.slice ao kl cl) := (hb.cell (p := ⟨lb, 0, none⟩) lt).trans H.out.C
  have O0 : Hid (u.ownsRow (lb + 1) 36 6 (.slice ao kl cl) xs.length (ci xs)) := row_belowU H.out.O hb
  have BU : Hid (Below w.heap.size w u) := hb
  have zu := hc.1
  obtain ⟨xb, hxb⟩ : ∃ y, w.heap.size = y := ⟨_, rfl⟩
  have HXB : Hid (w.heap.size = xb) := hxb
  have NB : Hid ((Value.slice ao kl cl).ownBlock ≠ some xb) := (by rw [← hxb]; exact fun e => by have := (H.out.O.lt _ e).2; omega : (Value.slice ao kl cl).ownBlock ≠ some xb)
  have lx : lb < xb := by omega
  rw [hxb] at hc zu ⊢
  have T0 : u.cell? ⟨lb, 0, none⟩ = some (.slice ao kl cl) ∧ Cl u xb [.int .i64 x.op, .int .i64 x.d, .int .i64 x.a, .int .i64 x.b, .int .i64 x.imm, .int .i64 x.h] := ⟨C0, hc⟩
  clear hu hb hc hxb C0
  have r0 : ∀ w' : World, (w'.cell? ⟨lb, 0, none⟩ = some (.slice ao kl cl) ∧ Cl w' xb [.int .i64 x.op, .int .i64 x.d, .int .i64 x.a, .int .i64 x.b, .int .i64 x.imm, .int .i64 x.h]) → w'.cell? ⟨lb, 0, none⟩ = some (.slice ao kl cl) := fun w' h => h.1
  have x0 : ∀ w' : World, (w'.cell? ⟨lb, 0, none⟩ = some (.slice ao kl cl) ∧ Cl w' xb [.int .i64 x.op, .int .i64 x.d, .int .i64 x.a, .int .i64 x.b, .int .i64 x.imm, .int .i64 x.h]) → w'.cell? ⟨xb, 0, none⟩ = some (.int .i64 x.op) := fun w' h => h.2.2 0 (by simp)
  have x1 : ∀ w' : World, (w'.cell? ⟨lb, 0, none⟩ = some (.slice ao kl cl) ∧ Cl w' xb [.int .i64 x.op, .int .i64 x.d, .int .i64 x.a, .int .i64 x.b, .int .i64 x.imm, .int .i64 x.h]) → w'.cell? ⟨xb, 1, none⟩ = some (.int .i64 x.d) := fun w' h => h.2.2 1 (by simp)
  have x2 : ∀ w' : World, (w'.cell? ⟨lb, 0, none⟩ = some (.slice ao kl cl) ∧ Cl w' xb [.int .i64 x.op, .int .i64 x.d, .int .i64 x.a, .int .i64 x.b, .int .i64 x.imm, .int .i64 x.h]) → w'.cell? ⟨xb, 2, none⟩ = some (.int .i64 x.a) := fun w' h => h.2.2 2 (by simp)
  have x3 : ∀ w' : World, (w'.cell? ⟨lb, 0, none⟩ = some (.slice ao kl cl) ∧ Cl w' xb [.int .i64 x.op, .int .i64 x.d, .int .i64 x.a, .int .i64 x.b, .int .i64 x.imm, .int .i64 x.h]) → w'.cell? ⟨xb, 3, none⟩ = some (.int .i64 x.b) := fun w' h => h.2.2 3 (by simp)
  have x4 : ∀ w' : World, (w'.cell? ⟨lb, 0, none⟩ = some (.slice ao kl cl) ∧ Cl w' xb [.int .i64 x.op, .int .i64 x.d, .int .i64 x.a, .int .i64 x.b, .int .i64 x.imm, .int .i64 x.h]) → w'.cell? ⟨xb, 4, none⟩ = some (.int .i64 x.imm) := fun w' h => h.2.2 4 (by simp)
  have x5 : ∀ w' : World, (w'.cell? ⟨lb, 0, none⟩ = some (.slice ao kl cl) ∧ Cl w' xb [.int .i64 x.op, .int .i64 x.d, .int .i64 x.a, .int .i64 x.b, .int .i64 x.imm, .int .i64 x.h]) → w'.cell? ⟨xb, 5, none⟩ = some (.int .i64 x.h) := fun w' h => h.2.2 5 (by simp)
  have OD : Hid (u.drew.ownsRow (lb + 1) 36 6 (.slice ao kl cl) xs.length (ci xs)) := O0.out.drew
  have BD : Hid (Below w.heap.size w u.drew) := BU.out.trans ((Below.refl _ _).drew)
  have TD : u.drew.cell? ⟨lb, 0, none⟩ = some (.slice ao kl cl) ∧ Cl u.drew xb [.int .i64 x.op, .int .i64 x.d, .int .i64 x.a, .int .i64 x.b, .int .i64 x.imm, .int .i64 x.h] := ⟨T0.1, T0.2.below (Below.refl _ _).drew⟩
  refine wp_region_L (T := fun w' => w'.cell? ⟨lb, 0, none⟩ = some (.slice ao kl cl) ∧ Cl w' xb [.int .i64 x.op, .int .i64 x.d, .int .i64 x.a, .int .i64 x.b, .int .i64 x.imm, .int .i64 x.h]) (s := 10) (by kernel_rfl) TD (fun hHeld => ?_)
  clear T0 TD O0 BU
  have zd := hHeld.2.1
  generalize u.drew = t0 at hHeld OD BD zd ⊢
  refine wpAnyL_tk 0 ?k1v rfl ?k1y ?k1r
  case k1y => (intro w hSw; (try dsimp only at hSw); go_simp; try with_reducible rfl)
  try simp only [Act.put, List.getElem_toArray, List.getElem_cons_zero, List.setIfInBounds_toArray, List.set_cons_zero, List.set_cons_succ]
  refine wpAnyL_tk 1 ?k2v rfl ?k2y ?k2r
  case k2y => (intro w hSw; (try dsimp only at hSw); go_simp; try with_reducible rfl)
  try simp only [Act.put, List.getElem_toArray, List.getElem_cons_zero, List.getElem_cons_succ, List.setIfInBounds_toArray, List.set_cons_zero, List.set_cons_succ]
  refine wpAnyL_tk 2 ?k3v rfl ?k3y ?k3r
  case k3y => (intro w hSw; (try dsimp only at hSw); go_simp; try with_reducible rfl)
  try simp only [Act.put, List.getElem_toArray, List.getElem_cons_zero, List.getElem_cons_succ, List.setIfInBounds_toArray, List.set_cons_zero, List.set_cons_succ]
  refine wpAnyL_tk 3 ?k4v rfl ?k4y ?k4r
  case k4y => (intro w hSw; (try dsimp only at hSw); go_simp; try with_reducible rfl)
  try simp only [Act.put, List.getElem_toArray, List.getElem_cons_zero, List.getElem_cons_succ, List.setIfInBounds_toArray, List.set_cons_zero, List.set_cons_succ]
  refine wpAnyL_tk 4 ?k5v rfl ?k5y ?k5r
  case k5y => (intro w hSw; (try dsimp only at hSw); go_simp; try with_reducible rfl)
  try simp only [Act.put, List.getElem_toArray, List.getElem_cons_zero, List.getElem_cons_succ, List.setIfInBounds_toArray, List.set_cons_zero, List.set_cons_succ]
  refine wpAnyL_tk 5 ?k6v rfl ?k6y ?k6r
  case k6y => (intro w hSw; (try dsimp only at hSw); go_simp; try with_reducible rfl)
  try simp only [Act.put, List.getElem_toArray, List.getElem_cons_zero, List.getElem_cons_succ, List.setIfInBounds_toArray, List.set_cons_zero, List.set_cons_succ]
  refine wpAnyL_call (i := 6) rfl (by kernel_rfl) (fun KK hK => ?_)
  go_simp
  obtain ⟨t1, ht1, hbA, hnw⟩ : ∃ y, t0.alloc (.cells #[.int .i64 x.op, .int .i64 x.d, .int .i64 x.a, .int .i64 x.b, .int .i64 x.imm, .int .i64 x.h] 36) = y ∧ Below t0.heap.size t0 y ∧ (∀ j u, (inL x)[j]? = some u → y.cell? ((⟨t0.heap.size, 0, none⟩ : Addr).add j) = some u) := ⟨_, rfl, (Below.refl _ _).alloc (Nat.le_refl _) _, cells_new6 _ _ _⟩
  rw [ht1]
  have OE : Hid (t1.ownsRow (lb + 1) 36 6 (.slice ao kl cl) xs.length (ci xs)) := row_belowU OD.out hbA
  have BE : Hid (Below w.heap.size w t1) := BD.out.trans (hbA.mono BD.out.size)
  have TE : t1.cell? ⟨lb, 0, none⟩ = some (.slice ao kl cl) ∧ Cl t1 xb [.int .i64 x.op, .int .i64 x.d, .int .i64 x.a, .int .i64 x.b, .int .i64 x.imm, .int .i64 x.h] := ⟨(hbA.cell (p := ⟨lb, 0, none⟩) (by show lb < _; omega)).trans hHeld.1, hHeld.2.below hbA⟩
  have NW : Hid _ := hnw
  have zt := hbA.size
  clear ht1 hbA hnw OD BD
  refine hK.out _ _ TE (fun hHeld1 => ?_)
  clear hK KK
  try simp only [Act.put, List.getElem_toArray, List.getElem_cons_zero, List.getElem_cons_succ, List.setIfInBounds_toArray, List.set_cons_zero, List.set_cons_succ]
  obtain ⟨v', w5, hrun, hown, hgrow, _, hat⟩ := run_append_own_at (P := Try.prog) t1 (lb + 1) 24 24 36 iS _ 6 48 Try.underlying24 HIS.out.1 HIS.out.2.1 HIS.out.2.2.1 HIS.out.2.2.2 rfl (by decide) (.slice ao kl cl) xs.length (ci xs) OE.out ⟨t0.heap.size, 0, none⟩ 1 1 (inL x) rfl NW.out (by rw [← ci_one]; exact ci_flat _) (by unfold maxLen; omega) (by omega) (by omega)
  have NL : (Value.slice ao kl cl).ownBlock ≠ some lb := fun e => by have := (OE.out.lt _ e).1; omega
  have T5 : w5.cell? ⟨lb, 0, none⟩ = some (.slice ao kl cl) ∧ Cl w5 xb [.int .i64 x.op, .int .i64 x.d, .int .i64 x.a, .int .i64 x.b, .int .i64 x.imm, .int .i64 x.h] :=
    ⟨(World.cell?_of_block (a := ⟨lb, 0, none⟩) (hgrow.block lb (by omega) (fun e => NL e.symm))).trans TE.1, ⟨Nat.lt_of_lt_of_le TE.2.1 hgrow.size, fun i hi => (World.cell?_of_block (a := ⟨xb, i, none⟩) (hgrow.block xb TE.2.1 (fun e => NB.out e.symm))).trans (TE.2.2 i hi)⟩⟩
  refine wpAnyL_append (.tmp 8) (.tmp 10) (i := 7) rfl (by kernel_rfl) (by kernel_rfl) rfl rfl rfl hrun T5 (fun hHeld5 => ?_)
  try simp only [Act.put, List.getElem_toArray, List.getElem_cons_zero, List.getElem_cons_succ, List.setIfInBounds_toArray, List.set_cons_zero, List.set_cons_succ]
  refine wpAnyL_tkT 8 ?k7v rfl ?k7y ?k7r
  case k7y => (intro w hSw; (try dsimp only at hSw); go_simp; try with_reducible rfl)
  try simp only [Act.put, List.getElem_toArray, List.getElem_cons_zero, List.getElem_cons_succ, List.setIfInBounds_toArray, List.set_cons_zero, List.set_cons_succ]
  refine wpAnyL_tk 9 ?k8v rfl ?k8y ?k8r
  case k8y => (intro w hSw; (try dsimp only at hSw); go_simp; try with_reducible rfl)
  try simp only [Act.put, List.getElem_toArray, List.getElem_cons_zero, List.getElem_cons_succ, List.setIfInBounds_toArray, List.set_cons_zero, List.set_cons_succ]
  have HO5 : w5.ownsRow (lb + 1) 36 6 v' (xs ++ [x]).length (ci (xs ++ [x])) := by rw [List.length_append, ci_app, ci_one]; exact hown
  have F5 : ∀ i, w5.frozen? ⟨lb, i, none⟩ = false := fun i => (World.frozen?_of_block (a := ⟨lb, i, none⟩) (hgrow.block lb (by omega) (fun e => NL e.symm))).trans ((BE.out.frozen (p := ⟨lb, i, none⟩) lt).trans (H.out.F i))
  have l5 : lb < w5.heap.size := by have := hgrow.size; omega
  have P5 : Hid (LP (w5.setCell ⟨lb, 0, none⟩ v') lb v' (xs ++ [x])) := ⟨by simp [go_sem, T5.1], by simpa using l5, fun i => by simpa using F5 i, ownsRow_setCell_below HO5 (by show lb < _; omega) _⟩
  have S5 : Hid (Stp lb (fun _ => False) w (.slice ao kl cl) (w5.setCell ⟨lb, 0, none⟩ v') v') := ⟨((Lx.of_below BE.out).trans (Lx.of_grown (E := fun k => k = lb ∨ (Value.slice ao kl cl).ownBlock = some k ∨ False) hgrow (fun k hk => .inr (.inl hk))) (fun _ _ h => h)).set (.inl rfl) _, by
    rcases hat with e | e
    · exact .inl e
    · exact .inr ⟨_, e, BE.out.size⟩⟩
  obtain ⟨ao5, k5, c5, hv5⟩ := row_slice hown
  subst hv5
  have t5 := T5.1
  clear hown hgrow hat hrun HO5 OE BE NW T5 TE hHeld hHeld1 hHeld5 r0 x0 x1 x2 x3 x4 x5
  refine wpAnyL_store rfl (by kernel_rfl) (by kernel_rfl) (fun KK hK => ?_)
  go_simp
  refine hK.out _ _ ?_
  clear hK KK
  go_wp2
  go_end0
  exact ⟨rfl, _, P5.out, S5.out⟩
end Go.Proofs.Ytbnaegpjmiiihaa
