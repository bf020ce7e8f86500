import Derived.Test.YtjnooklalbcamaaOfTransAbs
import Derived.Test.YtjnooklalbcamaaOfTransMath
/- The facts out of what is known, and back: the program's word. -/
namespace Go.Proofs.Ytjnooklalbcamaa
open Go.RowKit
theorem info_cVl : (Try.prog.info? 24).map (fun i => (i.zero, i.size, i.bytes)) = some (some (.agg #[.int .i64 0, .bool false, .int .i64 0, .int .i64 0, .int .i64 0, .int .i64 0]), 6, 48) := by kernel_rfl
set_option maxHeartbeats 400000 in
theorem copyV_at (b off n cap : Nat) (f : Nat → Value) (w : World) (hn : n ≤ 1048576) (hat : At w b off (n * 6) f) (h1 : ∀ i, (f i).oneCell' = true) :
    Calls Try.prog 123 #[.slice (some ⟨b, off, none⟩) n cap] w fun e w' => ∃ v', e = .returned v' ∧ w'.ownsRow w.heap.size 24 6 v' n (first (n * 6) f) ∧ Below w.heap.size w w' ∧ (v' = .slice none 0 0 ↔ n = 0) := by
  obtain ⟨i0, hi, hz0, hz1, hz2⟩ := info_parts info_cVl
  have HA : Hid (At w b off (n * 6) f) := hat
  have H1 : Hid (∀ i, (f i).oneCell' = true) := h1
  clear hat h1
  go_enter Try.func123, Try.ntmps123
  go_wp2_with (first | (at_builtin; refine wpList_append_own _ rfl _ _ 46 rfl w.heap.size 24 i0 (.agg #[.int .i64 0, .bool false, .int .i64 0, .int .i64 0, .int .i64 0, .int .i64 0]) 6 48 Try.underlying46 hi hz0 hz1 hz2 rfl (by decide) _ 0 [] rfl (World.ownsRow_nil _ _ _ _) ⟨b, off, none⟩ n cap (first (n * 6) f) rfl (first_length _ _) ?c1 ?c2 ?c3 ?c4 ?c5 ?_) | go_in)
  case c1 =>
    intro j u hj
    obtain ⟨hm, rfl⟩ := first_get hj
    rw [Addr.add_lit]; exact HA.out.cell hm
  case c2 =>
    intro u hu
    obtain ⟨j, _, rfl⟩ := first_mem hu
    exact H1.out j
  case c3 => unfold maxLen; omega
  case c4 => omega
  case c5 => exact Nat.le_refl _
  · intro v' w1 hown hgrow hnil
    have hown' : w1.ownsRow w.heap.size 24 6 v' n (first (n * 6) f) := by simpa using hown
    have hnil' : v' = .slice none 0 0 ↔ n = 0 := by simpa using hnil
    have HB : Hid (Below w.heap.size w w1) := (Below.refl _ _).grown hgrow (Nat.le_refl _) (by intro k hk; cases hk)
    have HO : Hid (w1.ownsRow w.heap.size 24 6 v' n (first (n * 6) f)) := hown' 
    have HN : Hid (v' = .slice none 0 0 ↔ n = 0) := hnil'
    clear hown hown' hgrow hnil hnil' hi hz0 hz1 hz2
    go_wp2
    go_ret
    exact ⟨v', rfl, HO.out, HB.out, HN.out⟩

theorem vF_one (V : Nat → VV) (i : Nat) : (vF V i).oneCell' = true := by
  unfold vF
  have : i % 6 < 6 := Nat.mod_lt _ (by decide)
  generalize i % 6 = q at this ⊢
  match q, this with
  | 0, _ => rfl
  | 1, _ => rfl
  | 2, _ => rfl
  | 3, _ => rfl
  | 4, _ => rfl
  | 5, _ => rfl
theorem fF_one (V : Nat → VV) (z c : Int) (i : Nat) : (fF V z c i).oneCell' = true := by
  unfold fF
  split
  · exact vF_one V i
  · split <;> rfl
theorem facA_one (V : Nat → VV) (z c : Int) : (facA V z c).all (·.oneCell') = true :=
  all_oneCell_toArray (fun v hv => by obtain ⟨j, _, rfl⟩ := first_mem hv; exact fF_one V z c j)
theorem facA_size (V : Nat → VV) (z c : Int) : (facA V z c).size = 50 := by simp [facA, first_length]
theorem facts_store {u : World} {b : Nat} (V : Nat → VV) (z c : Int) (h : u.there b 0 50) : (Instr.storeAt 127 (.pointer (some ⟨b, 0, none⟩)) (.agg (facA V z c))).run Try.prog u = .ok () (u.setCells b 0 (first 50 (fF V z c))) :=
  run_storeAt_mid u b 0 _ (facA V z c) (by rw [facA_size]; exact h) (by rw [facA_size]; exact facts_info) (facA_one V z c)
theorem Arr.there {w : World} {b n : Nat} {f : Nat → Value} (h : Arr w b n f) : w.there b 0 n := fun j hj => by
  rw [Nat.zero_add]
  exact ⟨by rw [h.cell hj]; rfl, h.free j⟩
theorem Arr.put {w : World} {b n : Nat} {f : Nat → Value} (h : Arr w b n f) (g : Nat → Value) : Arr (w.setCells b 0 (first n g)) b n g := by
  refine (h.setCells 0 (first n g) (by simp [first_length])).congr (fun i hi => ?_)
  simp [first, hi]
theorem row48_info : (Try.prog.info? 125).map (·.size) = some 48 := by kernel_rfl
theorem regs_load {u : World} {b : Nat} {V : Nat → VV} (h : Arr u b (8 * 6) (vF V)) : (Instr.loadAt 125 (.pointer (some ⟨b, 0, none⟩))).run Try.prog u = .ok (.agg (first 48 (vF V)).toArray) u :=
  run_loadAt_mid u b 0 _ (first 48 (vF V)) _ (fun j v hv => by obtain ⟨hm, rfl⟩ := first_get hv; rw [Nat.zero_add]; exact h.cell hm) Try.underlying125 rfl (by rw [first_length]; exact row48_info)
theorem facts_build (V : Nat → VV) (z c : Int) (w : World) : (Instr.build 127 #[(0, .agg (first 48 (vF V)).toArray), (1, .int .i64 z), (2, .int .i64 c)]).run Try.prog w = .ok (.agg (facA V z c)) w := by kernel_rfl
theorem arr_ptr (b c : Nat) (w : World) : (Instr.arrayAt 125 (.slice (some ⟨b, 0, none⟩) 8 c)).run Try.prog w = .ok (.pointer (some ⟨b, 0, none⟩)) w := by kernel_rfl

theorem exec_build {P : Program} {a : Act} {op : Oper} {w : World} (ty : TypeId) (parts : Array (Nat × Operand)) (ho : op.op = .build ty parts) {vs : Array (Nat × Value)} (hvs : (parts.map fun (i, x) => (i, a.eval x)) = vs) {v : Value} (hb : (Instr.build ty vs).run P w = .ok v w) : (execOp a.eval op).run P w = .ok (.value v) w := by
  subst hvs
  unfold execOp
  simp only [ho, Sem.run_bind, hb, Result.andThen_ok, Sem.run_pure]
theorem zero_fac : (#[.int .i64 0, .bool false, .int .i64 0, .int .i64 0, .int .i64 0, .int .i64 0, .int .i64 0, .bool false, .int .i64 0, .int .i64 0, .int .i64 0, .int .i64 0, .int .i64 0, .bool false, .int .i64 0, .int .i64 0, .int .i64 0, .int .i64 0, .int .i64 0, .bool false, .int .i64 0, .int .i64 0, .int .i64 0, .int .i64 0, .int .i64 0, .bool false, .int .i64 0, .int .i64 0, .int .i64 0, .int .i64 0, .int .i64 0, .bool false, .int .i64 0, .int .i64 0, .int .i64 0, .int .i64 0, .int .i64 0, .bool false, .int .i64 0, .int .i64 0, .int .i64 0, .int .i64 0, .int .i64 0, .bool false, .int .i64 0, .int .i64 0, .int .i64 0, .int .i64 0, .int .i64 0, .int .i64 0] : Array Value) = facA (fun _ => zV) 0 0 := by kernel_rfl
theorem if_in {c : Prop} [Decidable c] {P Q : Prop} (h : c) (p : P) : if c then P else Q := by rw [if_pos h]; exact p
/-- As results are read: one that lies in a block. -/
theorem results_cell1 {P : Program} {fn : Func} {p : Tmp} {ty : TypeId} (h : fn.results = #[.cell p ty]) (tmps : Array Value) (w : World) (b : Nat) (v : Value) (hp : tmps.getD p undef = .pointer (some ⟨b, 0, none⟩)) (hl : (loadVar ty ⟨b, 0, none⟩).run P w = .ok v w) : (results fn tmps).run P w = .ok v w := by
  have hp' : tmps[p]?.getD undef = .pointer (some ⟨b, 0, none⟩) := by simpa using hp
  simp [results, h, hp', asAddr, hl]
theorem facts_var {u : World} {b : Nat} {V : Nat → VV} {z c : Int} (h : Arr u b 50 (fF V z c)) : (loadVar 127 ⟨b, 0, none⟩).run Try.prog u = .ok (.agg (facA V z c)) u :=
  run_loadVar_mid u b 0 _ (first 50 (fF V z c)) _ (fun j v hv => by obtain ⟨hm, rfl⟩ := first_get hv; rw [Nat.zero_add]; exact h.cell hm) Try.underlying127 rfl (by rw [first_length]; exact facts_info)
theorem wpL_store_facts {op : Oper} {a : Act} {w : World} {K : Act → World → Prop} {Q : Exit → Act → World → Prop} (x y : Operand) (ho : op.op = .store 127 x y) (b : Nat) (V V0 : Nat → VV) (z c z0 c0 : Int) (hx : a.eval x = .pointer (some ⟨b, 0, none⟩)) (FA : Array Value) (hF : FA = facA V z c) (hy : a.eval y = .agg FA) (ht : Arr w b 50 (fF V0 z0 c0))
    (h : ∀ w', Arr w' b 50 (fF V z c) → Below b w w' → (w' = w.setCells b 0 (first 50 (fF V z c))) → K (a.put op.dst undef) w') : op.wp Try.prog a w K Q := by
  subst hF
  exact wp_store_mid 127 x y ho b 0 (facA V z c) hx hy (by rw [facA_size]; exact ht.there) (by rw [facA_size]; exact facts_info) (facA_one V z c) (h _ (ht.put _) (below_setCells (Nat.le_refl _) _ _ (Below.refl _ _)) rfl)

set_option maxRecDepth 20000 in
set_option maxHeartbeats 8000000 in
theorem factsOf_any (b cap : Nat) (V : Nat → VV) (z c : Int) (w : World) (h : Arr w b (8 * 6) (vF V)) :
    Calls Try.prog 82 #[.agg #[.slice (some ⟨b, 0, none⟩) 8 cap, .int .i64 z, .int .i64 c]] w fun e w' => e = .returned (.agg (facA V z c)) ∧ Below w.heap.size w w' := by
  have HA : Hid (Arr w b (8 * 6) (vF V)) := h
  clear h
  obtain ⟨FA, hFA⟩ : ∃ x, facA V z c = x := ⟨_, rfl⟩
  obtain ⟨Z0, hZ0⟩ : ∃ x, facA (fun _ => zV) 0 0 = x := ⟨_, rfl⟩
  obtain ⟨XA, hXA⟩ : ∃ x, (first 48 (vF V)).toArray = x := ⟨_, rfl⟩
  have HF : Hid (facA V z c = FA) := hFA
  have HXA : Hid ((first 48 (vF V)).toArray = XA) := hXA
  rw [hFA]
  clear hFA hXA
  go_enter Try.func82, Try.ntmps82
  go_upto_region 1 with fail
  rw [zero_fac, hZ0]
  obtain ⟨u, hu, hbu, cu, ru⟩ : ∃ v, (w.alloc (.cells #[.slice (some ⟨b, 0, none⟩) 8 cap, .int .i64 z, .int .i64 c] 66)).alloc (.cells Z0 127) = v ∧ Below w.heap.size w v ∧ Cl v w.heap.size [.slice (some ⟨b, 0, none⟩) 8 cap, .int .i64 z, .int .i64 c] ∧ Arr v (w.heap.size + 1) 50 (fF (fun _ => zV) 0 0) := by
    subst hZ0
    refine ⟨_, rfl, ((Below.refl _ _).alloc (Nat.le_refl _) _).alloc (by simp) _, (Cl.new).below ((Below.refl _ _).alloc (Nat.le_refl _) _), ?_⟩
    have h := Arr.newFirst (w.alloc (.cells #[.slice (some ⟨b, 0, none⟩) 8 cap, .int .i64 z, .int .i64 c] 66)) 50 (fF (fun _ => zV) 0 0) 127
    simp only [World.size_alloc] at h
    exact h
  rw [hu]
  clear hu hZ0
  have HB : Hid (Below w.heap.size w u) := hbu
  have HU : Hid (Arr u (w.heap.size + 1) 50 (fF (fun _ => zV) 0 0)) := ru
  have HX : Hid (Arr u b (8 * 6) (vF V)) := HA.out.below hbu HA.out.lt
  have s0 : ∀ w', Below u.heap.size u w' → w'.cell? ⟨w.heap.size, 0, none⟩ = some (.slice (some ⟨b, 0, none⟩) 8 cap) := fun w' h => (cu.below h).2 0 (by simp)
  have s1 : ∀ w', Below u.heap.size u w' → w'.cell? ⟨w.heap.size, 1, none⟩ = some (.int .i64 z) := fun w' h => (cu.below h).2 1 (by simp)
  have s2 : ∀ w', Below u.heap.size u w' → w'.cell? ⟨w.heap.size, 2, none⟩ = some (.int .i64 c) := fun w' h => (cu.below h).2 2 (by simp)
  have ap : ∀ w', (Instr.arrayAt 125 (.slice (some ⟨b, 0, none⟩) 8 cap)).run Try.prog w' = .ok (.pointer (some ⟨b, 0, none⟩)) w' := arr_ptr b cap
  clear hbu cu ru
  refine wp_region_L (T := fun w' => Below u.heap.size u w') (s := 9) (by kernel_rfl) (Below.refl _ _).drew (fun hHeld => ?_)
  refine wpAnyL_tk 0 ?k1v rfl ?k1y ?k1r
  case k1y => (intro w hSw; (try dsimp only at hSw); go_simp; try with_reducible rfl)
  try simp only [Act.put, List.getElem_toArray, List.getElem_cons_zero, List.setIfInBounds_toArray, List.set_cons_zero, List.set_cons_succ]
  refine wpAnyL_tk 1 ?k2v rfl ?k2y ?k2r
  case k2y => (intro w hSw; (try dsimp only at hSw); go_simp; try with_reducible rfl)
  try simp only [Act.put, List.getElem_toArray, List.getElem_cons_zero, List.getElem_cons_succ, List.setIfInBounds_toArray, List.set_cons_zero, List.set_cons_succ]
  refine wpAnyL_tk 2 ?k3v rfl ?k3y ?k3r
  case k3y => (intro w hSw; (try dsimp only at hSw); go_simp; try with_reducible rfl)
  try simp only [Act.put, List.getElem_toArray, List.getElem_cons_zero, List.getElem_cons_succ, List.setIfInBounds_toArray, List.set_cons_zero, List.set_cons_succ]
  refine wpAnyL_tk 3 (.agg XA) rfl ?my ?mr
  case my => exact fun w' h => exec_load 125 (.tmp 5) rfl b 0 rfl (HXA.out ▸ regs_load (HX.out.below h HX.out.lt))
  try simp only [Act.put, List.getElem_toArray, List.getElem_cons_zero, List.getElem_cons_succ, List.setIfInBounds_toArray, List.set_cons_zero, List.set_cons_succ]
  refine wpAnyL_tk 4 ?k4v rfl ?k4y ?k4r
  case k4y => (intro w hSw; (try dsimp only at hSw); go_simp; try with_reducible rfl)
  try simp only [Act.put, List.getElem_toArray, List.getElem_cons_zero, List.getElem_cons_succ, List.setIfInBounds_toArray, List.set_cons_zero, List.set_cons_succ]
  refine wpAnyL_tk 5 ?k5v rfl ?k5y ?k5r
  case k5y => (intro w hSw; (try dsimp only at hSw); go_simp; try with_reducible rfl)
  try simp only [Act.put, List.getElem_toArray, List.getElem_cons_zero, List.getElem_cons_succ, List.setIfInBounds_toArray, List.set_cons_zero, List.set_cons_succ]
  refine wpAnyL_tk 6 ?k6v rfl ?k6y ?k6r
  case k6y => (intro w hSw; (try dsimp only at hSw); go_simp; try with_reducible rfl)
  try simp only [Act.put, List.getElem_toArray, List.getElem_cons_zero, List.getElem_cons_succ, List.setIfInBounds_toArray, List.set_cons_zero, List.set_cons_succ]
  refine wpAnyL_tk 7 ?k7v rfl ?k7y ?k7r
  case k7y => (intro w hSw; (try dsimp only at hSw); go_simp; try with_reducible rfl)
  try simp only [Act.put, List.getElem_toArray, List.getElem_cons_zero, List.getElem_cons_succ, List.setIfInBounds_toArray, List.set_cons_zero, List.set_cons_succ]
  refine wpAnyL_tk 8 (.agg FA) rfl ?ny ?nr
  case ny => exact fun w' h => exec_build (vs := #[(0, .agg XA), (1, .int .i64 z), (2, .int .i64 c)]) 127 #[(0, .tmp 6), (1, .tmp 8), (2, .tmp 10)] rfl (by kernel_rfl) (HXA.out ▸ HF.out ▸ facts_build V z c w')
  try simp only [Act.put, List.getElem_toArray, List.getElem_cons_zero, List.getElem_cons_succ, List.setIfInBounds_toArray, List.set_cons_zero, List.set_cons_succ]
  refine wpAnyL_store rfl (by kernel_rfl) (by kernel_rfl) (fun KK hK => ?_)
  have hU : Arr u.drew (w.heap.size + 1) 50 (fF (fun _ => zV) 0 0) := HU.out.below (Below.refl u.heap.size u).drew HU.out.lt
  refine if_in (by kernel_rfl) ?_
  refine wpL_store_facts (.tmp 2) (.tmp 11) rfl (w.heap.size + 1) V (fun _ => zV) z c 0 0 rfl FA HF.out.symm rfl hU ?_
  intro w' hA hb _
  refine hK.out _ _ ?_
  clear hK KK s0 s1 s2 ap
  simp only [Act.put, List.getElem_toArray, List.getElem_cons_zero, List.getElem_cons_succ]
  have HW : Hid (Arr w' (w.heap.size + 1) 50 (fF V z c)) := hA
  have HBW : Hid (Below w.heap.size w w') := (HB.out.trans ((Below.refl _ _).drew.mono HB.out.size)).trans (hb.mono (by omega))
  clear hA hb hU
  go_wp2
  exact bodyPost_ret (v := .agg FA) (results_cell1 rfl _ _ (w.heap.size + 1) _ rfl (HF.out ▸ facts_var HW.out)) rfl ⟨rfl, HBW.out⟩
end Go.Proofs.Ytjnooklalbcamaa
/- What is known, out of the facts: the program's word. -/
namespace Go.Proofs.Ytjnooklalbcamaa
open Go.RowKit
theorem fac_regs {u : World} {b : Nat} {V : Nat → VV} {z c : Int} (h : Arr u b 50 (fF V z c)) : At u b 0 (8 * 6) (vF V) := by
  refine ⟨h.lt, fun i hi => ?_⟩
  rw [Nat.zero_add, h.cell (by omega)]
  simp only [fF]
  rw [if_pos (by omega)]

set_option maxRecDepth 20000 in
set_option maxHeartbeats 8000000 in
theorem absOf_any (V : Nat → VV) (z c : Int) (FA : Array Value) (hF : FA = facA V z c) (w : World) :
    Calls Try.prog 84 #[.agg FA] w fun e w' => ∃ g cg, w.heap.size ≤ g ∧ e = .returned (.agg #[.slice (some ⟨g, 0, none⟩) 8 cg, .int .i64 z, .int .i64 c]) ∧ Below w.heap.size w w' ∧ Arr w' g (8 * 6) (vF V) := by
  have HF : Hid (FA = facA V z c) := hF
  clear hF
  go_enter Try.func84, Try.ntmps84
  go_upto_region 1 with fail
  obtain ⟨u, hu, hbu, fu, ru, rf⟩ : ∃ v, (w.alloc (.cells FA 127)).alloc (.cells #[.slice none 0 0, .int .i64 0, .int .i64 0] 66) = v ∧ Below w.heap.size w v ∧ Arr v w.heap.size 50 (fF V z c) ∧ Cl v (w.heap.size + 1) [.slice none 0 0, .int .i64 0, .int .i64 0] ∧ (∀ i, v.frozen? ⟨w.heap.size + 1, i, none⟩ = false) := by
    rw [HF.out]
    refine ⟨_, rfl, ((Below.refl _ _).alloc (Nat.le_refl _) _).alloc (by simp) _, ?_, ?_, fun i => by simp [go_sem]⟩
    · exact (Arr.newFirst w 50 (fF V z c) 127).below ((Below.refl _ _).alloc (Nat.le_refl _) _) (by simp)
    · have h := Cl.new (w := w.alloc (.cells (facA V z c) 127)) (vs := #[.slice none 0 0, .int .i64 0, .int .i64 0]) (t := 66)
      simp only [World.size_alloc] at h
      exact h
  rw [hu]
  clear hu
  have s1 : ∀ w', Below u.heap.size u w' → w'.cell? ⟨w.heap.size, 48, none⟩ = some (.int .i64 z) := fun w' h => (fu.below h fu.lt).cell (i := 48) (by omega)
  have s2 : ∀ w', Below u.heap.size u w' → w'.cell? ⟨w.heap.size, 49, none⟩ = some (.int .i64 c) := fun w' h => (fu.below h fu.lt).cell (i := 49) (by omega)
  have HBU : Hid (Below w.heap.size w u) := hbu
  have HFU : Hid (Arr u w.heap.size 50 (fF V z c)) := fu
  have HRU : Hid (Cl u (w.heap.size + 1) [.slice none 0 0, .int .i64 0, .int .i64 0]) := ru
  have HRF : Hid (∀ i, u.frozen? ⟨w.heap.size + 1, i, none⟩ = false) := rf
  have hzu : w.heap.size + 1 < u.heap.size := ru.1
  clear hbu fu ru rf
  refine wp_region_L (T := fun w' => Below u.heap.size u w') (s := 8) (by kernel_rfl) (Below.refl _ _).drew (fun hHeld => ?_)
  refine wpAnyL_tk 0 ?k1v rfl ?k1y ?k1r
  case k1y => (intro w hSw; (try dsimp only at hSw); go_simp; try with_reducible rfl)
  try simp only [Act.put, List.getElem_toArray, List.getElem_cons_zero, List.setIfInBounds_toArray, List.set_cons_zero, List.set_cons_succ]
  refine wpAnyL_tk 1 ?k2v rfl ?k2y ?k2r
  case k2y => (intro w hSw; (try dsimp only at hSw); go_simp; try with_reducible rfl)
  try simp only [Act.put, List.getElem_toArray, List.getElem_cons_zero, List.getElem_cons_succ, List.setIfInBounds_toArray, List.set_cons_zero, List.set_cons_succ]
  refine wpAnyL_tk 3 ?k3v rfl ?k3y ?k3r
  case k3y => (intro w hSw; (try dsimp only at hSw); go_simp; try with_reducible rfl)
  try simp only [Act.put, List.getElem_toArray, List.getElem_cons_zero, List.getElem_cons_succ, List.setIfInBounds_toArray, List.set_cons_zero, List.set_cons_succ]
  refine wpAnyL_tk 4 ?k4v rfl ?k4y ?k4r
  case k4y => (intro w hSw; (try dsimp only at hSw); go_simp; try with_reducible rfl)
  try simp only [Act.put, List.getElem_toArray, List.getElem_cons_zero, List.getElem_cons_succ, List.setIfInBounds_toArray, List.set_cons_zero, List.set_cons_succ]
  refine wpAnyL_tk 5 ?k5v rfl ?k5y ?k5r
  case k5y => (intro w hSw; (try dsimp only at hSw); go_simp; try with_reducible rfl)
  try simp only [Act.put, List.getElem_toArray, List.getElem_cons_zero, List.getElem_cons_succ, List.setIfInBounds_toArray, List.set_cons_zero, List.set_cons_succ]
  refine wpAnyL_tk 6 ?k6v rfl ?k6y ?k6r
  case k6y => (intro w hSw; (try dsimp only at hSw); go_simp; try with_reducible rfl)
  try simp only [Act.put, List.getElem_toArray, List.getElem_cons_zero, List.getElem_cons_succ, List.setIfInBounds_toArray, List.set_cons_zero, List.set_cons_succ]
  refine wpAnyL_call (i := 2) rfl (by kernel_rfl) (fun KK hK => ?_)
  go_simp
  refine (copyV_at w.heap.size 0 8 8 (vF V) _ (by omega) (fac_regs (HFU.out.below (Below.refl u.heap.size u).drew HFU.out.lt)) (vF_one V)).mono ?_
  rintro e w9 ⟨v', rfl, hown, hb, _⟩
  obtain ⟨gD, cD, hvD⟩ := row_some' hown (by omega)
  subst hvD
  have b9 : Below u.heap.size u w9 := (Below.refl u.heap.size u).drew.trans hb
  have hg9 : u.heap.size ≤ gD := (hown.lt _ rfl).1
  have HO9 : Hid (w9.ownsRow u.heap.size 24 6 (.slice (some ⟨gD, 0, none⟩) 8 cD) 8 (first (8 * 6) (vF V))) := hown
  have HB9 : Hid (Below u.heap.size u w9) := b9
  clear hown hb
  go_wp2_with fail
  refine hK.out _ _ b9 (fun hHeld9 => ?_)
  clear hK KK
  try simp only [Act.put, List.getElem_toArray, List.getElem_cons_zero, List.getElem_cons_succ, List.setIfInBounds_toArray, List.set_cons_zero, List.set_cons_succ]
  refine wpAnyL_tk 7 ?k7v rfl ?k7y ?k7r
  case k7y => (intro w hSw; (try dsimp only at hSw); go_simp; try with_reducible rfl)
  try simp only [Act.put, List.getElem_toArray, List.getElem_cons_zero, List.getElem_cons_succ, List.setIfInBounds_toArray, List.set_cons_zero, List.set_cons_succ]
  have r0 : w9.cell? ⟨w.heap.size + 1, 0, none⟩ = some (.slice none 0 0) := (HRU.out.below b9).2 0 (by simp)
  have r1 : w9.cell? ⟨w.heap.size + 1, 1, none⟩ = some (.int .i64 0) := (HRU.out.below b9).2 1 (by simp)
  have r2 : w9.cell? ⟨w.heap.size + 1, 2, none⟩ = some (.int .i64 0) := (HRU.out.below b9).2 2 (by simp)
  have rf : ∀ i, w9.frozen? ⟨w.heap.size + 1, i, none⟩ = false := fun i => (b9.frozen (p := ⟨w.heap.size + 1, i, none⟩) hzu).trans (HRF.out i)
  have hz9 : w.heap.size + 1 < w9.heap.size := Nat.lt_of_lt_of_le hzu b9.size
  clear s1 s2 b9
  refine wpAnyL_store rfl (by kernel_rfl) (by kernel_rfl) (fun KK hK => ?_)
  go_simp
  refine hK.out _ _ ?_
  clear hK KK
  have hne : gD ≠ w.heap.size + 1 := by omega
  go_wp2
  refine bodyPost_ret (v := .agg #[.slice (some ⟨gD, 0, none⟩) 8 cD, .int .i64 z, .int .i64 c]) (by simp [results, Try.results84, go_sem, *]) rfl ⟨gD, cD, ?_, rfl, ?_, ?_⟩
  · have := HBU.out.size; omega
  · (iterate 3 refine Below.setCell ?_ (show w.heap.size ≤ w.heap.size + 1 by omega) _)
    exact HBU.out.trans (HB9.out.mono HBU.out.size)
  · exact (((row_arr HO9.out).other (fun e => hne e.symm) _).other (fun e => hne e.symm) _).other (fun e => hne e.symm) _
end Go.Proofs.Ytjnooklalbcamaa
/- Why an instruction is refused: the program's word. -/
namespace Go.Proofs.Ytjnooklalbcamaa
open Go.RowKit
/-- Why an instruction is refused; 0: it is not; r: the access's reason. -/
def refI (op fl : Int) (sec : Bool) (r : Int) : Int := if fl = 0 then 1 else if op = 9 ∧ sec = true then 9 else if 21 ≤ op ∧ op ≤ 28 then r else 0

set_option maxRecDepth 20000 in
set_option maxHeartbeats 8000000 in
theorem refusal_any (V : Nat → VV) (z c : Int) (FA : Array Value) (hF : FA = facA V z c) (op d ra rb imm h : Int) (a b : VV) (fl : Int) (sec : Bool) (hv : Value) (r : Int) (w : World)
    (hacc : 21 ≤ op → op ≤ 28 → ∀ w', Below w.heap.size w w' → Calls Try.prog 132 #[.agg FA, .agg #[.int .i64 op, .int .i64 d, .int .i64 ra, .int .i64 rb, .int .i64 imm, .int .i64 h], .agg #[.int .i64 a.k, .bool a.s, .int .i64 a.m, .int .i64 a.h, .int .i64 a.lo, .int .i64 a.hi, .int .i64 b.k, .bool b.s, .int .i64 b.m, .int .i64 b.h, .int .i64 b.lo, .int .i64 b.hi, .int .i64 fl, .bool sec], hv] w' fun e v => e = .returned (.int .i64 r) ∧ Below w'.heap.size w' v) :
    Calls Try.prog 118 #[.agg FA, .agg #[.int .i64 op, .int .i64 d, .int .i64 ra, .int .i64 rb, .int .i64 imm, .int .i64 h], .agg #[.int .i64 a.k, .bool a.s, .int .i64 a.m, .int .i64 a.h, .int .i64 a.lo, .int .i64 a.hi, .int .i64 b.k, .bool b.s, .int .i64 b.m, .int .i64 b.h, .int .i64 b.lo, .int .i64 b.hi, .int .i64 fl, .bool sec], hv] w fun e w' => e = .returned (.int .i64 (refI op fl sec r)) ∧ Below w.heap.size w w' := by
  obtain ⟨res, hres⟩ : ∃ x, refI op fl sec r = x := ⟨_, rfl⟩
  rw [hres]
  have HR : Hid (refI op fl sec r = res) := hres
  have HC : Hid _ := hacc
  have HF : Hid (FA = facA V z c) := hF
  clear hres hacc hF
  go_enter Try.func118, Try.ntmps118
  go_upto_region 1 with fail
  obtain ⟨u, hu, pu⟩ := ra_pre w V z c FA HF.out (op := op) (d := d) (ra := ra) (rb := rb) (imm := imm) (h := h) a b fl sec
  rw [hu]
  have P0 : Hid (RaP w u V z c op d ra rb imm h a b fl sec) := pu
  clear hu pu
  obtain ⟨i0, i1, i2, i3, i4, i5⟩ := ins_cells P0.out.I
  obtain ⟨o0, o1, o2, o3, o4, o5, o6, o7, o8, o9, o10, o11, o12, o13⟩ := ro_ops P0.out.O
  by_cases c1 : fl = 0
  · have e1 : (fl == 0) = true := by simp [c1]
    have C1 : Hid (fl = 0) := c1
    clear c1
    go_wp2
    go_ret
    exact ⟨ret_int (by rw [← HR.out, refI, if_pos C1.out]), P0.out.bel⟩
  have e1 : (fl == 0) = false := by simp [c1]
  have C1 : Hid (¬ fl = 0) := c1
  clear c1
  by_cases c2 : op = 9
  · have e2 : (op == 9) = true := by simp [c2]
    have C2 : Hid (op = 9) := c2
    clear c2
    cases hs : sec with
    | true =>
      rw [hs] at o13
      go_wp2
      go_ret
      exact ⟨ret_int (by rw [← HR.out, refI, if_neg C1.out, if_pos ⟨C2.out, hs⟩]), P0.out.bel⟩
    | false =>
      have C3 : Hid (sec = false) := hs
      rw [hs] at o13
      clear hs
      go_wp2_with fail
      refine (tr_isAccess_any op _).mono ?_
      rintro e w' ⟨rfl, hw⟩
      rw [hw]
      clear hw
      have e3 : decide (21 ≤ op ∧ op ≤ 28) = false := by have := C2.out; simp; omega
      rw [e3]
      go_wp2
      go_ret
      exact ⟨ret_int (by rw [← HR.out, refI, if_neg C1.out, if_neg (by simp [C3.out]), if_neg (by have := C2.out; omega)]), P0.out.bel⟩
  have e2 : (op == 9) = false := by simp [c2]
  have C2 : Hid (¬ op = 9) := c2
  clear c2
  go_wp2_with fail
  refine (tr_isAccess_any op _).mono ?_
  rintro e w' ⟨rfl, hw⟩
  rw [hw]
  clear hw
  by_cases c3 : 21 ≤ op ∧ op ≤ 28
  · have e3 : decide (21 ≤ op ∧ op ≤ 28) = true := by simp [c3]
    rw [e3]
    have C3 : Hid (21 ≤ op ∧ op ≤ 28) := c3
    clear c3 e3
    go_wp2_with (refine wpList_load_facts rfl (.tmp 4) rfl w.heap.size rfl V z c FA HF.out P0.out.F ?_)
    refine (HC.out C3.out.1 C3.out.2 _ P0.out.bel).mono ?_
    rintro e v ⟨rfl, hb⟩
    go_wp2
    go_ret
    exact ⟨ret_int (by rw [← HR.out, refI, if_neg C1.out, if_neg (fun q => C2.out q.1), if_pos C3.out]), P0.out.bel.trans (hb.mono P0.out.bel.size)⟩
  · have e3 : decide (21 ≤ op ∧ op ≤ 28) = false := by simp only [decide_eq_false_iff_not]; exact c3
    rw [e3]
    have C3 : Hid (¬ (21 ≤ op ∧ op ≤ 28)) := c3
    clear c3 e3
    go_wp2
    go_ret
    exact ⟨ret_int (by rw [← HR.out, refI, if_neg C1.out, if_neg (fun q => C2.out q.1), if_neg C3.out]), P0.out.bel⟩
end Go.Proofs.Ytjnooklalbcamaa
/- As RegL, where s waits for the others by way of others. Imports nothing of the program. -/
namespace Go.Proofs.Ytjnooklalbcamaa
open Go

section
variable {P : Program} {ops : Array Oper} {Q : Exit → Act → World → Prop} {md : Region.Mode} {T : World → Prop} {s : Nat}
/-- s waits for i, perhaps by way of others. -/
def waitsT (md : Region.Mode) (ops : Array Oper) : Nat → Nat → Nat → Bool
  | 0, s, i => waits md ops s i
  | n + 1, s, i => waits md ops s i || (List.range ops.size).any fun k => waits md ops s k && waitsT md ops n k i
/-- What has come up came up behind what it waits for. -/
def Closed (md : Region.Mode) (ops : Array Oper) (listed : Array Bool) : Prop :=
  ∀ j oj, ops[j]? = some oj → listed.getD j false = true → ∀ e ∈ oj.after, Region.binds md e = true → listed.getD e.on false = true
def closedB (md : Region.Mode) (ops : Array Oper) (listed : Array Bool) : Bool :=
  (List.range ops.size).all fun j => !(listed.getD j false) || match ops[j]? with
    | some o => o.after.all fun e => !(Region.binds md e) || listed.getD e.on false
    | none => true
theorem closed_of {listed : Array Bool} (h : closedB md ops listed = true) : Closed md ops listed := by
  intro j oj hj hl e he hb
  unfold closedB at h
  rw [List.all_eq_true] at h
  have hlt : j < ops.size := (Array.getElem?_eq_some_iff.1 hj).1
  have := h j (List.mem_range.2 hlt)
  rw [hl, hj] at this
  simp only [Bool.not_true, Bool.false_or, Array.all_eq_true_iff_forall_mem] at this
  have := this e he
  rw [hb] at this
  simpa using this
theorem on_of {listed : Array Bool} {k : Nat} (h : listed[k]?.getD false = true) : listed.getD k false = true := by
  rw [Array.getD_eq_getD_getElem?]; exact h
theorem ready_on {j : Nat} {oj : Oper} {listed : Array Bool} (hj : j ∈ Region.ready md ops listed) (hoj : ops[j]? = some oj) : ∀ e ∈ oj.after, Region.binds md e = true → listed.getD e.on false = true := by
  intro e he hb
  obtain ⟨_, o, ho, all⟩ := mem_ready.1 hj
  have hoo : o = oj := by rw [hoj] at ho; exact (Option.some.inj ho).symm
  subst hoo
  exact all e he hb
theorem listed_waitsT {listed : Array Bool} (hc : Closed md ops listed) : ∀ n k i, listed.getD k false = true → waitsT md ops n k i = true → listed.getD i false = true
  | 0, k, i, hk, h => by
    unfold waitsT waits at h
    cases ho : ops[k]? with
    | none => rw [ho] at h; cases h
    | some o =>
      obtain ⟨e, he, hb, hon⟩ := waits_spec (s := k) (i := i) h ho
      rw [← hon]; exact hc k o ho hk e he hb
  | n + 1, k, i, hk, h => by
    unfold waitsT at h
    rw [Bool.or_eq_true] at h
    rcases h with h | h
    · exact listed_waitsT hc 0 k i hk h
    · rw [List.any_eq_true] at h
      obtain ⟨m, _, hm⟩ := h
      rw [Bool.and_eq_true] at hm
      exact listed_waitsT hc n m i (listed_waitsT hc 0 k m hk hm.1) hm.2
theorem ready_waitsT {listed : Array Bool} (hc : Closed md ops listed) {n j i : Nat} (hj : j ∈ Region.ready md ops listed) (h : waitsT md ops n j i = true) : listed.getD i false = true := by
  obtain ⟨_, o, ho, _⟩ := mem_ready.1 hj
  have base : ∀ k, waits md ops j k = true → listed.getD k false = true := fun k hk => by
    obtain ⟨e, he, hb, hon⟩ := waits_spec hk ho
    rw [← hon]; exact ready_on hj ho e he hb
  cases n with
  | zero => exact base i h
  | succ n =>
    unfold waitsT at h
    rw [Bool.or_eq_true] at h
    rcases h with h | h
    · exact base i h
    · rw [List.any_eq_true] at h
      obtain ⟨m, _, hm⟩ := h
      rw [Bool.and_eq_true] at hm
      exact listed_waitsT hc n m i (base m hm.1) hm.2
theorem Closed.more {j : Nat} {listed : Array Bool} (h : Closed md ops listed) (hj : j ∈ Region.ready md ops listed) : Closed md ops (listed.setIfInBounds j true) := by
  have up : ∀ k, listed.getD k false = true → (listed.setIfInBounds j true).getD k false = true := by
    intro k hk
    by_cases e : j = k
    · subst e
      have hlt : j < listed.size := by
        by_cases hlt : j < listed.size
        · exact hlt
        · rw [Array.getD_eq_getD_getElem?, Array.getElem?_eq_none (Nat.le_of_not_lt hlt)] at hk; cases hk
      simp [Array.getD_eq_getD_getElem?, hlt]
    · rw [Array.getD_eq_getD_getElem?, Array.getElem?_setIfInBounds, if_neg e, ← Array.getD_eq_getD_getElem?]; exact hk
  intro k ok hk hl e he hb
  by_cases q : j = k
  · subst q; exact up _ (ready_on hj hk e he hb)
  · refine up _ (h k ok hk ?_ e he hb)
    rw [Array.getD_eq_getD_getElem?, Array.getElem?_setIfInBounds, if_neg q, ← Array.getD_eq_getD_getElem?] at hl
    exact hl
theorem wpAnyL_firstT {i n : Nat} {oi : Oper} {v : Value} (hi : ops[i]? = some oi) (hsel : ∀ (j : Nat) (o : Oper) cs b, ops[j]? = some o → o.op ≠ .select cs b)
    (hQ : ∀ c a w, Q (.panic c) (a.put oi.dst v) w → Q (.panic c) a w) (hws : waitsT md ops n s i = true) :
    ∀ (fuel : Nat) (listed : Array Bool) (a : Act) (w : World), Closed md ops listed → Clear md ops i oi listed → i ∈ Region.ready md ops listed → YieldsIf P ops T oi v a → T w →
      wpAnyL P md ops Q T s fuel (listed.setIfInBounds i true) (a.put oi.dst v) w → wpAnyL P md ops Q T s (fuel + 1) listed a w := by
  intro fuel
  induction fuel with
  | zero =>
    intro listed a w _ _ hr hy hT H
    constructor
    · intro none; rw [none] at hr; cases hr
    · intro j hj
      by_cases hji : j = i
      · subst hji; exact hy.wpOp hi hT ⟨fun _ => hT, H⟩
      · exact absurd (ready_mono hj hji) (by rw [H.1]; simp)
  | succ n ih =>
    intro listed a w hcd hcl hr hy hT H
    constructor
    · intro none; rw [none] at hr; cases hr
    · intro j hj
      by_cases hji : j = i
      · subst hji; exact hy.wpOp hi hT ⟨fun _ => hT, H⟩
      · obtain ⟨un, oj, hoj, _⟩ := mem_ready.1 hj
        have nw := ready_free hr hj hoj
        have js : j ≠ s := by
          intro e; subst e
          have on := ready_waitsT hcd hj hws
          have off := (mem_ready.1 hr).1
          rw [Array.getD_eq_getD_getElem?] at on off
          cases hq : listed[i]? with
          | none => rw [hq] at on; cases on
          | some b => rw [hq] at on off; simp at on off; rw [on] at off; cases off
        have step := wpOp_putIf hoj (hcl j oj hoj hji un nw) (fun cs b => hsel i oi cs b hi) (fun cs b => hsel j oj cs b hoj) hQ hy (H.2 j (ready_mono hj hji))
        refine wpOp_mono (fun a' w' ⟨y', t', k'⟩ => ⟨t', ih _ a' w' (hcd.more hj) (hcl.more hj) (ready_mono hr (Ne.symm hji)) y' (t' js) ?_⟩) step
        rw [Array.setIfInBounds_comm _ _ hji]
        exact k'
/-- Take number i first. -/
theorem wpAnyL_takeT {i : Nat} {oi : Oper} {v : Value} {fuel : Nat} {listed : Array Bool} {a : Act} {w : World} (hi : ops[i]? = some oi)
    (hs : Region.noSelect ops = true) (hf : Region.free md ops listed i = true) (hr : (Region.ready md ops listed).contains i = true) (hws : (waitsT md ops 6 s i && closedB md ops listed) = true)
    (hQ : ∀ c a w, Q (.panic c) (a.put oi.dst v) w → Q (.panic c) a w) (hy : YieldsIf P ops T oi v a) (hS : T w)
    (h : wpAnyL P md ops Q T s fuel (listed.setIfInBounds i true) (a.put oi.dst v) w) : wpAnyL P md ops Q T s (fuel + 1) listed a w :=
  wpAnyL_firstT hi (Region.noSelect_spec hs) hQ (Bool.and_eq_true _ _ ▸ hws).1 fuel listed a w (closed_of (Bool.and_eq_true _ _ ▸ hws).2) (Region.free_spec hi hf) (by simpa using hr) hy hS h
theorem wpAnyL_tkT (i : Nat) (v : Value) {oi : Oper} {fuel : Nat} {listed : Array Bool} {a : Act} {w : World} (hi : ops[i]? = some oi) (hy : ∀ w, T w → (execOp a.eval oi).run P w = .ok (.value v) w)
    (h : wpAnyL P md ops Q T s fuel (listed.setIfInBounds i true) (a.put oi.dst v) w)
    (hw : Region.wanted oi (yielded ops a.tmps) = true := by kernel_rfl) (hs : Region.noSelect ops = true := by kernel_rfl) (hf : Region.free md ops listed i = true := by kernel_rfl) (hr : (Region.ready md ops listed).contains i = true := by kernel_rfl) (hws : (waitsT md ops 6 s i && closedB md ops listed) = true := by kernel_rfl)
    (hQ : ∀ c a w, Q (.panic c) (a.put oi.dst v) w → Q (.panic c) a w := by exact fun _ _ _ h => h) (hS : T w := by assumption) : wpAnyL P md ops Q T s (fuel + 1) listed a w :=
  wpAnyL_takeT hi hs hf hr hws hQ (Or.inl ⟨hw, hy⟩) hS h
end
end Go.Proofs.Ytjnooklalbcamaa
