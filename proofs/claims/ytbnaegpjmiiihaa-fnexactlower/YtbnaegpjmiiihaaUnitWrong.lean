/- What is wrong with a statement: the program's word. -/
import Derived.Test.YtbnaegpjmiiihaaUnitBlock
import Derived.Deep.QuietTactic
import Derived.BigQuiet
namespace Go.Proofs.Ytbnaegpjmiiihaa
open Go.RowKit
/-- What is wrong with a statement behind which its block has so many more; 0: nothing is. -/
def wrongI (s : SV) (own procs dmax room depth : Int) : Int :=
  if stOK s procs = false then 2 else if room < s.thn ∨ room - s.thn < s.els then 3 else if (s.k = 2 ∨ s.k = 3) ∧ dmax < depth then 4 else if s.k = 4 ∧ s.proc ≤ own then 5 else 0
theorem below_drewU {B : Nat} {w w' : World} (h : Below B w w') (n : Nat) : Below B w (w'.drewN n) := h.trans ⟨rfl, rfl, rfl, Nat.le_refl _, fun _ _ => rfl⟩

set_option maxRecDepth 20000 in
set_option maxHeartbeats 8000000 in
theorem wrong_any (t : Nat) (lst : Value) (own procs dmax err pos : Int) (s : SV) (room depth : Int) (w : World) (hT : Cl w t [lst, .int .i64 own, .int .i64 procs, .int .i64 dmax, .int .i64 err, .int .i64 pos]) (r0 : 0 ≤ room) (r1 : room ≤ 1048576) :
    Calls Try.prog 30 #[.pointer (some ⟨t, 0, none⟩), .agg #[.int .i64 s.k, .int .i64 s.op, .int .i64 s.d, .int .i64 s.a, .int .i64 s.b, .int .i64 s.imm, .int .i64 s.h, .int .i64 s.cond, .int .i64 s.thn, .int .i64 s.els, .int .i64 s.proc], .int .i64 room, .int .i64 depth] w fun e w' => e = .returned (.int .i64 (wrongI s own procs dmax room depth)) ∧ Below w.heap.size w w' := by
  obtain ⟨res, hres⟩ : ∃ x, wrongI s own procs dmax room depth = x := ⟨_, rfl⟩
  rw [hres]
  have HR : Hid (wrongI s own procs dmax room depth = res) := hres
  have HT : Hid (Cl w t [lst, .int .i64 own, .int .i64 procs, .int .i64 dmax, .int .i64 err, .int .i64 pos]) := hT
  have lt := hT.1
  clear hres hT
  go_enter Try.func30, Try.ntmps30
  go_upto_region 1 with fail
  obtain ⟨u, hu, hb, hc⟩ : ∃ x, w.alloc (.cells #[.int .i64 s.k, .int .i64 s.op, .int .i64 s.d, .int .i64 s.a, .int .i64 s.b, .int .i64 s.imm, .int .i64 s.h, .int .i64 s.cond, .int .i64 s.thn, .int .i64 s.els, .int .i64 s.proc] 38) = x ∧ Below w.heap.size w x ∧ Cl x w.heap.size [.int .i64 s.k, .int .i64 s.op, .int .i64 s.d, .int .i64 s.a, .int .i64 s.b, .int .i64 s.imm, .int .i64 s.h, .int .i64 s.cond, .int .i64 s.thn, .int .i64 s.els, .int .i64 s.proc] := ⟨_, rfl, (Below.refl _ _).alloc (Nat.le_refl _) _, Cl.new⟩
  rw [hu]
  have B0 : Hid (Below w.heap.size w u) := hb
  have C0 : Hid (Cl u w.heap.size [.int .i64 s.k, .int .i64 s.op, .int .i64 s.d, .int .i64 s.a, .int .i64 s.b, .int .i64 s.imm, .int .i64 s.h, .int .i64 s.cond, .int .i64 s.thn, .int .i64 s.els, .int .i64 s.proc]) := hc
  have T0 : Hid (Cl u t [lst, .int .i64 own, .int .i64 procs, .int .i64 dmax, .int .i64 err, .int .i64 pos]) := HT.out.below hb
  clear hu hb hc HT
  have lu := C0.out.1
  have r0 : ∀ w', Below u.heap.size u w' → w'.cell? ⟨w.heap.size, 0, none⟩ = some (.int .i64 s.k) := fun w' h => (C0.out.below h).2 0 (by simp)
  have r1 : ∀ w', Below u.heap.size u w' → w'.cell? ⟨w.heap.size, 1, none⟩ = some (.int .i64 s.op) := fun w' h => (C0.out.below h).2 1 (by simp)
  have r2 : ∀ w', Below u.heap.size u w' → w'.cell? ⟨w.heap.size, 2, none⟩ = some (.int .i64 s.d) := fun w' h => (C0.out.below h).2 2 (by simp)
  have r3 : ∀ w', Below u.heap.size u w' → w'.cell? ⟨w.heap.size, 3, none⟩ = some (.int .i64 s.a) := fun w' h => (C0.out.below h).2 3 (by simp)
  have r4 : ∀ w', Below u.heap.size u w' → w'.cell? ⟨w.heap.size, 4, none⟩ = some (.int .i64 s.b) := fun w' h => (C0.out.below h).2 4 (by simp)
  have r5 : ∀ w', Below u.heap.size u w' → w'.cell? ⟨w.heap.size, 5, none⟩ = some (.int .i64 s.imm) := fun w' h => (C0.out.below h).2 5 (by simp)
  have r6 : ∀ w', Below u.heap.size u w' → w'.cell? ⟨w.heap.size, 6, none⟩ = some (.int .i64 s.h) := fun w' h => (C0.out.below h).2 6 (by simp)
  have r7 : ∀ w', Below u.heap.size u w' → w'.cell? ⟨w.heap.size, 7, none⟩ = some (.int .i64 s.cond) := fun w' h => (C0.out.below h).2 7 (by simp)
  have r8 : ∀ w', Below u.heap.size u w' → w'.cell? ⟨w.heap.size, 8, none⟩ = some (.int .i64 s.thn) := fun w' h => (C0.out.below h).2 8 (by simp)
  have r9 : ∀ w', Below u.heap.size u w' → w'.cell? ⟨w.heap.size, 9, none⟩ = some (.int .i64 s.els) := fun w' h => (C0.out.below h).2 9 (by simp)
  have r10 : ∀ w', Below u.heap.size u w' → w'.cell? ⟨w.heap.size, 10, none⟩ = some (.int .i64 s.proc) := fun w' h => (C0.out.below h).2 10 (by simp)
  have q2 : ∀ w', Below u.heap.size u w' → w'.cell? ⟨t, 2, none⟩ = some (.int .i64 procs) := fun w' h => (T0.out.below h).2 2 (by simp)
  refine wp_region_held_drew (S := fun w' => Below u.heap.size u w') (by kernel_rfl) (Below.refl _ _).drew (fun hd0 => ?_)
  generalize u.drew = v0 at hd0 ⊢
  refine wpAnyH_tk 0 ?k1v rfl ?k1y ?k1r
  case k1y => (intro w hSw; (try dsimp only at hSw); go_simp; try with_reducible rfl)
  try simp only [Act.put, List.getElem_toArray, List.getElem_cons_zero, List.setIfInBounds_toArray, List.set_cons_zero, List.set_cons_succ]
  refine wpAnyH_tk 1 ?k2v rfl ?k2y ?k2r
  case k2y => (intro w hSw; (try dsimp only at hSw); go_simp; try with_reducible rfl)
  try simp only [Act.put, List.getElem_toArray, List.getElem_cons_zero, List.getElem_cons_succ, List.setIfInBounds_toArray, List.set_cons_zero, List.set_cons_succ]
  refine wpAnyH_tk 2 ?k3v rfl ?k3y ?k3r
  case k3y => (intro w hSw; (try dsimp only at hSw); go_simp; try with_reducible rfl)
  try simp only [Act.put, List.getElem_toArray, List.getElem_cons_zero, List.getElem_cons_succ, List.setIfInBounds_toArray, List.set_cons_zero, List.set_cons_succ]
  refine wpAnyH_tk 3 ?k4v rfl ?k4y ?k4r
  case k4y => (intro w hSw; (try dsimp only at hSw); go_simp; try with_reducible rfl)
  try simp only [Act.put, List.getElem_toArray, List.getElem_cons_zero, List.getElem_cons_succ, List.setIfInBounds_toArray, List.set_cons_zero, List.set_cons_succ]
  refine wpAnyH_tk 4 ?k5v rfl ?k5y ?k5r
  case k5y => (intro w hSw; (try dsimp only at hSw); go_simp; try with_reducible rfl)
  try simp only [Act.put, List.getElem_toArray, List.getElem_cons_zero, List.getElem_cons_succ, List.setIfInBounds_toArray, List.set_cons_zero, List.set_cons_succ]
  refine wpAnyH_ready (rs := [5]) (by kernel_rfl) (by simp) ?_
  refine AllReadyH.cons rfl (fun KK hK => ?_) AllReadyH.nil
  go_simp
  refine (validStmt_any s procs _).mono ?_
  rintro e u1 ⟨rfl, hb⟩
  have hd1 : Below u.heap.size u u1 := hd0.trans (hb.mono hd0.size)
  clear hb
  obtain ⟨ok, hok⟩ : ∃ x, stOK s procs = x := ⟨_, rfl⟩
  rw [hok]
  have HOK : Hid (stOK s procs = ok) := hok
  clear hok
  go_wp2_with fail
  refine hK.out _ _ hd1 (fun hHeld => ?_)
  clear hK KK
  try simp only [Act.put, List.getElem_toArray, List.getElem_cons_zero, List.getElem_cons_succ, List.setIfInBounds_toArray, List.set_cons_zero, List.set_cons_succ]
  refine wpAnyH_tk 6 ?k6v rfl ?k6y ?k6r
  case k6y => (intro w hSw; (try dsimp only at hSw); go_simp; try with_reducible rfl)
  try simp only [Act.put, List.getElem_toArray, List.getElem_cons_zero, List.getElem_cons_succ, List.setIfInBounds_toArray, List.set_cons_zero, List.set_cons_succ]
  refine wpAnyH_tk 7 ?k7v rfl ?k7y ?k7r
  case k7y => (intro w hSw; (try dsimp only at hSw); go_simp; try with_reducible rfl)
  try simp only [Act.put, List.getElem_toArray, List.getElem_cons_zero, List.getElem_cons_succ, List.setIfInBounds_toArray, List.set_cons_zero, List.set_cons_succ]
  refine wpAnyH_done (by kernel_rfl) ?_ _
  clear r0 r1 r2 r3 r4 r5 r6 r7 r8 r9 r10 q2
  have B1 : Hid (Below w.heap.size w u1) := B0.out.trans (hd1.mono B0.out.size)
  have C1 : Hid (Cl u1 w.heap.size [.int .i64 s.k, .int .i64 s.op, .int .i64 s.d, .int .i64 s.a, .int .i64 s.b, .int .i64 s.imm, .int .i64 s.h, .int .i64 s.cond, .int .i64 s.thn, .int .i64 s.els, .int .i64 s.proc]) := C0.out.below hd1
  have T1 : Hid (Cl u1 t [lst, .int .i64 own, .int .i64 procs, .int .i64 dmax, .int .i64 err, .int .i64 pos]) := T0.out.below hd1
  clear hd0 hd1 hHeld B0 C0 T0
  obtain ⟨c0, c1, c2, c3, c4, c5, c6, c7, c8, c9, c10⟩ := st_cl C1.out
  have zc := C1.out.1
  have zt := T1.out.1
  have t1 : u1.cell? ⟨t, 1, none⟩ = some (.int .i64 own) := T1.out.2 1 (by simp)
  have t3 : u1.cell? ⟨t, 3, none⟩ = some (.int .i64 dmax) := T1.out.2 3 (by simp)
  cases ok with
  | false =>
    go_wp2
    go_ret
    exact ⟨ret_int (by rw [← HR.out, wrongI, if_pos HOK.out]), B1.out⟩
  | true =>
  obtain ⟨tp, ep⟩ := st_pos HOK.out
  have H1 : Hid (¬ stOK s procs = false) := (by rw [HOK.out]; decide : ¬ stOK s procs = false)
  by_cases h1 : room < s.thn
  · have e1 : decide (room < s.thn) = true := by simp [h1]
    go_wp2
    go_ret
    exact ⟨ret_int (by rw [← HR.out, wrongI, if_neg H1.out, if_pos (Or.inl h1)]), B1.out⟩
  have e1 : decide (room < s.thn) = false := by simp; omega
  by_cases h2 : room - s.thn < s.els
  · have e2 : decide (room - s.thn < s.els) = true := by simp [h2]
    go_wp2
    go_ret
    exact ⟨ret_int (by rw [← HR.out, wrongI, if_neg H1.out, if_pos (Or.inr h2)]), B1.out⟩
  have e2 : decide (room - s.thn < s.els) = false := by simp; omega
  have H2 : Hid (¬ (room < s.thn ∨ room - s.thn < s.els)) := (by omega : ¬ (room < s.thn ∨ room - s.thn < s.els))
  have hle : s.thn ≤ room := by omega
  clear h1 h2
  by_cases h3 : (s.k = 2 ∨ s.k = 3) ∧ dmax < depth
  · have H3 : Hid ((s.k = 2 ∨ s.k = 3) ∧ dmax < depth) := h3
    have e4 : decide (dmax < depth) = true := by simp [h3.2]
    by_cases h2 : s.k = 2
    · have e3 : (s.k == 2) = true := by simp [h2]
      clear h3 h2
      go_wp2
      go_ret
      exact ⟨ret_int (by rw [← HR.out, wrongI, if_neg H1.out, if_neg H2.out, if_pos H3.out]), B1.out⟩
    · have e3 : (s.k == 2) = false := by simp [h2]
      have e5 : (s.k == 3) = true := by rcases h3.1 with q | q <;> simp_all
      clear h3 h2
      go_wp2
      go_ret
      exact ⟨ret_int (by rw [← HR.out, wrongI, if_neg H1.out, if_neg H2.out, if_pos H3.out]), B1.out⟩
  have H3 : Hid (¬ ((s.k = 2 ∨ s.k = 3) ∧ dmax < depth)) := h3
  clear h3
  go_upto_region 5 with fail
  go_cut [31] (fun s31 wx => s31 = .bool false ∧ wx = u1)
  case first =>
    by_cases h2 : s.k = 2
    · have e3 : (s.k == 2) = true := by simp [h2]
      have e4 : decide (dmax < depth) = false := by have := H3.out; simp; omega
      clear h2
      go_wp2_with fail
      go_meet
      exact ⟨rfl, rfl⟩
    · have e3 : (s.k == 2) = false := by simp [h2]
      by_cases h5 : s.k = 3
      · have e5 : (s.k == 3) = true := by simp [h5]
        have e4 : decide (dmax < depth) = false := by have := H3.out; simp; omega
        clear h2 h5
        go_wp2_with fail
        go_meet
        exact ⟨rfl, rfl⟩
      · have e5 : (s.k == 3) = false := by simp [h5]
        clear h2 h5
        go_wp2_with fail
        go_meet
        exact ⟨rfl, rfl⟩
  case rest =>
    obtain ⟨rfl, hw⟩ := hcut
    rw [hw]
    clear hw e1 e2
    go_upto_region 7 with fail
    by_cases k4 : s.k = 4
    · have a4 : (s.k == 4) = true := by simp [k4]
      have K4 : Hid (s.k = 4) := k4
      clear k4
      by_cases h5 : s.proc ≤ own
      · have e5 : decide (s.proc ≤ own) = true := by simp [h5]
        go_quiet (fail)
        go_wp2
        go_ret
        exact ⟨ret_int (by rw [← HR.out, wrongI, if_neg H1.out, if_neg H2.out, if_neg H3.out, if_pos ⟨K4.out, h5⟩]), below_drewU B1.out _⟩
      · have e5 : decide (s.proc ≤ own) = false := by simp; omega
        have H5 : Hid (¬ s.proc ≤ own) := h5
        clear h5
        go_quiet (fail)
        go_wp2
        go_ret
        exact ⟨ret_int (by rw [← HR.out, wrongI, if_neg H1.out, if_neg H2.out, if_neg H3.out, if_neg (fun x => by have := H5.out; have := x.2; omega)]), below_drewU B1.out _⟩
    · have a4 : (s.k == 4) = false := by simp [k4]
      have K4 : Hid (¬ s.k = 4) := k4
      clear k4
      go_quiet (fail)
      go_wp2
      go_ret
      exact ⟨ret_int (by rw [← HR.out, wrongI, if_neg H1.out, if_neg H2.out, if_neg H3.out, if_neg (fun x => K4.out x.1)]), below_drewU B1.out _⟩
end Go.Proofs.Ytbnaegpjmiiihaa
