/- Marks on lists of statements and of procedures; lists that may be nil, compared. -/
import Derived.Test.YthicfjjaehkcnaaUnitCopy2
import Derived.Test.YthicfjjaehkcnaaInlSpec
namespace Go.Proofs.Ythicfjjaehkcnaa
open Go.RowKit
def markF (k : Int) (p : Nat) : Value := .int .i64 (k + (p : Int))

set_option maxRecDepth 20000 in
set_option maxHeartbeats 16000000 in
theorem markStmtS_at (b n cap : Nat) (f : Nat → Value) (k : Int) (w : World) (ln : n ≤ 1048576) (k0 : 0 ≤ k) (k1 : k ≤ 1125899906842624) (hA : Arr w b (n * 11) f) :
    Calls Try.prog 15 #[.slice (some ⟨b, 0, none⟩) n cap, .int .i64 k] w fun e w' => e = .returned (.int .i64 (k + 11 * (n : Int))) ∧ Ft b w w' ∧ Arr w' b (n * 11) (markF k) := by
  have HA : Hid (Arr w b (n * 11) f) := hA
  clear hA
  go_enter Try.func15, Try.ntmps15
  go_wp2
  go_loopw [1, 5] (fun kv iv wr => ∃ j : Nat, j ≤ n ∧ kv = .int .i64 (k + 11 * (j : Int)) ∧ iv = .int .i64 (j : Int) ∧ Ft b w wr ∧ Arr wr b (n * 11) (upTo (markF k) f (j * 11))) (fun _ iv _ => n - (intOf iv).toNat)
  case atStart => exact ⟨0, Nat.zero_le _, by simp, rfl, Ft.refl _ _, HA.out.congr fun i _ => by rw [Nat.zero_mul, upTo_zero]⟩
  case round =>
    obtain ⟨j, hj, hkv, hiv, hf, ha⟩ := hrel
    obtain ⟨kj, hkj⟩ : ∃ y : Int, k + 11 * (j : Int) = y := ⟨_, rfl⟩
    rw [hkj] at hkv
    subst hkv hiv
    have HKJ : Hid (k + 11 * (j : Int) = kj) := hkj
    have kb0 : 0 ≤ kj := by omega
    have kb1 : kj ≤ 2251799813685248 := by omega
    have F2 : Hid (Ft b w wr) := hf
    have A2 : Hid (Arr wr b (n * 11) (upTo (markF k) f (j * 11))) := ha
    clear hf ha hkj
    by_cases hlt : j < n
    · have hlt' : (j : Int) < (n : Int) := by omega
      have c0 := A2.out.cell (i := j * 11) (by omega)
      have c1 := A2.out.cell (i := j * 11 + 1) (by omega)
      have c2 := A2.out.cell (i := j * 11 + 2) (by omega)
      have c3 := A2.out.cell (i := j * 11 + 3) (by omega)
      have c4 := A2.out.cell (i := j * 11 + 4) (by omega)
      have c5 := A2.out.cell (i := j * 11 + 5) (by omega)
      have c6 := A2.out.cell (i := j * 11 + 6) (by omega)
      have c7 := A2.out.cell (i := j * 11 + 7) (by omega)
      have c8 := A2.out.cell (i := j * 11 + 8) (by omega)
      have c9 := A2.out.cell (i := j * 11 + 9) (by omega)
      have c10 := A2.out.cell (i := j * 11 + 10) (by omega)
      have cf := A2.out.free
      have cl := A2.out.lt
      have A3 : Hid (Arr (wr.setCells b (j * 11) [.int .i64 kj, .int .i64 (kj + 1), .int .i64 (kj + 1 + 1), .int .i64 (kj + 1 + 1 + 1), .int .i64 (kj + 1 + 1 + 1 + 1), .int .i64 (kj + 1 + 1 + 1 + 1 + 1), .int .i64 (kj + 1 + 1 + 1 + 1 + 1 + 1), .int .i64 (kj + 1 + 1 + 1 + 1 + 1 + 1 + 1), .int .i64 (kj + 1 + 1 + 1 + 1 + 1 + 1 + 1 + 1), .int .i64 (kj + 1 + 1 + 1 + 1 + 1 + 1 + 1 + 1 + 1), .int .i64 (kj + 1 + 1 + 1 + 1 + 1 + 1 + 1 + 1 + 1 + 1)]) b (n * 11) (upTo (markF k) f ((j + 1) * 11))) := (by
        rw [show (j + 1) * 11 = j * 11 + 11 by omega]
        exact A2.out.fill (vs := [.int .i64 kj, .int .i64 (kj + 1), .int .i64 (kj + 1 + 1), .int .i64 (kj + 1 + 1 + 1), .int .i64 (kj + 1 + 1 + 1 + 1), .int .i64 (kj + 1 + 1 + 1 + 1 + 1), .int .i64 (kj + 1 + 1 + 1 + 1 + 1 + 1), .int .i64 (kj + 1 + 1 + 1 + 1 + 1 + 1 + 1), .int .i64 (kj + 1 + 1 + 1 + 1 + 1 + 1 + 1 + 1), .int .i64 (kj + 1 + 1 + 1 + 1 + 1 + 1 + 1 + 1 + 1), .int .i64 (kj + 1 + 1 + 1 + 1 + 1 + 1 + 1 + 1 + 1 + 1)]) (by simp; omega) (fun c hc => by
          have hc' : c < 11 := by simpa using hc
          match c, hc' with
          | 0, _ => exact congrArg (Value.int .i64) (by have := HKJ.out; omega)
          | 1, _ => exact congrArg (Value.int .i64) (by have := HKJ.out; omega)
          | 2, _ => exact congrArg (Value.int .i64) (by have := HKJ.out; omega)
          | 3, _ => exact congrArg (Value.int .i64) (by have := HKJ.out; omega)
          | 4, _ => exact congrArg (Value.int .i64) (by have := HKJ.out; omega)
          | 5, _ => exact congrArg (Value.int .i64) (by have := HKJ.out; omega)
          | 6, _ => exact congrArg (Value.int .i64) (by have := HKJ.out; omega)
          | 7, _ => exact congrArg (Value.int .i64) (by have := HKJ.out; omega)
          | 8, _ => exact congrArg (Value.int .i64) (by have := HKJ.out; omega)
          | 9, _ => exact congrArg (Value.int .i64) (by have := HKJ.out; omega)
          | 10, _ => exact congrArg (Value.int .i64) (by have := HKJ.out; omega)) : Arr (wr.setCells b (j * 11) [.int .i64 kj, .int .i64 (kj + 1), .int .i64 (kj + 1 + 1), .int .i64 (kj + 1 + 1 + 1), .int .i64 (kj + 1 + 1 + 1 + 1), .int .i64 (kj + 1 + 1 + 1 + 1 + 1), .int .i64 (kj + 1 + 1 + 1 + 1 + 1 + 1), .int .i64 (kj + 1 + 1 + 1 + 1 + 1 + 1 + 1), .int .i64 (kj + 1 + 1 + 1 + 1 + 1 + 1 + 1 + 1), .int .i64 (kj + 1 + 1 + 1 + 1 + 1 + 1 + 1 + 1 + 1), .int .i64 (kj + 1 + 1 + 1 + 1 + 1 + 1 + 1 + 1 + 1 + 1)]) b (n * 11) (upTo (markF k) f ((j + 1) * 11)))
      have F3 : Hid (Ft b w (wr.setCells b (j * 11) [.int .i64 kj, .int .i64 (kj + 1), .int .i64 (kj + 1 + 1), .int .i64 (kj + 1 + 1 + 1), .int .i64 (kj + 1 + 1 + 1 + 1), .int .i64 (kj + 1 + 1 + 1 + 1 + 1), .int .i64 (kj + 1 + 1 + 1 + 1 + 1 + 1), .int .i64 (kj + 1 + 1 + 1 + 1 + 1 + 1 + 1), .int .i64 (kj + 1 + 1 + 1 + 1 + 1 + 1 + 1 + 1), .int .i64 (kj + 1 + 1 + 1 + 1 + 1 + 1 + 1 + 1 + 1), .int .i64 (kj + 1 + 1 + 1 + 1 + 1 + 1 + 1 + 1 + 1 + 1)])) := ((((((((((F2.out.set _ _).set _ _).set _ _).set _ _).set _ _).set _ _).set _ _).set _ _).set _ _).set _ _).set _ _
      go_wp2
      go_roundw
      case rel => exact ⟨j + 1, by omega, congrArg (Value.int .i64) (by have := HKJ.out; omega), by go_num, F3.out, A3.out⟩
      case measure => simp [intOf]; omega
    · obtain rfl : j = n := by omega
      have hlt' : ¬ (j : Int) < (j : Int) := by omega
      go_wp2
      go_ret
      exact ⟨ret_int HKJ.out.symm, F2.out, A2.out.filled⟩
set_option maxHeartbeats 400000 in
theorem markStmtS_nil (ao : Option Addr) (cap : Nat) (k : Int) (w : World) :
    Calls Try.prog 15 #[.slice ao 0 cap, .int .i64 k] w fun e w' => e = .returned (.int .i64 k) ∧ w' = w := by
  go_enter Try.func15, Try.ntmps15
  go_wp2
  refine wp_loop_rounds 1 ?_
  rw [rounds_succ]
  go_wp2
  go_ret
  exact ⟨rfl, rfl⟩

set_option maxRecDepth 20000 in
set_option maxHeartbeats 16000000 in
theorem heldStmtS_at (b n cap : Nat) (k : Int) (w : World) (ln : n ≤ 1048576) (k0 : 0 ≤ k) (k1 : k ≤ 1125899906842624) (hA : Arr w b (n * 11) (markF k)) :
    Calls Try.prog 16 #[.slice (some ⟨b, 0, none⟩) n cap, .int .i64 k] w fun e w' => e = .returned (.int .i64 (k + 11 * (n : Int))) ∧ w' = w := by
  have HA : Hid (Arr w b (n * 11) (markF k)) := hA
  have lb := hA.lt
  clear hA
  go_enter Try.func16, Try.ntmps16
  go_wp2
  go_loopw [1, 5] (fun kv iv wr => ∃ j : Nat, j ≤ n ∧ kv = .int .i64 (k + 11 * (j : Int)) ∧ iv = .int .i64 (j : Int) ∧ wr = w) (fun _ iv _ => n - (intOf iv).toNat)
  case atStart => exact ⟨0, Nat.zero_le _, by simp, rfl, rfl⟩
  case round =>
    obtain ⟨j, hj, hkv, hiv, hw⟩ := hrel
    obtain ⟨kj, hkj⟩ : ∃ y : Int, k + 11 * (j : Int) = y := ⟨_, rfl⟩
    rw [hkj] at hkv
    subst hkv hiv hw
    have HKJ : Hid (k + 11 * (j : Int) = kj) := hkj
    have kb0 : 0 ≤ kj := by omega
    have kb1 : kj ≤ 2251799813685248 := by omega
    clear hkj
    by_cases hlt : j < n
    · have hlt' : (j : Int) < (n : Int) := by omega
      have c0 : wr.cell? ⟨b, j * 11, none⟩ = some (.int .i64 (kj)) := (HA.out.cell (i := j * 11) (by omega)).trans (congrArg (fun x => some (Value.int .i64 x)) (by have := HKJ.out; omega))
      have c1 : wr.cell? ⟨b, j * 11 + 1, none⟩ = some (.int .i64 (kj + 1)) := (HA.out.cell (i := j * 11 + 1) (by omega)).trans (congrArg (fun x => some (Value.int .i64 x)) (by have := HKJ.out; omega))
      have c2 : wr.cell? ⟨b, j * 11 + 2, none⟩ = some (.int .i64 (kj + 1 + 1)) := (HA.out.cell (i := j * 11 + 2) (by omega)).trans (congrArg (fun x => some (Value.int .i64 x)) (by have := HKJ.out; omega))
      have c3 : wr.cell? ⟨b, j * 11 + 3, none⟩ = some (.int .i64 (kj + 1 + 1 + 1)) := (HA.out.cell (i := j * 11 + 3) (by omega)).trans (congrArg (fun x => some (Value.int .i64 x)) (by have := HKJ.out; omega))
      have c4 : wr.cell? ⟨b, j * 11 + 4, none⟩ = some (.int .i64 (kj + 1 + 1 + 1 + 1)) := (HA.out.cell (i := j * 11 + 4) (by omega)).trans (congrArg (fun x => some (Value.int .i64 x)) (by have := HKJ.out; omega))
      have c5 : wr.cell? ⟨b, j * 11 + 5, none⟩ = some (.int .i64 (kj + 1 + 1 + 1 + 1 + 1)) := (HA.out.cell (i := j * 11 + 5) (by omega)).trans (congrArg (fun x => some (Value.int .i64 x)) (by have := HKJ.out; omega))
      have c6 : wr.cell? ⟨b, j * 11 + 6, none⟩ = some (.int .i64 (kj + 1 + 1 + 1 + 1 + 1 + 1)) := (HA.out.cell (i := j * 11 + 6) (by omega)).trans (congrArg (fun x => some (Value.int .i64 x)) (by have := HKJ.out; omega))
      have c7 : wr.cell? ⟨b, j * 11 + 7, none⟩ = some (.int .i64 (kj + 1 + 1 + 1 + 1 + 1 + 1 + 1)) := (HA.out.cell (i := j * 11 + 7) (by omega)).trans (congrArg (fun x => some (Value.int .i64 x)) (by have := HKJ.out; omega))
      have c8 : wr.cell? ⟨b, j * 11 + 8, none⟩ = some (.int .i64 (kj + 1 + 1 + 1 + 1 + 1 + 1 + 1 + 1)) := (HA.out.cell (i := j * 11 + 8) (by omega)).trans (congrArg (fun x => some (Value.int .i64 x)) (by have := HKJ.out; omega))
      have c9 : wr.cell? ⟨b, j * 11 + 9, none⟩ = some (.int .i64 (kj + 1 + 1 + 1 + 1 + 1 + 1 + 1 + 1 + 1)) := (HA.out.cell (i := j * 11 + 9) (by omega)).trans (congrArg (fun x => some (Value.int .i64 x)) (by have := HKJ.out; omega))
      have c10 : wr.cell? ⟨b, j * 11 + 10, none⟩ = some (.int .i64 (kj + 1 + 1 + 1 + 1 + 1 + 1 + 1 + 1 + 1 + 1)) := (HA.out.cell (i := j * 11 + 10) (by omega)).trans (congrArg (fun x => some (Value.int .i64 x)) (by have := HKJ.out; omega))
      go_wp2
      go_roundw
      case rel => exact ⟨j + 1, by omega, congrArg (Value.int .i64) (by have := HKJ.out; omega), by go_num, by first | rfl | trivial⟩
      case measure => simp [intOf]; omega
    · obtain rfl : j = n := by omega
      have hlt' : ¬ (j : Int) < (j : Int) := by omega
      go_wp2
      go_ret
      exact ⟨ret_int HKJ.out.symm, rfl⟩
set_option maxHeartbeats 400000 in
theorem heldStmtS_nil (ao : Option Addr) (cap : Nat) (k : Int) (w : World) :
    Calls Try.prog 16 #[.slice ao 0 cap, .int .i64 k] w fun e w' => e = .returned (.int .i64 k) ∧ w' = w := by
  go_enter Try.func16, Try.ntmps16
  go_wp2
  refine wp_loop_rounds 1 ?_
  rw [rounds_succ]
  go_wp2
  go_ret
  exact ⟨rfl, rfl⟩
set_option maxHeartbeats 400000 in
theorem eqStmtS_nil (ao ao' : Option Addr) (cap cap' : Nat) (w : World) :
    Calls Try.prog 13 #[.slice ao 0 cap, .slice ao' 0 cap'] w fun e w' => e = .returned (.bool true) ∧ Below w.heap.size w w' := by
  go_enter Try.func13, Try.ntmps13
  go_wp2
  refine wp_loop_rounds 1 ?_
  rw [rounds_succ]
  go_wp2
  go_ret
  exact ⟨rfl, Below.refl _ _⟩
/-- Only blocks from lo to hi may have changed. -/
structure Fr (lo hi : Nat) (w w' : World) : Prop where
  os : w'.os = w.os
  tape : w'.tape = w.tape
  output : w'.output = w.output
  size : w.heap.size ≤ w'.heap.size
  block : ∀ k, k < w.heap.size → (k < lo ∨ hi ≤ k) → w'.heap[k]? = w.heap[k]?
theorem Fr.refl (lo hi : Nat) (w : World) : Fr lo hi w w := ⟨rfl, rfl, rfl, Nat.le_refl _, fun _ _ _ => rfl⟩
theorem Fr.next {lo hi b : Nat} {w u v : World} (h : Fr lo hi w u) (g : Ft b u v) (hl : lo ≤ b) (hh : b < hi) : Fr lo hi w v :=
  ⟨g.os.trans h.os, g.tape.trans h.tape, g.output.trans h.output, Nat.le_trans h.size g.size, fun k hk hn => (g.block k (Nat.lt_of_lt_of_le hk h.size) (by omega)).trans (h.block k hk hn)⟩
theorem Fr.below {lo hi : Nat} {w u : World} (h : Fr lo hi w u) (hl : lo ≤ w.heap.size) : Below lo w u := ⟨h.os, h.tape, h.output, h.size, fun k hk => h.block k (by omega) (.inl hk)⟩
theorem Fr.row {lo hi : Nat} {w u : World} {base e size n : Nat} {v : Value} {xs : List Value} (f : Fr lo hi w u) (h : w.ownsRow base e size v n xs) (hn : ∀ k, v.ownBlock = some k → k < lo ∨ hi ≤ k) : u.ownsRow base e size v n xs := by
  refine ⟨h.1, ?_⟩
  rcases h.2 with h' | ⟨g, cap, cur, rfl, h1, h2, h3⟩
  · exact .inl h'
  · have hg : g < w.heap.size := (Array.getElem?_eq_some_iff.1 h2).1
    exact .inr ⟨g, cap, cur, rfl, h1, (f.block g hg (hn g rfl)).trans h2, h3⟩

set_option maxRecDepth 20000 in
set_option maxHeartbeats 4000000 in
theorem markProcS_any (bp np cap lo hi : Nat) (Pv : Nat → PV) (blk : Nat → Nat) (k : Int) (w : World) (ln : np ≤ 1048576) (lb : ∀ i, i < np → (Pv i).n ≤ 1048576) (k0 : 0 ≤ k) (k1 : k ≤ 1) (h : PCp w bp np Pv blk) (ho : Pord bp np blk) (hlo : lo ≤ bp) (hhi : ∀ i, i < np → blk i < hi) :
    Calls Try.prog 14 #[.slice (some ⟨bp, 0, none⟩) np cap, .int .i64 k] w fun e w' => ∃ r : Int, e = .returned (.int .i64 r) ∧ 0 ≤ r ∧ Fr lo hi w w' := by
  have H : Hid (PCp w bp np Pv blk) := h
  have HO : Hid (Pord bp np blk) := ho
  have LB : Hid (∀ i, i < np → (Pv i).n ≤ 1048576) := lb
  have HH : Hid (∀ i, i < np → blk i < hi) := hhi
  have lbp := h.r.lt
  clear h ho lb hhi
  go_enter Try.func14, Try.ntmps14
  go_wp2
  go_loopw [1, 5] (fun kv iv wr => ∃ (j : Nat) (r : Int), j ≤ np ∧ kv = .int .i64 r ∧ 0 ≤ r ∧ r ≤ 1 + 11534336 * (j : Int) ∧ iv = .int .i64 (j : Int) ∧ Fr lo hi w wr ∧ (wr.cell? ⟨bp, 0, none⟩ = w.cell? ⟨bp, 0, none⟩ ∧ ∀ i, wr.cell? ⟨bp, i, none⟩ = w.cell? ⟨bp, i, none⟩) ∧ ∀ i, j ≤ i → i < np → Arr wr (blk i) ((Pv i).n * 11) (stF (Pv i).L)) (fun _ iv _ => np - (intOf iv).toNat)
  case atStart => exact ⟨0, k, Nat.zero_le _, rfl, k0, by omega, rfl, Fr.refl _ _ _, ⟨rfl, fun _ => rfl⟩, fun i _ hi => H.out.b i hi⟩
  case round =>
    obtain ⟨j, r, hj, rfl, r0, r1, rfl, hf, hcl, har⟩ := hrel
    have F2 : Hid (Fr lo hi w wr) := hf
    have CL : Hid (∀ i, wr.cell? ⟨bp, i, none⟩ = w.cell? ⟨bp, i, none⟩) := hcl.2
    have AR : Hid (∀ i, j ≤ i → i < np → Arr wr (blk i) ((Pv i).n * 11) (stF (Pv i).L)) := har
    have lw := hf.size
    clear hf hcl har
    by_cases hlt : j < np
    · have hlt' : (j : Int) < (np : Int) := by omega
      have g0 : wr.cell? ⟨bp, j, none⟩ = some (.slice (some ⟨blk j, 0, none⟩) (Pv j).n (Pv j).n) := (CL.out j).trans (H.out.r.cell hlt)
      have lnj := LB.out j hlt
      go_wp2_with fail
      refine (markStmtS_at (blk j) (Pv j).n (Pv j).n _ r wr lnj r0 (by omega) (AR.out j (Nat.le_refl _) hlt)).mono ?_
      rintro e w2 ⟨rfl, hf2, _⟩
      have hb := HO.out.1 j hlt
      have F3 : Hid (Fr lo hi w w2) := F2.out.next hf2 (by omega) (HH.out j hlt)
      have CL3 : Hid (∀ i, w2.cell? ⟨bp, i, none⟩ = w.cell? ⟨bp, i, none⟩) := fun i => (hf2.cell (by omega) (by omega)).trans (CL.out i)
      have AR3 : Hid (∀ i, j + 1 ≤ i → i < np → Arr w2 (blk i) ((Pv i).n * 11) (stF (Pv i).L)) := fun i h1 h2 => hf2.arr (AR.out i (by omega) h2) (by have := HO.out.2 j i (by omega) h2; omega)
      obtain ⟨r2, hr2⟩ : ∃ y : Int, r + 11 * ((Pv j).n : Int) = y := ⟨_, rfl⟩
      rw [hr2]
      have q0 : 0 ≤ r2 := by omega
      have q1 : r2 ≤ 1 + 11534336 * ((j : Int) + 1) := by omega
      clear hf2 g0 hr2
      go_wp2
      go_roundw
      case rel => exact ⟨j + 1, r2, by omega, rfl, q0, by omega, by go_num, F3.out, ⟨CL3.out 0, CL3.out⟩, AR3.out⟩
      case measure => simp [intOf]; omega
    · have hlt' : ¬ (j : Int) < (np : Int) := by omega
      go_wp2
      go_ret
      exact ⟨r, rfl, r0, F2.out⟩
def sv0 : SV := ⟨0, 0, 0, 0, 0, 0, 0, 0, 0, 0, 0⟩
theorem row_arr {w : World} {base e g c : Nat} {xs : List SV} (h : w.ownsRow base e 11 (.slice (some ⟨g, 0, none⟩) xs.length c) xs.length (cs xs)) : Arr w g (xs.length * 11) (stF (fun i => xs.getD i sv0)) :=
  ⟨(h.lt g rfl).2, fun i => h.frozenAt i, fun i hi => by rw [h.cellAt i hi]; exact cs_get xs sv0 i hi⟩
theorem row_zero {w : World} {base e size n : Nat} {v : Value} {xs : List Value} (h : w.ownsRow base e size v n xs) (hn : n = 0) : ∃ (ao : Option Addr) (c : Nat), v = .slice ao 0 c := by
  rcases h.2 with ⟨h', _⟩ | ⟨g, cap, cur, h', _⟩
  · exact ⟨_, _, h'⟩
  · rw [hn] at h'; exact ⟨_, _, h'⟩
theorem eqStmtS_rows {b1 b2 : Nat} {v v' : Value} (xs : List SV) (w : World) (hlen : xs.length ≤ 1048576) (h : w.ownsRow b1 62 11 v xs.length (cs xs)) (h' : w.ownsRow b2 62 11 v' xs.length (cs xs)) :
    Calls Try.prog 13 #[v, v'] w fun e w' => e = .returned (.bool true) ∧ Below w.heap.size w w' := by
  by_cases h0 : xs.length = 0
  · obtain ⟨ao, c, rfl⟩ := row_zero h h0
    obtain ⟨ao', c', rfl⟩ := row_zero h' h0
    exact eqStmtS_nil ao ao' c c' w
  · obtain ⟨g, c, rfl⟩ := row_some2 h (by omega)
    obtain ⟨g', c', rfl⟩ := row_some2 h' (by omega)
    exact eqStmtS_same g 0 xs.length c g' 0 c' _ w hlen (row_arr h).at (row_arr h').at
theorem markStmtS_row {base : Nat} {v : Value} (xs : List SV) (k : Int) (w : World) (hlen : xs.length ≤ 1048576) (k0 : 0 ≤ k) (k1 : k ≤ 1125899906842624) (hb : base ≤ w.heap.size) (h : w.ownsRow base 62 11 v xs.length (cs xs)) :
    Calls Try.prog 15 #[v, .int .i64 k] w fun e w' => e = .returned (.int .i64 (k + 11 * (xs.length : Int))) ∧ Below base w w' ∧ (xs.length = 0 ∨ ∃ g c, v = .slice (some ⟨g, 0, none⟩) xs.length c ∧ Arr w' g (xs.length * 11) (markF k)) := by
  by_cases h0 : xs.length = 0
  · obtain ⟨ao, c, rfl⟩ := row_zero h h0
    refine (markStmtS_nil ao c k w).mono ?_
    rintro e w' ⟨rfl, rfl⟩
    exact ⟨ret_int (by rw [h0]; simp), Below.refl _ _, .inl h0⟩
  · obtain ⟨g, c, rfl⟩ := row_some2 h (by omega)
    refine (markStmtS_at g xs.length c _ k w hlen k0 k1 (row_arr h)).mono ?_
    rintro e w' ⟨rfl, hf, ha⟩
    exact ⟨rfl, hf.under hb (h.lt g rfl).1, .inr ⟨g, c, rfl, ha⟩⟩
theorem heldStmtS_row {base : Nat} {v : Value} (xs : List SV) (k : Int) (w w0 : World) (hlen : xs.length ≤ 1048576) (k0 : 0 ≤ k) (k1 : k ≤ 1125899906842624) (h : w0.ownsRow base 62 11 v xs.length (cs xs)) (hm : xs.length = 0 ∨ ∃ g c, v = .slice (some ⟨g, 0, none⟩) xs.length c ∧ Arr w g (xs.length * 11) (markF k)) :
    Calls Try.prog 16 #[v, .int .i64 k] w fun e w' => e = .returned (.int .i64 (k + 11 * (xs.length : Int))) ∧ w' = w := by
  rcases hm with h0 | ⟨g, c, rfl, ha⟩
  · obtain ⟨ao, c, rfl⟩ := row_zero h h0
    refine (heldStmtS_nil ao c k w).mono ?_
    rintro e w' ⟨rfl, rfl⟩
    exact ⟨ret_int (by rw [h0]; simp), rfl⟩
  · exact heldStmtS_at g xs.length c k w hlen k0 k1 ha
theorem inlR_len (Pv : Nat → PV) (np : Nat) : (inlR Pv np).length ≤ 2000 := by
  unfold inlR
  by_cases h : (unitR Pv np).1 ≠ 0
  · rw [if_pos h]; simp
  · rw [if_neg h]
    have g := unit_good (by simpa using h)
    have h1 := g.len np 0 (by omega) (by have := g.n1; omega) g.z
    have h2 := g.z
    have h3 : Zd Pv np 0 = pz Pv np np 0 := rfl
    omega
end Go.Proofs.Ythicfjjaehkcnaa
