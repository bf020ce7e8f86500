/- The cursor over the bytes of a draw: made, and asked for numbers. -/
import Derived.Test.YtjnooklalbcamaaCl
import Derived.Test.YtjnooklalbcamaaListNum
import Derived.Test.YtjnooklalbcamaaRegL
import Derived.Test.YtjnooklalbcamaaRows
import Derived.Deep.RegionHeld3
import Derived.Deep.Cut
import Derived.Deep.DeepCutAuto
namespace Go.Proofs.Ytjnooklalbcamaa
open Go.RowKit

/-- Of what was there, nothing but block p has changed. -/
structure Fw (p : Nat) (w w' : World) : Prop where
  os : w'.os = w.os
  tape : w'.tape = w.tape
  output : w'.output = w.output
  size : w.heap.size ≤ w'.heap.size
  block : ∀ k, k < w.heap.size → k ≠ p → w'.heap[k]? = w.heap[k]?
theorem Fw.refl (p : Nat) (w : World) : Fw p w w := ⟨rfl, rfl, rfl, Nat.le_refl _, fun _ _ _ => rfl⟩
theorem Fw.trans {p : Nat} {a b c : World} (h : Fw p a b) (k : Fw p b c) : Fw p a c :=
  ⟨k.os.trans h.os, k.tape.trans h.tape, k.output.trans h.output, Nat.le_trans h.size k.size, fun i hi hn => (k.block i (Nat.lt_of_lt_of_le hi h.size) hn).trans (h.block i hi hn)⟩
theorem Fw.of_below {p : Nat} {w w' : World} (h : Below w.heap.size w w') : Fw p w w' := ⟨h.os, h.tape, h.output, h.size, fun k hk _ => h.block k hk⟩
theorem Fw.below {p B : Nat} {w0 w w' : World} (h : Fw p w w') (hb : Below B w0 w) (hp : B ≤ p) (hs : B ≤ w.heap.size) : Below B w0 w' :=
  ⟨h.os.trans hb.os, h.tape.trans hb.tape, h.output.trans hb.output, Nat.le_trans hb.size h.size, fun k hk => (h.block k (by omega) (by omega)).trans (hb.block k hk)⟩
theorem Fw.cell {p : Nat} {w w' : World} (h : Fw p w w') {b o : Nat} (hb : b < w.heap.size) (hn : b ≠ p) : w'.cell? ⟨b, o, none⟩ = w.cell? ⟨b, o, none⟩ := World.cell?_of_block (a := ⟨b, o, none⟩) (h.block b hb hn)
theorem Fw.frozen {p : Nat} {w w' : World} (h : Fw p w w') {b o : Nat} (hb : b < w.heap.size) (hn : b ≠ p) : w'.frozen? ⟨b, o, none⟩ = w.frozen? ⟨b, o, none⟩ := World.frozen?_of_block (a := ⟨b, o, none⟩) (h.block b hb hn)
theorem Fw.set {p : Nat} {a b : World} (h : Fw p a b) (o : Nat) (v : Value) : Fw p a (b.setCell ⟨p, o, none⟩ v) :=
  ⟨h.os, h.tape, h.output, by simpa using h.size, fun k hk hn => (Below.heap_setCell b ⟨p, o, none⟩ v k hn).trans (h.block k hk hn)⟩
theorem Fw.drewN {p : Nat} {a b : World} (h : Fw p a b) (n : Nat) : Fw p a (b.drewN n) := h.trans (.of_below (below_drewN (Below.refl _ _) n))
theorem Fw.cl {p : Nat} {w w' : World} {b : Nat} {vs : List Value} (h : Fw p w w') (hc : Cl w b vs) (hn : b ≠ p) : Cl w' b vs :=
  ⟨Nat.lt_of_lt_of_le hc.1 h.size, fun i hi => (h.cell hc.1 hn).trans (hc.2 i hi)⟩

/-- Bytes that came in. -/
def Bytes0 (w : World) (p : Nat) (ao : Option Addr) (n : Nat) : Prop := n = 0 ∨ ∃ b off, ao = some ⟨b, off, none⟩ ∧ b < p ∧ ∀ i, i < n → ∃ v : Int, 0 ≤ v ∧ v ≤ 255 ∧ w.cell? ⟨b, off + i, none⟩ = some (.int .u8 v)
/-- A cursor in block p over the bytes that came in. -/
structure Cur (w : World) (p : Nat) (ao : Option Addr) (n cap : Nat) : Prop where
  lt : p < w.heap.size
  fz : ∀ i, w.frozen? ⟨p, i, none⟩ = false
  cs : ∃ (i : Nat) (h : Int), i ≤ n ∧ w.cell? ⟨p, 0, none⟩ = some (.slice ao n cap) ∧ w.cell? ⟨p, 1, none⟩ = some (.int .i64 i) ∧ w.cell? ⟨p, 2, none⟩ = some (.int .i64 h)
  row : Bytes0 w p ao n
  ln : n ≤ 1048576
theorem Bytes0.fw {w w' : World} {p n : Nat} {ao : Option Addr} (h : Bytes0 w p ao n) (hp : p < w.heap.size) (f : Fw p w w') : Bytes0 w' p ao n := by
  rcases h with h | ⟨b, off, h1, h2, h3⟩
  · exact .inl h
  · exact .inr ⟨b, off, h1, h2, fun i hi => by obtain ⟨v, q1, q2, q3⟩ := h3 i hi; exact ⟨v, q1, q2, (f.cell (by omega) (by omega)).trans q3⟩⟩
theorem Cur.below {w w' : World} {p n cap : Nat} {ao : Option Addr} (h : Cur w p ao n cap) (hb : Below w.heap.size w w') : Cur w' p ao n cap := by
  obtain ⟨i, hh, q0, q1, q2, q3⟩ := h.cs
  exact ⟨Nat.lt_of_lt_of_le h.lt hb.size, fun i => (hb.frozen (p := ⟨p, i, none⟩) h.lt).trans (h.fz i), ⟨i, hh, q0, (hb.cell (p := ⟨p, 0, none⟩) h.lt).trans q1, (hb.cell (p := ⟨p, 1, none⟩) h.lt).trans q2, (hb.cell (p := ⟨p, 2, none⟩) h.lt).trans q3⟩, h.row.fw h.lt (.of_below hb), h.ln⟩

theorem Cur.step {w : World} {p n cap : Nat} {ao : Option Addr} (h : Cur w p ao n cap) (i : Nat) (hi : i ≤ n) {v : Int} (hv : v = (i : Int)) : Cur (w.setCell ⟨p, 1, none⟩ (.int .i64 v)) p ao n cap := by
  subst hv
  obtain ⟨j, hh, q0, q1, q2, q3⟩ := h.cs
  have lt := h.lt
  exact ⟨by simpa using lt, fun k => by rw [World.frozen?_setCell]; exact h.fz k, ⟨i, hh, hi, by go_simp, by go_simp, by go_simp⟩, h.row.fw lt ((Fw.refl _ _).set _ _), h.ln⟩
theorem i64_and255 (n : Int) : bits .and .i64 n 255 = n % 256 := by
  have h255 : (BitVec.ofInt 64 255).toNat = 2 ^ 8 - 1 := by decide
  have key : (BitVec.ofInt 64 n &&& BitVec.ofInt 64 255).toNat = (n % ((2 ^ 64 : Nat) : Int)).toNat % 2 ^ 8 := by
    rw [BitVec.toNat_and, BitVec.toNat_ofInt, h255, Nat.and_two_pow_sub_one_eq_mod]
  show IntKind.i64.wrap ((BitVec.ofInt 64 n &&& BitVec.ofInt 64 255).toNat : Nat) = n % 256
  rw [key, IntKind.wrap_i64]
  omega

set_option maxRecDepth 20000 in
set_option maxHeartbeats 4000000 in
theorem l1Byte_any (p : Nat) (ao : Option Addr) (n cap : Nat) (w : World) (hc : Cur w p ao n cap) :
    Calls Try.prog 90 #[.pointer (some ⟨p, 0, none⟩)] w fun e w' => ∃ x : Int, e = .returned (.int .i64 x) ∧ 0 ≤ x ∧ x ≤ 255 ∧ Fw p w w' ∧ Cur w' p ao n cap := by
  obtain ⟨i, h, hi, c0, c1, c2⟩ := hc.cs
  have lp := hc.lt
  have fz := hc.fz
  have HC : Hid (Cur w p ao n cap) := hc
  have ln := hc.ln
  clear hc
  go_enter Try.func90, Try.ntmps90
  go_wp2
  generalize wrap64 (wrap64 (h * 6364136223846793005) + 1442695040888963407) = h2
  obtain ⟨w1, hw1, f1, c0', c1', c2', fz', lp'⟩ : ∃ v, w.setCell ⟨p, 2, none⟩ (.int .i64 h2) = v ∧ Fw p w v ∧ v.cell? ⟨p, 0, none⟩ = some (.slice ao n cap) ∧ v.cell? ⟨p, 1, none⟩ = some (.int .i64 i) ∧ v.cell? ⟨p, 2, none⟩ = some (.int .i64 h2) ∧ (∀ i, v.frozen? ⟨p, i, none⟩ = false) ∧ p < v.heap.size :=
    ⟨_, rfl, (Fw.refl _ _).set _ _, by go_simp, by go_simp, by go_simp, fun i => by rw [World.frozen?_setCell]; exact fz i, by simpa using lp⟩
  rw [hw1]
  have HF : Hid (Fw p w w1) := f1
  clear hw1 f1 c0 c1 c2 fz
  go_quiet (fail)
  go_wp2
  rw [i64_and255]
  obtain ⟨x, hx, x0, x1⟩ : ∃ x : Int, bits BinOp.xor IntKind.i64 (h2 / 8589934592) (h2 / 35184372088832) % 256 = x ∧ 0 ≤ x ∧ x ≤ 255 := ⟨_, rfl, by omega, by omega⟩
  rw [hx]
  clear hx
  obtain ⟨w2, hw2, f2⟩ : ∃ v, w1.drewN nq = v ∧ Below w1.heap.size w1 v := ⟨_, rfl, below_drewN (Below.refl _ _) _⟩
  rw [hw2]
  have HF2 : Hid (Fw p w w2) := HF.out.trans (.of_below f2)
  have c0 := (f2.cell (p := ⟨p, 0, none⟩) lp').trans c0'
  have c1 := (f2.cell (p := ⟨p, 1, none⟩) lp').trans c1'
  have c2 := (f2.cell (p := ⟨p, 2, none⟩) lp').trans c2'
  have fz : ∀ i, w2.frozen? ⟨p, i, none⟩ = false := fun i => (f2.frozen (p := ⟨p, i, none⟩) lp').trans (fz' i)
  have lp2 : p < w2.heap.size := Nat.lt_of_lt_of_le lp' f2.size
  clear hw2 f2 c0' c1' c2' fz' lp' HF
  by_cases hlt : i < n
  · have hn : n ≠ 0 := by omega
    obtain ⟨b, off, v, rfl, hb, v0, v1, hv⟩ : ∃ b off v, ao = some ⟨b, off, none⟩ ∧ b < p ∧ 0 ≤ v ∧ v ≤ 255 ∧ w2.cell? ⟨b, off + i, none⟩ = some (.int .u8 v) := by
      rcases HC.out.row.fw lp HF2.out with h | ⟨b, off, h1, h2, h3⟩
      · exact absurd h hn
      · obtain ⟨v, q1, q2, q3⟩ := h3 i hlt
        exact ⟨b, off, v, h1, h2, q1, q2, q3⟩
    go_quiet (fail)
    go_wp2
    go_quiet (fail)
    go_wp2
    go_ret
    refine ⟨_, rfl, by rw [i64_and255]; omega, by rw [i64_and255]; omega, (HF2.out.drewN _).set _ _, ?_⟩
    exact ((⟨lp2, fz, ⟨i, h2, hi, c0, c1, c2⟩, HC.out.row.fw lp HF2.out, ln⟩ : Cur w2 p _ n cap).below (below_drewN (Below.refl _ _) _)).step (i + 1) (by omega) (by omega)
  · go_quiet (fail)
    go_wp2
    go_ret
    exact ⟨_, rfl, x0, x1, HF2.out.drewN _, (⟨lp2, fz, ⟨i, h2, hi, c0, c1, c2⟩, HC.out.row.fw lp HF2.out, ln⟩ : Cur w2 p ao n cap).below (below_drewN (Below.refl _ _) _)⟩

set_option maxHeartbeats 4000000 in
theorem l1Below_any (p : Nat) (ao : Option Addr) (n cap : Nat) (m : Int) (w : World) (hm : 1 ≤ m) (hc : Cur w p ao n cap) :
    Calls Try.prog 44 #[.pointer (some ⟨p, 0, none⟩), .int .i64 m] w fun e w' => ∃ x : Int, e = .returned (.int .i64 x) ∧ 0 ≤ x ∧ x < m ∧ Fw p w w' ∧ Cur w' p ao n cap := by
  have HC : Hid (Cur w p ao n cap) := hc
  clear hc
  by_cases h : m ≤ 256
  · go_enter Try.func44, Try.ntmps44
    go_wp2_with fail
    refine (l1Byte_any p ao n cap _ HC.out).mono ?_
    rintro e w1 ⟨x, rfl, x0, x1, f1, k1⟩
    go_wp2
    go_ret
    exact ⟨_, rfl, Int.emod_nonneg _ (by omega), Int.emod_lt_of_pos _ (by omega), f1, k1⟩
  · go_enter Try.func44, Try.ntmps44
    go_wp2_with fail
    refine (l1Byte_any p ao n cap _ HC.out).mono ?_
    rintro e w1 ⟨x, rfl, x0, x1, f1, k1⟩
    have F1 : Hid (Fw p w w1) := f1
    clear f1
    go_wp2_with fail
    refine (l1Byte_any p ao n cap _ k1).mono ?_
    rintro e w2 ⟨y, rfl, y0, y1, f2, k2⟩
    have F2 : Hid (Fw p w w2) := F1.out.trans f2
    clear f2 k1
    go_wp2_with fail
    refine (l1Byte_any p ao n cap _ k2).mono ?_
    rintro e w3 ⟨z, rfl, z0, z1, f3, k3⟩
    have F3 : Hid (Fw p w w3) := F2.out.trans f3
    clear f3 k2
    go_wp2
    go_ret
    exact ⟨_, rfl, Int.emod_nonneg _ (by omega), Int.emod_lt_of_pos _ (by omega), F3.out, k3⟩

set_option maxHeartbeats 4000000 in
theorem l1Once_any (p : Nat) (ao : Option Addr) (n cap : Nat) (m : Int) (w : World) (hm : 1 ≤ m) (hc : Cur w p ao n cap) :
    Calls Try.prog 46 #[.pointer (some ⟨p, 0, none⟩), .int .i64 m] w fun e w' => ∃ x : Bool, e = .returned (.bool x) ∧ Fw p w w' ∧ Cur w' p ao n cap := by
  have HC : Hid (Cur w p ao n cap) := hc
  clear hc
  go_enter Try.func46, Try.ntmps46
  go_wp2_with fail
  refine (l1Below_any p ao n cap m _ hm HC.out).mono ?_
  rintro e w1 ⟨x, rfl, x0, x1, f1, k1⟩
  go_wp2
  go_ret
  exact ⟨_, rfl, f1, k1⟩

set_option maxHeartbeats 4000000 in
theorem l1New_any (ao : Option Addr) (n cap : Nat) (w : World) (hn : n ≤ 1048576) (hr : Bytes0 w w.heap.size ao n) :
    Calls Try.prog 42 #[.slice ao n cap] w fun e w' => ∃ p, e = .returned (.pointer (some ⟨p, 0, none⟩)) ∧ w.heap.size ≤ p ∧ Below w.heap.size w w' ∧ Cur w' p ao n cap := by
  have HR : Hid (Bytes0 w w.heap.size ao n) := hr
  clear hr
  go_enter Try.func42, Try.ntmps42
  go_wp2
  go_loopw [3, 4] (fun hv i wr => ∃ (k : Nat) (h : Int), k ≤ n ∧ i = .int .i64 k ∧ hv = .int .i64 h ∧ wr = w) (fun _ i _ => n - (intOf i).toNat)
  case atStart => exact ⟨0, _, Nat.zero_le _, rfl, rfl, rfl⟩
  case round =>
    obtain ⟨k, h, hk, rfl, rfl, rfl⟩ := hrel
    by_cases hlt : k < n
    · obtain ⟨b, off, v, rfl, hb, v0, v1, hv⟩ : ∃ b off v, ao = some ⟨b, off, none⟩ ∧ b < wr.heap.size ∧ 0 ≤ v ∧ v ≤ 255 ∧ wr.cell? ⟨b, off + k, none⟩ = some (.int .u8 v) := by
        rcases HR.out with h | ⟨b, off, h1, h2, h3⟩
        · omega
        · obtain ⟨v, q1, q2, q3⟩ := h3 k hlt
          exact ⟨b, off, v, h1, h2, q1, q2, q3⟩
      go_wp2
      go_roundw
      case rel => exact ⟨k + 1, _, by omega, by go_num, rfl, trivial⟩
      case measure => simp [intOf]; omega
    · go_wp2
      go_ret
      refine ⟨_, rfl, Nat.le_refl _, (Below.refl _ _).alloc (Nat.le_refl _) _, ?_⟩
      exact ⟨by simp, fun i => by simp [go_sem], ⟨0, h, Nat.zero_le _, by simp [go_sem], by simp [go_sem], by simp [go_sem]⟩, by
        rcases HR.out with h | ⟨b, off, h1, h2, h3⟩
        · exact .inl h
        · exact .inr ⟨b, off, h1, h2, fun i hi => by obtain ⟨v, q1, q2, q3⟩ := h3 i hi; exact ⟨v, q1, q2, (World.cell?_alloc_lt _ _ _ h2).trans q3⟩⟩, hn⟩
end Go.Proofs.Ytjnooklalbcamaa
