/- Registers that are as Vals say: the program's word. -/
import Derived.Test.YtjnooklalbcamaaFitsWalks
import Derived.Deep.Cut
import Derived.Deep.DeepCutAuto
import Derived.Test.YtjnooklalbcamaaCl
namespace Go.Proofs.Ytjnooklalbcamaa
open Go.RowKit

set_option maxHeartbeats 2000000 in
theorem fitsVal_any (k : Int) (s : Bool) (m h lo hi x : Int) (B cap n : Nat) (Hp : Nat → HeapV) (blk : Nat → Nat) (w : World) (hg : goodB ⟨k, s, m, h, lo, hi⟩ n = true)
    (hbase : ∀ i, i < n → 0 ≤ (Hp i).base ∧ (Hp i).base ≤ 18446744073709551615) (hcp : Copied w B n Hp blk) :
    Calls Try.prog 102 #[.agg #[.int .i64 k, .bool s, .int .i64 m, .int .i64 h, .int .i64 lo, .int .i64 hi], .int .u64 x, .slice (some ⟨B, 0, none⟩) n cap] w fun e w' => e = .returned (.bool (holdsB ⟨k, s, m, h, lo, hi⟩ x Hp)) ∧ Below w.heap.size w w' := by
  have hb := hcp.1.lt
  by_cases hk : k = 0
  · subst hk
    simp only [goodB, if_true, decide_eq_true_eq] at hg
    obtain ⟨hm0, hm1, _⟩ := hg
    clear hcp hbase
    by_cases hm : m = -1
    · subst hm
      go_enter Try.func102, Try.ntmps102
      go_wp2
      go_ret
      exact ⟨ret_bool (by simp [holdsB]), (Below.refl _ _).alloc (Nat.le_refl _) _⟩
    · have hm2 : 0 ≤ m := by omega
      go_enter Try.func102, Try.ntmps102
      go_wp2
      go_ret
      exact ⟨ret_bool (by simp [holdsB, hm]), (Below.refl _ _).alloc (Nat.le_refl _) _⟩
  · simp only [goodB, hk, if_false, decide_eq_true_eq] at hg
    obtain ⟨rfl, rfl, rfl, hh0, hh1, hlo, hle, hhi⟩ := hg
    obtain ⟨j, rfl⟩ : ∃ j : Nat, h = (j : Int) := ⟨h.toNat, by omega⟩
    have hj : j < n := by omega
    obtain ⟨q0, q1⟩ := hbase j hj
    have g0 := ((hcp.1.cell (i := j * 3 + 0) (by omega)).trans (congrArg some (heapF_0 _ j)))
    simp only [HeapV.moved, Nat.add_zero] at g0
    have hf := fits_ptr (x := x) (base := (Hp j).base) hlo hle hhi
    have hz : (0 : Int) ≤ hi - lo := by omega
    have hz1 : hi - lo ≤ 2199023255552 := by omega
    have hw := wrap_u64_le hz hz1
    have HF : Hid (decide (IntKind.u64.wrap (IntKind.u64.wrap (x - (Hp j).base) - IntKind.u64.wrap lo) ≤ hi - lo) = decide (lo ≤ IntKind.i64.wrap (x - (Hp j).base) ∧ IntKind.i64.wrap (x - (Hp j).base) ≤ hi)) := hf
    clear hcp hbase hf
    go_enter Try.func102, Try.ntmps102
    go_wp2
    go_quiet (fail)
    go_wp2
    go_ret
    refine ⟨ret_bool ?_, ?_⟩
    · simp only [holdsB, Int.toNat_natCast]
      rw [← HF.out, if_neg (by omega)]
    · exact below_drewN ((Below.refl _ _).alloc (Nat.le_refl _) _) _

def holdsTo (V : Nat → VV) (R : Nat → Int) (Hp : Nat → HeapV) (n : Nat) : Bool := (List.range n).all fun i => holdsB (V i) (R i) Hp
theorem holds_no {V : Nat → VV} {R : Nat → Int} {Hp : Nat → HeapV} {n k : Nat} (hk : k < n) (h : holdsB (V k) (R k) Hp = false) : holdsTo V R Hp n = false := all_no (p := fun i => holdsB (V i) (R i) Hp) hk h
theorem holds_yes {V : Nat → VV} {R : Nat → Int} {Hp : Nat → HeapV} {n : Nat} (h : ∀ i, i < n → holdsB (V i) (R i) Hp = true) : holdsTo V R Hp n = true := all_yes (p := fun i => holdsB (V i) (R i) Hp) h

set_option maxRecDepth 20000 in
set_option maxHeartbeats 4000000 in
theorem fitsRegs_any (bV cV : Nat) (V : Nat → VV) (bR cR : Nat) (R : Nat → Int) (z c hz hc : Bool) (B cap n : Nat) (Hp : Nat → HeapV) (blk : Nat → Nat) (pc st : Int) (aO : Option Addr) (nO cO : Nat) (w : World) (hg : ∀ i, i < 8 → goodB (V i) n = true)
    (hbase : ∀ i, i < n → 0 ≤ (Hp i).base ∧ (Hp i).base ≤ 18446744073709551615) (h1 : Arr w bV (8 * 6) (vF V)) (h2 : Arr w bR 8 (numF .u64 R)) (hcp : Copied w B n Hp blk) :
    Calls Try.prog 68 #[.slice (some ⟨bV, 0, none⟩) 8 cV, .agg #[.slice (some ⟨bR, 0, none⟩) 8 cR, .bool z, .bool c, .bool hz, .bool hc, .slice (some ⟨B, 0, none⟩) n cap, .int .i64 pc, .int .i64 st, .slice aO nO cO]] w fun e w' => e = .returned (.bool (holdsTo V R Hp 8)) ∧ Below w.heap.size w w' := by
  have l1 := h1.lt
  have l2 := h2.lt
  have H1 : Hid (Arr w bV (8 * 6) (vF V)) := h1
  have H2 : Hid (Arr w bR 8 (numF .u64 R)) := h2
  have HC : Hid (Copied w B n Hp blk) := hcp
  have HG : Hid (∀ i, i < 8 → goodB (V i) n = true) := hg
  have HZ : Hid (∀ i, i < n → 0 ≤ (Hp i).base ∧ (Hp i).base ≤ 18446744073709551615) := hbase
  clear h1 h2 hcp hg hbase
  go_enter Try.func68, Try.ntmps68
  go_wp2
  go_loopw [9] (fun i wr => ∃ k : Nat, k ≤ 8 ∧ i = .int .i64 k ∧ Below w.heap.size w wr ∧ w.heap.size < wr.heap.size ∧ wr.cell? ⟨w.heap.size, 0, none⟩ = some (.slice (some ⟨bR, 0, none⟩) 8 cR) ∧ wr.cell? ⟨w.heap.size, 5, none⟩ = some (.slice (some ⟨B, 0, none⟩) n cap) ∧ ∀ i, i < k → holdsB (V i) (R i) Hp = true) (fun i _ => 8 - (intOf i).toNat)
  case atStart => exact ⟨0, Nat.zero_le _, rfl, (Below.refl _ _).alloc (Nat.le_refl _) _, by simp, by simp [go_sem], by simp [go_sem], fun i hi => by omega⟩
  case round =>
    obtain ⟨k, hk, rfl, hbr, hzr, x0, x5, hall⟩ := hrel
    have HK : Hid (∀ i, i < k → holdsB (V i) (R i) Hp = true) := hall
    have HBR : Hid (Below w.heap.size w wr) := hbr
    clear hall
    by_cases hlt : k < 8
    · have g0 := (hbr.cell (p := ⟨bV, k * 6, none⟩) l1).trans (H1.out.cell (i := k * 6 + 0) (by omega) |>.trans (congrArg some (vF_at V k 0 (by omega))))
      have g1 := (hbr.cell (p := ⟨bV, k * 6 + 1, none⟩) l1).trans (H1.out.cell (i := k * 6 + 1) (by omega) |>.trans (congrArg some (vF_at V k 1 (by omega))))
      have g2 := (hbr.cell (p := ⟨bV, k * 6 + 2, none⟩) l1).trans (H1.out.cell (i := k * 6 + 2) (by omega) |>.trans (congrArg some (vF_at V k 2 (by omega))))
      have g3 := (hbr.cell (p := ⟨bV, k * 6 + 3, none⟩) l1).trans (H1.out.cell (i := k * 6 + 3) (by omega) |>.trans (congrArg some (vF_at V k 3 (by omega))))
      have g4 := (hbr.cell (p := ⟨bV, k * 6 + 4, none⟩) l1).trans (H1.out.cell (i := k * 6 + 4) (by omega) |>.trans (congrArg some (vF_at V k 4 (by omega))))
      have g5 := (hbr.cell (p := ⟨bV, k * 6 + 5, none⟩) l1).trans (H1.out.cell (i := k * 6 + 5) (by omega) |>.trans (congrArg some (vF_at V k 5 (by omega))))
      have r0 := (hbr.cell (p := ⟨bR, k, none⟩) l2).trans (H2.out.cell (i := k) (by omega))
      simp only [vC, numF] at g0 g1 g2 g3 g4 g5 r0
      have l2' : bR < wr.heap.size := Nat.lt_of_lt_of_le l2 hbr.size
      clear hbr
      go_upto_region 4 with fail
      obtain ⟨wa, hwa, hba, hx⟩ : ∃ v, wr.alloc (.cells #[.int .i64 (V k).k, .bool (V k).s, .int .i64 (V k).m, .int .i64 (V k).h, .int .i64 (V k).lo, .int .i64 (V k).hi] 24) = v ∧ Below wr.heap.size wr v ∧ Cl v wr.heap.size [.int .i64 (V k).k, .bool (V k).s, .int .i64 (V k).m, .int .i64 (V k).h, .int .i64 (V k).lo, .int .i64 (V k).hi] := ⟨_, rfl, (Below.refl _ _).alloc (Nat.le_refl _) _, Cl.new⟩
      rw [hwa]
      have HBA : Hid (Below w.heap.size w wa) := HBR.out.trans (hba.mono HBR.out.size)
      have p0 : ∀ w', Below wa.heap.size wa w' → w'.cell? ⟨w.heap.size, 0, none⟩ = some (.slice (some ⟨bR, 0, none⟩) 8 cR) := fun w' h => (h.cell (p := ⟨w.heap.size, 0, none⟩) (Nat.lt_of_lt_of_le hzr hba.size)).trans ((hba.cell (p := ⟨w.heap.size, 0, none⟩) hzr).trans x0)
      have p5 : ∀ w', Below wa.heap.size wa w' → w'.cell? ⟨w.heap.size, 5, none⟩ = some (.slice (some ⟨B, 0, none⟩) n cap) := fun w' h => (h.cell (p := ⟨w.heap.size, 5, none⟩) (Nat.lt_of_lt_of_le hzr hba.size)).trans ((hba.cell (p := ⟨w.heap.size, 5, none⟩) hzr).trans x5)
      have pr : ∀ w', Below wa.heap.size wa w' → w'.cell? ⟨bR, k, none⟩ = some (.int .u64 (R k)) := fun w' h => (h.cell (p := ⟨bR, k, none⟩) (Nat.lt_of_lt_of_le l2' hba.size)).trans ((hba.cell (p := ⟨bR, k, none⟩) l2').trans r0)
      have v0 : ∀ w', Below wa.heap.size wa w' → w'.cell? ⟨wr.heap.size, 0, none⟩ = some (.int .i64 (V k).k) := fun w' h => (hx.below h).2 0 (by simp)
      have v1 : ∀ w', Below wa.heap.size wa w' → w'.cell? ⟨wr.heap.size, 1, none⟩ = some (.bool (V k).s) := fun w' h => (hx.below h).2 1 (by simp)
      have v2 : ∀ w', Below wa.heap.size wa w' → w'.cell? ⟨wr.heap.size, 2, none⟩ = some (.int .i64 (V k).m) := fun w' h => (hx.below h).2 2 (by simp)
      have v3 : ∀ w', Below wa.heap.size wa w' → w'.cell? ⟨wr.heap.size, 3, none⟩ = some (.int .i64 (V k).h) := fun w' h => (hx.below h).2 3 (by simp)
      have v4 : ∀ w', Below wa.heap.size wa w' → w'.cell? ⟨wr.heap.size, 4, none⟩ = some (.int .i64 (V k).lo) := fun w' h => (hx.below h).2 4 (by simp)
      have v5 : ∀ w', Below wa.heap.size wa w' → w'.cell? ⟨wr.heap.size, 5, none⟩ = some (.int .i64 (V k).hi) := fun w' h => (hx.below h).2 5 (by simp)
      have y0 := (hba.cell (p := ⟨w.heap.size, 0, none⟩) hzr).trans x0
      have y5 := (hba.cell (p := ⟨w.heap.size, 5, none⟩) hzr).trans x5
      have hza : w.heap.size < wa.heap.size := Nat.lt_of_lt_of_le hzr hba.size
      clear hwa hx hba x0 x5 g0 g1 g2 g3 g4 g5 r0
      refine wp_region_held_drew (S := fun w' => Below wa.heap.size wa w') (by kernel_rfl) (Below.refl _ _).drew (fun _ => ?_)
      refine wpAnyH_tk 0 ?k1v rfl ?k1y ?k1r
      case k1y => (intro w hSw; (try dsimp only at hSw); go_simp; try with_reducible rfl)
      try go_frame
      refine wpAnyH_tk 1 ?k2v rfl ?k2y ?k2r
      case k2y => (intro w hSw; (try dsimp only at hSw); go_simp; try with_reducible rfl)
      try go_frame
      refine wpAnyH_tk 2 ?k3v rfl ?k3y ?k3r
      case k3y => (intro w hSw; (try dsimp only at hSw); go_simp; try with_reducible rfl)
      try go_frame
      refine wpAnyH_tk 3 ?k4v rfl ?k4y ?k4r
      case k4y => (intro w hSw; (try dsimp only at hSw); go_simp; try with_reducible rfl)
      try go_frame
      refine wpAnyH_tk 4 ?k5v rfl ?k5y ?k5r
      case k5y => (intro w hSw; (try dsimp only at hSw); go_simp; try with_reducible rfl)
      try go_frame
      refine wpAnyH_tk 5 ?k6v rfl ?k6y ?k6r
      case k6y => (intro w hSw; (try dsimp only at hSw); go_simp; try with_reducible rfl)
      try go_frame
      refine wpAnyH_tk 6 ?k7v rfl ?k7y ?k7r
      case k7y => (intro w hSw; (try dsimp only at hSw); go_simp; try with_reducible rfl)
      try go_frame
      refine wpAnyH_tk 7 ?k8v rfl ?k8y ?k8r
      case k8y => (intro w hSw; (try dsimp only at hSw); go_simp; try with_reducible rfl)
      try go_frame
      refine wpAnyH_ready (rs := [8]) (by kernel_rfl) (by simp) ?_
      refine AllReadyH.cons rfl (fun KK hK => ?_) AllReadyH.nil
      go_simp
      have HBD : Hid (Below w.heap.size w wa.drew) := HBA.out.drew
      refine (fitsVal_any _ _ _ _ _ _ _ _ _ _ Hp blk _ (HG.out k hlt) HZ.out (HC.out.below HBD.out (Nat.le_refl _))).mono ?_
      rintro e w2 ⟨rfl, hb2⟩
      have b2 : Below wa.heap.size wa w2 := ((Below.refl _ _).drew).trans hb2
      have HB2 : Hid (Below w.heap.size w w2) := HBA.out.trans (b2.mono HBA.out.size)
      have z0 := (b2.cell (p := ⟨w.heap.size, 0, none⟩) hza).trans y0
      have z5 := (b2.cell (p := ⟨w.heap.size, 5, none⟩) hza).trans y5
      have hzb : w.heap.size < w2.heap.size := Nat.lt_of_lt_of_le hza b2.size
      clear hb2
      go_wp2_with fail
      refine hK.out _ _ b2 (fun _ => ?_)
      clear hK KK
      try go_frame
      refine wpAnyH_tk 9 ?k9v rfl ?k9y ?k9r
      case k9y => (intro w hSw; (try dsimp only at hSw); go_simp; try with_reducible rfl)
      try go_frame
      refine wpAnyH_done (by kernel_rfl) ?_ _
      clear p0 p5 pr v0 v1 v2 v3 v4 v5 y0 y5 b2
      cases hg : holdsB (V k) (R k) Hp with
      | false =>
        have HF : Hid (holdsB (V k) (R k) Hp = false) := hg
        clear hg
        go_wp2
        go_ret
        exact ⟨ret_bool (holds_no hlt HF.out).symm, HB2.out⟩
      | true =>
        have HF : Hid (holdsB (V k) (R k) Hp = true) := hg
        clear hg
        go_wp2
        go_roundw
        case rel => exact ⟨k + 1, by omega, by go_num, HB2.out, hzb, z0, z5, upto_step HK.out HF.out⟩
        case measure => simp [intOf]; omega
    · obtain rfl : k = 8 := by omega
      go_wp2
      go_ret
      exact ⟨ret_bool (holds_yes HK.out).symm, hbr⟩

set_option maxHeartbeats 2000000 in
theorem l4Holds_any (k : Int) (s : Bool) (m h lo hi x : Int) (aR : Option Addr) (nR cR : Nat) (z c hz hc : Bool) (B cap n : Nat) (Hp : Nat → HeapV) (blk : Nat → Nat) (pc st : Int) (aO : Option Addr) (nO cO : Nat) (w : World) (hg : goodB ⟨k, s, m, h, lo, hi⟩ n = true)
    (hcp : Copied w B n Hp blk) :
    Calls Try.prog 97 #[.agg #[.int .i64 k, .bool s, .int .i64 m, .int .i64 h, .int .i64 lo, .int .i64 hi], .int .u64 x, .agg #[.slice aR nR cR, .bool z, .bool c, .bool hz, .bool hc, .slice (some ⟨B, 0, none⟩) n cap, .int .i64 pc, .int .i64 st, .slice aO nO cO]] w fun e w' => e = .returned (.bool (holdsB ⟨k, s, m, h, lo, hi⟩ x Hp)) ∧ Below w.heap.size w w' := by
  have hb := hcp.1.lt
  by_cases hk : k = 0
  · subst hk
    simp only [goodB, if_true, decide_eq_true_eq] at hg
    obtain ⟨hm0, hm1, _⟩ := hg
    clear hcp
    by_cases hm : m = -1
    · subst hm
      go_enter Try.func97, Try.ntmps97
      go_wp2
      go_ret
      exact ⟨ret_bool (by simp [holdsB]), ((Below.refl _ _).alloc (Nat.le_refl _) _).alloc (by simp) _⟩
    · have hm2 : 0 ≤ m := by omega
      go_enter Try.func97, Try.ntmps97
      go_wp2
      go_ret
      exact ⟨ret_bool (by simp [holdsB, hm]), ((Below.refl _ _).alloc (Nat.le_refl _) _).alloc (by simp) _⟩
  · simp only [goodB, hk, if_false, decide_eq_true_eq] at hg
    obtain ⟨rfl, rfl, rfl, hh0, hh1, hlo, hle, hhi⟩ := hg
    obtain ⟨j, rfl⟩ : ∃ j : Nat, h = (j : Int) := ⟨h.toNat, by omega⟩
    have hj : j < n := by omega
    have g0 := ((hcp.1.cell (i := j * 3 + 0) (by omega)).trans (congrArg some (heapF_0 _ j)))
    simp only [HeapV.moved, Nat.add_zero] at g0
    clear hcp
    go_enter Try.func97, Try.ntmps97
    go_wp2
    all_goals
      go_ret
      refine ⟨ret_bool ?_, ?_⟩
      · simp only [holdsB, Int.toNat_natCast, if_neg (show ¬ (1 : Int) = 0 by omega), IntKind.wrap_i64]
        simp only [wrap64, IntKind.wrap_u64] at *
        simp
        omega
      · exact ((Below.refl _ _).alloc (Nat.le_refl _) _).alloc (by simp) _

set_option maxRecDepth 20000 in
set_option maxHeartbeats 4000000 in
theorem l4RegsHold_any (bV cV : Nat) (V : Nat → VV) (bR cR : Nat) (R : Nat → Int) (z c hz hc : Bool) (B cap n : Nat) (Hp : Nat → HeapV) (blk : Nat → Nat) (pc st : Int) (aO : Option Addr) (nO cO : Nat) (w : World) (hg : ∀ i, i < 8 → goodB (V i) n = true)
    (h1 : Arr w bV (8 * 6) (vF V)) (h2 : Arr w bR 8 (numF .u64 R)) (hcp : Copied w B n Hp blk) :
    Calls Try.prog 61 #[.slice (some ⟨bV, 0, none⟩) 8 cV, .agg #[.slice (some ⟨bR, 0, none⟩) 8 cR, .bool z, .bool c, .bool hz, .bool hc, .slice (some ⟨B, 0, none⟩) n cap, .int .i64 pc, .int .i64 st, .slice aO nO cO]] w fun e w' => e = .returned (.bool (holdsTo V R Hp 8)) ∧ Below w.heap.size w w' := by
  have l1 := h1.lt
  have l2 := h2.lt
  have H1 : Hid (Arr w bV (8 * 6) (vF V)) := h1
  have H2 : Hid (Arr w bR 8 (numF .u64 R)) := h2
  have HC : Hid (Copied w B n Hp blk) := hcp
  have HG : Hid (∀ i, i < 8 → goodB (V i) n = true) := hg
  clear h1 h2 hcp hg
  go_enter Try.func61, Try.ntmps61
  go_wp2
  go_loopw [5] (fun i wr => ∃ k : Nat, k ≤ 8 ∧ i = .int .i64 k ∧ Below w.heap.size w wr ∧ Hid (Cl wr w.heap.size [.slice (some ⟨bR, 0, none⟩) 8 cR, .bool z, .bool c, .bool hz, .bool hc, .slice (some ⟨B, 0, none⟩) n cap, .int .i64 pc, .int .i64 st, .slice aO nO cO]) ∧ ∀ i, i < k → holdsB (V i) (R i) Hp = true) (fun i _ => 8 - (intOf i).toNat)
  case atStart => exact ⟨0, Nat.zero_le _, rfl, (Below.refl _ _).alloc (Nat.le_refl _) _, Cl.new, fun i hi => by omega⟩
  case round =>
    obtain ⟨k, hk, rfl, hbr, HX, hall⟩ := hrel
    have HK : Hid (∀ i, i < k → holdsB (V i) (R i) Hp = true) := hall
    have HBR : Hid (Below w.heap.size w wr) := hbr
    clear hall
    by_cases hlt : k < 8
    · have c0 := (hbr.cell (p := ⟨bV, k * 6, none⟩) l1).trans (H1.out.cell (i := k * 6 + 0) (by omega) |>.trans (congrArg some (vF_at V k 0 (by omega))))
      have c1 := (hbr.cell (p := ⟨bV, k * 6 + 1, none⟩) l1).trans (H1.out.cell (i := k * 6 + 1) (by omega) |>.trans (congrArg some (vF_at V k 1 (by omega))))
      have c2 := (hbr.cell (p := ⟨bV, k * 6 + 2, none⟩) l1).trans (H1.out.cell (i := k * 6 + 2) (by omega) |>.trans (congrArg some (vF_at V k 2 (by omega))))
      have c3 := (hbr.cell (p := ⟨bV, k * 6 + 3, none⟩) l1).trans (H1.out.cell (i := k * 6 + 3) (by omega) |>.trans (congrArg some (vF_at V k 3 (by omega))))
      have c4 := (hbr.cell (p := ⟨bV, k * 6 + 4, none⟩) l1).trans (H1.out.cell (i := k * 6 + 4) (by omega) |>.trans (congrArg some (vF_at V k 4 (by omega))))
      have c5 := (hbr.cell (p := ⟨bV, k * 6 + 5, none⟩) l1).trans (H1.out.cell (i := k * 6 + 5) (by omega) |>.trans (congrArg some (vF_at V k 5 (by omega))))
      have r0 := (hbr.cell (p := ⟨bR, k, none⟩) l2).trans (H2.out.cell (i := k) (by omega))
      simp only [vC, numF] at c0 c1 c2 c3 c4 c5 r0
      have l1' : bV < wr.heap.size := Nat.lt_of_lt_of_le l1 hbr.size
      have l2' : bR < wr.heap.size := Nat.lt_of_lt_of_le l2 hbr.size
      clear hbr
      go_upto_region 4 with fail
      have v0 : ∀ w', Below wr.heap.size wr w' → w'.cell? ⟨bV, k * 6, none⟩ = some (.int .i64 (V k).k) := fun w' h => (h.cell (p := ⟨bV, k * 6, none⟩) l1').trans c0
      have v1 : ∀ w', Below wr.heap.size wr w' → w'.cell? ⟨bV, k * 6 + 1, none⟩ = some (.bool (V k).s) := fun w' h => (h.cell (p := ⟨bV, k * 6 + 1, none⟩) l1').trans c1
      have v2 : ∀ w', Below wr.heap.size wr w' → w'.cell? ⟨bV, k * 6 + 2, none⟩ = some (.int .i64 (V k).m) := fun w' h => (h.cell (p := ⟨bV, k * 6 + 2, none⟩) l1').trans c2
      have v3 : ∀ w', Below wr.heap.size wr w' → w'.cell? ⟨bV, k * 6 + 3, none⟩ = some (.int .i64 (V k).h) := fun w' h => (h.cell (p := ⟨bV, k * 6 + 3, none⟩) l1').trans c3
      have v4 : ∀ w', Below wr.heap.size wr w' → w'.cell? ⟨bV, k * 6 + 4, none⟩ = some (.int .i64 (V k).lo) := fun w' h => (h.cell (p := ⟨bV, k * 6 + 4, none⟩) l1').trans c4
      have v5 : ∀ w', Below wr.heap.size wr w' → w'.cell? ⟨bV, k * 6 + 5, none⟩ = some (.int .i64 (V k).hi) := fun w' h => (h.cell (p := ⟨bV, k * 6 + 5, none⟩) l1').trans c5
      have pr : ∀ w', Below wr.heap.size wr w' → w'.cell? ⟨bR, k, none⟩ = some (.int .u64 (R k)) := fun w' h => (h.cell (p := ⟨bR, k, none⟩) l2').trans r0
      have p0 : ∀ w', Below wr.heap.size wr w' → w'.cell? ⟨w.heap.size, 0, none⟩ = some (.slice (some ⟨bR, 0, none⟩) 8 cR) := fun w' h => (HX.out.below h).2 0 (by simp)
      have p1 : ∀ w', Below wr.heap.size wr w' → w'.cell? ⟨w.heap.size, 1, none⟩ = some (.bool z) := fun w' h => (HX.out.below h).2 1 (by simp)
      have p2 : ∀ w', Below wr.heap.size wr w' → w'.cell? ⟨w.heap.size, 2, none⟩ = some (.bool c) := fun w' h => (HX.out.below h).2 2 (by simp)
      have p3 : ∀ w', Below wr.heap.size wr w' → w'.cell? ⟨w.heap.size, 3, none⟩ = some (.bool hz) := fun w' h => (HX.out.below h).2 3 (by simp)
      have p4 : ∀ w', Below wr.heap.size wr w' → w'.cell? ⟨w.heap.size, 4, none⟩ = some (.bool hc) := fun w' h => (HX.out.below h).2 4 (by simp)
      have p5 : ∀ w', Below wr.heap.size wr w' → w'.cell? ⟨w.heap.size, 5, none⟩ = some (.slice (some ⟨B, 0, none⟩) n cap) := fun w' h => (HX.out.below h).2 5 (by simp)
      have p6 : ∀ w', Below wr.heap.size wr w' → w'.cell? ⟨w.heap.size, 6, none⟩ = some (.int .i64 pc) := fun w' h => (HX.out.below h).2 6 (by simp)
      have p7 : ∀ w', Below wr.heap.size wr w' → w'.cell? ⟨w.heap.size, 7, none⟩ = some (.int .i64 st) := fun w' h => (HX.out.below h).2 7 (by simp)
      have p8 : ∀ w', Below wr.heap.size wr w' → w'.cell? ⟨w.heap.size, 8, none⟩ = some (.slice aO nO cO) := fun w' h => (HX.out.below h).2 8 (by simp)
      clear c0 c1 c2 c3 c4 c5 r0
      refine wp_region_held_drew (S := fun w' => Below wr.heap.size wr w') (by kernel_rfl) (Below.refl _ _).drew (fun _ => ?_)
      refine wpAnyH_tk 0 ?k10v rfl ?k10y ?k10r
      case k10y => (intro w hSw; (try dsimp only at hSw); go_simp; try with_reducible rfl)
      try go_frame
      refine wpAnyH_tk 1 ?k11v rfl ?k11y ?k11r
      case k11y => (intro w hSw; (try dsimp only at hSw); go_simp; try with_reducible rfl)
      try go_frame
      refine wpAnyH_tk 2 ?k12v rfl ?k12y ?k12r
      case k12y => (intro w hSw; (try dsimp only at hSw); go_simp; try with_reducible rfl)
      try go_frame
      refine wpAnyH_tk 3 ?k13v rfl ?k13y ?k13r
      case k13y => (intro w hSw; (try dsimp only at hSw); go_simp; try with_reducible rfl)
      try go_frame
      refine wpAnyH_tk 4 ?k14v rfl ?k14y ?k14r
      case k14y => (intro w hSw; (try dsimp only at hSw); go_simp; try with_reducible rfl)
      try go_frame
      refine wpAnyH_tk 5 ?k15v rfl ?k15y ?k15r
      case k15y => (intro w hSw; (try dsimp only at hSw); go_simp; try with_reducible rfl)
      try go_frame
      refine wpAnyH_tk 6 ?k16v rfl ?k16y ?k16r
      case k16y => (intro w hSw; (try dsimp only at hSw); go_simp; try with_reducible rfl)
      try go_frame
      refine wpAnyH_tk 7 ?k17v rfl ?k17y ?k17r
      case k17y => (intro w hSw; (try dsimp only at hSw); go_simp; try with_reducible rfl)
      try go_frame
      refine wpAnyH_tk 8 ?k18v rfl ?k18y ?k18r
      case k18y => (intro w hSw; (try dsimp only at hSw); go_simp; try with_reducible rfl)
      try go_frame
      refine wpAnyH_tk 9 ?k19v rfl ?k19y ?k19r
      case k19y => (intro w hSw; (try dsimp only at hSw); go_simp; try with_reducible rfl)
      try go_frame
      refine wpAnyH_ready (rs := [10]) (by kernel_rfl) (by simp) ?_
      refine AllReadyH.cons rfl (fun KK hK => ?_) AllReadyH.nil
      go_simp
      have HBD : Hid (Below w.heap.size w wr.drew) := HBR.out.drew
      refine (l4Holds_any _ _ _ _ _ _ _ _ _ _ _ _ _ _ _ _ _ Hp blk _ _ _ _ _ _ (HG.out k hlt) (HC.out.below HBD.out (Nat.le_refl _))).mono ?_
      rintro e w2 ⟨rfl, hb2⟩
      have b2 : Below wr.heap.size wr w2 := ((Below.refl _ _).drew).trans hb2
      have HB2 : Hid (Below w.heap.size w w2) := HBR.out.trans (b2.mono HBR.out.size)
      have HX2 : Hid (Cl w2 w.heap.size [.slice (some ⟨bR, 0, none⟩) 8 cR, .bool z, .bool c, .bool hz, .bool hc, .slice (some ⟨B, 0, none⟩) n cap, .int .i64 pc, .int .i64 st, .slice aO nO cO]) := HX.out.below b2
      clear hb2
      go_wp2_with fail
      refine hK.out _ _ b2 (fun _ => ?_)
      clear hK KK
      try go_frame
      refine wpAnyH_tk 11 ?k20v rfl ?k20y ?k20r
      case k20y => (intro w hSw; (try dsimp only at hSw); go_simp; try with_reducible rfl)
      try go_frame
      refine wpAnyH_done (by kernel_rfl) ?_ _
      clear p0 p1 p2 p3 p4 p5 p6 p7 p8 pr v0 v1 v2 v3 v4 v5 b2
      cases hg : holdsB (V k) (R k) Hp with
      | false =>
        have HF : Hid (holdsB (V k) (R k) Hp = false) := hg
        clear hg
        go_wp2
        go_ret
        exact ⟨ret_bool (holds_no hlt HF.out).symm, HB2.out⟩
      | true =>
        have HF : Hid (holdsB (V k) (R k) Hp = true) := hg
        clear hg
        go_wp2
        go_roundw
        case rel => exact ⟨k + 1, by omega, by go_num, HB2.out, HX2, upto_step HK.out HF.out⟩
        case measure => simp [intOf]; omega
    · obtain rfl : k = 8 := by omega
      go_wp2
      go_ret
      exact ⟨ret_bool (holds_yes HK.out).symm, hbr⟩
end Go.Proofs.Ytjnooklalbcamaa
