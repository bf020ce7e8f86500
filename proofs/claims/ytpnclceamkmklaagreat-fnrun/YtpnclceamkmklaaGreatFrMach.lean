import Derived.Test.YtpnclceamkmklaaGreatOfMachCopy2
import Derived.Test.YtpnclceamkmklaaGreatOfDrawAny
import Derived.Laws.IdiomStrings
/- lwMach: machines compared. -/
namespace Go.Proofs.YtpnclceamkmklaaGreat
open Go.RowKit

set_option maxHeartbeats 2000000 in
theorem lwAt_any (ao : Option Addr) (n cap i : Nat) (P : Nat) (w : World) (hi : i < 1000) (hr : Bytes0 w P ao n) :
    Calls Tryz.prog 5 #[.slice ao n cap, .int .i64 i] w fun e w' => ∃ x : Int, e = .returned (.int .i64 x) ∧ 0 ≤ x ∧ x ≤ 255 ∧ w' = w := by
  by_cases hlt : i < n
  · obtain ⟨b, off, v, rfl, v0, v1, hv⟩ : ∃ b off v, ao = some ⟨b, off, none⟩ ∧ 0 ≤ v ∧ v ≤ 255 ∧ w.cell? ⟨b, off + i, none⟩ = some (.int .u8 v) := by
      rcases hr with h | ⟨b, off, h1, h2, h3⟩
      · omega
      · obtain ⟨v, q1, q2, q3⟩ := h3 i hlt
        exact ⟨b, off, v, h1, q1, q2, q3⟩
    go_enter Tryz.func5, Tryz.ntmps5
    go_wp2
    go_ret
    exact ⟨_, rfl, v0, v1, rfl⟩
  · clear hr
    go_enter Tryz.func5, Tryz.ntmps5
    go_wp2
    go_ret
    exact ⟨_, rfl, by omega, by omega, rfl⟩

def u8L (n : Nat) (R : Nat → Int) : List UInt8 := (List.range n).map fun i => UInt8.ofNat (R i).toNat
theorem u8L_len (n : Nat) (R : Nat → Int) : (u8L n R).length = n := by simp [u8L]
theorem u8L_conv (w : World) (b n c : Nat) (R : Nat → Int) (hr : ∀ i, i < n → 0 ≤ R i ∧ R i ≤ 255) (h : Arr w b n (numF .u8 R)) :
    (convert 22 9 (.slice (some ⟨b, 0, none⟩) n c)).run Tryz.prog w = .ok (.string ⟨(u8L n R).toArray⟩) w := by
  have := run_convert_bytes_back (P := Tryz.prog) w 22 9 5 ⟨b, 0, none⟩ c (u8L n R) Tryz.underlying22 Tryz.underlying5 Tryz.underlying9 (fun j hj => by
    rw [u8L_len] at hj
    have e : (⟨b, 0, none⟩ : Addr).add j = ⟨b, j, none⟩ := by unfold Addr.add; split <;> simp_all
    rw [e, h.cell hj]
    have h2 := hr j hj
    simp only [numF, u8L, List.getElem_map, List.getElem_range]
    congr 2
    simp
    omega)
  rw [u8L_len] at this
  exact this
set_option maxHeartbeats 400000 in
theorem lwBytes_same (b n c b' c' : Nat) (R : Nat → Int) (w : World) (hr : ∀ i, i < n → 0 ≤ R i ∧ R i ≤ 255) (h : Arr w b n (numF .u8 R)) (h' : Arr w b' n (numF .u8 R)) :
    Calls Tryz.prog 23 #[.slice (some ⟨b, 0, none⟩) n c, .slice (some ⟨b', 0, none⟩) n c'] w fun e w' => e = .returned (.bool true) ∧ w' = w := by
  have h1 := u8L_conv w b n c R hr h
  have h2 := u8L_conv w b' n c' R hr h'
  obtain ⟨s, hs⟩ : ∃ s : ByteArray, (⟨(u8L n R).toArray⟩ : ByteArray) = s := ⟨_, rfl⟩
  rw [hs] at h1 h2
  clear h h' hr hs
  go_enter Tryz.func23, Tryz.ntmps23
  go_wp2
  go_ret
  exact ⟨congrArg (fun q : Bool => Ending.returned (.bool q)) (by simp), rfl⟩

set_option maxHeartbeats 4000000 in
theorem lwObs_same (x : Option Addr) (b n c : Nat) (x' : Option Addr) (b' c' : Nat) (K V : Nat → Int) (w : World) (hlen : n ≤ 1048576) (hx : 0 < n → x = some ⟨b, 0, none⟩) (hx' : 0 < n → x' = some ⟨b', 0, none⟩) (h : Arr w b (n * 2) (obsF K V)) (h' : Arr w b' (n * 2) (obsF K V)) :
    Calls Tryz.prog 24 #[.slice x n c, .slice x' n c'] w fun e w' => e = .returned (.bool true) ∧ Below w.heap.size w w' := by
  have hb := h.lt
  have hb' := h'.lt
  have HA : Hid (Arr w b (n * 2) (obsF K V)) := h
  have HA' : Hid (Arr w b' (n * 2) (obsF K V)) := h'
  have HX : Hid (0 < n → x = some ⟨b, 0, none⟩) := hx
  have HX' : Hid (0 < n → x' = some ⟨b', 0, none⟩) := hx'
  clear h h' hx hx'
  go_enter Tryz.func24, Tryz.ntmps24
  go_wp2
  go_loopw [5] (fun i wr => ∃ k : Nat, k ≤ n ∧ i = .int .i64 k ∧ Below w.heap.size w wr) (fun i _ => n - (intOf i).toNat)
  case atStart => exact ⟨0, Nat.zero_le _, rfl, Below.refl _ _⟩
  case round =>
    obtain ⟨k, hk, rfl, hbr⟩ := hrel
    have HBR : Hid (Below w.heap.size w wr) := hbr
    by_cases hlt : k < n
    · obtain rfl : x = some ⟨b, 0, none⟩ := HX.out (by omega)
      obtain rfl : x' = some ⟨b', 0, none⟩ := HX'.out (by omega)
      have g0 := (hbr.cell (p := ⟨b, k * 2, none⟩) hb).trans ((HA.out.cell (i := k * 2 + 0) (by omega)).trans (congrArg some (obsF_0 K V k)))
      have g1 := (hbr.cell (p := ⟨b, k * 2 + 1, none⟩) hb).trans ((HA.out.cell (i := k * 2 + 1) (by omega)).trans (congrArg some (obsF_1 K V k)))
      have q0 := (hbr.cell (p := ⟨b', k * 2, none⟩) hb').trans ((HA'.out.cell (i := k * 2 + 0) (by omega)).trans (congrArg some (obsF_0 K V k)))
      have q1 := (hbr.cell (p := ⟨b', k * 2 + 1, none⟩) hb').trans ((HA'.out.cell (i := k * 2 + 1) (by omega)).trans (congrArg some (obsF_1 K V k)))
      have hlt' : (k : Int) < (n : Int) := by omega
      go_wp2_with fail
      go_quiet (fail)
      clear g0 g1 q0 q1
      go_wp2
      go_roundw
      case rel => exact ⟨k + 1, by omega, by go_num, HBR.out.trans (below_drewN (Below.refl _ _) _)⟩
      case measure => simp [intOf]; omega
    · go_wp2
      go_ret
      exact ⟨rfl, hbr⟩

set_option maxRecDepth 20000 in
set_option maxHeartbeats 8000000 in
theorem lwMach_same (xR : Option Addr) (yR bR nR : Nat) (R : Nat → Int) (z c hz hc : Bool) (xH : Option Addr) (yH bH nH : Nat) (Hp : Nat → HeapV) (hA : Nat → Option Addr) (hC : Nat → Nat) (pc st : Int) (xO : Option Addr) (yO bO nO : Nat) (K V : Nat → Int)
    (xR' : Option Addr) (yR' bR' : Nat) (xH' : Option Addr) (yH' bH' : Nat) (hA' : Nat → Option Addr) (hC' : Nat → Nat) (pc' : Int) (xO' : Option Addr) (yO' bO' : Nat) (w : World)
    (lR : nR ≤ 1048576) (lH : nH ≤ 1048576) (lO : nO ≤ 1048576) (hl : ∀ i, i < nH → 1 ≤ (Hp i).len ∧ ∀ j, j < (Hp i).len → 0 ≤ (Hp i).dat j ∧ (Hp i).dat j ≤ 255)
    (h : MachG w xR yR bR nR R xH yH bH nH Hp hA hC xO yO bO nO K V) (h' : MachG w xR' yR' bR' nR R xH' yH' bH' nH Hp hA' hC' xO' yO' bO' nO K V) :
    Calls Tryz.prog 8 #[.agg #[.slice xR nR yR, .bool z, .bool c, .bool hz, .bool hc, .slice xH nH yH, .int .i64 pc, .int .i64 st, .slice xO nO yO], .agg #[.slice xR' nR yR', .bool z, .bool c, .bool hz, .bool hc, .slice xH' nH yH', .int .i64 pc', .int .i64 st, .slice xO' nO yO']] w fun e w' => e = .returned (.bool true) ∧ Below w.heap.size w w' := by
  have H : Hid (MachG w xR yR bR nR R xH yH bH nH Hp hA hC xO yO bO nO K V) := h
  have H' : Hid (MachG w xR' yR' bR' nR R xH' yH' bH' nH Hp hA' hC' xO' yO' bO' nO K V) := h'
  have HL : Hid (∀ i, i < nH → 1 ≤ (Hp i).len ∧ ∀ j, j < (Hp i).len → 0 ≤ (Hp i).dat j ∧ (Hp i).dat j ≤ 255) := hl
  clear h h' hl
  go_enter Tryz.func8, Tryz.ntmps8
  go_upto_region 1 with fail
  obtain ⟨u, hu, hbu, hca, hcb⟩ : ∃ y, (w.alloc (.cells #[.slice xR nR yR, .bool z, .bool c, .bool hz, .bool hc, .slice xH nH yH, .int .i64 pc, .int .i64 st, .slice xO nO yO] 28)).alloc (.cells #[.slice xR' nR yR', .bool z, .bool c, .bool hz, .bool hc, .slice xH' nH yH', .int .i64 pc', .int .i64 st, .slice xO' nO yO'] 28) = y ∧ Below w.heap.size w y ∧ Cl y w.heap.size [.slice xR nR yR, .bool z, .bool c, .bool hz, .bool hc, .slice xH nH yH, .int .i64 pc, .int .i64 st, .slice xO nO yO] ∧ Cl y (w.heap.size + 1) [.slice xR' nR yR', .bool z, .bool c, .bool hz, .bool hc, .slice xH' nH yH', .int .i64 pc', .int .i64 st, .slice xO' nO yO'] :=
    ⟨_, rfl, ((Below.refl _ _).alloc (Nat.le_refl _) _).alloc (by simp) _, Cl.new.below ((Below.refl _ _).alloc (Nat.le_refl _) _), by
      have h := Cl.new (w := w.alloc (.cells #[.slice xR nR yR, .bool z, .bool c, .bool hz, .bool hc, .slice xH nH yH, .int .i64 pc, .int .i64 st, .slice xO nO yO] 28)) (vs := #[.slice xR' nR yR', .bool z, .bool c, .bool hz, .bool hc, .slice xH' nH yH', .int .i64 pc', .int .i64 st, .slice xO' nO yO']) (t := 28)
      simpa using h⟩
  rw [hu]
  obtain ⟨q, hq⟩ : ∃ y, w.heap.size = y := ⟨_, rfl⟩
  have HQ : Hid (w.heap.size = q) := hq
  rw [hq] at hca hcb ⊢
  have CA : Hid (Cl u q [.slice xR nR yR, .bool z, .bool c, .bool hz, .bool hc, .slice xH nH yH, .int .i64 pc, .int .i64 st, .slice xO nO yO]) := hca
  have CB : Hid (Cl u (q + 1) [.slice xR' nR yR', .bool z, .bool c, .bool hz, .bool hc, .slice xH' nH yH', .int .i64 pc', .int .i64 st, .slice xO' nO yO']) := hcb
  have BU : Hid (Below w.heap.size w u) := hbu
  have a0 : u.cell? ⟨q, 0, none⟩ = some (.slice xR nR yR) := hca.2 0 (by simp)
  have a1 : u.cell? ⟨q, 1, none⟩ = some (.bool z) := hca.2 1 (by simp)
  have a2 : u.cell? ⟨q, 2, none⟩ = some (.bool c) := hca.2 2 (by simp)
  have a3 : u.cell? ⟨q, 3, none⟩ = some (.bool hz) := hca.2 3 (by simp)
  have a4 : u.cell? ⟨q, 4, none⟩ = some (.bool hc) := hca.2 4 (by simp)
  have a5 : u.cell? ⟨q, 5, none⟩ = some (.slice xH nH yH) := hca.2 5 (by simp)
  have a7 : u.cell? ⟨q, 7, none⟩ = some (.int .i64 st) := hca.2 7 (by simp)
  have a8 : u.cell? ⟨q, 8, none⟩ = some (.slice xO nO yO) := hca.2 8 (by simp)
  have b0 : u.cell? ⟨q + 1, 0, none⟩ = some (.slice xR' nR yR') := hcb.2 0 (by simp)
  have b1 : u.cell? ⟨q + 1, 1, none⟩ = some (.bool z) := hcb.2 1 (by simp)
  have b2 : u.cell? ⟨q + 1, 2, none⟩ = some (.bool c) := hcb.2 2 (by simp)
  have b3 : u.cell? ⟨q + 1, 3, none⟩ = some (.bool hz) := hcb.2 3 (by simp)
  have b4 : u.cell? ⟨q + 1, 4, none⟩ = some (.bool hc) := hcb.2 4 (by simp)
  have b5 : u.cell? ⟨q + 1, 5, none⟩ = some (.slice xH' nH yH') := hcb.2 5 (by simp)
  have b7 : u.cell? ⟨q + 1, 7, none⟩ = some (.int .i64 st) := hcb.2 7 (by simp)
  have b8 : u.cell? ⟨q + 1, 8, none⟩ = some (.slice xO' nO yO') := hcb.2 8 (by simp)
  have qz : q < u.heap.size := hca.1
  have qz' : q + 1 < u.heap.size := hcb.1
  clear hu hbu hca hcb hq
  go_wp2_with fail
  clear a1 a2 a3 a4 a7 b1 b2 b3 b4 b7
  go_loopw [5] (fun i wr => ∃ k : Nat, k ≤ nR ∧ i = .int .i64 k ∧ Below u.heap.size u wr) (fun i _ => nR - (intOf i).toNat)
  case atStart => exact ⟨0, Nat.zero_le _, rfl, Below.refl _ _⟩
  case round =>
    obtain ⟨k, hk, rfl, hbr⟩ := hrel
    have HBR : Hid (Below u.heap.size u wr) := hbr
    have BW : Hid (Below w.heap.size w wr) := BU.out.trans (hbr.mono BU.out.size)
    have c0 := (hbr.cell (p := ⟨q, 0, none⟩) qz).trans a0
    have d0 := (hbr.cell (p := ⟨q + 1, 0, none⟩) qz').trans b0
    have c5 := (hbr.cell (p := ⟨q, 5, none⟩) qz).trans a5
    have d5 := (hbr.cell (p := ⟨q + 1, 5, none⟩) qz').trans b5
    have c8 := (hbr.cell (p := ⟨q, 8, none⟩) qz).trans a8
    have d8 := (hbr.cell (p := ⟨q + 1, 8, none⟩) qz').trans b8
    have qw : q < wr.heap.size := Nat.lt_of_lt_of_le qz hbr.size
    have qw' : q + 1 < wr.heap.size := Nat.lt_of_lt_of_le qz' hbr.size
    by_cases hlt : k < nR
    · obtain rfl : xR = some ⟨bR, 0, none⟩ := H.out.eR.some (by omega)
      obtain rfl : xR' = some ⟨bR', 0, none⟩ := H'.out.eR.some (by omega)
      have hlt' : (k : Int) < (nR : Int) := by omega
      have g0 : wr.cell? ⟨bR, k, none⟩ = some (.int .u64 (R k)) := (BW.out.cell (p := ⟨bR, k, none⟩) H.out.regs.lt).trans (H.out.regs.cell hlt)
      have g1 : wr.cell? ⟨bR', k, none⟩ = some (.int .u64 (R k)) := (BW.out.cell (p := ⟨bR', k, none⟩) H'.out.regs.lt).trans (H'.out.regs.cell hlt)
      go_wp2_with fail
      go_quiet (fail)
      clear g0 g1 c0 d0 c5 d5 c8 d8
      go_wp2
      go_roundw
      case rel => exact ⟨k + 1, by omega, by go_num, HBR.out.trans (below_drewN (Below.refl _ _) _)⟩
      case measure => simp [intOf]; omega
    · have hlt' : ¬ (k : Int) < (nR : Int) := by omega
      go_wp2_with fail
      clear a0 a5 a8 b0 b5 b8
      generalize wr = u at HBR BW c0 d0 c5 d5 c8 d8 qw qw' ⊢
      go_loopw [6] (fun i wr => ∃ k : Nat, k ≤ nH ∧ i = .int .i64 k ∧ Below u.heap.size u wr) (fun i _ => nH - (intOf i).toNat)
      case atStart => exact ⟨0, Nat.zero_le _, rfl, Below.refl _ _⟩
      case round =>
        obtain ⟨k2, hk2, rfl, hb2⟩ := hrel
        have HB2 : Hid (Below u.heap.size u wr) := hb2
        have BW2 : Hid (Below w.heap.size w wr) := BW.out.trans (hb2.mono BW.out.size)
        have m5 := (hb2.cell (p := ⟨q, 5, none⟩) qw).trans c5
        have n5 := (hb2.cell (p := ⟨q + 1, 5, none⟩) qw').trans d5
        have m8 := (hb2.cell (p := ⟨q, 8, none⟩) qw).trans c8
        have n8 := (hb2.cell (p := ⟨q + 1, 8, none⟩) qw').trans d8
        have qx : q < wr.heap.size := Nat.lt_of_lt_of_le qw hb2.size
        have qx' : q + 1 < wr.heap.size := Nat.lt_of_lt_of_le qw' hb2.size
        by_cases hlt2 : k2 < nH
        · obtain rfl : xH = some ⟨bH, 0, none⟩ := H.out.eH.some (by omega)
          obtain rfl : xH' = some ⟨bH', 0, none⟩ := H'.out.eH.some (by omega)
          have hlt2' : (k2 : Int) < (nH : Int) := by omega
          have hl1 := (HL.out k2 hlt2).1
          obtain ⟨bD, eD, aD⟩ := (H.out.below BW2.out (Nat.le_refl _)).data k2 hlt2 (by omega)
          obtain ⟨bD', eD', aD'⟩ := (H'.out.below BW2.out (Nat.le_refl _)).data k2 hlt2 (by omega)
          have AD : Hid (Arr wr bD (Hp k2).len (numF .u8 (Hp k2).dat)) := aD
          have AD' : Hid (Arr wr bD' (Hp k2).len (numF .u8 (Hp k2).dat)) := aD'
          have hAr := (H.out.below BW2.out (Nat.le_refl _)).heaps
          have hAr' := (H'.out.below BW2.out (Nat.le_refl _)).heaps
          have hz := hAr.lt
          have hz' := hAr'.lt
          have g0 : wr.cell? ⟨bH, k2 * 3, none⟩ = some (.int .u64 (Hp k2).base) := (hAr.cell (i := k2 * 3 + 0) (by omega)).trans (congrArg some (heapF_0 _ k2))
          have g1 : wr.cell? ⟨bH, k2 * 3 + 1, none⟩ = some (.bool (Hp k2).wr) := (hAr.cell (i := k2 * 3 + 1) (by omega)).trans (congrArg some (heapF_1 _ k2))
          have g2 : wr.cell? ⟨bH, k2 * 3 + 2, none⟩ = some (.slice (some ⟨bD, 0, none⟩) (Hp k2).len (hC k2)) := (hAr.cell (i := k2 * 3 + 2) (by omega)).trans ((congrArg some (heapF_2 _ k2)).trans (by rw [← eD]; rfl))
          have h0 : wr.cell? ⟨bH', k2 * 3, none⟩ = some (.int .u64 (Hp k2).base) := (hAr'.cell (i := k2 * 3 + 0) (by omega)).trans (congrArg some (heapF_0 _ k2))
          have h1 : wr.cell? ⟨bH', k2 * 3 + 1, none⟩ = some (.bool (Hp k2).wr) := (hAr'.cell (i := k2 * 3 + 1) (by omega)).trans (congrArg some (heapF_1 _ k2))
          have h2 : wr.cell? ⟨bH', k2 * 3 + 2, none⟩ = some (.slice (some ⟨bD', 0, none⟩) (Hp k2).len (hC' k2)) := (hAr'.cell (i := k2 * 3 + 2) (by omega)).trans ((congrArg some (heapF_2 _ k2)).trans (by rw [← eD']; rfl))
          have r5 : ∀ w' : World, Below wr.heap.size wr w' → w'.cell? ⟨q, 5, none⟩ = some (.slice (some ⟨bH, 0, none⟩) nH yH) := fun w' h => (h.cell (p := ⟨q, 5, none⟩) qx).trans m5
          have r6 : ∀ w' : World, Below wr.heap.size wr w' → w'.cell? ⟨q + 1, 5, none⟩ = some (.slice (some ⟨bH', 0, none⟩) nH yH') := fun w' h => (h.cell (p := ⟨q + 1, 5, none⟩) qx').trans n5
          have r0 : ∀ w' : World, Below wr.heap.size wr w' → w'.cell? ⟨bH, k2 * 3, none⟩ = some (.int .u64 (Hp k2).base) := fun w' h => (h.cell (p := ⟨bH, k2 * 3, none⟩) hz).trans g0
          have r1 : ∀ w' : World, Below wr.heap.size wr w' → w'.cell? ⟨bH, k2 * 3 + 1, none⟩ = some (.bool (Hp k2).wr) := fun w' h => (h.cell (p := ⟨bH, k2 * 3 + 1, none⟩) hz).trans g1
          have r2 : ∀ w' : World, Below wr.heap.size wr w' → w'.cell? ⟨bH, k2 * 3 + 2, none⟩ = some (.slice (some ⟨bD, 0, none⟩) (Hp k2).len (hC k2)) := fun w' h => (h.cell (p := ⟨bH, k2 * 3 + 2, none⟩) hz).trans g2
          have s0 : ∀ w' : World, Below wr.heap.size wr w' → w'.cell? ⟨bH', k2 * 3, none⟩ = some (.int .u64 (Hp k2).base) := fun w' h => (h.cell (p := ⟨bH', k2 * 3, none⟩) hz').trans h0
          have s1 : ∀ w' : World, Below wr.heap.size wr w' → w'.cell? ⟨bH', k2 * 3 + 1, none⟩ = some (.bool (Hp k2).wr) := fun w' h => (h.cell (p := ⟨bH', k2 * 3 + 1, none⟩) hz').trans h1
          have s2 : ∀ w' : World, Below wr.heap.size wr w' → w'.cell? ⟨bH', k2 * 3 + 2, none⟩ = some (.slice (some ⟨bD', 0, none⟩) (Hp k2).len (hC' k2)) := fun w' h => (h.cell (p := ⟨bH', k2 * 3 + 2, none⟩) hz').trans h2
          have e1 : ((Hp k2).base != (Hp k2).base) = false := by simp
          have e2 : ((Hp k2).wr != (Hp k2).wr) = false := by simp
          clear eD eD' aD aD' hAr hAr'
          go_upto_region 11 with fail
          clear m5 n5 m8 n8 g0 g1 g2 h0 h1 h2 c0 d0
          have hS : Below wr.heap.size wr wr.drew := (Below.refl _ _).drew
          refine wp_region_held_drew (S := fun w' => Below wr.heap.size wr w') (by kernel_rfl) hS (fun _ => ?_)
          refine wpAnyH_tk 0 ?k1v rfl ?k1y ?k1r
          case k1y => (intro w hSw; (try dsimp only at hSw); go_simp; try with_reducible rfl)
          try simp only [Act.put, List.getElem_toArray, List.getElem_cons_zero, List.setIfInBounds_toArray, List.set_cons_zero, List.set_cons_succ]
          refine wpAnyH_tk 1 ?k2v rfl ?k2y ?k2r
          case k2y => (intro w hSw; (try dsimp only at hSw); go_simp; try with_reducible rfl)
          try simp only [Act.put, List.getElem_toArray, List.getElem_cons_zero, List.getElem_cons_succ, List.setIfInBounds_toArray, List.set_cons_zero, List.set_cons_succ]
          refine wpAnyH_tk 2 ?k3v rfl ?k3y ?k3r
          case k3y => (intro w hSw; (try dsimp only at hSw); go_simp; try with_reducible rfl)
          try simp only [Act.put, List.getElem_toArray, List.getElem_cons_zero, List.getElem_cons_succ, List.setIfInBounds_toArray, List.set_cons_zero, List.set_cons_succ]
          refine wpAnyH_tk 3 ?k4v rfl ?k4y ?k4r
          case k4y => (intro w hSw; (try dsimp only at hSw); go_simp; try with_reducible rfl)
          try simp only [Act.put, List.getElem_toArray, List.getElem_cons_zero, List.getElem_cons_succ, List.setIfInBounds_toArray, List.set_cons_zero, List.set_cons_succ]
          refine wpAnyH_tk 4 ?k5v rfl ?k5y ?k5r
          case k5y => (intro w hSw; (try dsimp only at hSw); go_simp; try with_reducible rfl)
          try simp only [Act.put, List.getElem_toArray, List.getElem_cons_zero, List.getElem_cons_succ, List.setIfInBounds_toArray, List.set_cons_zero, List.set_cons_succ]
          refine wpAnyH_tk 5 ?k6v rfl ?k6y ?k6r
          case k6y => (intro w hSw; (try dsimp only at hSw); go_simp; try with_reducible rfl)
          try simp only [Act.put, List.getElem_toArray, List.getElem_cons_zero, List.getElem_cons_succ, List.setIfInBounds_toArray, List.set_cons_zero, List.set_cons_succ]
          refine wpAnyH_tk 6 ?k7v rfl ?k7y ?k7r
          case k7y => (intro w hSw; (try dsimp only at hSw); go_simp; try with_reducible rfl)
          try simp only [Act.put, List.getElem_toArray, List.getElem_cons_zero, List.getElem_cons_succ, List.setIfInBounds_toArray, List.set_cons_zero, List.set_cons_succ]
          refine wpAnyH_tk 7 ?k8v rfl ?k8y ?k8r
          case k8y => (intro w hSw; (try dsimp only at hSw); go_simp; try with_reducible rfl)
          try simp only [Act.put, List.getElem_toArray, List.getElem_cons_zero, List.getElem_cons_succ, List.setIfInBounds_toArray, List.set_cons_zero, List.set_cons_succ]
          refine wpAnyH_tk 8 ?k9v rfl ?k9y ?k9r
          case k9y => (intro w hSw; (try dsimp only at hSw); go_simp; try with_reducible rfl)
          try simp only [Act.put, List.getElem_toArray, List.getElem_cons_zero, List.getElem_cons_succ, List.setIfInBounds_toArray, List.set_cons_zero, List.set_cons_succ]
          refine wpAnyH_tk 9 ?k10v rfl ?k10y ?k10r
          case k10y => (intro w hSw; (try dsimp only at hSw); go_simp; try with_reducible rfl)
          try simp only [Act.put, List.getElem_toArray, List.getElem_cons_zero, List.getElem_cons_succ, List.setIfInBounds_toArray, List.set_cons_zero, List.set_cons_succ]
          refine wpAnyH_tk 10 ?k11v rfl ?k11y ?k11r
          case k11y => (intro w hSw; (try dsimp only at hSw); go_simp; try with_reducible rfl)
          try simp only [Act.put, List.getElem_toArray, List.getElem_cons_zero, List.getElem_cons_succ, List.setIfInBounds_toArray, List.set_cons_zero, List.set_cons_succ]
          refine wpAnyH_tk 11 ?k12v rfl ?k12y ?k12r
          case k12y => (intro w hSw; (try dsimp only at hSw); go_simp; try with_reducible rfl)
          try simp only [Act.put, List.getElem_toArray, List.getElem_cons_zero, List.getElem_cons_succ, List.setIfInBounds_toArray, List.set_cons_zero, List.set_cons_succ]
          refine wpAnyH_tk 12 ?k13v rfl ?k13y ?k13r
          case k13y => (intro w hSw; (try dsimp only at hSw); go_simp; try with_reducible rfl)
          try simp only [Act.put, List.getElem_toArray, List.getElem_cons_zero, List.getElem_cons_succ, List.setIfInBounds_toArray, List.set_cons_zero, List.set_cons_succ]
          refine wpAnyH_tk 13 ?k14v rfl ?k14y ?k14r
          case k14y => (intro w hSw; (try dsimp only at hSw); go_simp; try with_reducible rfl)
          try simp only [Act.put, List.getElem_toArray, List.getElem_cons_zero, List.getElem_cons_succ, List.setIfInBounds_toArray, List.set_cons_zero, List.set_cons_succ]
          refine wpAnyH_tk 14 ?k15v rfl ?k15y ?k15r
          case k15y => (intro w hSw; (try dsimp only at hSw); go_simp; try with_reducible rfl)
          try simp only [Act.put, List.getElem_toArray, List.getElem_cons_zero, List.getElem_cons_succ, List.setIfInBounds_toArray, List.set_cons_zero, List.set_cons_succ]
          refine wpAnyH_tk 15 ?k16v rfl ?k16y ?k16r
          case k16y => (intro w hSw; (try dsimp only at hSw); go_simp; try with_reducible rfl)
          try simp only [Act.put, List.getElem_toArray, List.getElem_cons_zero, List.getElem_cons_succ, List.setIfInBounds_toArray, List.set_cons_zero, List.set_cons_succ]
          refine wpAnyH_tk 16 ?k17v rfl ?k17y ?k17r
          case k17y => (intro w hSw; (try dsimp only at hSw); go_simp; try with_reducible rfl)
          try simp only [Act.put, List.getElem_toArray, List.getElem_cons_zero, List.getElem_cons_succ, List.setIfInBounds_toArray, List.set_cons_zero, List.set_cons_succ]
          refine wpAnyH_tk 17 ?k18v rfl ?k18y ?k18r
          case k18y => (intro w hSw; (try dsimp only at hSw); go_simp; try with_reducible rfl)
          try simp only [Act.put, List.getElem_toArray, List.getElem_cons_zero, List.getElem_cons_succ, List.setIfInBounds_toArray, List.set_cons_zero, List.set_cons_succ]
          refine wpAnyH_tk 18 ?k19v rfl ?k19y ?k19r
          case k19y => (intro w hSw; (try dsimp only at hSw); go_simp; try with_reducible rfl)
          try simp only [Act.put, List.getElem_toArray, List.getElem_cons_zero, List.getElem_cons_succ, List.setIfInBounds_toArray, List.set_cons_zero, List.set_cons_succ]
          refine wpAnyH_tk 19 ?k20v rfl ?k20y ?k20r
          case k20y => (intro w hSw; (try dsimp only at hSw); go_simp; try with_reducible rfl)
          try simp only [Act.put, List.getElem_toArray, List.getElem_cons_zero, List.getElem_cons_succ, List.setIfInBounds_toArray, List.set_cons_zero, List.set_cons_succ]
          refine wpAnyH_tk 20 ?k21v rfl ?k21y ?k21r
          case k21y => (intro w hSw; (try dsimp only at hSw); go_simp; try with_reducible rfl)
          try simp only [Act.put, List.getElem_toArray, List.getElem_cons_zero, List.getElem_cons_succ, List.setIfInBounds_toArray, List.set_cons_zero, List.set_cons_succ]
          refine wpAnyH_tk 21 ?k22v rfl ?k22y ?k22r
          case k22y => (intro w hSw; (try dsimp only at hSw); go_simp; try with_reducible rfl)
          try simp only [Act.put, List.getElem_toArray, List.getElem_cons_zero, List.getElem_cons_succ, List.setIfInBounds_toArray, List.set_cons_zero, List.set_cons_succ]
          refine wpAnyH_tk 22 ?k23v rfl ?k23y ?k23r
          case k23y => (intro w hSw; (try dsimp only at hSw); go_simp; try with_reducible rfl)
          try simp only [Act.put, List.getElem_toArray, List.getElem_cons_zero, List.getElem_cons_succ, List.setIfInBounds_toArray, List.set_cons_zero, List.set_cons_succ]
          refine wpAnyH_tk 23 ?k24v rfl ?k24y ?k24r
          case k24y => (intro w hSw; (try dsimp only at hSw); go_simp; try with_reducible rfl)
          try simp only [Act.put, List.getElem_toArray, List.getElem_cons_zero, List.getElem_cons_succ, List.setIfInBounds_toArray, List.set_cons_zero, List.set_cons_succ]
          refine wpAnyH_tk 24 ?k25v rfl ?k25y ?k25r
          case k25y => (intro w hSw; (try dsimp only at hSw); go_simp; try with_reducible rfl)
          try simp only [Act.put, List.getElem_toArray, List.getElem_cons_zero, List.getElem_cons_succ, List.setIfInBounds_toArray, List.set_cons_zero, List.set_cons_succ]
          refine wpAnyH_tk 25 ?k26v rfl ?k26y ?k26r
          case k26y => (intro w hSw; (try dsimp only at hSw); go_simp; try with_reducible rfl)
          try simp only [Act.put, List.getElem_toArray, List.getElem_cons_zero, List.getElem_cons_succ, List.setIfInBounds_toArray, List.set_cons_zero, List.set_cons_succ]
          refine wpAnyH_tk 26 ?k27v rfl ?k27y ?k27r
          case k27y => (intro w hSw; (try dsimp only at hSw); go_simp; try with_reducible rfl)
          try simp only [Act.put, List.getElem_toArray, List.getElem_cons_zero, List.getElem_cons_succ, List.setIfInBounds_toArray, List.set_cons_zero, List.set_cons_succ]
          refine wpAnyH_tk 27 ?k28v rfl ?k28y ?k28r
          case k28y => (intro w hSw; (try dsimp only at hSw); go_simp; try with_reducible rfl)
          try simp only [Act.put, List.getElem_toArray, List.getElem_cons_zero, List.getElem_cons_succ, List.setIfInBounds_toArray, List.set_cons_zero, List.set_cons_succ]
          refine wpAnyH_tk 28 ?k29v rfl ?k29y ?k29r
          case k29y => (intro w hSw; (try dsimp only at hSw); go_simp; try with_reducible rfl)
          try simp only [Act.put, List.getElem_toArray, List.getElem_cons_zero, List.getElem_cons_succ, List.setIfInBounds_toArray, List.set_cons_zero, List.set_cons_succ]
          refine wpAnyH_tk 29 ?k30v rfl ?k30y ?k30r
          case k30y => (intro w hSw; (try dsimp only at hSw); go_simp; try with_reducible rfl)
          try simp only [Act.put, List.getElem_toArray, List.getElem_cons_zero, List.getElem_cons_succ, List.setIfInBounds_toArray, List.set_cons_zero, List.set_cons_succ]
          refine wpAnyH_tk 30 ?k31v rfl ?k31y ?k31r
          case k31y => (intro w hSw; (try dsimp only at hSw); go_simp; try with_reducible rfl)
          try simp only [Act.put, List.getElem_toArray, List.getElem_cons_zero, List.getElem_cons_succ, List.setIfInBounds_toArray, List.set_cons_zero, List.set_cons_succ]
          refine wpAnyH_tk 31 ?k32v rfl ?k32y ?k32r
          case k32y => (intro w hSw; (try dsimp only at hSw); go_simp; try with_reducible rfl)
          try simp only [Act.put, List.getElem_toArray, List.getElem_cons_zero, List.getElem_cons_succ, List.setIfInBounds_toArray, List.set_cons_zero, List.set_cons_succ]
          refine wpAnyH_tk 32 ?k33v rfl ?k33y ?k33r
          case k33y => (intro w hSw; (try dsimp only at hSw); go_simp; try with_reducible rfl)
          try simp only [Act.put, List.getElem_toArray, List.getElem_cons_zero, List.getElem_cons_succ, List.setIfInBounds_toArray, List.set_cons_zero, List.set_cons_succ]
          refine wpAnyH_tk 33 ?k34v rfl ?k34y ?k34r
          case k34y => (intro w hSw; (try dsimp only at hSw); go_simp; try with_reducible rfl)
          try simp only [Act.put, List.getElem_toArray, List.getElem_cons_zero, List.getElem_cons_succ, List.setIfInBounds_toArray, List.set_cons_zero, List.set_cons_succ]
          refine wpAnyH_tk 34 ?k35v rfl ?k35y ?k35r
          case k35y => (intro w hSw; (try dsimp only at hSw); go_simp; try with_reducible rfl)
          try simp only [Act.put, List.getElem_toArray, List.getElem_cons_zero, List.getElem_cons_succ, List.setIfInBounds_toArray, List.set_cons_zero, List.set_cons_succ]
          refine wpAnyH_tk 35 ?k36v rfl ?k36y ?k36r
          case k36y => (intro w hSw; (try dsimp only at hSw); go_simp; try with_reducible rfl)
          try simp only [Act.put, List.getElem_toArray, List.getElem_cons_zero, List.getElem_cons_succ, List.setIfInBounds_toArray, List.set_cons_zero, List.set_cons_succ]
          refine wpAnyH_tk 36 ?k37v rfl ?k37y ?k37r
          case k37y => (intro w hSw; (try dsimp only at hSw); go_simp; try with_reducible rfl)
          try simp only [Act.put, List.getElem_toArray, List.getElem_cons_zero, List.getElem_cons_succ, List.setIfInBounds_toArray, List.set_cons_zero, List.set_cons_succ]
          refine wpAnyH_tk 37 ?k38v rfl ?k38y ?k38r
          case k38y => (intro w hSw; (try dsimp only at hSw); go_simp; try with_reducible rfl)
          try simp only [Act.put, List.getElem_toArray, List.getElem_cons_zero, List.getElem_cons_succ, List.setIfInBounds_toArray, List.set_cons_zero, List.set_cons_succ]
          refine wpAnyH_tk 38 ?k39v rfl ?k39y ?k39r
          case k39y => (intro w hSw; (try dsimp only at hSw); go_simp; try with_reducible rfl)
          try simp only [Act.put, List.getElem_toArray, List.getElem_cons_zero, List.getElem_cons_succ, List.setIfInBounds_toArray, List.set_cons_zero, List.set_cons_succ]
          refine wpAnyH_tk 39 ?k40v rfl ?k40y ?k40r
          case k40y => (intro w hSw; (try dsimp only at hSw); go_simp; try with_reducible rfl)
          try simp only [Act.put, List.getElem_toArray, List.getElem_cons_zero, List.getElem_cons_succ, List.setIfInBounds_toArray, List.set_cons_zero, List.set_cons_succ]
          refine wpAnyH_tk 40 ?k41v rfl ?k41y ?k41r
          case k41y => (intro w hSw; (try dsimp only at hSw); go_simp; try with_reducible rfl)
          try simp only [Act.put, List.getElem_toArray, List.getElem_cons_zero, List.getElem_cons_succ, List.setIfInBounds_toArray, List.set_cons_zero, List.set_cons_succ]
          refine wpAnyH_ready (rs := [41]) (by kernel_rfl) (by simp) ?_
          refine AllReadyH.cons rfl (fun KK hK => ?_) AllReadyH.nil
          go_simp
          refine (lwBytes_same bD (Hp k2).len (hC k2) bD' (hC' k2) (Hp k2).dat _ (HL.out k2 hlt2).2 (AD.out.below hS AD.out.lt) (AD'.out.below hS AD'.out.lt)).mono ?_
          rintro e w3 ⟨rfl, hw3⟩
          rw [hw3]
          go_wp2_with fail
          refine hK.out _ _ hS (fun _ => ?_)
          clear hK KK hw3
          refine wpAnyH_tk 42 ?k42v rfl ?k42y ?k42r
          case k42y => (intro w hSw; (try dsimp only at hSw); go_simp; try with_reducible rfl)
          try simp only [Act.put, List.getElem_toArray, List.getElem_cons_zero, List.getElem_cons_succ, List.setIfInBounds_toArray, List.set_cons_zero, List.set_cons_succ]
          refine wpAnyH_tk 43 ?k43v rfl ?k43y ?k43r
          case k43y => (intro w hSw; (try dsimp only at hSw); go_simp; try with_reducible rfl)
          try simp only [Act.put, List.getElem_toArray, List.getElem_cons_zero, List.getElem_cons_succ, List.setIfInBounds_toArray, List.set_cons_zero, List.set_cons_succ]
          refine wpAnyH_done (by kernel_rfl) ?_ _
          clear r5 r6 r0 r1 r2 s0 s1 s2 hS
          go_wp2
          go_roundw
          case rel => exact ⟨k2 + 1, by omega, by go_num, HB2.out.trans ((Below.refl _ _).drew.mono HB2.out.size)⟩
          case measure => simp [intOf]; omega
        · have hlt2' : ¬ (k2 : Int) < (nH : Int) := by omega
          go_wp2_with fail
          refine (lwObs_same _ bO nO _ _ bO' _ K V wr lO H.out.eO.some H'.out.eO.some (H.out.below BW2.out (Nat.le_refl _)).obs (H'.out.below BW2.out (Nat.le_refl _)).obs).mono ?_
          rintro e w3 ⟨rfl, hb3⟩
          go_wp2
          go_ret
          exact ⟨rfl, BW2.out.trans (hb3.mono BW2.out.size)⟩
end Go.Proofs.YtpnclceamkmklaaGreat
