/- Two machines with the same public things: the program's word and the specification's. -/
import Derived.Test.YtjnooklalbcamaaFitsAll
import Derived.Laws.BytesArg
namespace Go.Proofs.Ytjnooklalbcamaa
open Go.RowKit

/-- A heaplet's bytes. -/
def datS (h : HeapV) : ByteArray := strOfNums ((List.range h.len).map h.dat)
def datEq (h1 h2 : HeapV) : Bool := (datS h1).toList == (datS h2).toList
theorem dat_get (h : HeapV) (i : Nat) (hi : i < h.len) : ((List.range h.len).map h.dat).getD i 0 = h.dat i := by simp [List.getD, hi]
theorem conv_dat (h : HeapV) (b cap : Nat) (w : World) (ha : Arr w b h.len (numF .u8 h.dat)) : (convert 22 9 (.slice (some ⟨b, 0, none⟩) h.len cap)).run Try.prog w = .ok (.string (datS h)) w :=
  run_convert_bytes_arg w 22 5 Try.underlying22 Try.underlying5 b 0 h.len cap _ (by simp) (fun i hi => by rw [dat_get h i hi, Nat.zero_add]; exact ha.cell hi) 9 Try.underlying9

theorem two_new (w : World) (c1 c2 : Array Value) (t : TypeId) : Cl ((w.alloc (.cells c1 t)).alloc (.cells c2 t)).drew w.heap.size c1.toList ∧ Cl ((w.alloc (.cells c1 t)).alloc (.cells c2 t)).drew (w.heap.size + 1) c2.toList ∧ Below w.heap.size w ((w.alloc (.cells c1 t)).alloc (.cells c2 t)).drew := by
  refine ⟨(Cl.new).below ((Below.refl _ _).alloc (Nat.le_refl _) _).drew, ?_, (((Below.refl _ _).alloc (Nat.le_refl _) _).alloc (by simp) _).drew⟩
  have h := (Cl.new (w := w.alloc (.cells c1 t)) (vs := c2) (t := t)).below (Below.refl _ _).drew
  simp only [World.size_alloc] at h
  exact h
def regAt (V : Nat → VV) (R1 R2 : Nat → Int) (i : Nat) : Bool := (V i).s || decide (R1 i = R2 i)
def regsEq (V : Nat → VV) (R1 R2 : Nat → Int) (n : Nat) : Bool := (List.range n).all (regAt V R1 R2)
def hpAt (S : Nat → HS) (H1 H2 : Nat → HeapV) (i : Nat) : Bool := decide ((H1 i).base = (H2 i).base) && ((S i).s || datEq (H1 i) (H2 i))
def hpsEq (S : Nat → HS) (H1 H2 : Nat → HeapV) (n : Nat) : Bool := (List.range n).all (hpAt S H1 H2)

set_option maxHeartbeats 1000000 in
theorem bytesEqual_any (h1 h2 : HeapV) (b1 b2 c1 c2 : Nat) (w : World) (a1 : Arr w b1 h1.len (numF .u8 h1.dat)) (a2 : Arr w b2 h2.len (numF .u8 h2.dat)) :
    Calls Try.prog 125 #[.slice (some ⟨b1, 0, none⟩) h1.len c1, .slice (some ⟨b2, 0, none⟩) h2.len c2] w fun e w' => e = .returned (.bool (datEq h1 h2)) ∧ w' = w := by
  have r1 := conv_dat h1 b1 c1 w a1
  have r2 := conv_dat h2 b2 c2 w a2
  clear a1 a2
  go_enter Try.func125, Try.ntmps125
  go_wp2
  go_ret
  exact ⟨rfl, rfl⟩

set_option maxRecDepth 20000 in
set_option maxHeartbeats 4000000 in
theorem samePublicRegs_any (bV cV : Nat) (V : Nat → VV) (bR1 cR1 : Nat) (R1 : Nat → Int) (z1 c1 hz1 hc1 : Bool) (aH1 : Option Addr) (nH1 cH1 : Nat) (pc1 st1 : Int) (aO1 : Option Addr) (nO1 cO1 : Nat) (bR2 cR2 : Nat) (R2 : Nat → Int) (z2 c2 hz2 hc2 : Bool) (aH2 : Option Addr) (nH2 cH2 : Nat) (pc2 st2 : Int) (aO2 : Option Addr) (nO2 cO2 : Nat) (w : World)
    (h1 : Arr w bV (8 * 6) (vF V)) (h2 : Arr w bR1 8 (numF .u64 R1)) (h3 : Arr w bR2 8 (numF .u64 R2)) :
    Calls Try.prog 88 #[.slice (some ⟨bV, 0, none⟩) 8 cV, .agg #[.slice (some ⟨bR1, 0, none⟩) 8 cR1, .bool z1, .bool c1, .bool hz1, .bool hc1, .slice aH1 nH1 cH1, .int .i64 pc1, .int .i64 st1, .slice aO1 nO1 cO1], .agg #[.slice (some ⟨bR2, 0, none⟩) 8 cR2, .bool z2, .bool c2, .bool hz2, .bool hc2, .slice aH2 nH2 cH2, .int .i64 pc2, .int .i64 st2, .slice aO2 nO2 cO2]] w fun e w' => e = .returned (.bool (regsEq V R1 R2 8)) ∧ Below w.heap.size w w' := by
  have l1 := h1.lt
  have l2 := h2.lt
  have l3 := h3.lt
  have H1 : Hid (Arr w bV (8 * 6) (vF V)) := h1
  have H2 : Hid (Arr w bR1 8 (numF .u64 R1)) := h2
  have H3 : Hid (Arr w bR2 8 (numF .u64 R2)) := h3
  clear h1 h2 h3
  go_enter Try.func88, Try.ntmps88
  go_wp2
  go_loopw [11] (fun i wr => ∃ k : Nat, k ≤ 8 ∧ i = .int .i64 k ∧ Below w.heap.size w wr ∧ w.heap.size + 1 < wr.heap.size ∧ wr.cell? ⟨w.heap.size, 0, none⟩ = some (.slice (some ⟨bR1, 0, none⟩) 8 cR1) ∧ wr.cell? ⟨w.heap.size + 1, 0, none⟩ = some (.slice (some ⟨bR2, 0, none⟩) 8 cR2) ∧ ∀ i, i < k → regAt V R1 R2 i = true) (fun i _ => 8 - (intOf i).toNat)
  case atStart => exact ⟨0, Nat.zero_le _, rfl, ((Below.refl _ _).alloc (Nat.le_refl _) _).alloc (by simp) _, by simp, by simp [go_sem], by simp [go_sem], fun i hi => by omega⟩
  case round =>
    obtain ⟨k, hk, rfl, hbr, hzr, x0, y0, hall⟩ := hrel
    have HK : Hid (∀ i, i < k → regAt V R1 R2 i = true) := hall
    have HBR : Hid (Below w.heap.size w wr) := hbr
    clear hall
    by_cases hlt : k < 8
    · have g0 := (hbr.cell (p := ⟨bV, k * 6, none⟩) l1).trans (H1.out.cell (i := k * 6 + 0) (by omega) |>.trans (congrArg some (vF_at V k 0 (by omega))))
      have g1 := (hbr.cell (p := ⟨bV, k * 6 + 1, none⟩) l1).trans (H1.out.cell (i := k * 6 + 1) (by omega) |>.trans (congrArg some (vF_at V k 1 (by omega))))
      have g2 := (hbr.cell (p := ⟨bV, k * 6 + 2, none⟩) l1).trans (H1.out.cell (i := k * 6 + 2) (by omega) |>.trans (congrArg some (vF_at V k 2 (by omega))))
      have g3 := (hbr.cell (p := ⟨bV, k * 6 + 3, none⟩) l1).trans (H1.out.cell (i := k * 6 + 3) (by omega) |>.trans (congrArg some (vF_at V k 3 (by omega))))
      have g4 := (hbr.cell (p := ⟨bV, k * 6 + 4, none⟩) l1).trans (H1.out.cell (i := k * 6 + 4) (by omega) |>.trans (congrArg some (vF_at V k 4 (by omega))))
      have g5 := (hbr.cell (p := ⟨bV, k * 6 + 5, none⟩) l1).trans (H1.out.cell (i := k * 6 + 5) (by omega) |>.trans (congrArg some (vF_at V k 5 (by omega))))
      have r1 := (hbr.cell (p := ⟨bR1, k, none⟩) l2).trans (H2.out.cell (i := k) (by omega))
      have r2 := (hbr.cell (p := ⟨bR2, k, none⟩) l3).trans (H3.out.cell (i := k) (by omega))
      simp only [vC, numF] at g0 g1 g2 g3 g4 g5 r1 r2
      have l2' : bR1 < wr.heap.size := Nat.lt_of_lt_of_le l2 hbr.size
      have l3' : bR2 < wr.heap.size := Nat.lt_of_lt_of_le l3 hbr.size
      have hzr' : w.heap.size < wr.heap.size := by omega
      clear hbr
      go_upto_region 4 with fail
      cases hs : (V k).s with
      | true =>
        go_quiet (fail)
        go_wp2
        go_roundw
        case rel => exact ⟨k + 1, by omega, by go_num, below_drewN (HBR.out.alloc HBR.out.size _) _, by go_simp, by go_simp, by go_simp, upto_step HK.out (by simp [regAt, hs])⟩
        case measure => simp [intOf]; omega
      | false =>
        by_cases he : R1 k = R2 k
        · go_quiet (fail)
          go_wp2
          go_roundw
          case rel => exact ⟨k + 1, by omega, by go_num, below_drewN (HBR.out.alloc HBR.out.size _) _, by go_simp, by go_simp, by go_simp, upto_step HK.out (by simp [regAt, he])⟩
          case measure => simp [intOf]; omega
        · go_quiet (fail)
          go_wp2
          go_ret
          exact ⟨ret_bool (all_no (p := regAt V R1 R2) hlt (by simp [regAt, hs, he])).symm, below_drewN (HBR.out.alloc HBR.out.size _) _⟩
    · obtain rfl : k = 8 := by omega
      go_wp2
      go_ret
      exact ⟨ret_bool (all_yes (p := regAt V R1 R2) HK.out).symm, hbr⟩

set_option maxRecDepth 20000 in
set_option maxHeartbeats 4000000 in
theorem samePublicHeaps_any (bS cS n : Nat) (S : Nat → HS) (aR1 : Option Addr) (nR1 cR1 : Nat) (z1 c1 hz1 hc1 : Bool) (B1 : Nat) (H1 : Nat → HeapV) (blk1 : Nat → Nat) (pc1 st1 : Int) (aO1 : Option Addr) (nO1 cO1 : Nat) (aR2 : Option Addr) (nR2 cR2 : Nat) (z2 c2 hz2 hc2 : Bool) (B2 : Nat) (H2 : Nat → HeapV) (blk2 : Nat → Nat) (pc2 st2 : Int) (aO2 : Option Addr) (nO2 cO2 : Nat) (w : World) (ln : n ≤ 8)
    (h1 : Arr w bS (n * 3) (hsF S)) (h2 : Copied w B1 n H1 blk1) (h3 : Copied w B2 n H2 blk2) :
    Calls Try.prog 89 #[.slice (some ⟨bS, 0, none⟩) n cS, .agg #[.slice aR1 nR1 cR1, .bool z1, .bool c1, .bool hz1, .bool hc1, .slice (some ⟨B1, 0, none⟩) n n, .int .i64 pc1, .int .i64 st1, .slice aO1 nO1 cO1], .agg #[.slice aR2 nR2 cR2, .bool z2, .bool c2, .bool hz2, .bool hc2, .slice (some ⟨B2, 0, none⟩) n n, .int .i64 pc2, .int .i64 st2, .slice aO2 nO2 cO2]] w fun e w' => e = .returned (.bool (hpsEq S H1 H2 n)) ∧ Below w.heap.size w w' := by
  have l1 := h1.lt
  have l2 := h2.1.lt
  have l3 := h3.1.lt
  have A1 : Hid (Arr w bS (n * 3) (hsF S)) := h1
  have A2 : Hid (Copied w B1 n H1 blk1) := h2
  have A3 : Hid (Copied w B2 n H2 blk2) := h3
  clear h1 h2 h3
  go_enter Try.func89, Try.ntmps89
  go_wp2
  go_loopw [13] (fun i wr => ∃ k : Nat, k ≤ n ∧ i = .int .i64 k ∧ Below w.heap.size w wr ∧ w.heap.size + 1 < wr.heap.size ∧ wr.cell? ⟨w.heap.size, 5, none⟩ = some (.slice (some ⟨B1, 0, none⟩) n n) ∧ wr.cell? ⟨w.heap.size + 1, 5, none⟩ = some (.slice (some ⟨B2, 0, none⟩) n n) ∧ ∀ i, i < k → hpAt S H1 H2 i = true) (fun i _ => n - (intOf i).toNat)
  case atStart => exact ⟨0, Nat.zero_le _, rfl, ((Below.refl _ _).alloc (Nat.le_refl _) _).alloc (by simp) _, by simp, by simp [go_sem], by simp [go_sem], fun i hi => by omega⟩
  case round =>
    obtain ⟨k, hk, rfl, hbr, hzr, x0, y0, hall⟩ := hrel
    have HK : Hid (∀ i, i < k → hpAt S H1 H2 i = true) := hall
    have HBR : Hid (Below w.heap.size w wr) := hbr
    clear hall
    by_cases hlt : k < n
    · have s0 := (hbr.cell (p := ⟨bS, k * 3, none⟩) l1).trans (A1.out.cell (i := k * 3 + 0) (by omega) |>.trans (congrArg some (hsF_at S k 0 (by omega))))
      have s1 := (hbr.cell (p := ⟨bS, k * 3 + 1, none⟩) l1).trans (A1.out.cell (i := k * 3 + 1) (by omega) |>.trans (congrArg some (hsF_at S k 1 (by omega))))
      have s2 := (hbr.cell (p := ⟨bS, k * 3 + 2, none⟩) l1).trans (A1.out.cell (i := k * 3 + 2) (by omega) |>.trans (congrArg some (hsF_at S k 2 (by omega))))
      simp only [hsC] at s0 s1 s2
      go_upto_region 4 with fail
      obtain ⟨wa, hwa, hba, hx⟩ : ∃ v, wr.alloc (.cells #[.int .i64 (S k).size, .bool (S k).s, .bool (S k).w] 98) = v ∧ Below wr.heap.size wr v ∧ Cl v wr.heap.size [.int .i64 (S k).size, .bool (S k).s, .bool (S k).w] := ⟨_, rfl, (Below.refl _ _).alloc (Nat.le_refl _) _, Cl.new⟩
      rw [hwa]
      have HX : Hid (Cl wa wr.heap.size [.int .i64 (S k).size, .bool (S k).s, .bool (S k).w]) := hx
      have HBA : Hid (Below w.heap.size w wa) := HBR.out.trans (hba.mono HBR.out.size)
      have hza : w.heap.size + 1 < wa.heap.size := Nat.lt_of_lt_of_le hzr hba.size
      have x5 := (hba.cell (p := ⟨w.heap.size, 5, none⟩) (by simp; omega)).trans x0
      have y5 := (hba.cell (p := ⟨w.heap.size + 1, 5, none⟩) hzr).trans y0
      clear hwa hx hba x0 y0 s0 s1 s2 hbr
      have p5 : ∀ w', Below wa.heap.size wa w' → w'.cell? ⟨w.heap.size, 5, none⟩ = some (.slice (some ⟨B1, 0, none⟩) n n) := fun w' h => (h.cell (p := ⟨w.heap.size, 5, none⟩) (by simp; omega)).trans x5
      have q5 : ∀ w', Below wa.heap.size wa w' → w'.cell? ⟨w.heap.size + 1, 5, none⟩ = some (.slice (some ⟨B2, 0, none⟩) n n) := fun w' h => (h.cell (p := ⟨w.heap.size + 1, 5, none⟩) hza).trans y5
      have C1 : Hid (Copied wa B1 n H1 blk1) := A2.out.below HBA.out (Nat.le_refl _)
      have C2 : Hid (Copied wa B2 n H2 blk2) := A3.out.below HBA.out (Nat.le_refl _)
      have g10 : ∀ w', Below wa.heap.size wa w' → w'.cell? ⟨B1, k * 3, none⟩ = some (.int .u64 (H1 k).base) := fun w' h => ((C1.out.below h (Nat.le_refl _)).1.cell (i := k * 3 + 0) (by omega)).trans (congrArg some (heapF_0 _ k))
      have g11 : ∀ w', Below wa.heap.size wa w' → w'.cell? ⟨B1, k * 3 + 1, none⟩ = some (.bool (H1 k).wr) := fun w' h => ((C1.out.below h (Nat.le_refl _)).1.cell (i := k * 3 + 1) (by omega)).trans (congrArg some (heapF_1 _ k))
      have g12 : ∀ w', Below wa.heap.size wa w' → w'.cell? ⟨B1, k * 3 + 2, none⟩ = some (.slice (some ⟨blk1 k, 0, none⟩) (H1 k).len (H1 k).len) := fun w' h => ((C1.out.below h (Nat.le_refl _)).1.cell (i := k * 3 + 2) (by omega)).trans (congrArg some (heapF_2 _ k))
      have g20 : ∀ w', Below wa.heap.size wa w' → w'.cell? ⟨B2, k * 3, none⟩ = some (.int .u64 (H2 k).base) := fun w' h => ((C2.out.below h (Nat.le_refl _)).1.cell (i := k * 3 + 0) (by omega)).trans (congrArg some (heapF_0 _ k))
      have g21 : ∀ w', Below wa.heap.size wa w' → w'.cell? ⟨B2, k * 3 + 1, none⟩ = some (.bool (H2 k).wr) := fun w' h => ((C2.out.below h (Nat.le_refl _)).1.cell (i := k * 3 + 1) (by omega)).trans (congrArg some (heapF_1 _ k))
      have g22 : ∀ w', Below wa.heap.size wa w' → w'.cell? ⟨B2, k * 3 + 2, none⟩ = some (.slice (some ⟨blk2 k, 0, none⟩) (H2 k).len (H2 k).len) := fun w' h => ((C2.out.below h (Nat.le_refl _)).1.cell (i := k * 3 + 2) (by omega)).trans (congrArg some (heapF_2 _ k))
      have hk3 : (k : Int) < n := by omega
      go_cut [9, 10] (fun s9 s10 wx => ∃ b9 b10 : Nat, s9 = .pointer (some ⟨b9, 0, none⟩) ∧ s10 = .pointer (some ⟨b10, 0, none⟩) ∧ Below wa.heap.size wa wx ∧ Cl wx b9 [.int .u64 (H1 k).base, .bool (H1 k).wr, .slice (some ⟨blk1 k, 0, none⟩) (H1 k).len (H1 k).len] ∧ Cl wx b10 [.int .u64 (H2 k).base, .bool (H2 k).wr, .slice (some ⟨blk2 k, 0, none⟩) (H2 k).len (H2 k).len])
      case first =>
        refine wp_region_held_drew (S := fun w' => Below wa.heap.size wa w') (by kernel_rfl) (Below.refl _ _).drew (fun _ => ?_)
        refine wpAnyH_tk 0 ?k1v rfl ?k1y ?k1r
        case k1y => (intro w hSw; (try dsimp only at hSw); go_simp; try with_reducible rfl)
        try go_frame
        refine wpAnyH_tk 1 ?k2v rfl ?k2y ?k2r
        case k2y => (intro w hSw; (try dsimp only at hSw); go_simp; try with_reducible rfl)
        try go_frame
        refine wpAnyH_tk 2 ?k3v rfl ?k3y ?k3r
        case k3y => (intro w hSw; (try dsimp only at hSw); go_simp; try with_reducible rfl)
        try go_frame
        refine wpAnyH_tk 3 ?k4v rfl ?k4y ?k4r
        case k4y => (intro w hSw; (try dsimp only at hSw); go_simp; try with_reducible rfl)
        try go_frame
        refine wpAnyH_tk 4 ?k5v rfl ?k5y ?k5r
        case k5y => (intro w hSw; (try dsimp only at hSw); go_simp; try with_reducible rfl)
        try go_frame
        refine wpAnyH_tk 5 ?k6v rfl ?k6y ?k6r
        case k6y => (intro w hSw; (try dsimp only at hSw); go_simp; try with_reducible rfl)
        try go_frame
        refine wpAnyH_tk 6 ?k7v rfl ?k7y ?k7r
        case k7y => (intro w hSw; (try dsimp only at hSw); go_simp; try with_reducible rfl)
        try go_frame
        refine wpAnyH_tk 7 ?k8v rfl ?k8y ?k8r
        case k8y => (intro w hSw; (try dsimp only at hSw); go_simp; try with_reducible rfl)
        try go_frame
        refine wpAnyH_tk 8 ?k9v rfl ?k9y ?k9r
        case k9y => (intro w hSw; (try dsimp only at hSw); go_simp; try with_reducible rfl)
        try go_frame
        refine wpAnyH_tk 9 ?k10v rfl ?k10y ?k10r
        case k10y => (intro w hSw; (try dsimp only at hSw); go_simp; try with_reducible rfl)
        try go_frame
        have hbd : Below wa.heap.size wa wa.drew := (Below.refl _ _).drew
        refine wpAnyH_ready (rs := [10, 11]) (by kernel_rfl) (by simp) ?_
        refine AllReadyH.cons rfl (fun KK hK => ?_) (AllReadyH.cons rfl (fun KK hK => ?_) AllReadyH.nil)
        · go_simp
          refine hK.out _ _ (((Below.refl _ _).alloc (Nat.le_refl _) _).drew) (fun _ => ?_)
          clear hK KK
          try go_frame
          refine wpAnyH_ready (rs := [11]) (by kernel_rfl) (by simp) ?_
          refine AllReadyH.cons rfl (fun KK hK => ?_) AllReadyH.nil
          go_simp
          refine hK.out _ _ (((Below.refl _ _).alloc (Nat.le_refl _) _).alloc (by simp) _).drew (fun _ => ?_)
          clear hK KK
          try go_frame
          refine wpAnyH_ready (rs := [12]) (by kernel_rfl) (by simp) ?_
          refine AllReadyH.cons rfl (fun KK hK => ?_) AllReadyH.nil
          go_simp
          refine hK.out _ _ (((Below.refl _ _).alloc (Nat.le_refl _) _).alloc (by simp) _).drew (fun _ => ?_)
          clear hK KK
          try go_frame
          refine wpAnyH_ready (rs := [13]) (by kernel_rfl) (by simp) ?_
          refine AllReadyH.cons rfl (fun KK hK => ?_) AllReadyH.nil
          go_simp
          refine hK.out _ _ (((Below.refl _ _).alloc (Nat.le_refl _) _).alloc (by simp) _).drew (fun _ => ?_)
          clear hK KK
          refine wpAnyH_done (by kernel_rfl) ?_ _
          go_wp2_with fail
          go_meet
          exact ⟨_, _, rfl, rfl, (two_new _ _ _ _).2.2, (two_new _ _ _ _).1, (two_new _ _ _ _).2.1⟩
        · go_simp
          refine hK.out _ _ (((Below.refl _ _).alloc (Nat.le_refl _) _).drew) (fun _ => ?_)
          clear hK KK
          try go_frame
          refine wpAnyH_ready (rs := [10]) (by kernel_rfl) (by simp) ?_
          refine AllReadyH.cons rfl (fun KK hK => ?_) AllReadyH.nil
          go_simp
          refine hK.out _ _ (((Below.refl _ _).alloc (Nat.le_refl _) _).alloc (by simp) _).drew (fun _ => ?_)
          clear hK KK
          try go_frame
          refine wpAnyH_ready (rs := [12]) (by kernel_rfl) (by simp) ?_
          refine AllReadyH.cons rfl (fun KK hK => ?_) AllReadyH.nil
          go_simp
          refine hK.out _ _ (((Below.refl _ _).alloc (Nat.le_refl _) _).alloc (by simp) _).drew (fun _ => ?_)
          clear hK KK
          try go_frame
          refine wpAnyH_ready (rs := [13]) (by kernel_rfl) (by simp) ?_
          refine AllReadyH.cons rfl (fun KK hK => ?_) AllReadyH.nil
          go_simp
          refine hK.out _ _ (((Below.refl _ _).alloc (Nat.le_refl _) _).alloc (by simp) _).drew (fun _ => ?_)
          clear hK KK
          refine wpAnyH_done (by kernel_rfl) ?_ _
          go_wp2_with fail
          go_meet
          exact ⟨_, _, rfl, rfl, (two_new _ _ _ _).2.2, (two_new _ _ _ _).2.1, (two_new _ _ _ _).1⟩
      case rest =>
        obtain ⟨b9, b10, rfl, rfl, hbx, hc1, hc2⟩ := hcut
        have HBX : Hid (Below w.heap.size w wc) := HBA.out.trans (hbx.mono HBA.out.size)
        have D1 : Hid (Copied wc B1 n H1 blk1) := C1.out.below hbx (Nat.le_refl _)
        have D2 : Hid (Copied wc B2 n H2 blk2) := C2.out.below hbx (Nat.le_refl _)
        have e0 : wc.cell? ⟨b9, 0, none⟩ = some (.int .u64 (H1 k).base) := hc1.2 0 (by simp)
        have e2 : wc.cell? ⟨b9, 2, none⟩ = some (.slice (some ⟨blk1 k, 0, none⟩) (H1 k).len (H1 k).len) := hc1.2 2 (by simp)
        have f0 : wc.cell? ⟨b10, 0, none⟩ = some (.int .u64 (H2 k).base) := hc2.2 0 (by simp)
        have f2 : wc.cell? ⟨b10, 2, none⟩ = some (.slice (some ⟨blk2 k, 0, none⟩) (H2 k).len (H2 k).len) := hc2.2 2 (by simp)
        have t1 : wc.cell? ⟨wr.heap.size, 1, none⟩ = some (.bool (S k).s) := (HX.out.below hbx).2 1 (by simp)
        have u5 := p5 _ hbx
        have v5 := q5 _ hbx
        have hzc : w.heap.size + 1 < wc.heap.size := Nat.lt_of_lt_of_le hza hbx.size
        clear hbx hc1 hc2 p5 q5 x5 y5 g10 g11 g12 g20 g21 g22
        by_cases hb : (H1 k).base = (H2 k).base
        · cases hs : (S k).s with
          | true =>
            go_wp2
            go_roundw
            case rel => exact ⟨k + 1, by omega, by go_num, HBX.out, hzc, u5, v5, upto_step HK.out (by simp [hpAt, hb, hs])⟩
            case measure => simp [intOf]; omega
          | false =>
            go_wp2_with fail
            refine (bytesEqual_any (H1 k) (H2 k) _ _ _ _ _ (D1.out.2.1 k hlt).2 (D2.out.2.1 k hlt).2).mono ?_
            rintro e w' ⟨rfl, rfl⟩
            cases hd : datEq (H1 k) (H2 k) with
            | true =>
              go_wp2
              go_roundw
              case rel => exact ⟨k + 1, by omega, by go_num, HBX.out, hzc, u5, v5, upto_step HK.out (by simp [hpAt, hb, hd])⟩
              case measure => simp [intOf]; omega
            | false =>
              go_wp2
              go_ret
              exact ⟨ret_bool (all_no (p := hpAt S H1 H2) hlt (by simp [hpAt, hs, hd])).symm, HBX.out⟩
        · go_wp2
          go_ret
          exact ⟨ret_bool (all_no (p := hpAt S H1 H2) hlt (by simp [hpAt, hb])).symm, HBX.out⟩
    · obtain rfl : k = n := by omega
      go_wp2
      go_ret
      exact ⟨ret_bool (all_yes (p := hpAt S H1 H2) HK.out).symm, hbr⟩
end Go.Proofs.Ytjnooklalbcamaa
