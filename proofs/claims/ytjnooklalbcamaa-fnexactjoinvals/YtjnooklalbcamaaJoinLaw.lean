/- FnExactJoinVals: proved. (Written by mkjoinlaw.py.) -/
import Derived.Test.YtjnooklalbcamaaOpenVals
import Derived.Test.YtjnooklalbcamaaRegL
import Derived.Deep.RegionHeld3
import Derived.Deep.Cut
import Derived.Deep.DeepCutAuto
import Derived.ProofKit
import Derived.OpenShut
import Derived.ChangeOld
import Derived.Below
namespace Go.Proofs.Ytjnooklalbcamaa
open Go.ChangeShapes Go.WideShapes Go.ChangeAt Go.RowKit Go.Deep

theorem join_own : ownKnob Try.prog.godebug = none := by kernel_rfl
theorem join_laidOut : laidOutB Try.prog = true := by kernel_rfl
/-- The cells of a Val. -/
def valC (x : VV) : Nat → Value
  | 0 => .int .i64 x.k
  | 1 => .bool x.s
  | 2 => .int .i64 x.m
  | 3 => .int .i64 x.h
  | 4 => .int .i64 x.lo
  | _ => .int .i64 x.hi
def val0 : Nat → Value := valC ⟨0, false, 0, 0, 0, 0⟩
theorem val_new (w : World) : Arr (w.alloc (.cells #[.int .i64 0, .bool false, .int .i64 0, .int .i64 0, .int .i64 0, .int .i64 0] 24)) w.heap.size 6 val0 := by
  refine ⟨by simp, fun i => by simp [go_sem], fun i hi => ?_⟩
  match i, hi with
  | 0, _ => simp [go_sem, val0, valC]
  | 1, _ => simp [go_sem, val0, valC]
  | 2, _ => simp [go_sem, val0, valC]
  | 3, _ => simp [go_sem, val0, valC]
  | 4, _ => simp [go_sem, val0, valC]
  | 5, _ => simp [go_sem, val0, valC]
theorem val_put {W w : World} {b : Nat} {f : Nat → Value} (x : VV) (h : Arr w b 6 f) (hb : Below W.heap.size W w) (hW : W.heap.size ≤ b) :
    Arr ((((((w.setCell ⟨b, 0, none⟩ (.int .i64 x.k)).setCell ⟨b, 1, none⟩ (.bool x.s)).setCell ⟨b, 2, none⟩ (.int .i64 x.m)).setCell ⟨b, 3, none⟩ (.int .i64 x.h)).setCell ⟨b, 4, none⟩ (.int .i64 x.lo)).setCell ⟨b, 5, none⟩ (.int .i64 x.hi)) b 6 (valC x) ∧
    Below W.heap.size W ((((((w.setCell ⟨b, 0, none⟩ (.int .i64 x.k)).setCell ⟨b, 1, none⟩ (.bool x.s)).setCell ⟨b, 2, none⟩ (.int .i64 x.m)).setCell ⟨b, 3, none⟩ (.int .i64 x.h)).setCell ⟨b, 4, none⟩ (.int .i64 x.lo)).setCell ⟨b, 5, none⟩ (.int .i64 x.hi)) := by
  refine ⟨?_, ?_⟩
  · refine (h.setCells 0 [.int .i64 x.k, .bool x.s, .int .i64 x.m, .int .i64 x.h, .int .i64 x.lo, .int .i64 x.hi] (by simp)).congr fun i hi => ?_
    match i, hi with
    | 0, _ => simp [valC]
    | 1, _ => simp [valC]
    | 2, _ => simp [valC]
    | 3, _ => simp [valC]
    | 4, _ => simp [valC]
    | 5, _ => simp [valC]
  · exact below_setCells hW [.int .i64 x.k, .bool x.s, .int .i64 x.m, .int .i64 x.h, .int .i64 x.lo, .int .i64 x.hi] 0 hb

theorem two_cells_a (w : World) (x y : VV) : ∀ i, i < 6 → ((w.alloc (.cells #[.int .i64 x.k, .bool x.s, .int .i64 x.m, .int .i64 x.h, .int .i64 x.lo, .int .i64 x.hi] 70)).alloc (.cells #[.int .i64 y.k, .bool y.s, .int .i64 y.m, .int .i64 y.h, .int .i64 y.lo, .int .i64 y.hi] 70)).cell? ⟨w.heap.size, i, none⟩ = some (valC x i) := by
  intro i hi
  rw [World.cell?_alloc_lt _ _ _ (by simp)]
  match i, hi with
  | 0, _ => simp [go_sem, valC]
  | 1, _ => simp [go_sem, valC]
  | 2, _ => simp [go_sem, valC]
  | 3, _ => simp [go_sem, valC]
  | 4, _ => simp [go_sem, valC]
  | 5, _ => simp [go_sem, valC]
theorem two_cells_b (w : World) (x y : VV) : ∀ i, i < 6 → ((w.alloc (.cells #[.int .i64 x.k, .bool x.s, .int .i64 x.m, .int .i64 x.h, .int .i64 x.lo, .int .i64 x.hi] 70)).alloc (.cells #[.int .i64 y.k, .bool y.s, .int .i64 y.m, .int .i64 y.h, .int .i64 y.lo, .int .i64 y.hi] 70)).cell? ⟨w.heap.size + 1, i, none⟩ = some (valC y i) := by
  intro i hi
  match i, hi with
  | 0, _ => simp [go_sem, valC]
  | 1, _ => simp [go_sem, valC]
  | 2, _ => simp [go_sem, valC]
  | 3, _ => simp [go_sem, valC]
  | 4, _ => simp [go_sem, valC]
  | 5, _ => simp [go_sem, valC]

set_option maxHeartbeats 4000000 in
theorem lawJoin_walk (k : Int) (s : Bool) (m h lo hi : Int) (k' : Int) (s' : Bool) (m' h' lo' hi' : Int) (w : World) :
    Calls Try.prog 7 #[.agg #[.int .i64 k, .bool s, .int .i64 m, .int .i64 h, .int .i64 lo, .int .i64 hi], .agg #[.int .i64 k', .bool s', .int .i64 m', .int .i64 h', .int .i64 lo', .int .i64 hi']] w fun e w' => e = .returned (.bool true) ∧ Below w.heap.size w w' := by
  generalize hj : joinV ⟨k, s, m, h, lo, hi⟩ ⟨k', s', m', h', lo', hi'⟩ = J
  obtain ⟨jk, js, jm, jh, jlo, jhi⟩ := J
  have HJ : Hid (joinV ⟨k, s, m, h, lo, hi⟩ ⟨k', s', m', h', lo', hi'⟩ = ⟨jk, js, jm, jh, jlo, jhi⟩) := hj
  clear hj
  go_enter Try.func7, Try.ntmps7
  go_upto_region 1 with fail
  obtain ⟨w1, hw1, hb1, z1, z2, ca, cb⟩ : ∃ w1, (w.alloc (.cells #[.int .i64 k, .bool s, .int .i64 m, .int .i64 h, .int .i64 lo, .int .i64 hi] 70)).alloc (.cells #[.int .i64 k', .bool s', .int .i64 m', .int .i64 h', .int .i64 lo', .int .i64 hi'] 70) = w1 ∧ Below w.heap.size w w1 ∧ w.heap.size < w1.heap.size ∧ w.heap.size + 1 < w1.heap.size ∧ (∀ i, i < 6 → w1.cell? ⟨w.heap.size, i, none⟩ = some (valC ⟨k, s, m, h, lo, hi⟩ i)) ∧ (∀ i, i < 6 → w1.cell? ⟨w.heap.size + 1, i, none⟩ = some (valC ⟨k', s', m', h', lo', hi'⟩ i)) :=
    ⟨_, rfl, ((Below.refl _ _).alloc (Nat.le_refl _) _).alloc (by simp) _, by simp; omega, by simp, two_cells_a w ⟨k, s, m, h, lo, hi⟩ ⟨k', s', m', h', lo', hi'⟩, two_cells_b w ⟨k, s, m, h, lo, hi⟩ ⟨k', s', m', h', lo', hi'⟩⟩
  rw [hw1]
  clear hw1
  have A00 : ∀ w', Below w1.heap.size w1 w' → w'.cell? ⟨w.heap.size, 0, none⟩ = some (.int .i64 k) := fun w' hh => (hh.cell (p := ⟨w.heap.size, 0, none⟩) z1).trans (ca 0 (by omega))
  have A01 : ∀ w', Below w1.heap.size w1 w' → w'.cell? ⟨w.heap.size, 1, none⟩ = some (.bool s) := fun w' hh => (hh.cell (p := ⟨w.heap.size, 1, none⟩) z1).trans (ca 1 (by omega))
  have A02 : ∀ w', Below w1.heap.size w1 w' → w'.cell? ⟨w.heap.size, 2, none⟩ = some (.int .i64 m) := fun w' hh => (hh.cell (p := ⟨w.heap.size, 2, none⟩) z1).trans (ca 2 (by omega))
  have A03 : ∀ w', Below w1.heap.size w1 w' → w'.cell? ⟨w.heap.size, 3, none⟩ = some (.int .i64 h) := fun w' hh => (hh.cell (p := ⟨w.heap.size, 3, none⟩) z1).trans (ca 3 (by omega))
  have A04 : ∀ w', Below w1.heap.size w1 w' → w'.cell? ⟨w.heap.size, 4, none⟩ = some (.int .i64 lo) := fun w' hh => (hh.cell (p := ⟨w.heap.size, 4, none⟩) z1).trans (ca 4 (by omega))
  have A05 : ∀ w', Below w1.heap.size w1 w' → w'.cell? ⟨w.heap.size, 5, none⟩ = some (.int .i64 hi) := fun w' hh => (hh.cell (p := ⟨w.heap.size, 5, none⟩) z1).trans (ca 5 (by omega))
  have A10 : ∀ w', Below w1.heap.size w1 w' → w'.cell? ⟨w.heap.size + 1, 0, none⟩ = some (.int .i64 k') := fun w' hh => (hh.cell (p := ⟨w.heap.size + 1, 0, none⟩) z2).trans (cb 0 (by omega))
  have A11 : ∀ w', Below w1.heap.size w1 w' → w'.cell? ⟨w.heap.size + 1, 1, none⟩ = some (.bool s') := fun w' hh => (hh.cell (p := ⟨w.heap.size + 1, 1, none⟩) z2).trans (cb 1 (by omega))
  have A12 : ∀ w', Below w1.heap.size w1 w' → w'.cell? ⟨w.heap.size + 1, 2, none⟩ = some (.int .i64 m') := fun w' hh => (hh.cell (p := ⟨w.heap.size + 1, 2, none⟩) z2).trans (cb 2 (by omega))
  have A13 : ∀ w', Below w1.heap.size w1 w' → w'.cell? ⟨w.heap.size + 1, 3, none⟩ = some (.int .i64 h') := fun w' hh => (hh.cell (p := ⟨w.heap.size + 1, 3, none⟩) z2).trans (cb 3 (by omega))
  have A14 : ∀ w', Below w1.heap.size w1 w' → w'.cell? ⟨w.heap.size + 1, 4, none⟩ = some (.int .i64 lo') := fun w' hh => (hh.cell (p := ⟨w.heap.size + 1, 4, none⟩) z2).trans (cb 4 (by omega))
  have A15 : ∀ w', Below w1.heap.size w1 w' → w'.cell? ⟨w.heap.size + 1, 5, none⟩ = some (.int .i64 hi') := fun w' hh => (hh.cell (p := ⟨w.heap.size + 1, 5, none⟩) z2).trans (cb 5 (by omega))
  go_cut [5] (fun s wx => ∃ B : Nat, s = .pointer (some ⟨B, 0, none⟩) ∧ w1.heap.size ≤ B ∧ Arr wx B 6 (valC ⟨jk, js, jm, jh, jlo, jhi⟩) ∧ Below w1.heap.size w1 wx)
  case first =>
    have HBd : Hid (Below w1.heap.size w1 w1.drew) := (Below.refl _ _).drew
    refine wp_region_held_drew (S := fun w' => Below w1.heap.size w1 w') (by kernel_rfl) HBd.out (fun hHeld => ?_)
    have hud : Below w1.heap.size w1 w1.drew := HBd.out
    refine wpAnyH_tk 0 ?av0 rfl ?ay0 ?ar0
    case ay0 => (intro w hSw; (try dsimp only at hSw); go_simp; try with_reducible rfl)
    try go_frame
    refine wpAnyH_tk 2 ?av2 rfl ?ay2 ?ar2
    case ay2 => (intro w hSw; (try dsimp only at hSw); go_simp; try with_reducible rfl)
    try go_frame
    generalize w1.drew = ud at hud ⊢
    have HBud : Hid (Below w1.heap.size w1 ud) := hud
    clear hud HBd hHeld
    refine wpAnyH_ready (rs := [1, 5]) (by kernel_rfl) (by simp) ?_
    refine AllReadyH.cons rfl (fun KK hK => ?_) (AllReadyH.cons rfl (fun KK hK => ?_) AllReadyH.nil)
    · skip
      go_simp
      refine (toVal_any k s m h lo hi _).mono ?_
      rintro e ua1 ⟨rfl, hqua1⟩
      have hbua1 : Below w1.heap.size w1 ua1 := HBud.out.trans (hqua1.mono HBud.out.size)
      clear hqua1
      go_wp2_with fail
      have HBua1 : Hid (Below w1.heap.size w1 ua1) := hbua1
      refine hK.out _ _ hbua1 (fun hHeldua1 => ?_)
      clear hK KK hbua1
      try go_frame
      refine wpAnyH_ready (rs := [3, 5]) (by kernel_rfl) (by simp) ?_
      refine AllReadyH.cons rfl (fun KK hK => ?_) (AllReadyH.cons rfl (fun KK hK => ?_) AllReadyH.nil)
      · skip
        go_simp
        refine (toVal_any k' s' m' h' lo' hi' _).mono ?_
        rintro e ua2 ⟨rfl, hqua2⟩
        have hbua2 : Below w1.heap.size w1 ua2 := HBua1.out.trans (hqua2.mono HBua1.out.size)
        clear hqua2
        go_wp2_with fail
        have HBua2 : Hid (Below w1.heap.size w1 ua2) := hbua2
        refine hK.out _ _ hbua2 (fun hHeldua2 => ?_)
        clear hK KK hbua2
        try go_frame
        refine wpAnyH_ready (rs := [4, 5]) (by kernel_rfl) (by simp) ?_
        refine AllReadyH.cons rfl (fun KK hK => ?_) (AllReadyH.cons rfl (fun KK hK => ?_) AllReadyH.nil)
        · skip
          go_simp
          refine (specJoin_any k s m h lo hi k' s' m' h' lo' hi' _).mono ?_
          rintro e ua3 ⟨rfl, hqua3⟩
          have hbua3 : Below w1.heap.size w1 ua3 := HBua2.out.trans (hqua3.mono HBua2.out.size)
          clear hqua3
          go_wp2_with fail
          rw [HJ.out]
          simp only [VV.v]
          have HBua3 : Hid (Below w1.heap.size w1 ua3) := hbua3
          refine hK.out _ _ hbua3 (fun hHeldua3 => ?_)
          clear hK KK hbua3
          try go_frame
          refine wpAnyH_ready (rs := [5]) (by kernel_rfl) (by simp) ?_
          refine AllReadyH.cons rfl (fun KK hK => ?_) AllReadyH.nil
          go_simp
          have hqua4 : Below ua3.heap.size ua3 (ua3.alloc (.cells #[.int .i64 0, .bool false, .int .i64 0, .int .i64 0, .int .i64 0, .int .i64 0] 24)) := (Below.refl _ _).alloc (Nat.le_refl _) _
          have hvua4 : Arr (ua3.alloc (.cells #[.int .i64 0, .bool false, .int .i64 0, .int .i64 0, .int .i64 0, .int .i64 0] 24)) ua3.heap.size 6 val0 := val_new _
          generalize ua3.alloc (.cells #[.int .i64 0, .bool false, .int .i64 0, .int .i64 0, .int .i64 0, .int .i64 0] 24) = ua4 at hqua4 hvua4 ⊢
          have HVua4 : Hid (Arr ua4 ua3.heap.size 6 val0) := hvua4
          have HGua4 : Hid (w1.heap.size ≤ ua3.heap.size) := HBua3.out.size
          clear hvua4
          have hbua4 : Below w1.heap.size w1 ua4 := HBua3.out.trans (hqua4.mono HBua3.out.size)
          clear hqua4
          have HBua4 : Hid (Below w1.heap.size w1 ua4) := hbua4
          refine hK.out _ _ hbua4 (fun hHeldua4 => ?_)
          clear hK KK hbua4
          try go_frame
          have kf : ∀ i, ua4.frozen? ⟨ua3.heap.size, i, none⟩ = false := HVua4.out.free
          have k0 := HVua4.out.cell (i := 0) (by omega)
          have k1 := HVua4.out.cell (i := 1) (by omega)
          have k2 := HVua4.out.cell (i := 2) (by omega)
          have k3 := HVua4.out.cell (i := 3) (by omega)
          have k4 := HVua4.out.cell (i := 4) (by omega)
          have k5 := HVua4.out.cell (i := 5) (by omega)
          have kl := HVua4.out.lt
          refine wpAnyH_ready (rs := [6]) (by kernel_rfl) (by simp) ?_
          refine AllReadyH.cons rfl (fun KK hK => ?_) AllReadyH.nil
          go_simp
          have hE := val_put ⟨jk, js, jm, jh, jlo, jhi⟩ HVua4.out HBua4.out HGua4.out
          refine hK.out _ _ hE.2 (fun hHeldV => ?_)
          clear hK KK
          refine wpAnyH_done (by kernel_rfl) ?_ _
          go_wp2_with fail
          go_meet
          exact ⟨_, rfl, HGua4.out, hE.1, hE.2⟩
        · skip
          go_simp
          have hqua5 : Below ua2.heap.size ua2 (ua2.alloc (.cells #[.int .i64 0, .bool false, .int .i64 0, .int .i64 0, .int .i64 0, .int .i64 0] 24)) := (Below.refl _ _).alloc (Nat.le_refl _) _
          have hvua5 : Arr (ua2.alloc (.cells #[.int .i64 0, .bool false, .int .i64 0, .int .i64 0, .int .i64 0, .int .i64 0] 24)) ua2.heap.size 6 val0 := val_new _
          generalize ua2.alloc (.cells #[.int .i64 0, .bool false, .int .i64 0, .int .i64 0, .int .i64 0, .int .i64 0] 24) = ua5 at hqua5 hvua5 ⊢
          have HVua5 : Hid (Arr ua5 ua2.heap.size 6 val0) := hvua5
          have HGua5 : Hid (w1.heap.size ≤ ua2.heap.size) := HBua2.out.size
          clear hvua5
          have hbua5 : Below w1.heap.size w1 ua5 := HBua2.out.trans (hqua5.mono HBua2.out.size)
          clear hqua5
          have HBua5 : Hid (Below w1.heap.size w1 ua5) := hbua5
          refine hK.out _ _ hbua5 (fun hHeldua5 => ?_)
          clear hK KK hbua5
          try go_frame
          refine wpAnyH_ready (rs := [4]) (by kernel_rfl) (by simp) ?_
          refine AllReadyH.cons rfl (fun KK hK => ?_) AllReadyH.nil
          go_simp
          refine (specJoin_any k s m h lo hi k' s' m' h' lo' hi' _).mono ?_
          rintro e ua6 ⟨rfl, hqua6⟩
          have HVua6 : Hid (Arr ua6 ua2.heap.size 6 val0) := HVua5.out.below hqua6 HVua5.out.lt
          have HGua6 : Hid (w1.heap.size ≤ ua2.heap.size) := HGua5.out
          have hbua6 : Below w1.heap.size w1 ua6 := HBua5.out.trans (hqua6.mono HBua5.out.size)
          clear hqua6
          go_wp2_with fail
          rw [HJ.out]
          simp only [VV.v]
          have HBua6 : Hid (Below w1.heap.size w1 ua6) := hbua6
          refine hK.out _ _ hbua6 (fun hHeldua6 => ?_)
          clear hK KK hbua6
          try go_frame
          have kf : ∀ i, ua6.frozen? ⟨ua2.heap.size, i, none⟩ = false := HVua6.out.free
          have k0 := HVua6.out.cell (i := 0) (by omega)
          have k1 := HVua6.out.cell (i := 1) (by omega)
          have k2 := HVua6.out.cell (i := 2) (by omega)
          have k3 := HVua6.out.cell (i := 3) (by omega)
          have k4 := HVua6.out.cell (i := 4) (by omega)
          have k5 := HVua6.out.cell (i := 5) (by omega)
          have kl := HVua6.out.lt
          refine wpAnyH_ready (rs := [6]) (by kernel_rfl) (by simp) ?_
          refine AllReadyH.cons rfl (fun KK hK => ?_) AllReadyH.nil
          go_simp
          have hE := val_put ⟨jk, js, jm, jh, jlo, jhi⟩ HVua6.out HBua6.out HGua6.out
          refine hK.out _ _ hE.2 (fun hHeldV => ?_)
          clear hK KK
          refine wpAnyH_done (by kernel_rfl) ?_ _
          go_wp2_with fail
          go_meet
          exact ⟨_, rfl, HGua6.out, hE.1, hE.2⟩
      · skip
        go_simp
        have hqua7 : Below ua1.heap.size ua1 (ua1.alloc (.cells #[.int .i64 0, .bool false, .int .i64 0, .int .i64 0, .int .i64 0, .int .i64 0] 24)) := (Below.refl _ _).alloc (Nat.le_refl _) _
        have hvua7 : Arr (ua1.alloc (.cells #[.int .i64 0, .bool false, .int .i64 0, .int .i64 0, .int .i64 0, .int .i64 0] 24)) ua1.heap.size 6 val0 := val_new _
        generalize ua1.alloc (.cells #[.int .i64 0, .bool false, .int .i64 0, .int .i64 0, .int .i64 0, .int .i64 0] 24) = ua7 at hqua7 hvua7 ⊢
        have HVua7 : Hid (Arr ua7 ua1.heap.size 6 val0) := hvua7
        have HGua7 : Hid (w1.heap.size ≤ ua1.heap.size) := HBua1.out.size
        clear hvua7
        have hbua7 : Below w1.heap.size w1 ua7 := HBua1.out.trans (hqua7.mono HBua1.out.size)
        clear hqua7
        have HBua7 : Hid (Below w1.heap.size w1 ua7) := hbua7
        refine hK.out _ _ hbua7 (fun hHeldua7 => ?_)
        clear hK KK hbua7
        try go_frame
        refine wpAnyH_ready (rs := [3]) (by kernel_rfl) (by simp) ?_
        refine AllReadyH.cons rfl (fun KK hK => ?_) AllReadyH.nil
        go_simp
        refine (toVal_any k' s' m' h' lo' hi' _).mono ?_
        rintro e ua8 ⟨rfl, hqua8⟩
        have HVua8 : Hid (Arr ua8 ua1.heap.size 6 val0) := HVua7.out.below hqua8 HVua7.out.lt
        have HGua8 : Hid (w1.heap.size ≤ ua1.heap.size) := HGua7.out
        have hbua8 : Below w1.heap.size w1 ua8 := HBua7.out.trans (hqua8.mono HBua7.out.size)
        clear hqua8
        go_wp2_with fail
        have HBua8 : Hid (Below w1.heap.size w1 ua8) := hbua8
        refine hK.out _ _ hbua8 (fun hHeldua8 => ?_)
        clear hK KK hbua8
        try go_frame
        refine wpAnyH_ready (rs := [4]) (by kernel_rfl) (by simp) ?_
        refine AllReadyH.cons rfl (fun KK hK => ?_) AllReadyH.nil
        go_simp
        refine (specJoin_any k s m h lo hi k' s' m' h' lo' hi' _).mono ?_
        rintro e ua9 ⟨rfl, hqua9⟩
        have HVua9 : Hid (Arr ua9 ua1.heap.size 6 val0) := HVua8.out.below hqua9 HVua8.out.lt
        have HGua9 : Hid (w1.heap.size ≤ ua1.heap.size) := HGua8.out
        have hbua9 : Below w1.heap.size w1 ua9 := HBua8.out.trans (hqua9.mono HBua8.out.size)
        clear hqua9
        go_wp2_with fail
        rw [HJ.out]
        simp only [VV.v]
        have HBua9 : Hid (Below w1.heap.size w1 ua9) := hbua9
        refine hK.out _ _ hbua9 (fun hHeldua9 => ?_)
        clear hK KK hbua9
        try go_frame
        have kf : ∀ i, ua9.frozen? ⟨ua1.heap.size, i, none⟩ = false := HVua9.out.free
        have k0 := HVua9.out.cell (i := 0) (by omega)
        have k1 := HVua9.out.cell (i := 1) (by omega)
        have k2 := HVua9.out.cell (i := 2) (by omega)
        have k3 := HVua9.out.cell (i := 3) (by omega)
        have k4 := HVua9.out.cell (i := 4) (by omega)
        have k5 := HVua9.out.cell (i := 5) (by omega)
        have kl := HVua9.out.lt
        refine wpAnyH_ready (rs := [6]) (by kernel_rfl) (by simp) ?_
        refine AllReadyH.cons rfl (fun KK hK => ?_) AllReadyH.nil
        go_simp
        have hE := val_put ⟨jk, js, jm, jh, jlo, jhi⟩ HVua9.out HBua9.out HGua9.out
        refine hK.out _ _ hE.2 (fun hHeldV => ?_)
        clear hK KK
        refine wpAnyH_done (by kernel_rfl) ?_ _
        go_wp2_with fail
        go_meet
        exact ⟨_, rfl, HGua9.out, hE.1, hE.2⟩
    · skip
      go_simp
      have hqua10 : Below ud.heap.size ud (ud.alloc (.cells #[.int .i64 0, .bool false, .int .i64 0, .int .i64 0, .int .i64 0, .int .i64 0] 24)) := (Below.refl _ _).alloc (Nat.le_refl _) _
      have hvua10 : Arr (ud.alloc (.cells #[.int .i64 0, .bool false, .int .i64 0, .int .i64 0, .int .i64 0, .int .i64 0] 24)) ud.heap.size 6 val0 := val_new _
      generalize ud.alloc (.cells #[.int .i64 0, .bool false, .int .i64 0, .int .i64 0, .int .i64 0, .int .i64 0] 24) = ua10 at hqua10 hvua10 ⊢
      have HVua10 : Hid (Arr ua10 ud.heap.size 6 val0) := hvua10
      have HGua10 : Hid (w1.heap.size ≤ ud.heap.size) := HBud.out.size
      clear hvua10
      have hbua10 : Below w1.heap.size w1 ua10 := HBud.out.trans (hqua10.mono HBud.out.size)
      clear hqua10
      have HBua10 : Hid (Below w1.heap.size w1 ua10) := hbua10
      refine hK.out _ _ hbua10 (fun hHeldua10 => ?_)
      clear hK KK hbua10
      try go_frame
      refine wpAnyH_ready (rs := [1]) (by kernel_rfl) (by simp) ?_
      refine AllReadyH.cons rfl (fun KK hK => ?_) AllReadyH.nil
      go_simp
      refine (toVal_any k s m h lo hi _).mono ?_
      rintro e ua11 ⟨rfl, hqua11⟩
      have HVua11 : Hid (Arr ua11 ud.heap.size 6 val0) := HVua10.out.below hqua11 HVua10.out.lt
      have HGua11 : Hid (w1.heap.size ≤ ud.heap.size) := HGua10.out
      have hbua11 : Below w1.heap.size w1 ua11 := HBua10.out.trans (hqua11.mono HBua10.out.size)
      clear hqua11
      go_wp2_with fail
      have HBua11 : Hid (Below w1.heap.size w1 ua11) := hbua11
      refine hK.out _ _ hbua11 (fun hHeldua11 => ?_)
      clear hK KK hbua11
      try go_frame
      refine wpAnyH_ready (rs := [3]) (by kernel_rfl) (by simp) ?_
      refine AllReadyH.cons rfl (fun KK hK => ?_) AllReadyH.nil
      go_simp
      refine (toVal_any k' s' m' h' lo' hi' _).mono ?_
      rintro e ua12 ⟨rfl, hqua12⟩
      have HVua12 : Hid (Arr ua12 ud.heap.size 6 val0) := HVua11.out.below hqua12 HVua11.out.lt
      have HGua12 : Hid (w1.heap.size ≤ ud.heap.size) := HGua11.out
      have hbua12 : Below w1.heap.size w1 ua12 := HBua11.out.trans (hqua12.mono HBua11.out.size)
      clear hqua12
      go_wp2_with fail
      have HBua12 : Hid (Below w1.heap.size w1 ua12) := hbua12
      refine hK.out _ _ hbua12 (fun hHeldua12 => ?_)
      clear hK KK hbua12
      try go_frame
      refine wpAnyH_ready (rs := [4]) (by kernel_rfl) (by simp) ?_
      refine AllReadyH.cons rfl (fun KK hK => ?_) AllReadyH.nil
      go_simp
      refine (specJoin_any k s m h lo hi k' s' m' h' lo' hi' _).mono ?_
      rintro e ua13 ⟨rfl, hqua13⟩
      have HVua13 : Hid (Arr ua13 ud.heap.size 6 val0) := HVua12.out.below hqua13 HVua12.out.lt
      have HGua13 : Hid (w1.heap.size ≤ ud.heap.size) := HGua12.out
      have hbua13 : Below w1.heap.size w1 ua13 := HBua12.out.trans (hqua13.mono HBua12.out.size)
      clear hqua13
      go_wp2_with fail
      rw [HJ.out]
      simp only [VV.v]
      have HBua13 : Hid (Below w1.heap.size w1 ua13) := hbua13
      refine hK.out _ _ hbua13 (fun hHeldua13 => ?_)
      clear hK KK hbua13
      try go_frame
      have kf : ∀ i, ua13.frozen? ⟨ud.heap.size, i, none⟩ = false := HVua13.out.free
      have k0 := HVua13.out.cell (i := 0) (by omega)
      have k1 := HVua13.out.cell (i := 1) (by omega)
      have k2 := HVua13.out.cell (i := 2) (by omega)
      have k3 := HVua13.out.cell (i := 3) (by omega)
      have k4 := HVua13.out.cell (i := 4) (by omega)
      have k5 := HVua13.out.cell (i := 5) (by omega)
      have kl := HVua13.out.lt
      refine wpAnyH_ready (rs := [6]) (by kernel_rfl) (by simp) ?_
      refine AllReadyH.cons rfl (fun KK hK => ?_) AllReadyH.nil
      go_simp
      have hE := val_put ⟨jk, js, jm, jh, jlo, jhi⟩ HVua13.out HBua13.out HGua13.out
      refine hK.out _ _ hE.2 (fun hHeldV => ?_)
      clear hK KK
      refine wpAnyH_done (by kernel_rfl) ?_ _
      go_wp2_with fail
      go_meet
      exact ⟨_, rfl, HGua13.out, hE.1, hE.2⟩
  case rest =>
  obtain ⟨B5, rfl, g5, v5, b5⟩ := hcut
  have HV5 : Hid (Arr wc B5 6 (valC ⟨jk, js, jm, jh, jlo, jhi⟩)) := v5
  have hB5 : B5 < wc.heap.size := v5.lt
  have z1 : w.heap.size < wc.heap.size := by omega
  have z2 : w.heap.size + 1 < wc.heap.size := by omega
  have ca : ∀ i, i < 6 → wc.cell? ⟨w.heap.size, i, none⟩ = some (valC ⟨k, s, m, h, lo, hi⟩ i) := fun i hi => (b5.cell (p := ⟨w.heap.size, i, none⟩) (by omega)).trans (ca i hi)
  have cb : ∀ i, i < 6 → wc.cell? ⟨w.heap.size + 1, i, none⟩ = some (valC ⟨k', s', m', h', lo', hi'⟩ i) := fun i hi => (b5.cell (p := ⟨w.heap.size + 1, i, none⟩) (by omega)).trans (cb i hi)
  have hbc : Below w.heap.size w wc := hb1.trans (b5.mono hb1.size)
  clear A00 A01 A02 A03 A04 A05 A10 A11 A12 A13 A14 A15 v5 b5
  go_upto_region 2 with fail
  generalize wc = w2 at *
  have A00 : ∀ w', Below w2.heap.size w2 w' → w'.cell? ⟨w.heap.size, 0, none⟩ = some (.int .i64 k) := fun w' hh => (hh.cell (p := ⟨w.heap.size, 0, none⟩) z1).trans (ca 0 (by omega))
  have A01 : ∀ w', Below w2.heap.size w2 w' → w'.cell? ⟨w.heap.size, 1, none⟩ = some (.bool s) := fun w' hh => (hh.cell (p := ⟨w.heap.size, 1, none⟩) z1).trans (ca 1 (by omega))
  have A02 : ∀ w', Below w2.heap.size w2 w' → w'.cell? ⟨w.heap.size, 2, none⟩ = some (.int .i64 m) := fun w' hh => (hh.cell (p := ⟨w.heap.size, 2, none⟩) z1).trans (ca 2 (by omega))
  have A03 : ∀ w', Below w2.heap.size w2 w' → w'.cell? ⟨w.heap.size, 3, none⟩ = some (.int .i64 h) := fun w' hh => (hh.cell (p := ⟨w.heap.size, 3, none⟩) z1).trans (ca 3 (by omega))
  have A04 : ∀ w', Below w2.heap.size w2 w' → w'.cell? ⟨w.heap.size, 4, none⟩ = some (.int .i64 lo) := fun w' hh => (hh.cell (p := ⟨w.heap.size, 4, none⟩) z1).trans (ca 4 (by omega))
  have A05 : ∀ w', Below w2.heap.size w2 w' → w'.cell? ⟨w.heap.size, 5, none⟩ = some (.int .i64 hi) := fun w' hh => (hh.cell (p := ⟨w.heap.size, 5, none⟩) z1).trans (ca 5 (by omega))
  have A10 : ∀ w', Below w2.heap.size w2 w' → w'.cell? ⟨w.heap.size + 1, 0, none⟩ = some (.int .i64 k') := fun w' hh => (hh.cell (p := ⟨w.heap.size + 1, 0, none⟩) z2).trans (cb 0 (by omega))
  have A11 : ∀ w', Below w2.heap.size w2 w' → w'.cell? ⟨w.heap.size + 1, 1, none⟩ = some (.bool s') := fun w' hh => (hh.cell (p := ⟨w.heap.size + 1, 1, none⟩) z2).trans (cb 1 (by omega))
  have A12 : ∀ w', Below w2.heap.size w2 w' → w'.cell? ⟨w.heap.size + 1, 2, none⟩ = some (.int .i64 m') := fun w' hh => (hh.cell (p := ⟨w.heap.size + 1, 2, none⟩) z2).trans (cb 2 (by omega))
  have A13 : ∀ w', Below w2.heap.size w2 w' → w'.cell? ⟨w.heap.size + 1, 3, none⟩ = some (.int .i64 h') := fun w' hh => (hh.cell (p := ⟨w.heap.size + 1, 3, none⟩) z2).trans (cb 3 (by omega))
  have A14 : ∀ w', Below w2.heap.size w2 w' → w'.cell? ⟨w.heap.size + 1, 4, none⟩ = some (.int .i64 lo') := fun w' hh => (hh.cell (p := ⟨w.heap.size + 1, 4, none⟩) z2).trans (cb 4 (by omega))
  have A15 : ∀ w', Below w2.heap.size w2 w' → w'.cell? ⟨w.heap.size + 1, 5, none⟩ = some (.int .i64 hi') := fun w' hh => (hh.cell (p := ⟨w.heap.size + 1, 5, none⟩) z2).trans (cb 5 (by omega))
  go_cut [6] (fun s wx => ∃ B : Nat, s = .pointer (some ⟨B, 0, none⟩) ∧ w2.heap.size ≤ B ∧ Arr wx B 6 (valC ⟨jk, js, jm, jh, jlo, jhi⟩) ∧ Below w2.heap.size w2 wx)
  case first =>
    have HBd : Hid (Below w2.heap.size w2 w2.drew) := (Below.refl _ _).drew
    refine wp_region_held_drew (S := fun w' => Below w2.heap.size w2 w') (by kernel_rfl) HBd.out (fun hHeld => ?_)
    have hud : Below w2.heap.size w2 w2.drew := HBd.out
    refine wpAnyH_tk 0 ?bv0 rfl ?by0 ?br0
    case by0 => (intro w hSw; (try dsimp only at hSw); go_simp; try with_reducible rfl)
    try go_frame
    refine wpAnyH_tk 2 ?bv2 rfl ?by2 ?br2
    case by2 => (intro w hSw; (try dsimp only at hSw); go_simp; try with_reducible rfl)
    try go_frame
    generalize w2.drew = ud at hud ⊢
    have HBud : Hid (Below w2.heap.size w2 ud) := hud
    clear hud HBd hHeld
    refine wpAnyH_ready (rs := [1, 5]) (by kernel_rfl) (by simp) ?_
    refine AllReadyH.cons rfl (fun KK hK => ?_) (AllReadyH.cons rfl (fun KK hK => ?_) AllReadyH.nil)
    · skip
      go_simp
      refine (toVal_any k s m h lo hi _).mono ?_
      rintro e ub14 ⟨rfl, hqub14⟩
      have hbub14 : Below w2.heap.size w2 ub14 := HBud.out.trans (hqub14.mono HBud.out.size)
      clear hqub14
      go_wp2_with fail
      have HBub14 : Hid (Below w2.heap.size w2 ub14) := hbub14
      refine hK.out _ _ hbub14 (fun hHeldub14 => ?_)
      clear hK KK hbub14
      try go_frame
      refine wpAnyH_ready (rs := [3, 5]) (by kernel_rfl) (by simp) ?_
      refine AllReadyH.cons rfl (fun KK hK => ?_) (AllReadyH.cons rfl (fun KK hK => ?_) AllReadyH.nil)
      · skip
        go_simp
        refine (toVal_any k' s' m' h' lo' hi' _).mono ?_
        rintro e ub15 ⟨rfl, hqub15⟩
        have hbub15 : Below w2.heap.size w2 ub15 := HBub14.out.trans (hqub15.mono HBub14.out.size)
        clear hqub15
        go_wp2_with fail
        have HBub15 : Hid (Below w2.heap.size w2 ub15) := hbub15
        refine hK.out _ _ hbub15 (fun hHeldub15 => ?_)
        clear hK KK hbub15
        try go_frame
        refine wpAnyH_ready (rs := [4, 5]) (by kernel_rfl) (by simp) ?_
        refine AllReadyH.cons rfl (fun KK hK => ?_) (AllReadyH.cons rfl (fun KK hK => ?_) AllReadyH.nil)
        · skip
          go_simp
          refine (implJoin_any k s m h lo hi k' s' m' h' lo' hi' _).mono ?_
          rintro e ub16 ⟨rfl, hqub16⟩
          have hbub16 : Below w2.heap.size w2 ub16 := HBub15.out.trans (hqub16.mono HBub15.out.size)
          clear hqub16
          go_wp2_with fail
          rw [HJ.out]
          simp only [VV.v]
          have HBub16 : Hid (Below w2.heap.size w2 ub16) := hbub16
          refine hK.out _ _ hbub16 (fun hHeldub16 => ?_)
          clear hK KK hbub16
          try go_frame
          refine wpAnyH_ready (rs := [5]) (by kernel_rfl) (by simp) ?_
          refine AllReadyH.cons rfl (fun KK hK => ?_) AllReadyH.nil
          go_simp
          have hqub17 : Below ub16.heap.size ub16 (ub16.alloc (.cells #[.int .i64 0, .bool false, .int .i64 0, .int .i64 0, .int .i64 0, .int .i64 0] 24)) := (Below.refl _ _).alloc (Nat.le_refl _) _
          have hvub17 : Arr (ub16.alloc (.cells #[.int .i64 0, .bool false, .int .i64 0, .int .i64 0, .int .i64 0, .int .i64 0] 24)) ub16.heap.size 6 val0 := val_new _
          generalize ub16.alloc (.cells #[.int .i64 0, .bool false, .int .i64 0, .int .i64 0, .int .i64 0, .int .i64 0] 24) = ub17 at hqub17 hvub17 ⊢
          have HVub17 : Hid (Arr ub17 ub16.heap.size 6 val0) := hvub17
          have HGub17 : Hid (w2.heap.size ≤ ub16.heap.size) := HBub16.out.size
          clear hvub17
          have hbub17 : Below w2.heap.size w2 ub17 := HBub16.out.trans (hqub17.mono HBub16.out.size)
          clear hqub17
          have HBub17 : Hid (Below w2.heap.size w2 ub17) := hbub17
          refine hK.out _ _ hbub17 (fun hHeldub17 => ?_)
          clear hK KK hbub17
          try go_frame
          have kf : ∀ i, ub17.frozen? ⟨ub16.heap.size, i, none⟩ = false := HVub17.out.free
          have k0 := HVub17.out.cell (i := 0) (by omega)
          have k1 := HVub17.out.cell (i := 1) (by omega)
          have k2 := HVub17.out.cell (i := 2) (by omega)
          have k3 := HVub17.out.cell (i := 3) (by omega)
          have k4 := HVub17.out.cell (i := 4) (by omega)
          have k5 := HVub17.out.cell (i := 5) (by omega)
          have kl := HVub17.out.lt
          refine wpAnyH_ready (rs := [6]) (by kernel_rfl) (by simp) ?_
          refine AllReadyH.cons rfl (fun KK hK => ?_) AllReadyH.nil
          go_simp
          have hE := val_put ⟨jk, js, jm, jh, jlo, jhi⟩ HVub17.out HBub17.out HGub17.out
          refine hK.out _ _ hE.2 (fun hHeldV => ?_)
          clear hK KK
          refine wpAnyH_done (by kernel_rfl) ?_ _
          go_wp2_with fail
          go_meet
          exact ⟨_, rfl, HGub17.out, hE.1, hE.2⟩
        · skip
          go_simp
          have hqub18 : Below ub15.heap.size ub15 (ub15.alloc (.cells #[.int .i64 0, .bool false, .int .i64 0, .int .i64 0, .int .i64 0, .int .i64 0] 24)) := (Below.refl _ _).alloc (Nat.le_refl _) _
          have hvub18 : Arr (ub15.alloc (.cells #[.int .i64 0, .bool false, .int .i64 0, .int .i64 0, .int .i64 0, .int .i64 0] 24)) ub15.heap.size 6 val0 := val_new _
          generalize ub15.alloc (.cells #[.int .i64 0, .bool false, .int .i64 0, .int .i64 0, .int .i64 0, .int .i64 0] 24) = ub18 at hqub18 hvub18 ⊢
          have HVub18 : Hid (Arr ub18 ub15.heap.size 6 val0) := hvub18
          have HGub18 : Hid (w2.heap.size ≤ ub15.heap.size) := HBub15.out.size
          clear hvub18
          have hbub18 : Below w2.heap.size w2 ub18 := HBub15.out.trans (hqub18.mono HBub15.out.size)
          clear hqub18
          have HBub18 : Hid (Below w2.heap.size w2 ub18) := hbub18
          refine hK.out _ _ hbub18 (fun hHeldub18 => ?_)
          clear hK KK hbub18
          try go_frame
          refine wpAnyH_ready (rs := [4]) (by kernel_rfl) (by simp) ?_
          refine AllReadyH.cons rfl (fun KK hK => ?_) AllReadyH.nil
          go_simp
          refine (implJoin_any k s m h lo hi k' s' m' h' lo' hi' _).mono ?_
          rintro e ub19 ⟨rfl, hqub19⟩
          have HVub19 : Hid (Arr ub19 ub15.heap.size 6 val0) := HVub18.out.below hqub19 HVub18.out.lt
          have HGub19 : Hid (w2.heap.size ≤ ub15.heap.size) := HGub18.out
          have hbub19 : Below w2.heap.size w2 ub19 := HBub18.out.trans (hqub19.mono HBub18.out.size)
          clear hqub19
          go_wp2_with fail
          rw [HJ.out]
          simp only [VV.v]
          have HBub19 : Hid (Below w2.heap.size w2 ub19) := hbub19
          refine hK.out _ _ hbub19 (fun hHeldub19 => ?_)
          clear hK KK hbub19
          try go_frame
          have kf : ∀ i, ub19.frozen? ⟨ub15.heap.size, i, none⟩ = false := HVub19.out.free
          have k0 := HVub19.out.cell (i := 0) (by omega)
          have k1 := HVub19.out.cell (i := 1) (by omega)
          have k2 := HVub19.out.cell (i := 2) (by omega)
          have k3 := HVub19.out.cell (i := 3) (by omega)
          have k4 := HVub19.out.cell (i := 4) (by omega)
          have k5 := HVub19.out.cell (i := 5) (by omega)
          have kl := HVub19.out.lt
          refine wpAnyH_ready (rs := [6]) (by kernel_rfl) (by simp) ?_
          refine AllReadyH.cons rfl (fun KK hK => ?_) AllReadyH.nil
          go_simp
          have hE := val_put ⟨jk, js, jm, jh, jlo, jhi⟩ HVub19.out HBub19.out HGub19.out
          refine hK.out _ _ hE.2 (fun hHeldV => ?_)
          clear hK KK
          refine wpAnyH_done (by kernel_rfl) ?_ _
          go_wp2_with fail
          go_meet
          exact ⟨_, rfl, HGub19.out, hE.1, hE.2⟩
      · skip
        go_simp
        have hqub20 : Below ub14.heap.size ub14 (ub14.alloc (.cells #[.int .i64 0, .bool false, .int .i64 0, .int .i64 0, .int .i64 0, .int .i64 0] 24)) := (Below.refl _ _).alloc (Nat.le_refl _) _
        have hvub20 : Arr (ub14.alloc (.cells #[.int .i64 0, .bool false, .int .i64 0, .int .i64 0, .int .i64 0, .int .i64 0] 24)) ub14.heap.size 6 val0 := val_new _
        generalize ub14.alloc (.cells #[.int .i64 0, .bool false, .int .i64 0, .int .i64 0, .int .i64 0, .int .i64 0] 24) = ub20 at hqub20 hvub20 ⊢
        have HVub20 : Hid (Arr ub20 ub14.heap.size 6 val0) := hvub20
        have HGub20 : Hid (w2.heap.size ≤ ub14.heap.size) := HBub14.out.size
        clear hvub20
        have hbub20 : Below w2.heap.size w2 ub20 := HBub14.out.trans (hqub20.mono HBub14.out.size)
        clear hqub20
        have HBub20 : Hid (Below w2.heap.size w2 ub20) := hbub20
        refine hK.out _ _ hbub20 (fun hHeldub20 => ?_)
        clear hK KK hbub20
        try go_frame
        refine wpAnyH_ready (rs := [3]) (by kernel_rfl) (by simp) ?_
        refine AllReadyH.cons rfl (fun KK hK => ?_) AllReadyH.nil
        go_simp
        refine (toVal_any k' s' m' h' lo' hi' _).mono ?_
        rintro e ub21 ⟨rfl, hqub21⟩
        have HVub21 : Hid (Arr ub21 ub14.heap.size 6 val0) := HVub20.out.below hqub21 HVub20.out.lt
        have HGub21 : Hid (w2.heap.size ≤ ub14.heap.size) := HGub20.out
        have hbub21 : Below w2.heap.size w2 ub21 := HBub20.out.trans (hqub21.mono HBub20.out.size)
        clear hqub21
        go_wp2_with fail
        have HBub21 : Hid (Below w2.heap.size w2 ub21) := hbub21
        refine hK.out _ _ hbub21 (fun hHeldub21 => ?_)
        clear hK KK hbub21
        try go_frame
        refine wpAnyH_ready (rs := [4]) (by kernel_rfl) (by simp) ?_
        refine AllReadyH.cons rfl (fun KK hK => ?_) AllReadyH.nil
        go_simp
        refine (implJoin_any k s m h lo hi k' s' m' h' lo' hi' _).mono ?_
        rintro e ub22 ⟨rfl, hqub22⟩
        have HVub22 : Hid (Arr ub22 ub14.heap.size 6 val0) := HVub21.out.below hqub22 HVub21.out.lt
        have HGub22 : Hid (w2.heap.size ≤ ub14.heap.size) := HGub21.out
        have hbub22 : Below w2.heap.size w2 ub22 := HBub21.out.trans (hqub22.mono HBub21.out.size)
        clear hqub22
        go_wp2_with fail
        rw [HJ.out]
        simp only [VV.v]
        have HBub22 : Hid (Below w2.heap.size w2 ub22) := hbub22
        refine hK.out _ _ hbub22 (fun hHeldub22 => ?_)
        clear hK KK hbub22
        try go_frame
        have kf : ∀ i, ub22.frozen? ⟨ub14.heap.size, i, none⟩ = false := HVub22.out.free
        have k0 := HVub22.out.cell (i := 0) (by omega)
        have k1 := HVub22.out.cell (i := 1) (by omega)
        have k2 := HVub22.out.cell (i := 2) (by omega)
        have k3 := HVub22.out.cell (i := 3) (by omega)
        have k4 := HVub22.out.cell (i := 4) (by omega)
        have k5 := HVub22.out.cell (i := 5) (by omega)
        have kl := HVub22.out.lt
        refine wpAnyH_ready (rs := [6]) (by kernel_rfl) (by simp) ?_
        refine AllReadyH.cons rfl (fun KK hK => ?_) AllReadyH.nil
        go_simp
        have hE := val_put ⟨jk, js, jm, jh, jlo, jhi⟩ HVub22.out HBub22.out HGub22.out
        refine hK.out _ _ hE.2 (fun hHeldV => ?_)
        clear hK KK
        refine wpAnyH_done (by kernel_rfl) ?_ _
        go_wp2_with fail
        go_meet
        exact ⟨_, rfl, HGub22.out, hE.1, hE.2⟩
    · skip
      go_simp
      have hqub23 : Below ud.heap.size ud (ud.alloc (.cells #[.int .i64 0, .bool false, .int .i64 0, .int .i64 0, .int .i64 0, .int .i64 0] 24)) := (Below.refl _ _).alloc (Nat.le_refl _) _
      have hvub23 : Arr (ud.alloc (.cells #[.int .i64 0, .bool false, .int .i64 0, .int .i64 0, .int .i64 0, .int .i64 0] 24)) ud.heap.size 6 val0 := val_new _
      generalize ud.alloc (.cells #[.int .i64 0, .bool false, .int .i64 0, .int .i64 0, .int .i64 0, .int .i64 0] 24) = ub23 at hqub23 hvub23 ⊢
      have HVub23 : Hid (Arr ub23 ud.heap.size 6 val0) := hvub23
      have HGub23 : Hid (w2.heap.size ≤ ud.heap.size) := HBud.out.size
      clear hvub23
      have hbub23 : Below w2.heap.size w2 ub23 := HBud.out.trans (hqub23.mono HBud.out.size)
      clear hqub23
      have HBub23 : Hid (Below w2.heap.size w2 ub23) := hbub23
      refine hK.out _ _ hbub23 (fun hHeldub23 => ?_)
      clear hK KK hbub23
      try go_frame
      refine wpAnyH_ready (rs := [1]) (by kernel_rfl) (by simp) ?_
      refine AllReadyH.cons rfl (fun KK hK => ?_) AllReadyH.nil
      go_simp
      refine (toVal_any k s m h lo hi _).mono ?_
      rintro e ub24 ⟨rfl, hqub24⟩
      have HVub24 : Hid (Arr ub24 ud.heap.size 6 val0) := HVub23.out.below hqub24 HVub23.out.lt
      have HGub24 : Hid (w2.heap.size ≤ ud.heap.size) := HGub23.out
      have hbub24 : Below w2.heap.size w2 ub24 := HBub23.out.trans (hqub24.mono HBub23.out.size)
      clear hqub24
      go_wp2_with fail
      have HBub24 : Hid (Below w2.heap.size w2 ub24) := hbub24
      refine hK.out _ _ hbub24 (fun hHeldub24 => ?_)
      clear hK KK hbub24
      try go_frame
      refine wpAnyH_ready (rs := [3]) (by kernel_rfl) (by simp) ?_
      refine AllReadyH.cons rfl (fun KK hK => ?_) AllReadyH.nil
      go_simp
      refine (toVal_any k' s' m' h' lo' hi' _).mono ?_
      rintro e ub25 ⟨rfl, hqub25⟩
      have HVub25 : Hid (Arr ub25 ud.heap.size 6 val0) := HVub24.out.below hqub25 HVub24.out.lt
      have HGub25 : Hid (w2.heap.size ≤ ud.heap.size) := HGub24.out
      have hbub25 : Below w2.heap.size w2 ub25 := HBub24.out.trans (hqub25.mono HBub24.out.size)
      clear hqub25
      go_wp2_with fail
      have HBub25 : Hid (Below w2.heap.size w2 ub25) := hbub25
      refine hK.out _ _ hbub25 (fun hHeldub25 => ?_)
      clear hK KK hbub25
      try go_frame
      refine wpAnyH_ready (rs := [4]) (by kernel_rfl) (by simp) ?_
      refine AllReadyH.cons rfl (fun KK hK => ?_) AllReadyH.nil
      go_simp
      refine (implJoin_any k s m h lo hi k' s' m' h' lo' hi' _).mono ?_
      rintro e ub26 ⟨rfl, hqub26⟩
      have HVub26 : Hid (Arr ub26 ud.heap.size 6 val0) := HVub25.out.below hqub26 HVub25.out.lt
      have HGub26 : Hid (w2.heap.size ≤ ud.heap.size) := HGub25.out
      have hbub26 : Below w2.heap.size w2 ub26 := HBub25.out.trans (hqub26.mono HBub25.out.size)
      clear hqub26
      go_wp2_with fail
      rw [HJ.out]
      simp only [VV.v]
      have HBub26 : Hid (Below w2.heap.size w2 ub26) := hbub26
      refine hK.out _ _ hbub26 (fun hHeldub26 => ?_)
      clear hK KK hbub26
      try go_frame
      have kf : ∀ i, ub26.frozen? ⟨ud.heap.size, i, none⟩ = false := HVub26.out.free
      have k0 := HVub26.out.cell (i := 0) (by omega)
      have k1 := HVub26.out.cell (i := 1) (by omega)
      have k2 := HVub26.out.cell (i := 2) (by omega)
      have k3 := HVub26.out.cell (i := 3) (by omega)
      have k4 := HVub26.out.cell (i := 4) (by omega)
      have k5 := HVub26.out.cell (i := 5) (by omega)
      have kl := HVub26.out.lt
      refine wpAnyH_ready (rs := [6]) (by kernel_rfl) (by simp) ?_
      refine AllReadyH.cons rfl (fun KK hK => ?_) AllReadyH.nil
      go_simp
      have hE := val_put ⟨jk, js, jm, jh, jlo, jhi⟩ HVub26.out HBub26.out HGub26.out
      refine hK.out _ _ hE.2 (fun hHeldV => ?_)
      clear hK KK
      refine wpAnyH_done (by kernel_rfl) ?_ _
      go_wp2_with fail
      go_meet
      exact ⟨_, rfl, HGub26.out, hE.1, hE.2⟩
  case rest =>
  obtain ⟨B6, rfl, g6, v6, b6⟩ := hcut
  have p0 := (HV5.out.below b6 hB5).cell (i := 0) (by omega)
  have p1 := (HV5.out.below b6 hB5).cell (i := 1) (by omega)
  have p2 := (HV5.out.below b6 hB5).cell (i := 2) (by omega)
  have p3 := (HV5.out.below b6 hB5).cell (i := 3) (by omega)
  have p4 := (HV5.out.below b6 hB5).cell (i := 4) (by omega)
  have p5 := (HV5.out.below b6 hB5).cell (i := 5) (by omega)
  have q0 := v6.cell (i := 0) (by omega)
  have q1 := v6.cell (i := 1) (by omega)
  have q2 := v6.cell (i := 2) (by omega)
  have q3 := v6.cell (i := 3) (by omega)
  have q4 := v6.cell (i := 4) (by omega)
  have q5 := v6.cell (i := 5) (by omega)
  simp only [valC] at p0 p1 p2 p3 p4 p5 q0 q1 q2 q3 q4 q5
  have hB6 : B6 < wc.heap.size := v6.lt
  have lB5 : B5 < wc.heap.size := by omega
  clear A00 A01 A02 A03 A04 A05 A10 A11 A12 A13 A14 A15 ca cb v6
  go_wp2_with fail
  refine (eqVal_same jk js jm jh jlo jhi _).mono ?_
  rintro e w3 ⟨rfl, hb3⟩
  go_wp2
  go_ret
  exact ⟨rfl, hbc.trans ((b6.mono hbc.size).trans (hb3.mono (Nat.le_trans hbc.size b6.size)))⟩

set_option maxRecDepth 100000 in
theorem lawJoin_lifted (os : Os) (started : os.Started) (H : Type) (enc : TypeId × Value → H) :
    ReturnsInHanded {} Try.checked os 7 .any (Rows.fnExactJoinValsSpec.pre6 enc Try.prog Try.f7 Rows.fnExactJoinValsRow.domain false) (Rows.fnExactJoinValsSpec.post enc Try.prog Try.f7 false true false false) := by
  refine returnsInHanded_of_change (C := Try.checked) join_own started (by kernel_rfl) Try.func7
    (ChangeSpec.witness6 (enc := enc) (C := Try.checked) false ⟨#[], #[.agg #[.int .i64 0, .bool false, .int .i64 0, .int .i64 0, .int .i64 0, .int .i64 0], .agg #[.int .i64 0, .bool false, .int .i64 0, .int .i64 0, .int .i64 0, .int .i64 0]], []⟩ 8 (by kernel_rfl) (by kernel_rfl) (by kernel_rfl) (by kernel_rfl)) ?_
  intro W base args ds gs before hval0 hW _ _
  have hval : ∀ (j : Nat) t v, Try.f7.params[j]? = some t → args[j]? = some v → Value.okWide Try.prog W .any base t v := hval0
  have hW' := hW
  obtain ⟨p, q, hA0, hV, rfl, _, _⟩ := hW
  have hA : DataW.TrodAll enc Try.prog W 0 (fun _ => true) true Try.f7.params.toList args.toList ds p := hA0
  rw [Try.params7] at hA hval
  obtain ⟨v0, v1, d0, d1, p0, p1, rfl, rfl, rfl, h0, h1⟩ := trodAll_two hA
  obtain ⟨rfl, rfl⟩ := trodVars_none hV
  obtain ⟨cs, rfl, _⟩ := okWide_struct Try.underlying70 (hval 0 70 v0 rfl rfl)
  obtain ⟨cs', rfl, _⟩ := okWide_struct Try.underlying70 (hval 1 70 v1 rfl rfl)
  have k0 := h0
  have k1 := h1
  have lt0 : ∀ x ∈ p0, x.block < W.heap.size := by obtain ⟨m, hm⟩ := k0; exact DataW.trod_lt m _ _ _ hm
  have lt1 : ∀ x ∈ p1, x.block < W.heap.size := by obtain ⟨m, hm⟩ := k1; exact DataW.trod_lt m _ _ _ hm
  obtain ⟨fuel0, hf0⟩ := h0
  obtain ⟨fuel1, hf1⟩ := h1
  obtain ⟨x, hcs⟩ := val_cells hf0
  obtain ⟨y, hcs'⟩ := val_cells hf1
  have : cs = #[.int .i64 x.k, .bool x.s, .int .i64 x.m, .int .i64 x.h, .int .i64 x.lo, .int .i64 x.hi] := by
    cases cs; simpa [Value.cells] using hcs
  subst this
  have : cs' = #[.int .i64 y.k, .bool y.s, .int .i64 y.m, .int .i64 y.h, .int .i64 y.lo, .int .i64 y.hi] := by
    cases cs'; simpa [Value.cells] using hcs'
  subst this
  clear hA0 hval0
  refine (lawJoin_walk _ _ _ _ _ _ _ _ _ _ _ _ W).mono fun e W' ⟨he, bel⟩ => ?_
  subst he
  exact ⟨_, rfl, _, _, _, [], _, [], hW', trodAll_mk1 (shut_bool Try.underlying4 _), trodAll_mk2 (Below.trod join_laidOut (by kernel_rfl) (of_decide_eq_true (by kernel_rfl)) k0 bel lt0) (Below.trod join_laidOut (by kernel_rfl) (of_decide_eq_true (by kernel_rfl)) k1 bel lt1), rfl, bel.frame _, fun h => by cases h⟩

theorem joinVals_holds : Rows.FnExactJoinValsSaid :=
  OpenClaim.holds_of_wide 7 Try.f7 rfl rfl rfl rfl rfl rfl rfl ⟨rfl, rfl, rfl, rfl, rfl⟩ rfl rfl rfl rfl rfl (by kernel_rfl) Try.func7 (by kernel_rfl)
    (of_decide_eq_true (by kernel_rfl)) (by unfold Func.isWrapper; first | (rw [if_pos (by decide +kernel)]; kernel_rfl) | (rw [if_neg (by decide +kernel)]; exact ⟨rfl, rfl⟩))
    (fun os started H enc _ => lawJoin_lifted os started H enc)
end Go.Proofs.Ytjnooklalbcamaa
