/- Slices of instructions: compared. -/
import Derived.Test.YtojbdeapcaebnaaDoorFlatWalks
import Derived.Deep.RegionWith
import Derived.BigRegion
namespace Go.Proofs.YtojbdeapcaebnaaDoor
open Go.RowKit

set_option maxHeartbeats 400000 in
theorem eqIns_same (op d a b imm h : Int) (w : World) :
    Calls Tryd.prog 25 #[.agg #[.int .i64 op, .int .i64 d, .int .i64 a, .int .i64 b, .int .i64 imm, .int .i64 h], .agg #[.int .i64 op, .int .i64 d, .int .i64 a, .int .i64 b, .int .i64 imm, .int .i64 h]] w fun e w' => e = .returned (.bool true) ∧ Below w.heap.size w w' := by
  go_enter Tryd.func25, Tryd.ntmps25
  go_wp2
  go_ret
  exact ⟨rfl, ((Below.refl _ _).alloc (Nat.le_refl _) _).alloc (by simp) _⟩

set_option maxHeartbeats 400000 in
theorem eqInsS_same (b off len cap b' off' cap' : Nat) (F : Nat → Nat → Int) (w : World) (hlen : len ≤ 1048576) (hat : At w b off (len * 6) (insF F)) (hat' : At w b' off' (len * 6) (insF F)) :
    Calls Tryd.prog 9 #[.slice (some ⟨b, off, none⟩) len cap, .slice (some ⟨b', off', none⟩) len cap'] w fun e w' => e = .returned (.bool true) ∧ Below w.heap.size w w' := by
  have hb := hat.lt
  have hb' := hat'.lt
  have HA : Hid (At w b off (len * 6) (insF F)) := hat
  have HA' : Hid (At w b' off' (len * 6) (insF F)) := hat'
  clear hat hat'
  go_enter Tryd.func9, Tryd.ntmps9
  go_wp2
  go_loopw [5] (fun i wr => ∃ k : Nat, k ≤ len ∧ i = .int .i64 k ∧ Below w.heap.size w wr) (fun i _ => len - (intOf i).toNat)
  case atStart => exact ⟨0, Nat.zero_le _, rfl, Below.refl _ _⟩
  case round =>
    obtain ⟨k, hk, rfl, hbr⟩ := hrel
    by_cases hlt : k < len
    · have g0 := (hbr.cell (p := ⟨b, off + k * 6, none⟩) hb).trans ((HA.out.cell (i := k * 6 + 0) (by omega)).trans (congrArg some (insF_at F k 0 (by omega))))
      have g1 := (hbr.cell (p := ⟨b, off + k * 6 + 1, none⟩) hb).trans ((HA.out.cell (i := k * 6 + 1) (by omega)).trans (congrArg some (insF_at F k 1 (by omega))))
      have g2 := (hbr.cell (p := ⟨b, off + k * 6 + 2, none⟩) hb).trans ((HA.out.cell (i := k * 6 + 2) (by omega)).trans (congrArg some (insF_at F k 2 (by omega))))
      have g3 := (hbr.cell (p := ⟨b, off + k * 6 + 3, none⟩) hb).trans ((HA.out.cell (i := k * 6 + 3) (by omega)).trans (congrArg some (insF_at F k 3 (by omega))))
      have g4 := (hbr.cell (p := ⟨b, off + k * 6 + 4, none⟩) hb).trans ((HA.out.cell (i := k * 6 + 4) (by omega)).trans (congrArg some (insF_at F k 4 (by omega))))
      have g5 := (hbr.cell (p := ⟨b, off + k * 6 + 5, none⟩) hb).trans ((HA.out.cell (i := k * 6 + 5) (by omega)).trans (congrArg some (insF_at F k 5 (by omega))))
      have q0 := (hbr.cell (p := ⟨b', off' + k * 6, none⟩) hb').trans ((HA'.out.cell (i := k * 6 + 0) (by omega)).trans (congrArg some (insF_at F k 0 (by omega))))
      have q1 := (hbr.cell (p := ⟨b', off' + k * 6 + 1, none⟩) hb').trans ((HA'.out.cell (i := k * 6 + 1) (by omega)).trans (congrArg some (insF_at F k 1 (by omega))))
      have q2 := (hbr.cell (p := ⟨b', off' + k * 6 + 2, none⟩) hb').trans ((HA'.out.cell (i := k * 6 + 2) (by omega)).trans (congrArg some (insF_at F k 2 (by omega))))
      have q3 := (hbr.cell (p := ⟨b', off' + k * 6 + 3, none⟩) hb').trans ((HA'.out.cell (i := k * 6 + 3) (by omega)).trans (congrArg some (insF_at F k 3 (by omega))))
      have q4 := (hbr.cell (p := ⟨b', off' + k * 6 + 4, none⟩) hb').trans ((HA'.out.cell (i := k * 6 + 4) (by omega)).trans (congrArg some (insF_at F k 4 (by omega))))
      have q5 := (hbr.cell (p := ⟨b', off' + k * 6 + 5, none⟩) hb').trans ((HA'.out.cell (i := k * 6 + 5) (by omega)).trans (congrArg some (insF_at F k 5 (by omega))))
      have hlt' : (k : Int) < (len : Int) := by omega
      go_wp2_with fail
      go_region_with (go_at_call 25; refine (eqIns_same _ _ _ _ _ _ _).mono ?_; rintro e w' ⟨rfl, hb2⟩)
      all_goals
        clear g0 g1 g2 g3 g4 g5 q0 q1 q2 q3 q4 q5
        go_wp2
        go_roundw
        case rel => exact ⟨k + 1, by omega, by go_num, hbr.drew.trans (hb2.mono hbr.size)⟩
        case measure => simp [intOf]; omega
    · go_wp2
      go_ret
      exact ⟨rfl, hbr⟩
end Go.Proofs.YtojbdeapcaebnaaDoor
