/- What was seen: copied, compared, measured. -/
import Derived.Test.YtjnooklalbcamaaListNum
import Derived.Deep.RegionWith
import Derived.BigRegion
namespace Go.Proofs.Ytjnooklalbcamaa
open Go.RowKit

theorem info_obs : (Try.prog.info? 147).map (fun i => (i.zero, i.size, i.bytes)) = some (some (.agg #[.int .i64 0, .int .u64 0]), 2, 16) := by kernel_rfl
theorem zeroObs (i : Nat) : ((Value.agg #[.int .i64 0, .int .u64 0]).cells)[i % ((Value.agg #[.int .i64 0, .int .u64 0]).cells).size]! = obsZ i := by
  show (#[Value.int .i64 0, .int .u64 0] : Array Value)[i % 2]! = _
  unfold obsZ
  have : i % 2 < 2 := by omega
  match h : i % 2, this with
  | 0, _ => rfl
  | 1, _ => rfl

set_option maxHeartbeats 400000 in
theorem toObs_any (k v : Int) (w : World) :
    Calls Try.prog 99 #[.agg #[.int .i64 k, .int .u64 v]] w fun e w' => e = .returned (.agg #[.int .i64 k, .int .u64 v]) ∧ Below w.heap.size w w' := by
  go_enter Try.func99, Try.ntmps99
  go_wp2
  exact bodyPost_ret (v := .agg #[.int .i64 k, .int .u64 v]) (by simp [results, Try.results99, go_sem]) rfl ⟨rfl, (((Below.refl _ _).alloc (Nat.le_refl _) _).alloc (by simp) _).alloc (by simp; omega) _⟩

set_option maxHeartbeats 400000 in
theorem toObsS_at (b off len cap : Nat) (K V : Nat → Int) (w : World) (hlen : len ≤ 1048576) (hat : At w b off (len * 2) (obsF K V)) :
    Calls Try.prog 64 #[.slice (some ⟨b, off, none⟩) len cap] w fun e w' => e = .returned (.slice (some ⟨w.heap.size, 0, none⟩) len len) ∧ Below w.heap.size w w' ∧ Arr w' w.heap.size (len * 2) (obsF K V) := by
  obtain ⟨i0, hi, hz0, hz1, hz2⟩ := info_parts info_obs
  have hb := hat.lt
  have HA : Hid (At w b off (len * 2) (obsF K V)) := hat
  clear hat
  go_enter Try.func64, Try.ntmps64
  go_wp2_with (first | (at_make; refine wpList_make_full _ rfl _ _ 33 rfl w.heap.size 147 i0 _ 2 Try.underlying33 hi hz0 hz1 .i64 .i64 _ _ len rfl rfl ?c1 ?c2 ?c3 ?c4 ?c5 ?_) | go_in)
  case c1 => rfl
  case c2 => rfl
  case c3 => rw [hz2]; omega
  case c4 => unfold maxLen; omega
  case c5 => exact Nat.le_refl _
  · intro w1 hown hgrow
    have hbel : Below w.heap.size w w1 := (Below.refl _ _).grown hgrow (Nat.le_refl _) (by intro k hk; cases hk)
    have harr : Arr w1 w.heap.size (len * 2) (upTo (obsF K V) obsZ (0 * 2)) := Arr.made hown fun i hi => by
      rw [made_get _ _ _ hi, Nat.zero_mul, upTo_zero]; exact congrArg some (zeroObs i)
    clear hown hgrow hi hz0 hz1 hz2
    go_wp2
    go_loopw [4] (fun i wr => ∃ k : Nat, k ≤ len ∧ i = .int .i64 k ∧ Below w.heap.size w wr ∧ Arr wr w.heap.size (len * 2) (upTo (obsF K V) obsZ (k * 2))) (fun i _ => len - (intOf i).toNat)
    case atStart => exact ⟨0, Nat.zero_le _, rfl, hbel, harr⟩
    case round =>
      clear harr hbel
      obtain ⟨k, hk, rfl, hbr, har⟩ := hrel
      have HAR : Hid (Arr wr w.heap.size (len * 2) (upTo (obsF K V) obsZ (k * 2))) := har
      have hzr := har.lt
      clear har
      by_cases hlt : k < len
      · have g0 := (hbr.cell (p := ⟨b, off + k * 2, none⟩) hb).trans ((HA.out.cell (i := k * 2 + 0) (by omega)).trans (congrArg some (obsF_0 K V k)))
        have g1 := (hbr.cell (p := ⟨b, off + k * 2 + 1, none⟩) hb).trans ((HA.out.cell (i := k * 2 + 1) (by omega)).trans (congrArg some (obsF_1 K V k)))
        go_wp2_with fail
        refine (toObs_any _ _ _).mono ?_
        rintro e w2 ⟨rfl, hb2⟩
        clear g0 g1
        have A2 := HAR.out.below hb2 hzr
        have f2 := A2.free
        have c0 := A2.cell (i := k * 2) (by omega)
        have c1 := A2.cell (i := k * 2 + 1) (by omega)
        have HR : Hid (Arr w2 w.heap.size (len * 2) (upTo (obsF K V) obsZ (k * 2))) := A2
        clear A2
        go_wp2
        go_roundw
        case rel =>
          refine ⟨k + 1, by omega, by go_num, below_setCells (Nat.le_refl _) [.int .i64 (K k), .int .u64 (V k)] (k * 2) (hbr.trans (hb2.mono hbr.size)), ?_⟩
          rw [show (k + 1) * 2 = k * 2 + 2 by omega]
          exact HR.out.fill (vs := [.int .i64 (K k), .int .u64 (V k)]) (by simp; omega) (fun j hj => by
            match j, hj with
            | 0, _ => exact (obsF_0 K V k).symm
            | 1, _ => exact (obsF_1 K V k).symm)
        case measure => simp [intOf]; omega
      · go_wp2
        go_ret
        obtain rfl : k = len := by omega
        exact ⟨rfl, hbr, HAR.out.filled⟩
set_option maxHeartbeats 400000 in
theorem toObsS_nil (ao : Option Addr) (cap : Nat) (K V : Nat → Int) (w : World) :
    Calls Try.prog 64 #[.slice ao 0 cap] w fun e w' => e = .returned (.slice (some ⟨w.heap.size, 0, none⟩) 0 0) ∧ Below w.heap.size w w' ∧ Arr w' w.heap.size (0 * 2) (obsF K V) := by
  obtain ⟨i0, hi, hz0, hz1, hz2⟩ := info_parts info_obs
  go_enter Try.func64, Try.ntmps64
  go_wp2_with (first | (at_make; refine wpList_make_full _ rfl _ _ 33 rfl w.heap.size 147 i0 _ 2 Try.underlying33 hi hz0 hz1 .i64 .i64 _ _ 0 rfl rfl ?c1 ?c2 ?c3 ?c4 ?c5 ?_) | go_in)
  case c1 => rfl
  case c2 => rfl
  case c3 => rw [hz2]; omega
  case c4 => unfold maxLen; omega
  case c5 => exact Nat.le_refl _
  · intro w1 hown hgrow
    have hbel : Below w.heap.size w w1 := (Below.refl _ _).grown hgrow (Nat.le_refl _) (by intro k hk; cases hk)
    have harr : Arr w1 w.heap.size (0 * 2) (obsF K V) := Arr.made hown fun i hi => by omega
    have HX : Hid (Below w.heap.size w w1 ∧ Arr w1 w.heap.size (0 * 2) (obsF K V)) := ⟨hbel, harr⟩
    clear hown hgrow hi hz0 hz1 hz2 hbel harr
    go_wp2
    refine wp_loop_rounds 1 ?_
    rw [rounds_succ]
    go_wp2
    go_ret
    exact ⟨rfl, HX.out.1, HX.out.2⟩
theorem toObsS_in (ao : Option Addr) (len cap : Nat) (K V : Nat → Int) (w : World) (hlen : len ≤ 1048576) (h : InRow w ao (len * 2) (obsF K V)) :
    Calls Try.prog 64 #[.slice ao len cap] w fun e w' => e = .returned (.slice (some ⟨w.heap.size, 0, none⟩) len len) ∧ Below w.heap.size w w' ∧ Arr w' w.heap.size (len * 2) (obsF K V) := by
  rcases h with h | ⟨b, off, rfl, h⟩
  · obtain rfl : len = 0 := by omega
    exact toObsS_nil ao cap K V w
  · exact toObsS_at b off len cap K V w hlen h

set_option maxHeartbeats 400000 in
theorem eqObs_same (k v : Int) (w : World) :
    Calls Try.prog 104 #[.agg #[.int .i64 k, .int .u64 v], .agg #[.int .i64 k, .int .u64 v]] w fun e w' => e = .returned (.bool true) ∧ Below w.heap.size w w' := by
  go_enter Try.func104, Try.ntmps104
  go_wp2
  go_ret
  exact ⟨rfl, ((Below.refl _ _).alloc (Nat.le_refl _) _).alloc (by simp) _⟩
set_option maxHeartbeats 400000 in
theorem eqObsS_same (b off len cap b' off' cap' : Nat) (K V : Nat → Int) (w : World) (hlen : len ≤ 1048576) (hat : At w b off (len * 2) (obsF K V)) (hat' : At w b' off' (len * 2) (obsF K V)) :
    Calls Try.prog 71 #[.slice (some ⟨b, off, none⟩) len cap, .slice (some ⟨b', off', none⟩) len cap'] w fun e w' => e = .returned (.bool true) ∧ Below w.heap.size w w' := by
  have hb := hat.lt
  have hb' := hat'.lt
  have HA : Hid (At w b off (len * 2) (obsF K V)) := hat
  have HA' : Hid (At w b' off' (len * 2) (obsF K V)) := hat'
  clear hat hat'
  go_enter Try.func71, Try.ntmps71
  go_wp2
  go_loopw [5] (fun i wr => ∃ k : Nat, k ≤ len ∧ i = .int .i64 k ∧ Below w.heap.size w wr) (fun i _ => len - (intOf i).toNat)
  case atStart => exact ⟨0, Nat.zero_le _, rfl, Below.refl _ _⟩
  case round =>
    obtain ⟨k, hk, rfl, hbr⟩ := hrel
    by_cases hlt : k < len
    · have g0 := (hbr.cell (p := ⟨b, off + k * 2, none⟩) hb).trans ((HA.out.cell (i := k * 2 + 0) (by omega)).trans (congrArg some (obsF_0 K V k)))
      have g1 := (hbr.cell (p := ⟨b, off + k * 2 + 1, none⟩) hb).trans ((HA.out.cell (i := k * 2 + 1) (by omega)).trans (congrArg some (obsF_1 K V k)))
      have q0 := (hbr.cell (p := ⟨b', off' + k * 2, none⟩) hb').trans ((HA'.out.cell (i := k * 2 + 0) (by omega)).trans (congrArg some (obsF_0 K V k)))
      have q1 := (hbr.cell (p := ⟨b', off' + k * 2 + 1, none⟩) hb').trans ((HA'.out.cell (i := k * 2 + 1) (by omega)).trans (congrArg some (obsF_1 K V k)))
      have hlt' : (k : Int) < (len : Int) := by omega
      go_wp2_with fail
      go_region_with (go_at_call 104; refine (eqObs_same _ _ _).mono ?_; rintro e w' ⟨rfl, hb2⟩)
      all_goals
        clear g0 g1 q0 q1
        go_wp2
        go_roundw
        case rel => exact ⟨k + 1, by omega, by go_num, hbr.drew.trans (hb2.mono hbr.size)⟩
        case measure => simp [intOf]; omega
    · go_wp2
      go_ret
      exact ⟨rfl, hbr⟩

set_option maxHeartbeats 400000 in
theorem szObsS_ok (ao : Option Addr) (len cap : Nat) (left : Int) (w : World) (hlo : (len : Int) ≤ left) (hhi : left ≤ 1048576) :
    Calls Try.prog 58 #[.slice ao len cap, .int .i64 left] w fun e w' => e = .returned (.int .i64 (left - len)) ∧ w' = w := by
  go_enter Try.func58, Try.ntmps58
  go_wp2
  go_ret
  exact ⟨rfl, rfl⟩
set_option maxHeartbeats 400000 in
theorem szObsS_no (ao : Option Addr) (len cap : Nat) (left : Int) (w : World) (h0 : 0 ≤ left) (hlo : left < (len : Int)) (hm : len ≤ 9223372036854775807) :
    Calls Try.prog 58 #[.slice ao len cap, .int .i64 left] w fun e w' => e = .returned (.int .i64 (-1)) ∧ w' = w := by
  go_enter Try.func58, Try.ntmps58
  go_wp2
  go_ret
  exact ⟨rfl, rfl⟩
end Go.Proofs.Ytjnooklalbcamaa
