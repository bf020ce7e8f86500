/- Slices of numbers: copied, compared, measured. -/
import Derived.Test.YtjnooklalbcamaaRows
import Derived.Test.YtjnooklalbcamaaFill
import Derived.WalkLawsBesides
import Derived.Deep.QuietTactic
import Derived.BigQuiet
namespace Go.Proofs.Ytjnooklalbcamaa
open Go.RowKit
theorem ret_true : Ending.returned (.bool true) = .returned (.bool true) := rfl

theorem info_u64 : (Try.prog.info? 28).map (fun i => (i.zero, i.size, i.bytes)) = some (some (.int .u64 0), 1, 8) := by kernel_rfl

set_option maxHeartbeats 400000 in
theorem toUint64S_at (b off len cap : Nat) (R : Nat → Int) (w : World) (hlen : len ≤ 1048576) (hat : At w b off len (numF .u64 R)) :
    Calls Try.prog 62 #[.slice (some ⟨b, off, none⟩) len cap] w fun e w' => e = .returned (.slice (some ⟨w.heap.size, 0, none⟩) len len) ∧ Below w.heap.size w w' ∧ Arr w' w.heap.size len (numF .u64 R) := by
  obtain ⟨i0, hi, hz0, hz1, hz2⟩ := info_parts info_u64
  have hb := hat.lt
  have HA : Hid (At w b off len (numF .u64 R)) := hat
  clear hat
  go_enter Try.func62, Try.ntmps62
  go_wp2_with (first | (at_make; refine wpList_make_full _ rfl _ _ 32 rfl w.heap.size 28 i0 _ 1 Try.underlying32 hi hz0 hz1 .i64 .i64 _ _ len rfl rfl ?c1 ?c2 ?c3 ?c4 ?c5 ?_) | go_in)
  case c1 => rfl
  case c2 => rfl
  case c3 => rw [hz2]; omega
  case c4 => unfold maxLen; omega
  case c5 => exact Nat.le_refl _
  · intro w1 hown hgrow
    have hbel : Below w.heap.size w w1 := (Below.refl _ _).grown hgrow (Nat.le_refl _) (by intro k hk; cases hk)
    have harr : Arr w1 w.heap.size len (upTo (numF .u64 R) (fun _ => .int .u64 0) 0) := by
      have := Arr.made (z := upTo (numF .u64 R) (fun _ => .int .u64 0) 0) hown fun i hi => by
        rw [made_get _ len i (by omega), upTo_zero]
        simp [Nat.mod_one]
      rwa [Nat.mul_one] at this
    clear hown hgrow hi hz0 hz1 hz2
    go_wp2
    go_loopw [4] (fun i wr => ∃ k : Nat, k ≤ len ∧ i = .int .i64 k ∧ Below w.heap.size w wr ∧ Arr wr w.heap.size len (upTo (numF .u64 R) (fun _ => .int .u64 0) k)) (fun i _ => len - (intOf i).toNat)
    case atStart => exact ⟨0, Nat.zero_le _, rfl, hbel, harr⟩
    case round =>
      clear harr hbel
      obtain ⟨k, hk, rfl, hbr, har⟩ := hrel
      have HAR : Hid (Arr wr w.heap.size len (upTo (numF .u64 R) (fun _ => .int .u64 0) k)) := har
      clear har
      by_cases hlt : k < len
      · have g0 : wr.cell? ⟨b, off + k, none⟩ = some (.int .u64 (R k)) := (hbr.cell (p := ⟨b, off + k, none⟩) hb).trans (HA.out.cell (i := k) hlt)
        have f2 := HAR.out.free
        have c0 := HAR.out.cell (i := k) hlt
        go_wp2
        go_roundw
        case rel => exact ⟨k + 1, by omega, by go_num, below_setCells (Nat.le_refl _) [.int .u64 (R k)] k hbr, HAR.out.fill (vs := [.int .u64 (R k)]) (by simp; omega) (fun j hj => by simp at hj; subst hj; rfl)⟩
        case measure => simp [intOf]; omega
      · go_wp2
        go_ret
        obtain rfl : k = len := by omega
        exact ⟨rfl, hbr, HAR.out.filled⟩
set_option maxHeartbeats 400000 in
theorem toUint64S_nil (ao : Option Addr) (cap : Nat) (R : Nat → Int) (w : World) :
    Calls Try.prog 62 #[.slice ao 0 cap] w fun e w' => e = .returned (.slice (some ⟨w.heap.size, 0, none⟩) 0 0) ∧ Below w.heap.size w w' ∧ Arr w' w.heap.size 0 (numF .u64 R) := by
  obtain ⟨i0, hi, hz0, hz1, hz2⟩ := info_parts info_u64
  go_enter Try.func62, Try.ntmps62
  go_wp2_with (first | (at_make; refine wpList_make_full _ rfl _ _ 32 rfl w.heap.size 28 i0 _ 1 Try.underlying32 hi hz0 hz1 .i64 .i64 _ _ 0 rfl rfl ?c1 ?c2 ?c3 ?c4 ?c5 ?_) | go_in)
  case c1 => rfl
  case c2 => rfl
  case c3 => rw [hz2]; omega
  case c4 => unfold maxLen; omega
  case c5 => exact Nat.le_refl _
  · intro w1 hown hgrow
    have hbel : Below w.heap.size w w1 := (Below.refl _ _).grown hgrow (Nat.le_refl _) (by intro k hk; cases hk)
    have harr : Arr w1 w.heap.size (0 * 1) (numF .u64 R) := Arr.made hown fun i hi => by omega
    have HX : Hid (Below w.heap.size w w1 ∧ Arr w1 w.heap.size (0 * 1) (numF .u64 R)) := ⟨hbel, harr⟩
    clear hown hgrow hi hz0 hz1 hz2 hbel harr
    go_wp2
    refine wp_loop_rounds 1 ?_
    rw [rounds_succ]
    go_wp2
    go_ret
    exact ⟨rfl, HX.out.1, HX.out.2⟩
theorem toUint64S_in (ao : Option Addr) (len cap : Nat) (R : Nat → Int) (w : World) (hlen : len ≤ 1048576) (h : InRow w ao len (numF .u64 R)) :
    Calls Try.prog 62 #[.slice ao len cap] w fun e w' => e = .returned (.slice (some ⟨w.heap.size, 0, none⟩) len len) ∧ Below w.heap.size w w' ∧ Arr w' w.heap.size len (numF .u64 R) := by
  rcases h with rfl | ⟨b, off, rfl, h⟩
  · exact toUint64S_nil ao cap R w
  · exact toUint64S_at b off len cap R w hlen h

set_option maxHeartbeats 400000 in
theorem eqUint64S_same (b off len cap b' off' cap' : Nat) (R : Nat → Int) (w : World) (hlen : len ≤ 1048576) (hat : At w b off len (numF .u64 R)) (hat' : At w b' off' len (numF .u64 R)) :
    Calls Try.prog 69 #[.slice (some ⟨b, off, none⟩) len cap, .slice (some ⟨b', off', none⟩) len cap'] w fun e w' => e = .returned (.bool true) ∧ Below w.heap.size w w' := by
  have hb := hat.lt
  have hb' := hat'.lt
  have HA : Hid (At w b off len (numF .u64 R)) := hat
  have HA' : Hid (At w b' off' len (numF .u64 R)) := hat'
  clear hat hat'
  go_enter Try.func69, Try.ntmps69
  go_wp2
  go_loopw [5] (fun i wr => ∃ k : Nat, k ≤ len ∧ i = .int .i64 k ∧ Below w.heap.size w wr) (fun i _ => len - (intOf i).toNat)
  case atStart => exact ⟨0, Nat.zero_le _, rfl, Below.refl _ _⟩
  case round =>
    obtain ⟨k, hk, rfl, hbr⟩ := hrel
    by_cases hlt : k < len
    · have g0 : wr.cell? ⟨b, off + k, none⟩ = some (.int .u64 (R k)) := (hbr.cell (p := ⟨b, off + k, none⟩) hb).trans (HA.out.cell (i := k) hlt)
      have q0 : wr.cell? ⟨b', off' + k, none⟩ = some (.int .u64 (R k)) := (hbr.cell (p := ⟨b', off' + k, none⟩) hb').trans (HA'.out.cell (i := k) hlt)
      have hlt' : (k : Int) < (len : Int) := by omega
      go_wp2_with fail
      go_quiet (fail)
      go_wp2
      go_roundw
      case rel => exact ⟨k + 1, by omega, by go_num, below_drewN hbr _⟩
      case measure => simp [intOf]; omega
    · go_wp2
      go_ret
      exact ⟨rfl, hbr⟩

set_option maxHeartbeats 400000 in
theorem szUint64S_ok (ao : Option Addr) (len cap : Nat) (left : Int) (w : World) (hlo : (len : Int) ≤ left) (hhi : left ≤ 1048576) :
    Calls Try.prog 56 #[.slice ao len cap, .int .i64 left] w fun e w' => e = .returned (.int .i64 (left - len)) ∧ w' = w := by
  go_enter Try.func56, Try.ntmps56
  go_wp2
  go_ret
  exact ⟨rfl, rfl⟩
set_option maxHeartbeats 400000 in
theorem szUint64S_no (ao : Option Addr) (len cap : Nat) (left : Int) (w : World) (h0 : 0 ≤ left) (hlo : left < (len : Int)) (hm : len ≤ 9223372036854775807) :
    Calls Try.prog 56 #[.slice ao len cap, .int .i64 left] w fun e w' => e = .returned (.int .i64 (-1)) ∧ w' = w := by
  go_enter Try.func56, Try.ntmps56
  go_wp2
  go_ret
  exact ⟨rfl, rfl⟩

theorem info_u8 : (Try.prog.info? 5).map (fun i => (i.zero, i.size, i.bytes)) = some (some (.int .u8 0), 1, 1) := by kernel_rfl

set_option maxHeartbeats 400000 in
theorem toByteS_at (b off len cap : Nat) (R : Nat → Int) (w : World) (hlen : len ≤ 1048576) (hat : At w b off len (numF .u8 R)) :
    Calls Try.prog 127 #[.slice (some ⟨b, off, none⟩) len cap] w fun e w' => e = .returned (.slice (some ⟨w.heap.size, 0, none⟩) len len) ∧ Below w.heap.size w w' ∧ Arr w' w.heap.size len (numF .u8 R) := by
  obtain ⟨i0, hi, hz0, hz1, hz2⟩ := info_parts info_u8
  have hb := hat.lt
  have HA : Hid (At w b off len (numF .u8 R)) := hat
  clear hat
  go_enter Try.func127, Try.ntmps127
  go_wp2_with (first | (at_make; refine wpList_make_full _ rfl _ _ 22 rfl w.heap.size 5 i0 _ 1 Try.underlying22 hi hz0 hz1 .i64 .i64 _ _ len rfl rfl ?c1 ?c2 ?c3 ?c4 ?c5 ?_) | go_in)
  case c1 => rfl
  case c2 => rfl
  case c3 => rw [hz2]; omega
  case c4 => unfold maxLen; omega
  case c5 => exact Nat.le_refl _
  · intro w1 hown hgrow
    have hbel : Below w.heap.size w w1 := (Below.refl _ _).grown hgrow (Nat.le_refl _) (by intro k hk; cases hk)
    have harr : Arr w1 w.heap.size len (upTo (numF .u8 R) (fun _ => .int .u8 0) 0) := by
      have := Arr.made (z := upTo (numF .u8 R) (fun _ => .int .u8 0) 0) hown fun i hi => by
        rw [made_get _ len i (by omega), upTo_zero]
        simp [Nat.mod_one]
      rwa [Nat.mul_one] at this
    clear hown hgrow hi hz0 hz1 hz2
    go_wp2
    go_loopw [4] (fun i wr => ∃ k : Nat, k ≤ len ∧ i = .int .i64 k ∧ Below w.heap.size w wr ∧ Arr wr w.heap.size len (upTo (numF .u8 R) (fun _ => .int .u8 0) k)) (fun i _ => len - (intOf i).toNat)
    case atStart => exact ⟨0, Nat.zero_le _, rfl, hbel, harr⟩
    case round =>
      clear harr hbel
      obtain ⟨k, hk, rfl, hbr, har⟩ := hrel
      have HAR : Hid (Arr wr w.heap.size len (upTo (numF .u8 R) (fun _ => .int .u8 0) k)) := har
      clear har
      by_cases hlt : k < len
      · have g0 : wr.cell? ⟨b, off + k, none⟩ = some (.int .u8 (R k)) := (hbr.cell (p := ⟨b, off + k, none⟩) hb).trans (HA.out.cell (i := k) hlt)
        have f2 := HAR.out.free
        have c0 := HAR.out.cell (i := k) hlt
        go_wp2
        go_roundw
        case rel => exact ⟨k + 1, by omega, by go_num, below_setCells (Nat.le_refl _) [.int .u8 (R k)] k hbr, HAR.out.fill (vs := [.int .u8 (R k)]) (by simp; omega) (fun j hj => by simp at hj; subst hj; rfl)⟩
        case measure => simp [intOf]; omega
      · go_wp2
        go_ret
        obtain rfl : k = len := by omega
        exact ⟨rfl, hbr, HAR.out.filled⟩
set_option maxHeartbeats 400000 in
theorem toByteS_nil (ao : Option Addr) (cap : Nat) (R : Nat → Int) (w : World) :
    Calls Try.prog 127 #[.slice ao 0 cap] w fun e w' => e = .returned (.slice (some ⟨w.heap.size, 0, none⟩) 0 0) ∧ Below w.heap.size w w' ∧ Arr w' w.heap.size 0 (numF .u8 R) := by
  obtain ⟨i0, hi, hz0, hz1, hz2⟩ := info_parts info_u8
  go_enter Try.func127, Try.ntmps127
  go_wp2_with (first | (at_make; refine wpList_make_full _ rfl _ _ 22 rfl w.heap.size 5 i0 _ 1 Try.underlying22 hi hz0 hz1 .i64 .i64 _ _ 0 rfl rfl ?c1 ?c2 ?c3 ?c4 ?c5 ?_) | go_in)
  case c1 => rfl
  case c2 => rfl
  case c3 => rw [hz2]; omega
  case c4 => unfold maxLen; omega
  case c5 => exact Nat.le_refl _
  · intro w1 hown hgrow
    have hbel : Below w.heap.size w w1 := (Below.refl _ _).grown hgrow (Nat.le_refl _) (by intro k hk; cases hk)
    have harr : Arr w1 w.heap.size (0 * 1) (numF .u8 R) := Arr.made hown fun i hi => by omega
    have HX : Hid (Below w.heap.size w w1 ∧ Arr w1 w.heap.size (0 * 1) (numF .u8 R)) := ⟨hbel, harr⟩
    clear hown hgrow hi hz0 hz1 hz2 hbel harr
    go_wp2
    refine wp_loop_rounds 1 ?_
    rw [rounds_succ]
    go_wp2
    go_ret
    exact ⟨rfl, HX.out.1, HX.out.2⟩
theorem toByteS_in (ao : Option Addr) (len cap : Nat) (R : Nat → Int) (w : World) (hlen : len ≤ 1048576) (h : InRow w ao len (numF .u8 R)) :
    Calls Try.prog 127 #[.slice ao len cap] w fun e w' => e = .returned (.slice (some ⟨w.heap.size, 0, none⟩) len len) ∧ Below w.heap.size w w' ∧ Arr w' w.heap.size len (numF .u8 R) := by
  rcases h with rfl | ⟨b, off, rfl, h⟩
  · exact toByteS_nil ao cap R w
  · exact toByteS_at b off len cap R w hlen h

set_option maxHeartbeats 400000 in
theorem eqByteS_same (b off len cap b' off' cap' : Nat) (R : Nat → Int) (w : World) (hlen : len ≤ 1048576) (hat : At w b off len (numF .u8 R)) (hat' : At w b' off' len (numF .u8 R)) :
    Calls Try.prog 130 #[.slice (some ⟨b, off, none⟩) len cap, .slice (some ⟨b', off', none⟩) len cap'] w fun e w' => e = .returned (.bool true) ∧ Below w.heap.size w w' := by
  have hb := hat.lt
  have hb' := hat'.lt
  have HA : Hid (At w b off len (numF .u8 R)) := hat
  have HA' : Hid (At w b' off' len (numF .u8 R)) := hat'
  clear hat hat'
  go_enter Try.func130, Try.ntmps130
  go_wp2
  go_loopw [5] (fun i wr => ∃ k : Nat, k ≤ len ∧ i = .int .i64 k ∧ Below w.heap.size w wr) (fun i _ => len - (intOf i).toNat)
  case atStart => exact ⟨0, Nat.zero_le _, rfl, Below.refl _ _⟩
  case round =>
    obtain ⟨k, hk, rfl, hbr⟩ := hrel
    by_cases hlt : k < len
    · have g0 : wr.cell? ⟨b, off + k, none⟩ = some (.int .u8 (R k)) := (hbr.cell (p := ⟨b, off + k, none⟩) hb).trans (HA.out.cell (i := k) hlt)
      have q0 : wr.cell? ⟨b', off' + k, none⟩ = some (.int .u8 (R k)) := (hbr.cell (p := ⟨b', off' + k, none⟩) hb').trans (HA'.out.cell (i := k) hlt)
      have hlt' : (k : Int) < (len : Int) := by omega
      go_wp2_with fail
      go_quiet (fail)
      go_wp2
      go_roundw
      case rel => exact ⟨k + 1, by omega, by go_num, below_drewN hbr _⟩
      case measure => simp [intOf]; omega
    · go_wp2
      go_ret
      exact ⟨rfl, hbr⟩

set_option maxHeartbeats 400000 in
theorem szByteS_ok (ao : Option Addr) (len cap : Nat) (left : Int) (w : World) (hlo : (len : Int) ≤ left) (hhi : left ≤ 1048576) :
    Calls Try.prog 126 #[.slice ao len cap, .int .i64 left] w fun e w' => e = .returned (.int .i64 (left - len)) ∧ w' = w := by
  go_enter Try.func126, Try.ntmps126
  go_wp2
  go_ret
  exact ⟨rfl, rfl⟩
set_option maxHeartbeats 400000 in
theorem szByteS_no (ao : Option Addr) (len cap : Nat) (left : Int) (w : World) (h0 : 0 ≤ left) (hlo : left < (len : Int)) (hm : len ≤ 9223372036854775807) :
    Calls Try.prog 126 #[.slice ao len cap, .int .i64 left] w fun e w' => e = .returned (.int .i64 (-1)) ∧ w' = w := by
  go_enter Try.func126, Try.ntmps126
  go_wp2
  go_ret
  exact ⟨rfl, rfl⟩
end Go.Proofs.Ytjnooklalbcamaa
