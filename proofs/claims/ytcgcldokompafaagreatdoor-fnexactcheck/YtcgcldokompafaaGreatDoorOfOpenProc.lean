import Derived.Test.YtcgcldokompafaaGreatDoorOfUnitSpec
import Derived.Test.YtcgcldokompafaaGreatDoorOfCl
import Derived.Deep.QuietTactic
import Derived.BigQuiet
import Derived.Deep.RegionWith
import Derived.BigRegion
import Derived.OpenShut
/- Lists of statements and of procedures: copied, measured, compared. -/
namespace Go.Proofs.YtcgcldokompafaaGreatDoor
open Go.RowKit
def stZ (_ : Nat) : Value := .int .i64 0
theorem info_stmt : (Tryz.prog.info? 60).map (fun i => (i.zero, i.size, i.bytes)) = some (some (.agg #[.int .i64 0, .int .i64 0, .int .i64 0, .int .i64 0, .int .i64 0, .int .i64 0, .int .i64 0, .int .i64 0, .int .i64 0, .int .i64 0, .int .i64 0]), 11, 88) := by kernel_rfl
theorem zeroStmt (i : Nat) : ((Value.agg #[.int .i64 0, .int .i64 0, .int .i64 0, .int .i64 0, .int .i64 0, .int .i64 0, .int .i64 0, .int .i64 0, .int .i64 0, .int .i64 0, .int .i64 0]).cells)[i % ((Value.agg #[.int .i64 0, .int .i64 0, .int .i64 0, .int .i64 0, .int .i64 0, .int .i64 0, .int .i64 0, .int .i64 0, .int .i64 0, .int .i64 0, .int .i64 0]).cells).size]! = stZ i := by
 show (#[Value.int .i64 0, .int .i64 0, .int .i64 0, .int .i64 0, .int .i64 0, .int .i64 0, .int .i64 0, .int .i64 0, .int .i64 0, .int .i64 0, .int .i64 0] : Array Value)[i % 11]! = _
 unfold stZ
 have : i % 11 < 11 := by omega
 match i % 11, this with
 | 0, _ => rfl
 | 1, _ => rfl
 | 2, _ => rfl
 | 3, _ => rfl
 | 4, _ => rfl
 | 5, _ => rfl
 | 6, _ => rfl
 | 7, _ => rfl
 | 8, _ => rfl
 | 9, _ => rfl
 | 10, _ => rfl

set_option maxHeartbeats 4000000 in
theorem toStmt_any (s : SV) (w : World) :
  Calls Tryz.prog 24 #[.agg #[.int .i64 s.k, .int .i64 s.op, .int .i64 s.d, .int .i64 s.a, .int .i64 s.b, .int .i64 s.imm, .int .i64 s.h, .int .i64 s.cond, .int .i64 s.thn, .int .i64 s.els, .int .i64 s.proc]] w fun e w' => e = .returned (.agg #[.int .i64 s.k, .int .i64 s.op, .int .i64 s.d, .int .i64 s.a, .int .i64 s.b, .int .i64 s.imm, .int .i64 s.h, .int .i64 s.cond, .int .i64 s.thn, .int .i64 s.els, .int .i64 s.proc]) /\ Below w.heap.size w w' := by
 go_enter Tryz.func24, Tryz.ntmps24
 go_wp2_with fail
 refine (toIns_any _ _ _ _ _ _ _).mono ?_
 rintro e w1 ⟨rfl, hb1⟩
 obtain ⟨hc1, hf1⟩ := bcell hb1
 have hz1 : w.heap.size + 2 < w1.heap.size := by have := hb1.size; simp at this; omega
 have hz2 : w.heap.size + 1 < w1.heap.size := by omega
 have hz3 : w.heap.size < w1.heap.size := by omega
 have HB : Hid (Below w.heap.size w w1) := ((((Below.refl _ _).alloc (Nat.le_refl _) _).alloc (by simp) _).alloc (by simp; omega) _).trans (hb1.mono (by simp; omega))
 clear hb1
 go_wp2
 refine bodyPost_ret (v := .agg #[.int .i64 s.k, .int .i64 s.op, .int .i64 s.d, .int .i64 s.a, .int .i64 s.b, .int .i64 s.imm, .int .i64 s.h, .int .i64 s.cond, .int .i64 s.thn, .int .i64 s.els, .int .i64 s.proc]) (by simp [results, Tryz.results24, go_sem, hc1]) rfl ⟨rfl, ?_⟩
 (repeat refine Below.setCell ?_ (by simp; try omega) _)
 exact HB.out

set_option maxHeartbeats 4000000 in
theorem toStmtS_at (b off len cap : Nat) (L : Nat -> SV) (w : World) (hlen : len <= 1048576) (hat : At w b off (len * 11) (stF L)) :
  Calls Tryz.prog 8 #[.slice (some ⟨b, off, none⟩) len cap] w fun e w' => e = .returned (.slice (some ⟨w.heap.size, 0, none⟩) len len) /\ Below w.heap.size w w' /\ Arr w' w.heap.size (len * 11) (stF L) := by
 obtain ⟨i0, hi, hz0, hz1, hz2⟩ := info_parts info_stmt
 have hb := hat.lt
 have HA : Hid (At w b off (len * 11) (stF L)) := hat
 clear hat
 go_enter Tryz.func8, Tryz.ntmps8
 go_wp2_with (first | (at_make; refine wpList_make_full _ rfl _ _ 39 rfl w.heap.size 60 i0 _ 11 Tryz.underlying39 hi hz0 hz1 .i64 .i64 _ _ len rfl rfl ?c1 ?c2 ?c3 ?c4 ?c5 ?_) | go_in)
 case c1 => rfl
 case c2 => rfl
 case c3 => rw [hz2]; omega
 case c4 => unfold maxLen; omega
 case c5 => exact Nat.le_refl _
 ·intro w1 hown hgrow
  have hbel : Below w.heap.size w w1 := (Below.refl _ _).grown hgrow (Nat.le_refl _) (by intro k hk; cases hk)
  have harr : Arr w1 w.heap.size (len * 11) (upTo (stF L) stZ (0 * 11)) := Arr.made hown fun i hi => by
   rw [made_get _ _ _ hi, Nat.zero_mul, upTo_zero]; exact congrArg some (zeroStmt i)
  clear hown hgrow hi hz0 hz1 hz2
  go_wp2
  go_loopw [4] (fun i wr => ∃ k : Nat, k <= len /\ i = .int .i64 k /\ Below w.heap.size w wr /\ Arr wr w.heap.size (len * 11) (upTo (stF L) stZ (k * 11))) (fun i _ => len - (intOf i).toNat)
  case atStart => exact ⟨0, Nat.zero_le _, rfl, hbel, harr⟩
  case round =>
   clear harr hbel
   obtain ⟨k, hk, rfl, hbr, har⟩ := hrel
   have HAR : Hid (Arr wr w.heap.size (len * 11) (upTo (stF L) stZ (k * 11))) := har
   have hzr := har.lt
   clear har
   by_cases hlt : k < len
   ·have g0 := (hbr.cell (p := ⟨b, off + k * 11, none⟩) hb).trans ((HA.out.cell (i := k * 11 + 0) (by omega)).trans (congrArg some (stF_at L k 0 (by omega))))
    have g1 := (hbr.cell (p := ⟨b, off + k * 11 + 1, none⟩) hb).trans ((HA.out.cell (i := k * 11 + 1) (by omega)).trans (congrArg some (stF_at L k 1 (by omega))))
    have g2 := (hbr.cell (p := ⟨b, off + k * 11 + 2, none⟩) hb).trans ((HA.out.cell (i := k * 11 + 2) (by omega)).trans (congrArg some (stF_at L k 2 (by omega))))
    have g3 := (hbr.cell (p := ⟨b, off + k * 11 + 3, none⟩) hb).trans ((HA.out.cell (i := k * 11 + 3) (by omega)).trans (congrArg some (stF_at L k 3 (by omega))))
    have g4 := (hbr.cell (p := ⟨b, off + k * 11 + 4, none⟩) hb).trans ((HA.out.cell (i := k * 11 + 4) (by omega)).trans (congrArg some (stF_at L k 4 (by omega))))
    have g5 := (hbr.cell (p := ⟨b, off + k * 11 + 5, none⟩) hb).trans ((HA.out.cell (i := k * 11 + 5) (by omega)).trans (congrArg some (stF_at L k 5 (by omega))))
    have g6 := (hbr.cell (p := ⟨b, off + k * 11 + 6, none⟩) hb).trans ((HA.out.cell (i := k * 11 + 6) (by omega)).trans (congrArg some (stF_at L k 6 (by omega))))
    have g7 := (hbr.cell (p := ⟨b, off + k * 11 + 7, none⟩) hb).trans ((HA.out.cell (i := k * 11 + 7) (by omega)).trans (congrArg some (stF_at L k 7 (by omega))))
    have g8 := (hbr.cell (p := ⟨b, off + k * 11 + 8, none⟩) hb).trans ((HA.out.cell (i := k * 11 + 8) (by omega)).trans (congrArg some (stF_at L k 8 (by omega))))
    have g9 := (hbr.cell (p := ⟨b, off + k * 11 + 9, none⟩) hb).trans ((HA.out.cell (i := k * 11 + 9) (by omega)).trans (congrArg some (stF_at L k 9 (by omega))))
    have g10 := (hbr.cell (p := ⟨b, off + k * 11 + 10, none⟩) hb).trans ((HA.out.cell (i := k * 11 + 10) (by omega)).trans (congrArg some (stF_at L k 10 (by omega))))
    simp only [stC] at g0 g1 g2 g3 g4 g5 g6 g7 g8 g9 g10
    go_wp2_with fail
    refine (toStmt_any (L k) _).mono ?_
    rintro e w2 ⟨rfl, hb2⟩
    clear g0 g1 g2 g3 g4 g5 g6 g7 g8 g9 g10
    have A2 := HAR.out.below hb2 hzr
    have f2 := A2.free
    have c0 := A2.cell (i := k * 11) (by omega)
    have c1 := A2.cell (i := k * 11 + 1) (by omega)
    have c2 := A2.cell (i := k * 11 + 2) (by omega)
    have c3 := A2.cell (i := k * 11 + 3) (by omega)
    have c4 := A2.cell (i := k * 11 + 4) (by omega)
    have c5 := A2.cell (i := k * 11 + 5) (by omega)
    have c6 := A2.cell (i := k * 11 + 6) (by omega)
    have c7 := A2.cell (i := k * 11 + 7) (by omega)
    have c8 := A2.cell (i := k * 11 + 8) (by omega)
    have c9 := A2.cell (i := k * 11 + 9) (by omega)
    have c10 := A2.cell (i := k * 11 + 10) (by omega)
    have HR : Hid (Arr w2 w.heap.size (len * 11) (upTo (stF L) stZ (k * 11))) := A2
    clear A2
    go_wp2
    go_roundw
    case rel =>
     refine ⟨k + 1, by omega, by go_num, below_setCells (Nat.le_refl _) [.int .i64 (L k).k, .int .i64 (L k).op, .int .i64 (L k).d, .int .i64 (L k).a, .int .i64 (L k).b, .int .i64 (L k).imm, .int .i64 (L k).h, .int .i64 (L k).cond, .int .i64 (L k).thn, .int .i64 (L k).els, .int .i64 (L k).proc] (k * 11) (hbr.trans (hb2.mono hbr.size)), ?_⟩
     rw [show (k + 1) * 11 = k * 11 + 11 by omega]
     exact HR.out.fill (vs := [.int .i64 (L k).k, .int .i64 (L k).op, .int .i64 (L k).d, .int .i64 (L k).a, .int .i64 (L k).b, .int .i64 (L k).imm, .int .i64 (L k).h, .int .i64 (L k).cond, .int .i64 (L k).thn, .int .i64 (L k).els, .int .i64 (L k).proc]) (by simp; omega) (fun j hj => by
       have hj' : j < 11 := by simpa using hj
       rw [stF_at L k j hj']
       match j, hj' with
       | 0, _ => rfl
       | 1, _ => rfl
       | 2, _ => rfl
       | 3, _ => rfl
       | 4, _ => rfl
       | 5, _ => rfl
       | 6, _ => rfl
       | 7, _ => rfl
       | 8, _ => rfl
       | 9, _ => rfl
       | 10, _ => rfl)
    case measure => simp [intOf]; omega
   ·go_wp2
    go_ret
    obtain rfl : k = len := by omega
    exact ⟨rfl, hbr, HAR.out.filled⟩
set_option maxHeartbeats 400000 in
theorem toStmtS_nil (ao : Option Addr) (cap : Nat) (L : Nat -> SV) (w : World) :
  Calls Tryz.prog 8 #[.slice ao 0 cap] w fun e w' => e = .returned (.slice (some ⟨w.heap.size, 0, none⟩) 0 0) /\ Below w.heap.size w w' /\ Arr w' w.heap.size (0 * 11) (stF L) := by
 obtain ⟨i0, hi, hz0, hz1, hz2⟩ := info_parts info_stmt
 go_enter Tryz.func8, Tryz.ntmps8
 go_wp2_with (first | (at_make; refine wpList_make_full _ rfl _ _ 39 rfl w.heap.size 60 i0 _ 11 Tryz.underlying39 hi hz0 hz1 .i64 .i64 _ _ 0 rfl rfl ?c1 ?c2 ?c3 ?c4 ?c5 ?_) | go_in)
 case c1 => rfl
 case c2 => rfl
 case c3 => rw [hz2]; omega
 case c4 => unfold maxLen; omega
 case c5 => exact Nat.le_refl _
 ·intro w1 hown hgrow
  have hbel : Below w.heap.size w w1 := (Below.refl _ _).grown hgrow (Nat.le_refl _) (by intro k hk; cases hk)
  have harr : Arr w1 w.heap.size (0 * 11) (stF L) := Arr.made hown fun i hi => by omega
  have HX : Hid (Below w.heap.size w w1 /\ Arr w1 w.heap.size (0 * 11) (stF L)) := ⟨hbel, harr⟩
  clear hown hgrow hi hz0 hz1 hz2 hbel harr
  go_wp2
  refine wp_loop_rounds 1 ?_
  rw [rounds_succ]
  go_wp2
  go_ret
  exact ⟨rfl, HX.out.1, HX.out.2⟩
theorem toStmtS_in (ao : Option Addr) (len cap : Nat) (L : Nat -> SV) (w : World) (hlen : len <= 1048576) (h : InRow w ao (len * 11) (stF L)) :
  Calls Tryz.prog 8 #[.slice ao len cap] w fun e w' => e = .returned (.slice (some ⟨w.heap.size, 0, none⟩) len len) /\ Below w.heap.size w w' /\ Arr w' w.heap.size (len * 11) (stF L) := by
 rcases h with h | ⟨b, off, rfl, h⟩
 ·obtain rfl : len = 0 := by omega
  exact toStmtS_nil ao cap L w
 ·exact toStmtS_at b off len cap L w hlen h

set_option maxHeartbeats 400000 in
theorem eqIns_sameU (op d a b imm h : Int) (w : World) :
  Calls Tryz.prog 60 #[.agg #[.int .i64 op, .int .i64 d, .int .i64 a, .int .i64 b, .int .i64 imm, .int .i64 h], .agg #[.int .i64 op, .int .i64 d, .int .i64 a, .int .i64 b, .int .i64 imm, .int .i64 h]] w fun e w' => e = .returned (.bool true) /\ Below w.heap.size w w' := by
 go_enter Tryz.func60, Tryz.ntmps60
 go_wp2
 go_ret
 exact ⟨rfl, ((Below.refl _ _).alloc (Nat.le_refl _) _).alloc (by simp) _⟩

set_option maxHeartbeats 4000000 in
theorem eqStmt_same (s : SV) (w : World) :
  Calls Tryz.prog 34 #[.agg #[.int .i64 s.k, .int .i64 s.op, .int .i64 s.d, .int .i64 s.a, .int .i64 s.b, .int .i64 s.imm, .int .i64 s.h, .int .i64 s.cond, .int .i64 s.thn, .int .i64 s.els, .int .i64 s.proc], .agg #[.int .i64 s.k, .int .i64 s.op, .int .i64 s.d, .int .i64 s.a, .int .i64 s.b, .int .i64 s.imm, .int .i64 s.h, .int .i64 s.cond, .int .i64 s.thn, .int .i64 s.els, .int .i64 s.proc]] w fun e w' => e = .returned (.bool true) /\ Below w.heap.size w w' := by
 go_enter Tryz.func34, Tryz.ntmps34
 go_wp2_with fail
 refine (eqIns_sameU _ _ _ _ _ _ _).mono ?_
 rintro e w1 ⟨rfl, hb1⟩
 obtain ⟨hc1, hf1⟩ := bcell hb1
 have hz1 : w.heap.size + 1 < w1.heap.size := by have := hb1.size; simp at this; omega
 have hz2 : w.heap.size < w1.heap.size := by omega
 have HB : Hid (Below w.heap.size w w1) := (((Below.refl _ _).alloc (Nat.le_refl _) _).alloc (by simp) _).trans (hb1.mono (by simp; omega))
 clear hb1
 go_wp2
 go_ret
 exact ⟨rfl, HB.out⟩

set_option maxHeartbeats 4000000 in
theorem eqStmtS_same (b off len cap b' off' cap' : Nat) (L : Nat -> SV) (w : World) (hlen : len <= 1048576) (hat : At w b off (len * 11) (stF L)) (hat' : At w b' off' (len * 11) (stF L)) :
  Calls Tryz.prog 12 #[.slice (some ⟨b, off, none⟩) len cap, .slice (some ⟨b', off', none⟩) len cap'] w fun e w' => e = .returned (.bool true) /\ Below w.heap.size w w' := by
 have hb := hat.lt
 have hb' := hat'.lt
 have HA : Hid (At w b off (len * 11) (stF L)) := hat
 have HA' : Hid (At w b' off' (len * 11) (stF L)) := hat'
 clear hat hat'
 go_enter Tryz.func12, Tryz.ntmps12
 go_wp2
 go_loopw [5] (fun i wr => ∃ k : Nat, k <= len /\ i = .int .i64 k /\ Below w.heap.size w wr) (fun i _ => len - (intOf i).toNat)
 case atStart => exact ⟨0, Nat.zero_le _, rfl, Below.refl _ _⟩
 case round =>
  obtain ⟨k, hk, rfl, hbr⟩ := hrel
  by_cases hlt : k < len
  ·have g0 := (hbr.cell (p := ⟨b, off + k * 11, none⟩) hb).trans ((HA.out.cell (i := k * 11 + 0) (by omega)).trans (congrArg some (stF_at L k 0 (by omega))))
   have g1 := (hbr.cell (p := ⟨b, off + k * 11 + 1, none⟩) hb).trans ((HA.out.cell (i := k * 11 + 1) (by omega)).trans (congrArg some (stF_at L k 1 (by omega))))
   have g2 := (hbr.cell (p := ⟨b, off + k * 11 + 2, none⟩) hb).trans ((HA.out.cell (i := k * 11 + 2) (by omega)).trans (congrArg some (stF_at L k 2 (by omega))))
   have g3 := (hbr.cell (p := ⟨b, off + k * 11 + 3, none⟩) hb).trans ((HA.out.cell (i := k * 11 + 3) (by omega)).trans (congrArg some (stF_at L k 3 (by omega))))
   have g4 := (hbr.cell (p := ⟨b, off + k * 11 + 4, none⟩) hb).trans ((HA.out.cell (i := k * 11 + 4) (by omega)).trans (congrArg some (stF_at L k 4 (by omega))))
   have g5 := (hbr.cell (p := ⟨b, off + k * 11 + 5, none⟩) hb).trans ((HA.out.cell (i := k * 11 + 5) (by omega)).trans (congrArg some (stF_at L k 5 (by omega))))
   have g6 := (hbr.cell (p := ⟨b, off + k * 11 + 6, none⟩) hb).trans ((HA.out.cell (i := k * 11 + 6) (by omega)).trans (congrArg some (stF_at L k 6 (by omega))))
   have g7 := (hbr.cell (p := ⟨b, off + k * 11 + 7, none⟩) hb).trans ((HA.out.cell (i := k * 11 + 7) (by omega)).trans (congrArg some (stF_at L k 7 (by omega))))
   have g8 := (hbr.cell (p := ⟨b, off + k * 11 + 8, none⟩) hb).trans ((HA.out.cell (i := k * 11 + 8) (by omega)).trans (congrArg some (stF_at L k 8 (by omega))))
   have g9 := (hbr.cell (p := ⟨b, off + k * 11 + 9, none⟩) hb).trans ((HA.out.cell (i := k * 11 + 9) (by omega)).trans (congrArg some (stF_at L k 9 (by omega))))
   have g10 := (hbr.cell (p := ⟨b, off + k * 11 + 10, none⟩) hb).trans ((HA.out.cell (i := k * 11 + 10) (by omega)).trans (congrArg some (stF_at L k 10 (by omega))))
   have q0 := (hbr.cell (p := ⟨b', off' + k * 11, none⟩) hb').trans ((HA'.out.cell (i := k * 11 + 0) (by omega)).trans (congrArg some (stF_at L k 0 (by omega))))
   have q1 := (hbr.cell (p := ⟨b', off' + k * 11 + 1, none⟩) hb').trans ((HA'.out.cell (i := k * 11 + 1) (by omega)).trans (congrArg some (stF_at L k 1 (by omega))))
   have q2 := (hbr.cell (p := ⟨b', off' + k * 11 + 2, none⟩) hb').trans ((HA'.out.cell (i := k * 11 + 2) (by omega)).trans (congrArg some (stF_at L k 2 (by omega))))
   have q3 := (hbr.cell (p := ⟨b', off' + k * 11 + 3, none⟩) hb').trans ((HA'.out.cell (i := k * 11 + 3) (by omega)).trans (congrArg some (stF_at L k 3 (by omega))))
   have q4 := (hbr.cell (p := ⟨b', off' + k * 11 + 4, none⟩) hb').trans ((HA'.out.cell (i := k * 11 + 4) (by omega)).trans (congrArg some (stF_at L k 4 (by omega))))
   have q5 := (hbr.cell (p := ⟨b', off' + k * 11 + 5, none⟩) hb').trans ((HA'.out.cell (i := k * 11 + 5) (by omega)).trans (congrArg some (stF_at L k 5 (by omega))))
   have q6 := (hbr.cell (p := ⟨b', off' + k * 11 + 6, none⟩) hb').trans ((HA'.out.cell (i := k * 11 + 6) (by omega)).trans (congrArg some (stF_at L k 6 (by omega))))
   have q7 := (hbr.cell (p := ⟨b', off' + k * 11 + 7, none⟩) hb').trans ((HA'.out.cell (i := k * 11 + 7) (by omega)).trans (congrArg some (stF_at L k 7 (by omega))))
   have q8 := (hbr.cell (p := ⟨b', off' + k * 11 + 8, none⟩) hb').trans ((HA'.out.cell (i := k * 11 + 8) (by omega)).trans (congrArg some (stF_at L k 8 (by omega))))
   have q9 := (hbr.cell (p := ⟨b', off' + k * 11 + 9, none⟩) hb').trans ((HA'.out.cell (i := k * 11 + 9) (by omega)).trans (congrArg some (stF_at L k 9 (by omega))))
   have q10 := (hbr.cell (p := ⟨b', off' + k * 11 + 10, none⟩) hb').trans ((HA'.out.cell (i := k * 11 + 10) (by omega)).trans (congrArg some (stF_at L k 10 (by omega))))
   simp only [stC] at g0 g1 g2 g3 g4 g5 g6 g7 g8 g9 g10 q0 q1 q2 q3 q4 q5 q6 q7 q8 q9 q10
   have hlt' : (k : Int) < (len : Int) := by omega
   go_wp2_with fail
   go_region_with (go_at_call 34; refine (eqStmt_same (L k) _).mono ?_; rintro e w' ⟨rfl, hb2⟩)
   all_goals
    clear g0 g1 g2 g3 g4 g5 g6 g7 g8 g9 g10 q0 q1 q2 q3 q4 q5 q6 q7 q8 q9 q10
    go_wp2
    go_roundw
    case rel => exact ⟨k + 1, by omega, by go_num, hbr.drew.trans (hb2.mono hbr.size)⟩
    case measure => simp [intOf]; omega
  ·go_wp2
   go_ret
   exact ⟨rfl, hbr⟩
end Go.Proofs.YtcgcldokompafaaGreatDoor
/- Lists of procedures: copied, measured, compared. -/
namespace Go.Proofs.YtcgcldokompafaaGreatDoor
open Go.RowKit



end Go.Proofs.YtcgcldokompafaaGreatDoor
/- A list of procedures that reads as data. -/
namespace Go.Proofs.YtcgcldokompafaaGreatDoor
open Go.ChangeShapes Go.WideShapes Go.ChangeAt Go.RowKit Go.Deep
theorem cellsU_i64 : Tryz.prog.cellsOf 2 = 1 := by kernel_rfl
theorem cellsU_ins : Tryz.prog.cellsOf 62 = 6 := by kernel_rfl
theorem cellsU_stmt : Tryz.prog.cellsOf 64 = 11 := by kernel_rfl
section
variable {H : Type} {enc : TypeId × Value -> H} {w : World} {base : Nat} {spare : Nat -> Bool} {held : Bool}
set_option maxRecDepth 100000 in
theorem insU_cells {fuel : Nat} {cs : List Value} {x : DataW H × List MemPlace} (h : DataW.trod enc Tryz.prog w base spare held fuel 62 cs = some x) :
  ∃ op d a b imm hh : Int, cs = [.int .i64 op, .int .i64 d, .int .i64 a, .int .i64 b, .int .i64 imm, .int .i64 hh] := by
 obtain ⟨xs, n, _, _, hl, hlen, hf⟩ := DataW.trod_struct Tryz.underlying62 h
 rw [cellsU_ins] at hl
 match cs, hl with
 | [c0, c1, c2, c3, c4, c5], _ =>
  match xs, hlen with
  | [y0, y1, y2, y3, y4, y5], _ =>
   have h0 := hf 0 _ rfl
   have h1 := hf 1 _ rfl
   have h2 := hf 2 _ rfl
   have h3 := hf 3 _ rfl
   have h4 := hf 4 _ rfl
   have h5 := hf 5 _ rfl
   simp [cellsU_i64] at h0 h1 h2 h3 h4 h5
   obtain ⟨n0, e0, _⟩ := DataW.trod_int Tryz.underlying2 h0
   obtain ⟨n1, e1, _⟩ := DataW.trod_int Tryz.underlying2 h1
   obtain ⟨n2, e2, _⟩ := DataW.trod_int Tryz.underlying2 h2
   obtain ⟨n3, e3, _⟩ := DataW.trod_int Tryz.underlying2 h3
   obtain ⟨n4, e4, _⟩ := DataW.trod_int Tryz.underlying2 h4
   obtain ⟨n5, e5, _⟩ := DataW.trod_int Tryz.underlying2 h5
   simp at e0 e1 e2 e3 e4 e5
   subst e0 e1 e2 e3 e4 e5
   exact ⟨_, _, _, _, _, _, rfl⟩
set_option maxRecDepth 100000 in
theorem stmtU_cells {fuel : Nat} {cs : List Value} {x : DataW H × List MemPlace} (h : DataW.trod enc Tryz.prog w base spare held fuel 64 cs = some x) :
  ∃ s : SV, cs = [.int .i64 s.k, .int .i64 s.op, .int .i64 s.d, .int .i64 s.a, .int .i64 s.b, .int .i64 s.imm, .int .i64 s.h, .int .i64 s.cond, .int .i64 s.thn, .int .i64 s.els, .int .i64 s.proc] := by
 obtain ⟨xs, n, _, _, hl, hlen, hf⟩ := DataW.trod_struct Tryz.underlying64 h
 rw [cellsU_stmt] at hl
 match cs, hl with
 | [c0, c1, c2, c3, c4, c5, c6, c7, c8, c9, c10], _ =>
  match xs, hlen with
  | [y0, y1, y2, y3, y4, y5], _ =>
   have h0 := hf 0 _ rfl
   have h1 := hf 1 _ rfl
   have h2 := hf 2 _ rfl
   have h3 := hf 3 _ rfl
   have h4 := hf 4 _ rfl
   have h5 := hf 5 _ rfl
   simp [cellsU_i64, cellsU_ins] at h0 h1 h2 h3 h4 h5
   obtain ⟨n0, e0, _⟩ := DataW.trod_int Tryz.underlying2 h0
   obtain ⟨op, d, a, b, imm, hh, e1⟩ := insU_cells h1
   obtain ⟨n2, e2, _⟩ := DataW.trod_int Tryz.underlying2 h2
   obtain ⟨n3, e3, _⟩ := DataW.trod_int Tryz.underlying2 h3
   obtain ⟨n4, e4, _⟩ := DataW.trod_int Tryz.underlying2 h4
   obtain ⟨n5, e5, _⟩ := DataW.trod_int Tryz.underlying2 h5
   simp at e0 e1 e2 e3 e4 e5
   obtain ⟨f0, f1, f2, f3, f4, f5⟩ := e1
   subst e0 f0 f1 f2 f3 f4 f5 e2 e3 e4 e5
   exact ⟨⟨_, _, _, _, _, _, _, _, _, _, _⟩, rfl⟩
theorem open_stmtS {fuel : Nat} {ao : Option Addr} {len cap : Nat} {x : DataW H × List MemPlace} (h : DataW.trod enc Tryz.prog w base spare held fuel 26 [.slice ao len cap] = some x) : len <= maxLen /\ ∃ L, InRow w ao (len * 11) (stF L) := by
 obtain ⟨hm, f, hin, hel⟩ := open_row Tryz.underlying26 cellsU_stmt (by omega) h
 refine ⟨hm, ?_⟩
 have : Inhabited SV := ⟨⟨0, 0, 0, 0, 0, 0, 0, 0, 0, 0, 0⟩⟩
 obtain ⟨L, hG⟩ := choose_lt (n := len) (p := fun i (s : SV) => ∀ j, j < 11 -> f (i * 11 + j) = stC s j) (fun i hi => by
    obtain ⟨n, y, hy⟩ := hel i hi
    obtain ⟨s, e⟩ := stmtU_cells hy
    refine ⟨s, fun j hj => ?_⟩
    simp [List.range, List.range.loop] at e
    obtain ⟨e0, e1, e2, e3, e4, e5, e6, e7, e8, e9, e10⟩ := e
    match j, hj with
    | 0, _ => exact e0
    | 1, _ => exact e1
    | 2, _ => exact e2
    | 3, _ => exact e3
    | 4, _ => exact e4
    | 5, _ => exact e5
    | 6, _ => exact e6
    | 7, _ => exact e7
    | 8, _ => exact e8
    | 9, _ => exact e9
    | 10, _ => exact e10)
 refine ⟨L, hin.congr fun p hp => ?_⟩
 have h1 : p / 11 < len := by omega
 have := hG (p / 11) h1 (p % 11) (by omega)
 rw [show p / 11 * 11 + p % 11 = p by omega] at this
 rw [this]; rfl
end
end Go.Proofs.YtcgcldokompafaaGreatDoor
