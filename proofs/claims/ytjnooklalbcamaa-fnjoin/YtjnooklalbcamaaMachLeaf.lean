/- The small functions under ValidMach. -/
import Derived.Test.YtjnooklalbcamaaMachCopy2
import Derived.Test.YtjnooklalbcamaaInsLeaf
namespace Go.Proofs.Ytjnooklalbcamaa
open Go.RowKit

def hOK (base : Int) (len : Nat) : Bool := decide (1 ≤ (len : Int)) && decide ((len : Int) ≤ 4096) && decide (base ≤ 18446744073709551615 - (len : Int))
def ovl (base : Int) (len : Nat) (base' : Int) (len' : Nat) : Bool := decide (base < base' + (len' : Int)) && decide (base' < base + (len : Int))

set_option maxHeartbeats 400000 in
theorem size_any (base : Int) (wr : Bool) (ao : Option Addr) (len cap : Nat) (w : World) (hl : len ≤ 1048576) :
    Calls Try.prog 96 #[.agg #[.int .u64 base, .bool wr, .slice ao len cap]] w fun e w' => e = .returned (.int .u64 len) ∧ Below w.heap.size w w' := by
  go_enter Try.func96, Try.ntmps96
  go_wp2
  go_ret
  exact ⟨rfl, (Below.refl _ _).alloc (Nat.le_refl _) _⟩

set_option maxHeartbeats 400000 in
theorem validHeap_any (base : Int) (wr : Bool) (ao : Option Addr) (len cap : Nat) (w : World) (hl : len ≤ 1048576) :
    Calls Try.prog 128 #[.agg #[.int .u64 base, .bool wr, .slice ao len cap]] w fun e w' => e = .returned (.bool (hOK base len)) ∧ Below w.heap.size w w' := by
  go_enter Try.func128, Try.ntmps128
  go_wp2
  all_goals (go_ret; refine ⟨ret_bool ?_, (Below.refl _ _).alloc (Nat.le_refl _) _⟩; simp [hOK] <;> omega)

set_option maxHeartbeats 400000 in
theorem overlap_any (base : Int) (wr : Bool) (ao : Option Addr) (len cap : Nat) (base' : Int) (wr' : Bool) (ao' : Option Addr) (len' cap' : Nat) (w : World) (hl : len ≤ 1048576) (hl' : len' ≤ 1048576) (hb0 : 0 ≤ base) (hb1 : base + len ≤ 18446744073709551615) (hb0' : 0 ≤ base') (hb1' : base' + len' ≤ 18446744073709551615) :
    Calls Try.prog 129 #[.agg #[.int .u64 base, .bool wr, .slice ao len cap], .agg #[.int .u64 base', .bool wr', .slice ao' len' cap']] w fun e w' => e = .returned (.bool (ovl base len base' len')) ∧ Below w.heap.size w w' := by
  go_enter Try.func129, Try.ntmps129
  go_wp2
  all_goals (go_ret; refine ⟨ret_bool ?_, ((Below.refl _ _).alloc (Nat.le_refl _) _).alloc (by simp) _⟩; simp [ovl] <;> omega)
end Go.Proofs.Ytjnooklalbcamaa
