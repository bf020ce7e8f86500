/- A register that is as a Val says, a heaplet that is as its signature says: the program's word and the specification's. -/
import Derived.Test.YtjnooklalbcamaaSigWalks
import Derived.Test.YtjnooklalbcamaaMachSpec
import Derived.Test.YtjnooklalbcamaaRegL
import Derived.Deep.RegionHeld3
namespace Go.Proofs.Ytjnooklalbcamaa
open Go.RowKit

/-- A register is as a Val says, with these heaplets. -/
def holdsB (v : VV) (x : Int) (Hp : Nat → HeapV) : Bool :=
  if v.k = 0 then decide (v.m = -1 ∨ x ≤ v.m) else decide (v.lo ≤ IntKind.i64.wrap (x - (Hp v.h.toNat).base) ∧ IntKind.i64.wrap (x - (Hp v.h.toNat).base) ≤ v.hi)
def sameAt (S : Nat → HS) (Hp : Nat → HeapV) (i : Nat) : Bool := decide ((S i).size = ((Hp i).len : Int)) && ((S i).w == (Hp i).wr)
def sameB (nH : Nat) (S : Nat → HS) (nH1 : Nat) (Hp : Nat → HeapV) : Bool := decide (nH = nH1) && (List.range nH).all (sameAt S Hp)
theorem same_no {n k nH1 : Nat} {S : Nat → HS} {Hp : Nat → HeapV} (hk : k < n) (h : sameAt S Hp k = false) : sameB n S nH1 Hp = false := by simp [sameB, all_no hk h]
theorem same_len {n nH1 : Nat} {S : Nat → HS} {Hp : Nat → HeapV} (h : n ≠ nH1) : sameB n S nH1 Hp = false := by simp [sameB, h]
theorem same_yes {n nH1 : Nat} {S : Nat → HS} {Hp : Nat → HeapV} (hn : n = nH1) (h : ∀ i, i < n → sameAt S Hp i = true) : sameB n S nH1 Hp = true := by subst hn; simp only [sameB, all_yes h, Bool.and_true, decide_true]

set_option maxHeartbeats 1000000 in
theorem fitsHeap_any (size : Int) (s wf : Bool) (base : Int) (wr : Bool) (ao : Option Addr) (len cap : Nat) (w : World) (_hl : len ≤ 1048576) :
    Calls Try.prog 67 #[.agg #[.int .i64 size, .bool s, .bool wf], .agg #[.int .u64 base, .bool wr, .slice ao len cap]] w fun e w' => e = .returned (.bool (decide (size = (len : Int)) && (wf == wr))) ∧ Below w.heap.size w w' := by
  by_cases h : (len : Int) = size
  · go_enter Try.func67, Try.ntmps67
    go_wp2
    all_goals (go_ret; refine ⟨ret_bool ?_, ((Below.refl _ _).alloc (Nat.le_refl _) _).alloc (by simp) _⟩; cases wf <;> cases wr <;> simp [h])
  · go_enter Try.func67, Try.ntmps67
    go_wp2
    all_goals (go_ret; refine ⟨ret_bool ?_, ((Below.refl _ _).alloc (Nat.le_refl _) _).alloc (by simp) _⟩; simp [Ne.symm h])

theorem wrap_u64_le {n : Int} (h0 : 0 ≤ n) (h1 : n ≤ 2199023255552) : IntKind.u64.wrap n = n := by rw [IntKind.wrap_u64]; omega
theorem fits_ptr {x base lo hi : Int} (h1 : -1099511627776 ≤ lo) (h2 : lo ≤ hi) (h3 : hi ≤ 1099511627776) :
    decide (IntKind.u64.wrap (IntKind.u64.wrap (x - base) - IntKind.u64.wrap lo) ≤ hi - lo) = decide (lo ≤ IntKind.i64.wrap (x - base) ∧ IntKind.i64.wrap (x - base) ≤ hi) := by
  simp only [IntKind.wrap_u64, IntKind.wrap_i64, decide_eq_decide]
  omega
end Go.Proofs.Ytjnooklalbcamaa
