/- impl.validHeaps and impl.validSeen. -/
import Derived.Test.YtjnooklalbcamaaMachLeaf
namespace Go.Proofs.Ytjnooklalbcamaa
open Go.RowKit

def apartAt (Hp : Nat → HeapV) (i j : Nat) : Bool := !ovl (Hp j).base (Hp j).len (Hp i).base (Hp i).len
def heapAt (Hp : Nat → HeapV) (i : Nat) : Bool := hOK (Hp i).base (Hp i).len && (List.range i).all (apartAt Hp i)
def heapsOK (n : Nat) (Hp : Nat → HeapV) : Bool := decide (n ≤ 8) && (List.range n).all (heapAt Hp)
theorem all_no {n k : Nat} {p : Nat → Bool} (hk : k < n) (h : p k = false) : (List.range n).all p = false := by
  rw [List.all_eq_false]; exact ⟨k, List.mem_range.2 hk, by simp [h]⟩
theorem all_yes {n : Nat} {p : Nat → Bool} (h : ∀ i, i < n → p i = true) : (List.range n).all p = true := by
  rw [List.all_eq_true]; exact fun i hi => h i (List.mem_range.1 hi)
theorem upto_step {k : Nat} {p : Nat → Bool} (h : ∀ i, i < k → p i = true) (g : p k = true) : ∀ i, i < k + 1 → p i = true := by
  intro i hi
  by_cases e : i = k
  · rw [e]; exact g
  · exact h i (by omega)
theorem heaps_no {n k : Nat} {Hp : Nat → HeapV} (hk : k < n) (h : heapAt Hp k = false) : heapsOK n Hp = false := by simp [heapsOK, all_no hk h]
theorem heaps_yes {n : Nat} {Hp : Nat → HeapV} (hn : n ≤ 8) (h : ∀ i, i < n → heapAt Hp i = true) : heapsOK n Hp = true := by simp [heapsOK, all_yes h, hn]
theorem hOK_le {base : Int} {len : Nat} (h : hOK base len = true) : 1 ≤ len ∧ len ≤ 4096 ∧ base + len ≤ 18446744073709551615 := by
  simp [hOK] at h; omega

set_option maxHeartbeats 1000000 in
theorem validHeaps_any (B n cap : Nat) (Hp : Nat → HeapV) (blk : Nat → Nat) (w : World) (hn : n ≤ 8) (hcap : n ≤ cap) (hlen : ∀ i, i < n → (Hp i).len ≤ 1048576) (hbase : ∀ i, i < n → 0 ≤ (Hp i).base) (hcp : Copied w B n Hp blk) :
    Calls Try.prog 100 #[.slice (some ⟨B, 0, none⟩) n cap] w fun e w' => e = .returned (.bool (heapsOK n Hp)) ∧ Below w.heap.size w w' := by
  have hb := hcp.1.lt
  have HA : Hid (Copied w B n Hp blk) := hcp
  have HL : Hid (∀ i, i < n → (Hp i).len ≤ 1048576) := hlen
  have HZ : Hid (∀ i, i < n → 0 ≤ (Hp i).base) := hbase
  clear hcp hlen hbase
  go_enter Try.func100, Try.ntmps100
  go_wp2
  go_loopw [12] (fun i wr => ∃ k : Nat, k ≤ n ∧ i = .int .i64 k ∧ Below w.heap.size w wr ∧ ∀ i, i < k → heapAt Hp i = true) (fun i _ => n - (intOf i).toNat)
  case atStart => exact ⟨0, Nat.zero_le _, rfl, Below.refl _ _, fun i hi => by omega⟩
  case round =>
    obtain ⟨k, hk, rfl, hbr, hall⟩ := hrel
    have HK : Hid (∀ i, i < k → heapAt Hp i = true) := hall
    clear hall
    by_cases hlt : k < n
    · have g0 := (hbr.cell (p := ⟨B, k * 3, none⟩) hb).trans ((HA.out.1.cell (i := k * 3 + 0) (by omega)).trans (congrArg some (heapF_0 _ k)))
      have g1 := (hbr.cell (p := ⟨B, k * 3 + 1, none⟩) hb).trans ((HA.out.1.cell (i := k * 3 + 1) (by omega)).trans (congrArg some (heapF_1 _ k)))
      have g2 := (hbr.cell (p := ⟨B, k * 3 + 2, none⟩) hb).trans ((HA.out.1.cell (i := k * 3 + 2) (by omega)).trans (congrArg some (heapF_2 _ k)))
      simp only [HeapV.moved] at g0 g1 g2
      go_wp2_with fail
      refine (validHeap_any _ _ _ _ _ _ (HL.out k hlt)).mono ?_
      rintro e w2 ⟨rfl, hb2⟩
      have HB2 : Hid (Below w.heap.size w w2) := (hbr.alloc hbr.size _).trans (hb2.mono (by have := hbr.size; simp; omega))
      obtain ⟨hc2, _⟩ := bcell hb2
      have hz2 : wr.heap.size < w2.heap.size := by have := hb2.size; simp at this; omega
      have hx0 := hc2 wr.heap.size 0 (by simp)
      have hx1 := hc2 wr.heap.size 1 (by simp)
      have hx2 := hc2 wr.heap.size 2 (by simp)
      simp [go_sem] at hx0 hx1 hx2
      clear hc2 hb2 g0 g1 g2
      cases hv : hOK (Hp k).base (Hp k).len with
      | false =>
        go_wp2
        go_ret
        exact ⟨ret_bool (heaps_no hlt (by simp [heapAt, hv])).symm, HB2.out⟩
      | true =>
        have HV : Hid (hOK (Hp k).base (Hp k).len = true) := hv
        clear hv
        have hcap' : k ≤ cap := by omega
        go_wp2
        generalize wr.heap.size = Bx at hz2 hx0 hx1 hx2 ⊢
        go_loopw [24] (fun i wi => ∃ j : Nat, j ≤ k ∧ i = .int .i64 j ∧ Below w2.heap.size w2 wi ∧ ∀ i, i < j → apartAt Hp k i = true) (fun i _ => k - (intOf i).toNat)
        case atStart => exact ⟨0, Nat.zero_le _, rfl, Below.refl _ _, fun i hi => by omega⟩
        case round =>
          obtain ⟨j, hj, rfl, hbi, hap⟩ := hrel
          have HP : Hid (∀ i, i < j → apartAt Hp k i = true) := hap
          clear hap
          have y0 := (hbi.cell (p := ⟨Bx, 0, none⟩) hz2).trans hx0
          have y1 := (hbi.cell (p := ⟨Bx, 1, none⟩) hz2).trans hx1
          have y2 := (hbi.cell (p := ⟨Bx, 2, none⟩) hz2).trans hx2
          have HBI : Hid (Below w.heap.size w wr) := HB2.out.trans (hbi.mono HB2.out.size)
          have hzi : Bx < wr.heap.size := Nat.lt_of_lt_of_le hz2 hbi.size
          clear hx0 hx1 hx2
          by_cases hjk : j < k
          · have g0 := (HBI.out.cell (p := ⟨B, j * 3, none⟩) hb).trans ((HA.out.1.cell (i := j * 3 + 0) (by omega)).trans (congrArg some (heapF_0 _ j)))
            have g1 := (HBI.out.cell (p := ⟨B, j * 3 + 1, none⟩) hb).trans ((HA.out.1.cell (i := j * 3 + 1) (by omega)).trans (congrArg some (heapF_1 _ j)))
            have g2 := (HBI.out.cell (p := ⟨B, j * 3 + 2, none⟩) hb).trans ((HA.out.1.cell (i := j * 3 + 2) (by omega)).trans (congrArg some (heapF_2 _ j)))
            simp only [HeapV.moved] at g0 g1 g2
            go_wp2_with fail
            have o1 := hOK_le HV.out
            have o2 : hOK (Hp j).base (Hp j).len = true := by have := HK.out j hjk; simp [heapAt] at this; exact this.1
            have o3 := hOK_le o2
            refine (overlap_any _ _ _ _ _ _ _ _ _ _ _ (HL.out j (by omega)) (HL.out k hlt) (HZ.out j (by omega)) o3.2.2 (HZ.out k hlt) o1.2.2).mono ?_
            rintro e w3 ⟨rfl, hb3⟩
            have b3 := (hbi.alloc hbi.size _).trans (hb3.mono (by have := hbi.size; simp; omega))
            have HB3 : Hid (Below w2.heap.size w2 w3) := b3
            clear hb3 b3 g0 g1 g2 o1 o2 o3 y0 y1 y2
            cases hv : ovl (Hp j).base (Hp j).len (Hp k).base (Hp k).len with
            | true =>
              go_wp2
              go_ret
              exact ⟨ret_bool (heaps_no hlt (by simp [heapAt, all_no hjk (show apartAt Hp k j = false by simp [apartAt, hv])])).symm, HB2.out.trans (HB3.out.mono HB2.out.size)⟩
            | false =>
              have q : apartAt Hp k j = true := by simp [apartAt, hv]
              have HQ : Hid (apartAt Hp k j = true) := q
              clear hv q
              go_wp2
              go_roundw
              case rel => exact ⟨j + 1, by omega, by go_num, HB3.out, upto_step HP.out HQ.out⟩
              case measure => simp [intOf]; omega
          · obtain rfl : j = k := by omega
            have q : heapAt Hp j = true := by simp only [heapAt, HV.out, all_yes HP.out, Bool.and_self]
            have HQ : Hid (heapAt Hp j = true) := q
            clear y0 y1 y2 q
            go_wp2
            go_roundw
            case rel => exact ⟨j + 1, by omega, by go_num, HBI.out, upto_step HK.out HQ.out⟩
            case measure => simp [intOf]; omega
    · go_wp2
      go_ret
      obtain rfl : k = n := by omega
      exact ⟨ret_bool (heaps_yes hn HK.out).symm, hbr⟩
end Go.Proofs.Ytjnooklalbcamaa
