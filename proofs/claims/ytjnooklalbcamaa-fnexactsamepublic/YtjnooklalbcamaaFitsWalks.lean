/- A machine that fits a signature: the program's word. -/
import Derived.Test.YtjnooklalbcamaaFitsLeaf
namespace Go.Proofs.Ytjnooklalbcamaa
open Go.RowKit

set_option maxHeartbeats 1000000 in
theorem equalHeaps_any (bH cH nH : Nat) (S : Nat → HS) (B cap nH1 : Nat) (Hp : Nat → HeapV) (blk : Nat → Nat) (w : World) (lH : nH ≤ 1048576) (l1 : nH1 ≤ 1048576) (hlen : ∀ i, i < nH1 → (Hp i).len ≤ 1048576) (h1 : Arr w bH (nH * 3) (hsF S)) (hcp : Copied w B nH1 Hp blk) :
    Calls Try.prog 66 #[.slice (some ⟨bH, 0, none⟩) nH cH, .slice (some ⟨B, 0, none⟩) nH1 cap, .func (.func 67) #[] #[]] w fun e w' => e = .returned (.bool (sameB nH S nH1 Hp)) ∧ Below w.heap.size w w' := by
  have hbH := h1.lt
  have hb := hcp.1.lt
  have H1 : Hid (Arr w bH (nH * 3) (hsF S)) := h1
  have HA : Hid (Copied w B nH1 Hp blk) := hcp
  have HL : Hid (∀ i, i < nH1 → (Hp i).len ≤ 1048576) := hlen
  clear h1 hcp hlen
  have hent : ∀ args w, (callFunc 67 args).run Try.prog w = .ok (.enter 67 args) w := by intro _ _; go_simp
  by_cases hn : nH = nH1
  · subst hn
    go_enter Try.func66, Try.ntmps66
    go_wp2
    go_loopw [17] (fun i wr => ∃ k : Nat, k ≤ nH ∧ i = .int .i64 k ∧ Below w.heap.size w wr ∧ ∀ i, i < k → sameAt S Hp i = true) (fun i _ => nH - (intOf i).toNat)
    case atStart => exact ⟨0, Nat.zero_le _, rfl, Below.refl _ _, fun i hi => by omega⟩
    case round =>
      obtain ⟨k, hk, rfl, hbr, hall⟩ := hrel
      have HK : Hid (∀ i, i < k → sameAt S Hp i = true) := hall
      clear hall
      by_cases hlt : k < nH
      · have s0 := (hbr.cell (p := ⟨bH, k * 3, none⟩) hbH).trans (H1.out.cell (i := k * 3 + 0) (by omega) |>.trans (congrArg some (hsF_at S k 0 (by omega))))
        have s1 := (hbr.cell (p := ⟨bH, k * 3 + 1, none⟩) hbH).trans (H1.out.cell (i := k * 3 + 1) (by omega) |>.trans (congrArg some (hsF_at S k 1 (by omega))))
        have s2 := (hbr.cell (p := ⟨bH, k * 3 + 2, none⟩) hbH).trans (H1.out.cell (i := k * 3 + 2) (by omega) |>.trans (congrArg some (hsF_at S k 2 (by omega))))
        have g0 := (hbr.cell (p := ⟨B, k * 3, none⟩) hb).trans ((HA.out.1.cell (i := k * 3 + 0) (by omega)).trans (congrArg some (heapF_0 _ k)))
        have g1 := (hbr.cell (p := ⟨B, k * 3 + 1, none⟩) hb).trans ((HA.out.1.cell (i := k * 3 + 1) (by omega)).trans (congrArg some (heapF_1 _ k)))
        have g2 := (hbr.cell (p := ⟨B, k * 3 + 2, none⟩) hb).trans ((HA.out.1.cell (i := k * 3 + 2) (by omega)).trans (congrArg some (heapF_2 _ k)))
        simp only [hsC, HeapV.moved] at s0 s1 s2 g0 g1 g2
        have hb' : B < wr.heap.size := Nat.lt_of_lt_of_le hb hbr.size
        have hbH' : bH < wr.heap.size := Nat.lt_of_lt_of_le hbH hbr.size
        have HBR : Hid (Below w.heap.size w wr) := hbr
        clear hbr
        go_wp2_with fail
        refine (fitsHeap_any _ _ _ _ _ _ _ _ _ (HL.out k hlt)).mono ?_
        rintro e w2 ⟨rfl, hb2⟩
        have HB2 : Hid (Below w.heap.size w w2) := ((HBR.out.alloc HBR.out.size _).alloc (by have := HBR.out.size; simp; omega) _).trans (hb2.mono (by have := HBR.out.size; simp; omega))
        clear hb2 s0 s1 s2 g0 g1 g2
        have hv : (decide ((S k).size = ((Hp k).len : Int)) && ((S k).w == (Hp k).wr)) = sameAt S Hp k := rfl
        rw [hv]
        cases hg : sameAt S Hp k with
        | false =>
          have HG : Hid (sameAt S Hp k = false) := hg
          clear hg hv
          go_wp2
          go_ret
          exact ⟨ret_bool (same_no hlt HG.out).symm, HB2.out⟩
        | true =>
          have HG : Hid (sameAt S Hp k = true) := hg
          clear hg hv
          go_wp2
          go_roundw
          case rel => exact ⟨k + 1, by omega, by go_num, HB2.out, upto_step HK.out HG.out⟩
          case measure => simp [intOf]; omega
      · obtain rfl : k = nH := by omega
        go_wp2
        go_ret
        exact ⟨ret_bool (same_yes rfl HK.out).symm, hbr⟩
  · go_enter Try.func66, Try.ntmps66
    go_wp2
    go_ret
    exact ⟨ret_bool (same_len hn).symm, Below.refl _ _⟩
end Go.Proofs.Ytjnooklalbcamaa
