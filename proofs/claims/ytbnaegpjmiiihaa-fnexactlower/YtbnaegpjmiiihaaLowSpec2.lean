/- Lists lowered: the model's word, whole. -/
import Derived.Test.YtbnaegpjmiiihaaLowSpec
namespace Go.Proofs.Ytbnaegpjmiiihaa
open Go.RowKit
theorem l3Lower_any (L : Nat → SV) (b n : Nat) (ln : n ≤ 2000) : ∀ (m i te : Nat) (depth : Int), te - i ≤ m → i ≤ te → te ≤ n → (chk L 0 0 321 i te depth).1 = 0 → LowC L b n i te := by
  intro m
  induction m with
  | zero =>
    intro i te depth hm hit hte hck
    exact l3Lower_go L b n i te depth hit hte ln hck (fun i' te' d h1 h2 h3 h4 => by omega)
  | succ m ih =>
    intro i te depth hm hit hte hck
    exact l3Lower_go L b n i te depth hit hte ln hck (fun i' te' d h1 h2 h3 h4 h5 => ih i' te' d (by omega) h2 (by omega) h5)
theorem run_cap {x : Int} : capI x + 1 ≤ 2000 ↔ x < 2000 := by unfold capI; split <;> omega

set_option maxRecDepth 20000 in
set_option maxHeartbeats 8000000 in
theorem l3Runnable_any (b n cap : Nat) (L : Nat → SV) (w : World) (ln : n ≤ 1048576) (hA : Arr w b (n * 11) (stF L)) :
    Calls Try.prog 13 #[.slice (some ⟨b, 0, none⟩) n cap] w fun e w' => e = .returned (.bool (decide (runB L n))) ∧ Below w.heap.size w w' := by
  obtain ⟨res, hres⟩ : ∃ x, decide (runB L n) = x := ⟨_, rfl⟩
  rw [hres]
  have HR : Hid (decide (runB L n) = res) := hres
  have HA : Hid (Arr w b (n * 11) (stF L)) := hA
  clear hres hA
  go_enter Try.func13, Try.ntmps13
  by_cases hn : n ≤ 2000
  rotate_left
  · have e1 : decide ((2000 : Int) < (n : Int)) = true := by simp; omega
    obtain rfl : false = res := by rw [← HR.out]; exact (decide_eq_false (fun h => hn h.1)).symm
    go_wp2
    go_ret
    exact ⟨rfl, Below.refl _ _⟩
  have e1 : decide ((2000 : Int) < (n : Int)) = false := by simp; omega
  go_wp2_with fail
  refine (l3Block_any b n cap L 0 0 321 ln (by omega) (by omega) n 0 n 0 w (by omega) (by omega) (Nat.le_refl _) (by omega) (by omega) HA.out).mono ?_
  rintro e w1 ⟨rfl, hb1⟩
  obtain ⟨c, hc⟩ : ∃ x, chk L 0 0 321 0 n 0 = x := ⟨_, rfl⟩
  rw [hc]
  have HC : Hid (chk L 0 0 321 0 n 0 = c) := hc
  have B1 : Hid (Below w.heap.size w w1) := hb1
  have A1 : Hid (Arr w1 b (n * 11) (stF L)) := HA.out.below hb1 HA.out.lt
  have HN : Hid (n ≤ 2000) := hn
  clear hc hb1
  obtain ⟨c1, c2⟩ := c
  by_cases hz : c1 = 0
  rotate_left
  · have e2 : (c1 == 0) = false := by simp [hz]
    obtain rfl : false = res := by rw [← HR.out]; exact (decide_eq_false (fun h => hz (by have := h.2.1; rw [HC.out] at this; exact this))).symm
    clear hz
    go_wp2
    go_ret
    exact ⟨rfl, B1.out⟩
  subst hz
  have lw := B1.out.size
  obtain ⟨u, hu, hbu, hau⟩ : ∃ x, w1.alloc (.cells #[] 2) = x ∧ Below w1.heap.size w1 x ∧ At x w1.heap.size 0 0 (zF (fun _ => 0)) := ⟨_, rfl, (Below.refl _ _).alloc (Nat.le_refl _) _, by simp, fun i hi => by omega⟩
  have AU : Hid (At u w1.heap.size 0 0 (zF (fun _ => 0))) := hau
  have AA : Hid (Arr u b (n * 11) (stF L)) := A1.out.below hbu A1.out.lt
  have BU : Hid (Below w.heap.size w u) := B1.out.trans (hbu.mono lw)
  have HU : Hid (w1.alloc (.cells #[] 2) = u) := hu
  clear hu hbu hau
  go_wp2_with fail
  rw [HU.out]
  refine (l3Size_any b n cap L w1.heap.size 0 0 (fun _ => 0) u ln AA.out AU.out (fun _ => Int.le_refl _) (fun _ => by decide) (fun j hj k4 => by
    have h := st_call (chk_all L 0 0 321 _ 0 n 0 (Nat.le_refl _) (by rw [HC.out]) j (Nat.zero_le _) hj) k4
    omega)).mono ?_
  rintro e w2 ⟨rfl, hw⟩
  rw [hw]
  clear hw
  obtain ⟨z, hz⟩ : ∃ y, capI (szTo L (fun _ => 0) n) = y := ⟨_, rfl⟩
  rw [hz]
  have zb : 0 ≤ z ∧ z ≤ 2001 := by rw [← hz]; exact capI_in (szTo_pos (fun _ => Int.le_refl _) n)
  obtain ⟨zb0, zb1⟩ := zb
  have HZ : Hid (capI (szTo L (fun _ => 0) n) = z) := hz
  clear hz
  by_cases h2 : z + 1 ≤ 2000
  · have e3 : decide (z + 1 ≤ 2000) = true := by simp [h2]
    obtain rfl : true = res := by rw [← HR.out]; exact (decide_eq_true ⟨HN.out, by rw [HC.out], run_cap.1 (by rw [HZ.out]; exact h2)⟩).symm
    go_wp2
    go_ret
    exact ⟨rfl, BU.out⟩
  · have e3 : decide (z + 1 ≤ 2000) = false := by simp; omega
    obtain rfl : false = res := by rw [← HR.out]; exact (decide_eq_false (fun h => h2 (by rw [← HZ.out]; exact run_cap.2 h.2.2))).symm
    go_wp2
    go_ret
    exact ⟨rfl, BU.out⟩

set_option maxRecDepth 20000 in
set_option maxHeartbeats 8000000 in
theorem specLower_any (b n cap : Nat) (L : Nat → SV) (w : World) (ln : n ≤ 1048576) (hcap : n ≤ cap) (hA : Arr w b (n * 11) (stF L)) :
    Calls Try.prog 5 #[.slice (some ⟨b, 0, none⟩) n cap] w fun e w' => ∃ g c : Nat, e = .returned (.slice (some ⟨g, 0, none⟩) (lowR L n).length c) ∧ w'.ownsRow w.heap.size 36 6 (.slice (some ⟨g, 0, none⟩) (lowR L n).length c) (lowR L n).length (ci (lowR L n)) ∧ Below w.heap.size w w' := by
  obtain ⟨out, hout⟩ : ∃ x, lowR L n = x := ⟨_, rfl⟩
  rw [hout]
  have HO : Hid (lowR L n = out) := hout
  have HA : Hid (Arr w b (n * 11) (stF L)) := hA
  clear hout hA
  obtain ⟨iS, gS, gS0, gS1, gS2⟩ := info_parts info_ins6
  have HIS : Hid (_ ∧ _ ∧ _ ∧ _) := ⟨gS, gS0, gS1, gS2⟩
  clear gS gS0 gS1 gS2
  go_enter Try.func5, Try.ntmps5
  go_wp2_with fail
  refine (l3Runnable_any b n cap L w ln HA.out).mono ?_
  rintro e w1 ⟨rfl, hb1⟩
  have B1 : Hid (Below w.heap.size w w1) := hb1
  have A1 : Hid (Arr w1 b (n * 11) (stF L)) := HA.out.below hb1 HA.out.lt
  have lw := hb1.size
  clear hb1
  by_cases hr : runB L n
  rotate_left
  · rw [decide_eq_false hr]
    obtain rfl : [] = out := by rw [← HO.out, lowR, if_neg hr]
    go_wp2
    go_ret
    exact ⟨_, _, rfl, World.ownsRow_lit w1 #[] 0 lw (by unfold maxLen; omega) rfl, B1.out.alloc lw _⟩
  · rw [decide_eq_true hr]
    have HR : Hid (runB L n) := hr
    clear hr
    go_wp2_with fail
    obtain ⟨r1, r2, r3⟩ := HR.out
    have hc := l3Lower_any L b n r1 n 0 n 0 (by omega) (Nat.zero_le _) (Nat.le_refl _) r2
    unfold LowC at hc
    have hc2 := hc 0 0 n cap w1 (by omega) (by omega) hcap (by rw [show szTo L (fun _ => 0) 0 = 0 from rfl]; simp; omega) A1.out
    refine hc2.mono ?_
    clear hc hc2
    rintro e w2 ⟨g, c, rfl, ho, hb⟩
    have hlen : ((lowB L 0 0 n).length : Int) ≤ 2000 := by
      have h := lowB_len (L := L) (Z := fun _ => 0) (fun _ => Int.le_refl _) _ 0 0 n (Nat.le_refl _) (Nat.zero_le _)
      rw [show szTo L (fun _ => 0) 0 = 0 from rfl] at h
      omega
    obtain ⟨xs, hxs⟩ : ∃ y, lowB L 0 0 n = y := ⟨_, rfl⟩
    rw [hxs] at ho hlen ⊢
    have HX : Hid (xs ++ [jmpV 34 0] = out) := (by rw [← HO.out, lowR, if_pos HR.out, hxs] : xs ++ [jmpV 34 0] = out)
    have B2 : Hid (Below w.heap.size w w2) := B1.out.trans (hb.mono lw)
    obtain ⟨nx, hnx⟩ : ∃ y, xs.length = y := ⟨_, rfl⟩
    have HNX : Hid (xs.length = nx) := hnx
    rw [hnx] at ho hlen ⊢
    have O2 : Hid (w2.ownsRow w.heap.size 36 6 (.slice (some ⟨g, 0, none⟩) nx c) nx (ci xs)) := ho.mono lw
    have lw2 := B2.out.size
    clear ho hb hxs hnx r1 r2 r3
    go_wp2_with (first | (at_builtin; refine wpList_append_own_at _ rfl _ _ 24 rfl w.heap.size 36 iS _ 6 48 Try.underlying24 HIS.out.1 HIS.out.2.1 HIS.out.2.2.1 HIS.out.2.2.2 rfl (by decide) (.slice (some ⟨g, 0, none⟩) nx c) nx (ci xs) rfl (row_belowU O2.out ((Below.refl _ _).alloc (Nat.le_refl _) _)) ⟨w2.heap.size, 0, none⟩ 1 1 (inL (jmpV 34 0)) rfl rfl (cells_new6 _ _ _) (by rw [← ci_one]; exact ci_flat _) ?c3 ?c4 ?c5 ?_) | go_in)
    case c3 => unfold maxLen; omega
    case c4 => omega
    case c5 => simp; omega
    intro v' w5 hown hgrow hnil _
    have B5 : Hid (Below w.heap.size w w5) := (B2.out.alloc lw2 _).grown hgrow (by simp; omega) (fun k hk => (O2.out.lt k hk).1)
    obtain ⟨g5, c5, rfl⟩ := row_at6 hown (by intro e; simp [e] at hnil)
    have O5 : Hid (w5.ownsRow w.heap.size 36 6 (.slice (some ⟨g5, 0, none⟩) (nx + 1) c5) (nx + 1) (ci out)) := (by rw [← HX.out, ci_app, ci_one]; exact hown : w5.ownsRow w.heap.size 36 6 (.slice (some ⟨g5, 0, none⟩) (nx + 1) c5) (nx + 1) (ci out))
    clear hown hgrow hnil
    go_wp2
    go_ret
    have hl : out.length = nx + 1 := by rw [← HX.out, List.length_append, HNX.out]; rfl
    exact ⟨g5, c5, by rw [hl]; rfl, by rw [hl]; exact O5.out, B5.out⟩
end Go.Proofs.Ytbnaegpjmiiihaa
