/- impl.Lower. -/
import Derived.Test.YtbnaegpjmiiihaaLowBlock
namespace Go.Proofs.Ytbnaegpjmiiihaa
open Go.RowKit
theorem addL_any (w0 : World) (lb : Nat) (L : Nat → SV) (S : Nat → Prop) (hlb : w0.heap.size ≤ lb) : ∀ (m i te : Nat) (depth : Int) (tv : Value), RepN L m w0 S tv i te → i ≤ te → te ≤ 2000 → (chk L 0 0 321 i te depth).1 = 0 → AddL w0 lb L i te tv := by
  intro m
  induction m with
  | zero =>
    intro i te depth tv hr hit hte hck
    obtain ⟨h1, rfl⟩ := hr
    obtain rfl : i = te := by omega
    exact addL_go w0 lb L 0 i i depth (.slice none 0 0) S hlb ⟨[], ⟨World.ownsRow_nil _ _ _ _, fun b h => by cases h⟩, by rw [tops_end (by omega)]; rfl, fun k x p h => by simp at h⟩ hit hte hck (fun i' te' d v h1 h2 h3 => by omega)
  | succ m ih =>
    intro i te depth tv hr hit hte hck
    exact addL_go w0 lb L m i te depth tv S hlb hr hit hte hck (fun i' te' d v h1 h2 h3 h4 h5 => ih i' te' d v h5 h2 (by omega) h4)

set_option maxRecDepth 20000 in
set_option maxHeartbeats 8000000 in
theorem runTree_any (b n cap : Nat) (L : Nat → SV) (w : World) (ln : n ≤ 1048576) (hA : Arr w b (n * 11) (stF L)) :
    Calls Try.prog 16 #[.slice (some ⟨b, 0, none⟩) n cap] w fun e w' => ∃ (ao : Option Addr) (k c : Nat), e = .returned (.tuple #[.slice ao k c, .bool (decide (runB L n))]) ∧ Below w.heap.size w w' ∧ (runB L n → RepN L (n + 1) w' (fun q => w.heap.size ≤ q) (.slice ao k c) 0 n) := by
  obtain ⟨res, hres⟩ : ∃ x, decide (runB L n) = x := ⟨_, rfl⟩
  rw [hres]
  have HR : Hid (decide (runB L n) = res) := hres
  have HA : Hid (Arr w b (n * 11) (stF L)) := hA
  have lb := hA.lt
  clear hres hA
  go_enter Try.func16, Try.ntmps16
  by_cases hn : n ≤ 2000
  rotate_left
  · have e1 : decide ((2000 : Int) < (n : Int)) = true := by simp; omega
    obtain rfl : false = res := by rw [← HR.out]; exact (decide_eq_false (fun h => hn h.1)).symm
    have HN : Hid (¬ n ≤ 2000) := hn
    go_wp2
    refine bodyPost_ret (v := .tuple #[.slice none 0 0, .bool false]) (by simp [results, Try.results16, go_sem]) rfl ⟨none, 0, 0, rfl, Below.refl _ _, fun h => absurd h.1 HN.out⟩
  have e1 : decide ((2000 : Int) < (n : Int)) = false := by simp; omega
  have HN : Hid (n ≤ 2000) := hn
  go_wp2_with fail
  obtain ⟨u2, hu2, hb2, ht2⟩ : ∃ x, w.alloc (.cells #[.slice (some ⟨b, 0, none⟩) n cap, .int .i64 0, .int .i64 0, .int .i64 320, .int .i64 0, .int .i64 0] 62) = x ∧ Below w.heap.size w x ∧ TmP x w.heap.size b n cap 0 0 320 0 0 := ⟨_, rfl, (Below.refl _ _).alloc (Nat.le_refl _) _, Cl.new, fun i => by simp [go_sem]⟩
  rw [hu2]
  have hc := blockOf_any L w.heap.size b n cap 0 0 320 (by omega) ln n 0 n 0 (by omega) (Nat.zero_le _) (Nat.le_refl _) (by omega) (by omega) u2 (HA.out.below hb2 lb) ht2
  rw [show (n : Int) - ((0 : Nat) : Int) = (n : Int) by omega, show (320 : Int) + 1 = 321 from rfl] at hc
  obtain ⟨c, hcc⟩ : ∃ x, chk L 0 0 321 0 n 0 = x := ⟨_, rfl⟩
  rw [hcc] at hc
  have HC : Hid (chk L 0 0 321 0 n 0 = c) := hcc
  clear hcc hu2
  refine hc.mono ?_
  rintro e u3 ⟨ao3, k3, c3, rfl, hf3, ht3, hr3⟩
  have z2 : w.heap.size < u2.heap.size := ht2.C.1
  have z3 := hf3.size
  have B3 : Hid (Below w.heap.size w u3) := hb2.trans ⟨hf3.os, hf3.tape, hf3.output, hf3.size, fun k hk => hf3.block k (by omega) (by omega)⟩
  have TM : Hid (TmP u3 w.heap.size b n cap 0 0 320 c.1 (if c.1 = 0 then (n : Int) else c.2)) := ht3
  have RR : Hid (c.1 = 0 → RepN L (n + 1) u3 (fun q => w.heap.size ≤ q) (.slice ao3 k3 c3) 0 n) := fun h => (hr3 h).kept (fun q hq => by omega) (fun _ _ _ => rfl)
  clear hc hf3 ht3 hr3 hb2 ht2
  have q4 : u3.cell? ⟨w.heap.size, 4, none⟩ = some (.int .i64 c.1) := TM.out.C.2 4 (by simp)
  have ql := TM.out.C.1
  by_cases z : c.1 = 0
  rotate_left
  · have ez : (c.1 != 0) = true := by simp [z]
    obtain rfl : false = res := by rw [← HR.out]; exact (decide_eq_false (fun h => z (by have := h.2.1; rw [HC.out] at this; exact this))).symm
    have HZ : Hid (¬ runB L n) := fun h => z (by have := h.2.1; rw [HC.out] at this; exact this)
    clear z
    go_wp2
    refine bodyPost_ret (v := .tuple #[.slice none 0 0, .bool false]) (by simp [results, Try.results16, go_sem]) rfl ⟨none, 0, 0, rfl, B3.out, fun h => absurd h HZ.out⟩
  have ez : (c.1 != 0) = false := by simp [z]
  have HZ : Hid (c.1 = 0) := z
  clear z
  go_wp2_with fail
  clear q4 ql
  refine (flatBlock0_any L (fun _ => 0) u3 (fun _ => Int.le_refl _) (fun _ => by decide) 0 321 (n + 1) 0 n 0 (.slice ao3 k3 c3) _ u3 (Below.refl _ _) (RR.out HZ.out) (Nat.zero_le _) hn (by rw [HC.out]; exact HZ.out)).mono ?_
  rintro e u4 ⟨rfl, hb4⟩
  obtain ⟨s, hs⟩ : ∃ y, szTo L (fun _ => 0) n = y := ⟨_, rfl⟩
  rw [hs, show szTo L (fun _ => 0) 0 = 0 from rfl, Int.sub_zero]
  have HS : Hid (szTo L (fun _ => 0) n = s) := hs
  have B4 : Hid (Below w.heap.size w u4) := B3.out.trans (hb4.mono (by omega))
  have R4 : Hid (RepN L (n + 1) u4 (fun q => w.heap.size ≤ q) (.slice ao3 k3 c3) 0 n) := (RR.out HZ.out).below hb4
  clear hs hb4
  by_cases h2 : s < 2000
  · have e3 : decide (2000 ≤ s) = false := by simp; omega
    obtain rfl : true = res := by rw [← HR.out]; exact (decide_eq_true ⟨HN.out, by rw [HC.out]; exact HZ.out, by rw [HS.out]; exact h2⟩).symm
    go_wp2
    refine bodyPost_ret (v := .tuple #[.slice ao3 k3 c3, .bool true]) (by simp [results, Try.results16, go_sem]) rfl ⟨ao3, k3, c3, rfl, B4.out, fun _ => R4.out⟩
  · have e3 : decide (2000 ≤ s) = true := by simp; omega
    have HF : Hid (¬ runB L n) := fun h => h2 (by have := h.2.2; rw [HS.out] at this; exact this)
    obtain rfl : false = res := by rw [← HR.out]; exact (decide_eq_false HF.out).symm
    go_wp2
    refine bodyPost_ret (v := .tuple #[.slice none 0 0, .bool false]) (by simp [results, Try.results16, go_sem]) rfl ⟨none, 0, 0, rfl, B4.out, fun h => absurd h HF.out⟩

set_option maxRecDepth 20000 in
set_option maxHeartbeats 8000000 in
theorem implLower_any (b n cap : Nat) (L : Nat → SV) (w : World) (ln : n ≤ 1048576) (hA : Arr w b (n * 11) (stF L)) :
    Calls Try.prog 7 #[.slice (some ⟨b, 0, none⟩) n cap] w fun e w' => ∃ v, e = .returned v ∧ w'.ownsRow w.heap.size 36 6 v (lowR L n).length (ci (lowR L n)) ∧ Below w.heap.size w w' := by
  obtain ⟨out, hout⟩ : ∃ x, lowR L n = x := ⟨_, rfl⟩
  rw [hout]
  have HO : Hid (lowR L n = out) := hout
  have HA : Hid (Arr w b (n * 11) (stF L)) := hA
  clear hout hA
  go_enter Try.func7, Try.ntmps7
  go_wp2_with fail
  refine (runTree_any b n cap L w ln HA.out).mono ?_
  rintro e w1 ⟨ao, k, c, rfl, hb1, hr1⟩
  have B1 : Hid (Below w.heap.size w w1) := hb1
  have R1 : Hid (runB L n → RepN L (n + 1) w1 (fun q => w.heap.size ≤ q) (.slice ao k c) 0 n) := hr1
  have lw := hb1.size
  clear hb1 hr1
  by_cases hr : runB L n
  rotate_left
  · rw [decide_eq_false hr]
    obtain rfl : [] = out := by rw [← HO.out, lowR, if_neg hr]
    go_wp2
    go_ret
    exact ⟨_, rfl, World.ownsRow_lit w1 #[] 0 lw (by unfold maxLen; omega) rfl, B1.out.alloc lw _⟩
  rw [decide_eq_true hr]
  have HR : Hid (runB L n) := hr
  clear hr
  go_wp2_with fail
  obtain ⟨u, hu, hbu, hcu⟩ : ∃ x, w1.alloc (.cells #[.slice none 0 0] 49) = x ∧ Below w1.heap.size w1 x ∧ Cl x w1.heap.size [.slice none 0 0] := ⟨_, rfl, (Below.refl _ _).alloc (Nat.le_refl _) _, Cl.new⟩
  have PU : Hid (LP u w1.heap.size (.slice none 0 0) []) := ⟨hcu.2 0 (by simp), hcu.1, fun i => by rw [← hu]; simp [go_sem], World.ownsRow_nil _ _ _ _⟩
  rw [hu]
  have BU : Hid (Below w1.heap.size w1 u) := hbu
  clear hu hbu hcu
  obtain ⟨r1, r2, r3⟩ := HR.out
  have hlen : ((lowB L 0 0 n).length : Int) ≤ 2000 := by
    have h := lowB_len (L := L) (Z := fun _ => 0) (fun _ => Int.le_refl _) _ 0 0 n (Nat.le_refl _) (Nat.zero_le _)
    rw [show szTo L (fun _ => 0) 0 = 0 from rfl] at h
    omega
  have hc := addL_any w1 w1.heap.size L _ (Nat.le_refl _) (n + 1) 0 n 0 (.slice ao k c) (R1.out HR.out) (Nat.zero_le _) r1 r2 u (.slice none 0 0) [] BU.out PU.out (by show 0 + (lowB L 0 0 n).length ≤ 4000; omega)
  rw [List.nil_append] at hc
  change Calls _ _ _ _ (fun e w' => e = .returned (.tuple #[]) ∧ ∃ v', LP w' w1.heap.size v' (lowB L 0 0 n) ∧ Stp w1.heap.size (fun _ => False) u (.slice none 0 0) w' v') at hc
  refine hc.mono ?_
  rintro e u2 ⟨rfl, v2, hp2, hs2⟩
  have P2 : Hid (LP u2 w1.heap.size v2 (lowB L 0 0 n)) := hp2
  have B2 : Hid (Below w1.heap.size w1 u2) := hs2.low BU.out PU.out (fun _ _ h => h)
  clear hc hp2 hs2 r1 r2 r3
  go_wp2_with fail
  refine (add_any w1.heap.size v2 (lowB L 0 0 n) (jmpV 34 0) u2 P2.out (by omega)).mono ?_
  rintro e u3 ⟨rfl, v3, hp3, hs3⟩
  have hout2 : lowB L 0 0 n ++ [jmpV 34 0] = out := by rw [← HO.out, lowR, if_pos HR.out]
  rw [hout2] at hp3
  obtain ⟨ao3, k3, c3, hv3⟩ := row_slice hp3.O
  subst hv3
  have c0 : u3.cell? ⟨w1.heap.size, 0, none⟩ = some (.slice ao3 k3 c3) := hp3.C
  have l3 := hp3.lt
  have O3 : Hid (u3.ownsRow w.heap.size 36 6 (.slice ao3 k3 c3) out.length (ci out)) := hp3.O.mono (by omega)
  have B3 : Hid (Below w.heap.size w u3) := B1.out.trans ((hs3.low B2.out P2.out (fun _ _ h => h)).mono lw)
  clear hp3 hs3 hout2 hlen
  go_wp2
  go_ret
  exact ⟨_, rfl, O3.out, B3.out⟩
end Go.Proofs.Ytbnaegpjmiiihaa
