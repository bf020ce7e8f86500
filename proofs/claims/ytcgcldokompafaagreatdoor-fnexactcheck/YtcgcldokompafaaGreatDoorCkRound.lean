import Derived.Test.YtcgcldokompafaaGreatDoorOfCkMap2
import Derived.Deep.Cut
import Derived.Deep.DeepCutAuto
/- A round of a loop checked by the program. -/
namespace Go.Proofs.YtcgcldokompafaaGreatDoor
open Go.RowKit Go.Deep
section
variable {G : SG} {L : Nat -> SV} {w0 : World} {bC mb bH cH p : Nat}
theorem rnd_full {F : FS} {r : Int} {RR : CR} (i : rndF G L p F r = RR) (h : r = 1000) : RR = .bad 10 (p : Int) := by rw [<- i, rndF, if_pos (by omega)]
theorem rnd_flag {F : FS} {r : Int} {RR : CR} (i : rndF G L p F r = RR) (h : r < 1000) {f : Int} (hf : cfl F (L p).cond = f) (h0 : ¬ f = 0) : RR = .bad f (p : Int) := by rw [<- i, rndF, if_neg (by omega), if_pos (by omega), hf]
theorem rnd_go {F : FS} {r : Int} {RR : CR} (i : rndF G L p F r = RR) (h : r < 1000) (hf : cfl F (L p).cond = 0) : ckL G (seg L (p + 1) (p + 1 + (L p).thn.toNat)) ((p : Int) + 1) F (r + 1) = RR := by rw [<- i, rndF, if_neg (by omega), if_neg (by omega)]
set_option maxRecDepth 20000 in
set_option maxHeartbeats 8000000 in
theorem round_any (hs : 1 <= (L p).cond /\ (L p).cond <= 4) (hp : p <= 2000) (a1 : Option Addr) (k1 c1 : Nat) (hy : BlkC G L w0 bC mb bH cH (p + 1) (p + 1 + (L p).thn.toNat) (.slice a1 k1 c1)) (d : Int) (u : World) (F : FS) (FA : Array Value) (r : Int) (hF : FA = fA F) (hC : CS G L w0 bC mb bH cH d u r) (hG : FGd G F) :
  Calls Tryz.prog 107 #[.pointer (some ⟨bC, 0, none⟩), .agg #[.int .i64 (p : Int), .int .i64 (L p).cond, .slice a1 k1 c1], .agg FA] u (AnsC G L w0 bC mb bH cH d (rndF G L p F r) u) := by
 have HF : Hid (FA = fA F) := hF
 have HG : Hid (FGd G F) := hG
 have HS : Hid (1 <= (L p).cond /\ (L p).cond <= 4) := hs
 have HP : Hid (p <= 2000) := hp
 have HY : Hid _ := hy
 have HR01 : Hid (0 <= r /\ r <= 1000) := ⟨hC.r0, hC.r1⟩
 obtain ⟨Z0, hZ0⟩ : ∃ x, x = fA zFS := ⟨_, rfl⟩
 have HZ : Hid (Z0 = fA zFS) := hZ0
 obtain ⟨KA, hKA⟩ : ∃ x, x = (kL (p : Int) F).toArray := ⟨_, rfl⟩
 have HK : Hid (KA = (kL (p : Int) F).toArray) := hKA
 obtain ⟨RR, hRR⟩ : ∃ q, rndF G L p F r = q := ⟨_, rfl⟩
 rw [hRR]
 have INV : Hid (rndF G L p F r = RR) := hRR
 obtain ⟨u1, hu1, l1, c1'⟩ := loc_new hF (.cells #[.int .i64 (p : Int), .int .i64 (L p).cond, .slice a1 k1 c1] 162) hC
 clear hs hp hy hF hG hC hZ0 hRR hKA
 go_enter Tryz.func107, Tryz.ntmps107
 go_upto_region 1 with fail
 rw [zero_fac, hu1]
 have L1 : Hid (LocP u bC mb (.cells #[.int .i64 (p : Int), .int .i64 (L p).cond, .slice a1 k1 c1] 162) F u1) := l1
 have C1 : Hid (CS G L w0 bC mb bH cH d u1 r) := c1'
 clear hu1 l1 c1'
 have x0 : u1.cell? ⟨u.heap.size, 0, none⟩ = some (.int .i64 (p : Int)) := (hq_cell L1.out.X 0).trans rfl
 have xl := hq_ltC L1.out.X
 go_wp2_with (first | (refine wpList_loadF rfl (.tmp 5) rfl (u.heap.size + 1) rfl F FA HF.out L1.out.F ?_) | (refine wpList_buildK rfl (.tmp 16) (.tmp 17) rfl (p : Int) F FA KA HF.out HK.out rfl rfl ?_) | (refine wpList_storeK rfl _ (.tmp 8) (.tmp 18) rfl u1.heap.size (kL (p : Int) F) (kL 0 zFS) rfl KA HK.out rfl head_info (kL_good _ _) (by rw [zero_key]; exact LArr.new _ (kL_good _ _) _) ?_; intro u2 hA hf hz))
 unfold Hid
 have hcv := C1.out.var L1.out rfl hf
 have HK2 : Hid (LArr u2 u1.heap.size (kL (p : Int) F)) := hA
 have C2 : Hid (CS G L w0 bC mb bH cH d u2 r) := hcv.1
 have L2 : Hid (LocP u bC mb (.cells #[.int .i64 (p : Int), .int .i64 (L p).cond, .slice a1 k1 c1] 162) F u2) := hcv.2
 have HQ : Hid (bC < u1.heap.size /\ mb < u1.heap.size /\ u.heap.size + 1 + 1 < u1.heap.size /\ u1.heap.size < u2.heap.size) := ⟨C1.out.lt, C1.out.M.lt, L1.out.lt, hA.2.2.lt⟩
 clear hA hf hz hcv C1 L1 x0 xl
 generalize u1.heap.size = q8 at *
 obtain ⟨E, k, ok, hlk, hrun⟩ := C2.out.M.looks HG.out HP.out
 have HLK : Hid (LookR G L p F E k ok) := hlk
 obtain ⟨EA, hEA⟩ : ∃ x, x = (eL E k).toArray := ⟨_, rfl⟩
 have HEA : Hid (EA = (eL E k).toArray) := hEA
 rw [<- hEA, <- show KA = (kL (p : Int) F).toArray from HK.out] at hrun
 have HRUN : Hid _ := hrun
 clear hlk hEA hrun
 go_wp2_with fail
 go_cut [9, 10] (fun s9 s10 wx => ∃ (q : Nat), s9 = .pointer (some ⟨q, 0, none⟩) /\ s10 = .bool ok /\ LArr wx q (eL E k) /\ Below u2.heap.size u2 wx /\ u2.heap.size <= q)
 case first =>
  have k2 : ∀ w', Below u2.heap.size u2 w' -> w'.cell? ⟨bC, 2, none⟩ = some (.map (some mb)) := fun w' h => (C2.out.below h).cells.2.2.1
  refine wp_region_held_drew (S := fun w' => Below u2.heap.size u2 w') (by kernel_rfl) (Below.refl _ _).drew (fun _ => ?_)
  refine wpAnyH_ta 0 rfl ?_
  refine wpAnyH_ta 1 rfl ?_
  refine wpAnyH_ta 2 rfl ?_
  refine wpAnyH_ta 3 rfl ?_
  refine wpAnyH_tk 4 (.agg KA) rfl (fun w' hw => exec_loadH (.tmp 8) rfl q8 rfl (kL (p : Int) F) KA HK.out (HK2.out.below hw)) ?_
  try simp only [Act.put, List.getElem_toArray, List.getElem_cons_zero, List.getElem_cons_succ, List.setIfInBounds_toArray, List.set_cons_zero, List.set_cons_succ]
  refine wpAnyH_tk 5 (.tuple #[.agg EA, .bool ok]) rfl (fun w' hw => exec_look (.tmp 23) (.tmp 24) rfl _ _ _ rfl rfl (HRUN.out w' (hw.block _ C2.out.M.lt))) ?_
  try simp only [Act.put, List.getElem_toArray, List.getElem_cons_zero, List.getElem_cons_succ, List.setIfInBounds_toArray, List.set_cons_zero, List.set_cons_succ]
  refine wpAnyH_ta 6 rfl ?_
  refine wpAnyH_ta 7 rfl ?_
  refine wpAnyH_ta 8 rfl ?_
  have hbd : Below u2.heap.size u2 u2.drew := (Below.refl _ _).drew
  generalize u2.drew = t0 at hbd ⊢
  refine wpAnyH_ready (rs := [9]) (by kernel_rfl) (by simp) ?_
  refine AllReadyH.cons rfl (fun KK hK => ?_) AllReadyH.nil
  go_simp
  rw [zero_endA]
  have hf0 := LArr.new t0 (eL_good zFS 0) 200
  obtain ⟨t1, ht1, hb1⟩ : ∃ y, t0.alloc (.cells (eL zFS 0).toArray 200) = y /\ Below t0.heap.size t0 y := ⟨_, rfl, (Below.refl _ _).alloc (Nat.le_refl _) _⟩
  rw [ht1] at hf0 ⊢
  have hB1 : Below u2.heap.size u2 t1 := hbd.trans (hb1.mono hbd.size)
  refine hK.out _ _ hB1 (fun _ => ?_)
  clear hK KK
  try simp only [Act.put, List.getElem_toArray, List.getElem_cons_zero, List.getElem_cons_succ, List.setIfInBounds_toArray, List.set_cons_zero, List.set_cons_succ]
  refine wpAnyH_ready (rs := [10]) (by kernel_rfl) (by simp) ?_
  refine AllReadyH.cons rfl (fun KK hK => ?_) AllReadyH.nil
  refine if_in (by kernel_rfl) ?_
  refine LArr.store _ (.tmp 9) (.tmp 26) rfl t0.heap.size (eL E k) (eL zFS 0) rfl EA HEA.out rfl end_info (eL_good _ _) hf0 ?_
  intro t2 hA hf hz
  have hq : u2.heap.size <= t0.heap.size := hbd.size
  have hs1 := hB1.size
  have hB2 : Below u2.heap.size u2 t2 := hB1.trans ⟨hf.os, hf.tape, hf.output, hf.size, fun k hk => hf.block k (by omega) (by omega)⟩
  refine hK.out _ _ hB2 (fun _ => ?_)
  clear hK KK
  try simp only [Act.put, List.getElem_toArray, List.getElem_cons_zero, List.getElem_cons_succ]
  refine wpAnyH_ta 11 rfl ?_
  refine wpAnyH_done (by kernel_rfl) ?_ _
  have HE : Hid (LArr t2 t0.heap.size (eL E k) /\ Below u2.heap.size u2 t2 /\ u2.heap.size <= t0.heap.size) := ⟨hA, hB2, hq⟩
  clear hA hf hz hB1 hB2 hq hs1 hf0 ht1 hb1 k2
  go_wp2_with fail
  go_meet
  exact ⟨t0.heap.size, rfl, rfl, HE.out⟩
 case rest =>
 obtain ⟨q9, rfl, rfl, hA, hb, hq⟩ := hcut
 have C3 : Hid (CS G L w0 bC mb bH cH d wc r) := C2.out.below hb
 have L3 : Hid (LocP u bC mb (.cells #[.int .i64 (p : Int), .int .i64 (L p).cond, .slice a1 k1 c1] 162) F wc) := L2.out.below hb
 have HK3 : Hid (LArr wc q8 (kL (p : Int) F)) := HK2.out.below hb
 have HE3 : Hid (LArr wc q9 (eL E k)) := hA
 have HQ9 : Hid (u2.heap.size <= q9 /\ q9 < wc.heap.size) := ⟨hq, hA.2.2.lt⟩
 clear hA hb hq C2 L2 HK2
 generalize wc = u3 at *
 -- the round was gone through before
 by_cases hit : ok = true /\ r + k <= 1000
 ·obtain ⟨rfl, hrk⟩ := hit
  have HM : Hid (Memo G L p F E k) := HLK.out rfl
  have hk1 : 1 <= k := HM.out.2.2.1
  have hr0 : 0 <= r := HR01.out.1
  have e1 : decide (r + k <= 1000) = true := by simp [hrk]
  have hw : IntKind.i64.wrap (r + k) = r + k := by rw [IntKind.wrap_i64] <;> omega
  obtain ⟨_, g1, _, gl, gf⟩ := C3.out.cells
  have g50 := HE3.out.count
  have g9l := HE3.out.2.2.lt
  go_wp2_with fail
  go_quiet (fail)
  go_upto_region 4 with fail
  clear g1 gl gf g50 g9l
  have hb4 : Below u3.heap.size u3 (u3.drewN nq) := below_drewN (Below.refl _ _) _
  generalize u3.drewN nq = u4 at hb4 ⊢
  have C4 : Hid (CS G L w0 bC mb bH cH d u4 r) := C3.out.below hb4
  have L4 : Hid (LocP u bC mb (.cells #[.int .i64 (p : Int), .int .i64 (L p).cond, .slice a1 k1 c1] 162) F u4) := L3.out.below hb4
  have HE4 : Hid (LArr u4 q9 (eL E k)) := HE3.out.below hb4
  clear hb4
  have g1 : ∀ w', Below u4.heap.size u4 w' -> w'.cell? ⟨bC, 1, none⟩ = some (.int .i64 r) := fun w' h => (C4.out.below h).cells.2.1
  have g50 : ∀ w', Below u4.heap.size u4 w' -> w'.cell? ⟨q9, 50, none⟩ = some (.int .i64 k) := fun w' h => (HE4.out.below h).count
  refine wp_region_L (T := fun w' => Below u4.heap.size u4 w') (s := 9) (by kernel_rfl) (Below.refl _ _).drew (fun hHeld => ?_)
  refine wpAnyL_ta 0 rfl ?_
  refine wpAnyL_ta 1 rfl ?_
  refine wpAnyL_ta 2 rfl ?_
  refine wpAnyL_ta 3 rfl ?_
  refine wpAnyL_ta 4 rfl ?_
  refine wpAnyL_ta 5 rfl ?_
  refine wpAnyL_ta 6 rfl ?_
  refine wpAnyL_taT 7 rfl ?_
  refine wpAnyL_ta 8 rfl ?_
  have hb5 : Below u4.heap.size u4 u4.drew := (Below.refl _ _).drew
  generalize u4.drew = u5 at hb5 ⊢
  have C5 : Hid (CS G L w0 bC mb bH cH d u5 r) := C4.out.below hb5
  have L5 : Hid (LocP u bC mb (.cells #[.int .i64 (p : Int), .int .i64 (L p).cond, .slice a1 k1 c1] 162) F u5) := L4.out.below hb5
  have HE5 : Hid (LArr u5 q9 (eL E k)) := HE4.out.below hb5
  clear hHeld g1 g50 hb5 C4 L4 HE4
  obtain ⟨_, g1, _, gl, gf⟩ := C5.out.cells
  refine wpAnyL_store rfl (by kernel_rfl) (by kernel_rfl) (fun KK hK => ?_)
  go_simp
  refine hK.out _ _ ?_
  clear hK KK g1 gl gf
  have C6 : Hid (CS G L w0 bC mb bH cH d (u5.setCell ⟨bC, 1, none⟩ (.int .i64 (r + k))) (r + k)) := C5.out.count (by omega) hrk
  have hft : Ft bC u5 (u5.setCell ⟨bC, 1, none⟩ (.int .i64 (r + k))) := (Ft.refl _ _).set _ _
  have hk6 : Kc bC mb u5 (u5.setCell ⟨bC, 1, none⟩ (.int .i64 (r + k))) := (Kc.refl _ _ _).ft hft (Or.inr (Or.inl rfl))
  have L6 : Hid (LocP u bC mb (.cells #[.int .i64 (p : Int), .int .i64 (L p).cond, .slice a1 k1 c1] 162) F (u5.setCell ⟨bC, 1, none⟩ (.int .i64 (r + k)))) := L5.out.kc hk6
  have HE6 : Hid (LArr (u5.setCell ⟨bC, 1, none⟩ (.int .i64 (r + k))) q9 (eL E k)) := HE5.out.kc hk6 (by have := HQ9.out; have := HQ.out; omega) (by have := HQ9.out; have := HQ.out; omega)
  clear hft hk6 C5 L5 HE5
  generalize u5.setCell ⟨bC, 1, none⟩ (.int .i64 (r + k)) = u6 at *
  obtain ⟨FB, hFB⟩ : ∃ x, x = fA E := ⟨_, rfl⟩
  have HFB : Hid (FB = fA E) := hFB
  clear hFB
  go_wp2_with (first | (refine wpList_loadF rfl (.tmp 48) rfl q9 rfl E FB HFB.out HE6.out.facts ?_) | (refine wpList_storeH rfl (.tmp 6) (.tmp 49) rfl (u.heap.size + 1 + 1) E zFS rfl FB HFB.out rfl L6.out.R ?_; intro wE hA hf hz))
  unfold Hid
  have HE : Hid (FArr wE (u.heap.size + 1 + 1) E /\ Ft (u.heap.size + 1 + 1) u6 wE) := ⟨hA, hf⟩
  clear hA hf hz
  go_wp2
  refine bodyPost_ret (v := .tuple #[.agg FB, .nilIface]) (results_cell2 rfl _ _ (u.heap.size + 1 + 1) _ _ rfl rfl (HE.out.1.var HFB.out)) rfl ?_
  rw [show FB = fA E from HFB.out]
  exact L6.out.ok HE.out.2 (INV.out.symm.trans (HM.out.2.2.2.2 r HR01.out.1 hrk)) HM.out.2.1 C6.out
 -- it is gone through
 have HNH : Hid (¬ (ok = true /\ r + k <= 1000)) := hit
 go_upto_region 3 with fail
 go_cut [38] (fun s38 wx => s38 = .bool false /\ Below u3.heap.size u3 wx)
 case first =>
  obtain ⟨_, g1, _, gl, gf⟩ := C3.out.cells
  have g50 := HE3.out.count
  have g9l := HE3.out.2.2.lt
  cases ok with
  | false =>
   clear hit
   go_wp2_with fail
   go_quiet (fail)
   clear g1 gl gf g50 g9l
   go_wp2_with fail
   go_meet
   exact ⟨rfl, below_drewN (Below.refl _ _) _⟩
  | true =>
   have hgt : 1000 < r + k := Int.not_le.1 (fun h => HNH.out ⟨rfl, h⟩)
   have hr0 : 0 <= r := HR01.out.1
   have hr1 : r <= 1000 := HR01.out.2
   by_cases hk9 : k <= 100000
   ·have e1 : decide (r + k <= 1000) = false := by simp; omega
    clear hit
    go_wp2_with fail
    go_quiet (fail)
    clear g1 gl gf g50 g9l
    go_wp2_with fail
    go_meet
    exact ⟨rfl, below_drewN (Below.refl _ _) _⟩
   ·exact absurd (HLK.out rfl).2.2.2.1 hk9
 case rest =>
 obtain ⟨rfl, hb⟩ := hcut
 have C4 : Hid (CS G L w0 bC mb bH cH d wc r) := C3.out.below hb
 have L4 : Hid (LocP u bC mb (.cells #[.int .i64 (p : Int), .int .i64 (L p).cond, .slice a1 k1 c1] 162) F wc) := L3.out.below hb
 have HK4 : Hid (LArr wc q8 (kL (p : Int) F)) := HK3.out.below hb
 clear hb hit C3 L3 HK3 HE3 HNH HLK HRUN HEA
 generalize wc = u4 at *
 obtain ⟨_, g1, _, gl, gf⟩ := C4.out.cells
 have S4 : u.heap.size < u4.heap.size := hq_ltC L4.out.X
 by_cases hr : r = 1000
 ·have HR0 : Hid (r = 1000) := hr
  have e1 : (r == 1000) = true := by simp [hr]
  clear hr
  go_upto_region 7 with fail
  clear g1 gl gf
  have j0 : ∀ w', Ft (u.heap.size + 1 + 1) u4 w' -> w'.cell? ⟨u.heap.size, 0, none⟩ = some (.int .i64 (p : Int)) := fun w' h => (hq_cell ((h.block _ S4 (by omega)).trans L4.out.X) 0).trans rfl
  have ZR : Hid (FArr u4 (u.heap.size + 1 + 1) zFS) := L4.out.R
  refine wp_region_held_drew (S := fun w' => Ft (u.heap.size + 1 + 1) u4 w') (by kernel_rfl) (Ft.refl _ _).drew (fun _ => ?_)
  refine wpAnyH_tk 0 (.agg Z0) rfl (fun w' _ => exec_zero rfl Z0 HZ.out) ?_
  try simp only [Act.put, List.getElem_toArray, List.getElem_cons_zero, List.setIfInBounds_toArray, List.set_cons_zero, List.set_cons_succ]
  refine wpAnyH_ta 1 rfl ?_
  refine wpAnyH_ta 2 rfl ?_
  refine wpAnyH_ta 3 rfl ?_
  refine wpAnyH_ta 4 rfl ?_
  refine wpAnyH_ready (rs := [5]) (by kernel_rfl) (by simp) ?_
  refine AllReadyH.cons rfl (fun KK hK => ?_) AllReadyH.nil
  refine if_in (by kernel_rfl) ?_
  refine wp_storeF (.tmp 6) (.tmp 55) rfl (u.heap.size + 1 + 1) zFS zFS rfl Z0 HZ.out rfl (FArr.below ZR.out (Below.refl _ _).drew) ?_
  intro wE hA hf hz
  have hfE : Ft (u.heap.size + 1 + 1) u4 wE := (Ft.refl _ _).drew.trans hf
  refine hK.out _ _ hfE (fun _ => ?_)
  clear hK KK
  try simp only [Act.put, List.getElem_toArray, List.getElem_cons_zero, List.getElem_cons_succ]
  refine wpAnyH_ta 6 rfl ?_
  refine wpAnyH_done (by kernel_rfl) ?_ _
  have HE : Hid (FArr wE (u.heap.size + 1 + 1) zFS /\ Ft (u.heap.size + 1 + 1) u4 wE) := ⟨hA, hfE⟩
  clear hA hf hz hfE
  go_wp2
  refine bodyPost_ret (v := .tuple #[.agg Z0, .iface 85 (.agg #[.int .i64 10, .int .i64 (p : Int)])]) (results_cell2 rfl _ _ (u.heap.size + 1 + 1) _ _ rfl rfl (HE.out.1.var HZ.out)) rfl ?_
  rw [show Z0 = fA zFS from HZ.out]
  exact L4.out.bad HE.out.2 (rnd_full INV.out HR0.out) (.flaw _ _)
 have hr1 : r < 1000 := (by have := HR01.out; omega : r < 1000)
 have hr0 : 0 <= r := HR01.out.1
 have e1 : (r == 1000) = false := by simp [hr]
 have hw1 : IntKind.i64.wrap (r + 1) = r + 1 := by rw [IntKind.wrap_i64] <;> omega
 clear hr
 go_upto_region 10 with fail
 clear g1 gl gf e1
 have hft : Ft bC u4 (u4.setCell ⟨bC, 1, none⟩ (.int .i64 (r + 1))) := (Ft.refl _ _).set _ _
 have hk5 : Kc bC mb u4 (u4.setCell ⟨bC, 1, none⟩ (.int .i64 (r + 1))) := (Kc.refl _ _ _).ft hft (Or.inr (Or.inl rfl))
 have C5 : Hid (CS G L w0 bC mb bH cH (d + 1) (u4.setCell ⟨bC, 1, none⟩ (.int .i64 (r + 1))) (r + 1)) := C4.out.begin hr1
 have HD0 : Hid (0 <= d) := C4.out.d0
 have L5 : Hid (LocP u bC mb (.cells #[.int .i64 (p : Int), .int .i64 (L p).cond, .slice a1 k1 c1] 162) F (u4.setCell ⟨bC, 1, none⟩ (.int .i64 (r + 1)))) := L4.out.kc hk5
 have HK5 : Hid (LArr (u4.setCell ⟨bC, 1, none⟩ (.int .i64 (r + 1))) q8 (kL (p : Int) F)) := HK4.out.kc hk5 (by have := HQ.out; omega) (by have := HQ.out; omega)
 clear hft hk5 C4 L4 HK4 S4
 generalize u4.setCell ⟨bC, 1, none⟩ (.int .i64 (r + 1)) = u5 at *
 have x1 : u5.cell? ⟨u.heap.size, 1, none⟩ = some (.int .i64 (L p).cond) := (hq_cell L5.out.X 1).trans rfl
 have S5 := hq_ltC L5.out.X
 go_wp2_with (refine wpList_loadF rfl (.tmp 5) rfl (u.heap.size + 1) rfl F FA HF.out L5.out.F ?_)
 refine (refCond_any F FA HF.out _ HS.out.1 HS.out.2 _).mono ?_
 rintro e u6 ⟨rfl, hb⟩
 obtain ⟨er, her⟩ : ∃ x, cfl F (L p).cond = x := ⟨_, rfl⟩
 rw [her]
 have HER : Hid (cfl F (L p).cond = er) := her
 have L6 : Hid (LocP u bC mb (.cells #[.int .i64 (p : Int), .int .i64 (L p).cond, .slice a1 k1 c1] 162) F u6) := L5.out.below hb
 have C6 : Hid (CS G L w0 bC mb bH cH (d + 1) u6 (r + 1)) := C5.out.below hb
 have HK6 : Hid (LArr u6 q8 (kL (p : Int) F)) := HK5.out.below hb
 clear her hb x1 S5 L5 C5 HK5
 have S6 : u.heap.size < u6.heap.size := hq_ltC L6.out.X
 by_cases h0 : er = 0
 rotate_left
 ·have e0 : (er != 0) = true := by simp [h0]
  have NE : Hid (¬ er = 0) := h0
  clear h0
  go_upto_region 12 with fail
  have j0 : ∀ w', Ft (u.heap.size + 1 + 1) u6 w' -> w'.cell? ⟨u.heap.size, 0, none⟩ = some (.int .i64 (p : Int)) := fun w' h => (hq_cell ((h.block _ S6 (by omega)).trans L6.out.X) 0).trans rfl
  have ZR : Hid (FArr u6 (u.heap.size + 1 + 1) zFS) := L6.out.R
  refine wp_region_held_drew (S := fun w' => Ft (u.heap.size + 1 + 1) u6 w') (by kernel_rfl) (Ft.refl _ _).drew (fun _ => ?_)
  refine wpAnyH_tk 0 (.agg Z0) rfl (fun w' _ => exec_zero rfl Z0 HZ.out) ?_
  try simp only [Act.put, List.getElem_toArray, List.getElem_cons_zero, List.setIfInBounds_toArray, List.set_cons_zero, List.set_cons_succ]
  refine wpAnyH_ta 1 rfl ?_
  refine wpAnyH_ta 2 rfl ?_
  refine wpAnyH_ta 3 rfl ?_
  refine wpAnyH_ta 4 rfl ?_
  refine wpAnyH_ta 5 rfl ?_
  refine wpAnyH_ready (rs := [6]) (by kernel_rfl) (by simp) ?_
  refine AllReadyH.cons rfl (fun KK hK => ?_) AllReadyH.nil
  refine if_in (by kernel_rfl) ?_
  refine wp_storeF (.tmp 6) (.tmp 77) rfl (u.heap.size + 1 + 1) zFS zFS rfl Z0 HZ.out rfl (FArr.below ZR.out (Below.refl _ _).drew) ?_
  intro wE hA hf hz
  have hfE : Ft (u.heap.size + 1 + 1) u6 wE := (Ft.refl _ _).drew.trans hf
  refine hK.out _ _ hfE (fun _ => ?_)
  clear hK KK
  try simp only [Act.put, List.getElem_toArray, List.getElem_cons_zero, List.getElem_cons_succ]
  refine wpAnyH_ta 7 rfl ?_
  refine wpAnyH_done (by kernel_rfl) ?_ _
  have HE : Hid (FArr wE (u.heap.size + 1 + 1) zFS /\ Ft (u.heap.size + 1 + 1) u6 wE) := ⟨hA, hfE⟩
  clear hA hf hz hfE
  go_wp2
  refine bodyPost_ret (v := .tuple #[.agg Z0, .iface 85 (.agg #[.int .i64 er, .int .i64 (p : Int)])]) (results_cell2 rfl _ _ (u.heap.size + 1 + 1) _ _ rfl rfl (HE.out.1.var HZ.out)) rfl ?_
  rw [show Z0 = fA zFS from HZ.out]
  exact L6.out.bad HE.out.2 (rnd_flag INV.out hr1 HER.out NE.out) (.flaw _ _)
 have e0 : (er != 0) = false := by simp [h0]
 have HE0 : Hid (cfl F (L p).cond = 0) := HER.out.trans h0
 clear h0 HER
 have x2 : u6.cell? ⟨u.heap.size, 2, none⟩ = some (.slice a1 k1 c1) := (hq_cell L6.out.X 2).trans rfl
 go_wp2_with (refine wpList_loadF rfl (.tmp 5) rfl (u.heap.size + 1) rfl F FA HF.out L6.out.F ?_)
 have hb2 := HY.out
 unfold BlkC at hb2
 refine (hb2 (d + 1) u6 F FA (r + 1) HF.out C6.out HG.out).mono ?_
 rintro e u7 ⟨k7, hx⟩
 rw [show ((p + 1 : Nat) : Int) = (p : Int) + 1 from rfl, rnd_go INV.out hr1 HE0.out] at hx
 have L7 : Hid (LocP u bC mb (.cells #[.int .i64 (p : Int), .int .i64 (L p).cond, .slice a1 k1 c1] 162) F u7) := L6.out.kc k7
 have HK7 : Hid (LArr u7 q8 (kL (p : Int) F)) := HK6.out.kc k7 (by have := HQ.out; omega) (by have := HQ.out; omega)
 clear hb2 k7 x2 e0 L6 C6 S6 HK6
 rcases hx with ⟨B, r7, hR, gB, rfl, c7⟩ | ⟨err, at', v, hR, hE, rfl⟩
 rotate_left
 ·obtain ⟨t, x, rfl⟩ := hE.shp
  have HE1 : Hid (ErrIs (.iface t x) err at') := hE
  have HR1 : Hid (RR = .bad err at') := hR
  clear hE hR
  rw [<- HZ.out]
  go_wp2_with (refine wpList_storeH rfl (.tmp 13) (.tmp 89) rfl u7.heap.size zFS zFS rfl Z0 HZ.out rfl (by rw [zero_fac]; exact FArr.fresh _) ?_; intro u8 hA hf hz)
  unfold Hid
  have hl4 := L7.out.below ((Below.refl _ _).alloc (Nat.le_refl _) (.cells (facA (fun _ => zV) 0 0) 78))
  rw [zero_fac] at hf
  have L8 : Hid (LocP u bC mb (.cells #[.int .i64 (p : Int), .int .i64 (L p).cond, .slice a1 k1 c1] 162) F u8) := hl4.ft hf L7.out.lt
  have S8 : u.heap.size < u8.heap.size := hq_ltC L8.out.X
  clear hA hf hz hl4 L7
  go_upto_region 15 with fail
  have j0 : ∀ w', Ft (u.heap.size + 1 + 1) u8 w' -> w'.cell? ⟨u.heap.size, 0, none⟩ = some (.int .i64 (p : Int)) := fun w' h => (hq_cell ((h.block _ S8 (by omega)).trans L8.out.X) 0).trans rfl
  have ZR : Hid (FArr u8 (u.heap.size + 1 + 1) zFS) := L8.out.R
  refine wp_region_held_drew (S := fun w' => Ft (u.heap.size + 1 + 1) u8 w') (by kernel_rfl) (Ft.refl _ _).drew (fun _ => ?_)
  refine wpAnyH_tk 0 (.agg Z0) rfl (fun w' _ => exec_zero rfl Z0 HZ.out) ?_
  try simp only [Act.put, List.getElem_toArray, List.getElem_cons_zero, List.setIfInBounds_toArray, List.set_cons_zero, List.set_cons_succ]
  refine wpAnyH_ta 1 rfl ?_
  refine wpAnyH_ta 2 rfl ?_
  refine wpAnyH_ta 3 rfl ?_
  refine wpAnyH_ta 4 rfl ?_
  refine wpAnyH_ta 5 rfl ?_
  refine wpAnyH_ready (rs := [6]) (by kernel_rfl) (by simp) ?_
  refine AllReadyH.cons rfl (fun KK hK => ?_) AllReadyH.nil
  refine if_in (by kernel_rfl) ?_
  refine wp_storeF (.tmp 6) (.tmp 93) rfl (u.heap.size + 1 + 1) zFS zFS rfl Z0 HZ.out rfl (FArr.below ZR.out (Below.refl _ _).drew) ?_
  intro wE hA hf hz
  have hfE : Ft (u.heap.size + 1 + 1) u8 wE := (Ft.refl _ _).drew.trans hf
  refine hK.out _ _ hfE (fun _ => ?_)
  clear hK KK
  try simp only [Act.put, List.getElem_toArray, List.getElem_cons_zero, List.getElem_cons_succ]
  refine wpAnyH_ta 7 rfl ?_
  refine wpAnyH_done (by kernel_rfl) ?_ _
  have HE : Hid (FArr wE (u.heap.size + 1 + 1) zFS /\ Ft (u.heap.size + 1 + 1) u8 wE) := ⟨hA, hfE⟩
  clear hA hf hz hfE
  go_wp2
  refine bodyPost_ret (v := .tuple #[.agg Z0, .iface 192 (.agg #[.int .i64 (p : Int), .iface t x])]) (results_cell2 rfl _ _ (u.heap.size + 1 + 1) _ _ rfl rfl (HE.out.1.var HZ.out)) rfl ?_
  rw [show Z0 = fA zFS from HZ.out]
  exact L8.out.bad HE.out.2 HR1.out (.within _ HE1.out)
 have HB : Hid (FGd G B) := gB
 have HR1 : Hid (RR = .ok B r7) := hR
 have C7 : Hid (CS G L w0 bC mb bH cH (d + 1) u7 r7) := c7
 obtain ⟨BA, hBA⟩ : ∃ x, x = fA B := ⟨_, rfl⟩
 have HBA : Hid (BA = fA B) := hBA
 rw [<- hBA]
 clear gB hR c7 hBA
 go_wp2_with (refine wpList_storeH rfl (.tmp 13) (.tmp 89) rfl u7.heap.size B zFS rfl BA HBA.out rfl (by rw [zero_fac]; exact FArr.fresh _) ?_; intro u8 hA hf hz)
 unfold Hid
 have HQ8 : Hid (FArr u8 u7.heap.size B) := hA
 have hcv := C7.out.var L7.out rfl hf
 have C8 : Hid (CS G L w0 bC mb bH cH (d + 1) u8 r7) := hcv.1
 have L8 : Hid (LocP u bC mb (.cells #[.int .i64 (p : Int), .int .i64 (L p).cond, .slice a1 k1 c1] 162) F u8) := hcv.2
 rw [zero_fac] at hf
 have hq8 := HK7.out.2.2.lt
 have HK8 : Hid (LArr u8 q8 (kL (p : Int) F)) := (HK7.out.below ((Below.refl _ _).alloc (Nat.le_refl _) _)).ft hf (by omega)
 have HB7 : Hid (bC < u7.heap.size /\ mb < u7.heap.size /\ u.heap.size + 1 + 1 < u7.heap.size) := ⟨C7.out.lt, C7.out.M.lt, L7.out.lt⟩
 clear hA hf hz hcv C7 L7 HK7 hq8
 generalize u7.heap.size = q7 at *
 go_upto_region 16 with fail
 obtain ⟨hmemo, hr7⟩ := memo_of HG.out HR01.out.1 (INV.out.trans HR1.out)
 have HMM : Hid (Memo G L p F B (r7 - r)) := hmemo
 have h71 : r7 - r <= 100000 := hmemo.2.2.2.1
 have h70 : 1 <= r7 - r := hmemo.2.2.1
 obtain ⟨EB, hEB⟩ : ∃ x, x = (eL B (r7 - r)).toArray := ⟨_, rfl⟩
 have HEB : Hid (EB = (eL B (r7 - r)).toArray) := hEB
 have hw7 : IntKind.i64.wrap (r7 - r) = r7 - r := by rw [IntKind.wrap_i64] <;> omega
 clear hmemo hEB
 go_cut [6, 7, 13] (fun s6 s7 s13 wx => s6 = .pointer (some ⟨u.heap.size + 1 + 1, 0, none⟩) /\ s7 = .nilIface /\ s13 = .pointer (some ⟨q7, 0, none⟩) /\ FArr wx q7 B /\ LocP u bC mb (.cells #[.int .i64 (p : Int), .int .i64 (L p).cond, .slice a1 k1 c1] 162) F wx /\ CS G L w0 bC mb bH cH d wx r7)
 case first =>
  have k2 : ∀ w', Ft mb u8 w' -> w'.cell? ⟨bC, 2, none⟩ = some (.map (some mb)) := fun w' h => (hq_cell ((h.block _ C8.out.lt C8.out.ne).trans C8.out.C) 2).trans rfl
  have k1' : ∀ w', Ft mb u8 w' -> w'.cell? ⟨bC, 1, none⟩ = some (.int .i64 r7) := fun w' h => (hq_cell ((h.block _ C8.out.lt C8.out.ne).trans C8.out.C) 1).trans rfl
  refine wp_region_held_drew (S := fun w' => Ft mb u8 w') (by kernel_rfl) (Ft.refl _ _).drew (fun _ => ?_)
  refine wpAnyH_ta 0 rfl ?_
  refine wpAnyH_ta 1 rfl ?_
  refine wpAnyH_ta 2 rfl ?_
  refine wpAnyH_ta 3 rfl ?_
  refine wpAnyH_tk 4 (.agg KA) rfl (fun w' hw => exec_loadH (.tmp 8) rfl q8 rfl (kL (p : Int) F) KA HK.out (HK8.out.ft hw (by have := HQ.out; omega))) ?_
  try simp only [Act.put, List.getElem_toArray, List.getElem_cons_zero, List.getElem_cons_succ, List.setIfInBounds_toArray, List.set_cons_zero, List.set_cons_succ]
  refine wpAnyH_tk 5 (.agg BA) rfl (fun w' hw => exec_loadF (.tmp 13) rfl q7 rfl B BA HBA.out (HQ8.out.ft hw (by have := HB7.out; omega))) ?_
  try simp only [Act.put, List.getElem_toArray, List.getElem_cons_zero, List.getElem_cons_succ, List.setIfInBounds_toArray, List.set_cons_zero, List.set_cons_succ]
  refine wpAnyH_ta 6 rfl ?_
  refine wpAnyH_ta 7 rfl ?_
  refine wpAnyH_ta 8 rfl ?_
  refine wpAnyH_ta 9 rfl ?_
  refine wpAnyH_ta 10 rfl ?_
  refine wpAnyH_ta 11 rfl ?_
  refine wpAnyH_tk 12 (.agg EB) rfl (fun w' _ => exec_buildE (.tmp 104) (.tmp 110) rfl B (r7 - r) BA EB HBA.out HEB.out rfl rfl) ?_
  try simp only [Act.put, List.getElem_toArray, List.getElem_cons_zero, List.getElem_cons_succ, List.setIfInBounds_toArray, List.set_cons_zero, List.set_cons_succ]
  have hbd : Ft mb u8 u8.drew := (Ft.refl _ _).drew
  have hbb : Below u8.heap.size u8 u8.drew := (Below.refl _ _).drew
  generalize u8.drew = t0 at hbd hbb ⊢
  have C9 := C8.out.below hbb
  obtain ⟨t1, hrun, hM, hfm⟩ := C9.M.put (by have := C9.r1; have := C9.d0; omega) HP.out HMM.out
  rw [<- show KA = (kL (p : Int) F).toArray from HK.out, <- show EB = (eL B (r7 - r)).toArray from HEB.out] at hrun
  refine wpAnyH_ready (rs := [13]) (by kernel_rfl) (by simp) ?_
  refine AllReadyH.cons rfl (fun KK hK => ?_) AllReadyH.nil
  refine if_in (by kernel_rfl) ?_
  refine wp_update (.tmp 102) (.tmp 103) (.tmp 111) rfl _ _ _ rfl rfl rfl hrun ?_
  refine hK.out _ _ (hbd.trans hfm) (fun _ => ?_)
  clear hK KK
  refine wpAnyH_done (by kernel_rfl) ?_ _
  have HE : Hid (FArr t1 q7 B /\ LocP u bC mb (.cells #[.int .i64 (p : Int), .int .i64 (L p).cond, .slice a1 k1 c1] 162) F t1 /\ CS G L w0 bC mb bH cH d t1 r7) := ⟨HQ8.out.ft (hbd.trans hfm) (by have := HB7.out; omega), (L8.out.below hbb).kc ((Kc.refl _ _ _).ft hfm (Or.inr (Or.inr rfl))), C9.updated HD0.out hM (by omega) hfm⟩
  clear hrun hM hfm C9 hbd hbb k2 k1'
  go_wp2_with fail
  go_meet
  exact ⟨rfl, rfl, rfl, HE.out⟩
 case rest =>
 obtain ⟨rfl, rfl, rfl, hA, hl, hc⟩ := hcut
 have HQ9' : Hid (FArr wc q7 B) := hA
 have L9 : Hid (LocP u bC mb (.cells #[.int .i64 (p : Int), .int .i64 (L p).cond, .slice a1 k1 c1] 162) F wc) := hl
 have C9 : Hid (CS G L w0 bC mb bH cH d wc r7) := hc
 clear hA hl hc C8 L8 HK8 HQ8
 generalize wc = u9 at *
 go_wp2_with (first | (refine wpList_loadF rfl (.tmp 13) rfl q7 rfl B BA HBA.out HQ9'.out ?_) | (refine wpList_storeH rfl (.tmp 6) (.tmp 112) rfl (u.heap.size + 1 + 1) B zFS rfl BA HBA.out rfl L9.out.R ?_; intro wE hA hf hz))
 unfold Hid
 have HE : Hid (FArr wE (u.heap.size + 1 + 1) B /\ Ft (u.heap.size + 1 + 1) u9 wE) := ⟨hA, hf⟩
 clear hA hf hz
 go_wp2
 refine bodyPost_ret (v := .tuple #[.agg BA, .nilIface]) (results_cell2 rfl _ _ (u.heap.size + 1 + 1) _ _ rfl rfl (HE.out.1.var HBA.out)) rfl ?_
 rw [show BA = fA B from HBA.out]
 exact L9.out.ok HE.out.2 HR1.out HB.out C9.out
end
end Go.Proofs.YtcgcldokompafaaGreatDoor
