import Derived.Test.YtcgcldokompafaaGreatDoorOfCkMap2
import Derived.Test.YtcgcldokompafaaGreatDoorCk5e
import Derived.Deep.Cut
import Derived.Deep.DeepCutAuto
/- A choice checked by the program. -/
namespace Go.Proofs.YtcgcldokompafaaGreatDoor
open Go.RowKit Go.Deep
section
variable {G : SG} {L : Nat -> SV} {w0 : World} {bC mb bH cH p : Nat}
set_option maxRecDepth 20000 in
set_option maxHeartbeats 8000000 in
theorem choice_any (hk : (L p).k = 2) (hs : 1 <= (L p).cond /\ (L p).cond <= 4) (ht : 0 <= (L p).thn) (a1 a2 : Option Addr) (k1 c1 k2 c2 : Nat) (hy : BlkC G L w0 bC mb bH cH (p + 1) (p + 1 + (L p).thn.toNat) (.slice a1 k1 c1)) (hn : BlkC G L w0 bC mb bH cH (p + 1 + (L p).thn.toNat) (nxt L p) (.slice a2 k2 c2)) (d : Int) (u : World) (F : FS) (FA : Array Value) (r : Int) (hF : FA = fA F) (hC : CS G L w0 bC mb bH cH d u r) (hG : FGd G F) :
  Calls Tryz.prog 81 #[.pointer (some ⟨bC, 0, none⟩), .agg #[.int .i64 (p : Int), .int .i64 (L p).cond, .slice a1 k1 c1, .slice a2 k2 c2], .agg FA] u (AnsC G L w0 bC mb bH cH d (ckSt G L p F r) u) := by
 have HF : Hid (FA = fA F) := hF
 have HG : Hid (FGd G F) := hG
 have HS : Hid (1 <= (L p).cond /\ (L p).cond <= 4) := hs
 have HY : Hid _ := hy
 have HN : Hid _ := hn
 obtain ⟨Z0, hZ0⟩ : ∃ x, x = fA zFS := ⟨_, rfl⟩
 have HZ : Hid (Z0 = fA zFS) := hZ0
 obtain ⟨RR, hRR⟩ : ∃ q, ckSt G L p F r = q := ⟨_, rfl⟩
 rw [hRR]
 have hc : cmpL G (L p) (seg L (p + 1) (p + 1 + (L p).thn.toNat)) (seg L (p + 1 + (L p).thn.toNat) (nxt L p)) (p : Int) F r = RR := by rw [<- hRR, ckSt, if_neg (by omega)]
 have hl : (L p).thn = ((seg L (p + 1) (p + 1 + (L p).thn.toNat)).length : Int) := by rw [seg_len]; omega
 have hk3 : ¬ (L p).k = 3 := by omega
 have INV : Hid (cmpL G (L p) (seg L (p + 1) (p + 1 + (L p).thn.toNat)) (seg L (p + 1 + (L p).thn.toNat) (nxt L p)) (p : Int) F r = RR /\ ¬ (L p).k = 3 /\ (L p).thn = ((seg L (p + 1) (p + 1 + (L p).thn.toNat)).length : Int)) := ⟨hc, hk3, hl⟩
 have HL : Hid ((p : Int) + 1 + ((seg L (p + 1) (p + 1 + (L p).thn.toNat)).length : Int) = ((p + 1 + (L p).thn.toNat : Nat) : Int)) := (by rw [seg_len]; omega : (p : Int) + 1 + ((seg L (p + 1) (p + 1 + (L p).thn.toNat)).length : Int) = ((p + 1 + (L p).thn.toNat : Nat) : Int))
 obtain ⟨u1, hu1, l1, c1'⟩ := loc_new hF (.cells #[.int .i64 (p : Int), .int .i64 (L p).cond, .slice a1 k1 c1, .slice a2 k2 c2] 159) hC
 clear hk hs ht hy hn hF hG hC hZ0 hRR hc hl hk3
 go_enter Tryz.func81, Tryz.ntmps81
 go_upto_region 1 with fail
 rw [zero_fac, hu1]
 have L1 : Hid (LocP u bC mb (.cells #[.int .i64 (p : Int), .int .i64 (L p).cond, .slice a1 k1 c1, .slice a2 k2 c2] 159) F u1) := l1
 have C1 : Hid (CS G L w0 bC mb bH cH d u1 r) := c1'
 clear hu1 l1 c1'
 have x1 : u1.cell? ⟨u.heap.size, 1, none⟩ = some (.int .i64 (L p).cond) := (hq_cell L1.out.X 1).trans rfl
 have xl := hq_ltC L1.out.X
 go_wp2_with (refine wpList_loadF rfl (.tmp 5) rfl (u.heap.size + 1) rfl F FA HF.out L1.out.F ?_)
 refine (refCond_any F FA HF.out _ HS.out.1 HS.out.2 _).mono ?_
 rintro e u2 ⟨rfl, hb⟩
 obtain ⟨er, her⟩ : ∃ x, cfl F (L p).cond = x := ⟨_, rfl⟩
 rw [her]
 have HER : Hid (cfl F (L p).cond = er) := her
 have L2 : Hid (LocP u bC mb (.cells #[.int .i64 (p : Int), .int .i64 (L p).cond, .slice a1 k1 c1, .slice a2 k2 c2] 159) F u2) := L1.out.below hb
 have C2 : Hid (CS G L w0 bC mb bH cH d u2 r) := C1.out.below hb
 clear her hb x1 xl L1 C1
 have S2 : u.heap.size < u2.heap.size := hq_ltC L2.out.X
 by_cases h0 : er = 0
 rotate_left
 ·have e0 : (er != 0) = true := by simp [h0]
  have NE : Hid (¬ er = 0) := h0
  clear h0
  go_upto_region 3 with fail
  have j0 : ∀ w', Ft (u.heap.size + 1 + 1) u2 w' -> w'.cell? ⟨u.heap.size, 0, none⟩ = some (.int .i64 (p : Int)) := fun w' h => (hq_cell ((h.block _ S2 (by omega)).trans L2.out.X) 0).trans rfl
  have ZR : Hid (FArr u2 (u.heap.size + 1 + 1) zFS) := L2.out.R
  refine wp_region_held_drew (S := fun w' => Ft (u.heap.size + 1 + 1) u2 w') (by kernel_rfl) (Ft.refl _ _).drew (fun _ => ?_)
  refine wpAnyH_tk 0 (.agg Z0) rfl (fun w' _ => exec_zero rfl Z0 HZ.out) ?_
  try simp only [Act.put, List.getElem_toArray, List.getElem_cons_zero, List.setIfInBounds_toArray, List.set_cons_zero, List.set_cons_succ]
  refine wpAnyH_ta 1 rfl ?_
  refine wpAnyH_ta 2 rfl ?_
  refine wpAnyH_ta 3 rfl ?_
  refine wpAnyH_ta 4 rfl ?_
  refine wpAnyH_ta 5 rfl ?_
  refine wpAnyH_ready (rs := [6]) (by kernel_rfl) (by simp) ?_
  refine AllReadyH.cons rfl (fun KK hK => ?_) AllReadyH.nil
  refine if_in (by kernel_rfl) ?_
  refine wp_storeF (.tmp 6) (.tmp 18) rfl (u.heap.size + 1 + 1) zFS zFS rfl Z0 HZ.out rfl (FArr.below ZR.out (Below.refl _ _).drew) ?_
  intro wE hA hf hz
  have hfE : Ft (u.heap.size + 1 + 1) u2 wE := (Ft.refl _ _).drew.trans hf
  refine hK.out _ _ hfE (fun _ => ?_)
  clear hK KK
  try simp only [Act.put, List.getElem_toArray, List.getElem_cons_zero, List.getElem_cons_succ]
  refine wpAnyH_ta 7 rfl ?_
  refine wpAnyH_done (by kernel_rfl) ?_ _
  have HE : Hid (FArr wE (u.heap.size + 1 + 1) zFS /\ Ft (u.heap.size + 1 + 1) u2 wE) := ⟨hA, hfE⟩
  clear hA hf hz hfE
  go_wp2
  refine bodyPost_ret (v := .tuple #[.agg Z0, .iface 85 (.agg #[.int .i64 er, .int .i64 (p : Int)])]) (results_cell2 rfl _ _ (u.heap.size + 1 + 1) _ _ rfl rfl (HE.out.1.var HZ.out)) rfl ?_
  rw [show Z0 = fA zFS from HZ.out]
  exact L2.out.bad HE.out.2 (cmp_flag INV.out.1 INV.out.2.1 HER.out NE.out) (.flaw _ _)
 have e0 : (er != 0) = false := by simp [h0]
 have HE0 : Hid (cfl F (L p).cond = 0) := HER.out.trans h0
 clear h0 HER
 have x2 : u2.cell? ⟨u.heap.size, 2, none⟩ = some (.slice a1 k1 c1) := (hq_cell L2.out.X 2).trans rfl
 go_wp2_with (refine wpList_loadF rfl (.tmp 5) rfl (u.heap.size + 1) rfl F FA HF.out L2.out.F ?_)
 have hb2 := HY.out
 unfold BlkC at hb2
 refine (hb2 d u2 F FA r HF.out C2.out HG.out).mono ?_
 rintro e u3 ⟨k3, hx⟩
 rw [show ((p + 1 : Nat) : Int) = (p : Int) + 1 from rfl] at hx
 have L3 : Hid (LocP u bC mb (.cells #[.int .i64 (p : Int), .int .i64 (L p).cond, .slice a1 k1 c1, .slice a2 k2 c2] 159) F u3) := L2.out.kc k3
 clear hb2 k3 x2 e0 L2 C2 S2
 rcases hx with ⟨B, r3, hR, gB, rfl, c3⟩ | ⟨err, at', v, hR, hE, rfl⟩
 rotate_left
 ·obtain ⟨t, x, rfl⟩ := hE.shp
  have HE1 : Hid (ErrIs (.iface t x) err at') := hE
  have HR1 : Hid _ := hR
  clear hE hR
  rw [<- HZ.out]
  go_wp2_with (refine wpList_storeH rfl (.tmp 9) (.tmp 30) rfl u3.heap.size zFS zFS rfl Z0 HZ.out rfl (by rw [zero_fac]; exact FArr.fresh _) ?_; intro u4 hA hf hz)
  unfold Hid
  have hl4 := L3.out.below ((Below.refl _ _).alloc (Nat.le_refl _) (.cells (facA (fun _ => zV) 0 0) 78))
  rw [zero_fac] at hf
  have L4 : Hid (LocP u bC mb (.cells #[.int .i64 (p : Int), .int .i64 (L p).cond, .slice a1 k1 c1, .slice a2 k2 c2] 159) F u4) := hl4.ft hf L3.out.lt
  have S4 : u.heap.size < u4.heap.size := hq_ltC L4.out.X
  clear hA hf hz hl4 L3
  go_upto_region 6 with fail
  have j0 : ∀ w', Ft (u.heap.size + 1 + 1) u4 w' -> w'.cell? ⟨u.heap.size, 0, none⟩ = some (.int .i64 (p : Int)) := fun w' h => (hq_cell ((h.block _ S4 (by omega)).trans L4.out.X) 0).trans rfl
  have ZR : Hid (FArr u4 (u.heap.size + 1 + 1) zFS) := L4.out.R
  refine wp_region_held_drew (S := fun w' => Ft (u.heap.size + 1 + 1) u4 w') (by kernel_rfl) (Ft.refl _ _).drew (fun _ => ?_)
  refine wpAnyH_tk 0 (.agg Z0) rfl (fun w' _ => exec_zero rfl Z0 HZ.out) ?_
  try simp only [Act.put, List.getElem_toArray, List.getElem_cons_zero, List.setIfInBounds_toArray, List.set_cons_zero, List.set_cons_succ]
  refine wpAnyH_ta 1 rfl ?_
  refine wpAnyH_ta 2 rfl ?_
  refine wpAnyH_ta 3 rfl ?_
  refine wpAnyH_ta 4 rfl ?_
  refine wpAnyH_ta 5 rfl ?_
  refine wpAnyH_ready (rs := [6]) (by kernel_rfl) (by simp) ?_
  refine AllReadyH.cons rfl (fun KK hK => ?_) AllReadyH.nil
  refine if_in (by kernel_rfl) ?_
  refine wp_storeF (.tmp 6) (.tmp 34) rfl (u.heap.size + 1 + 1) zFS zFS rfl Z0 HZ.out rfl (FArr.below ZR.out (Below.refl _ _).drew) ?_
  intro wE hA hf hz
  have hfE : Ft (u.heap.size + 1 + 1) u4 wE := (Ft.refl _ _).drew.trans hf
  refine hK.out _ _ hfE (fun _ => ?_)
  clear hK KK
  try simp only [Act.put, List.getElem_toArray, List.getElem_cons_zero, List.getElem_cons_succ]
  refine wpAnyH_ta 7 rfl ?_
  refine wpAnyH_done (by kernel_rfl) ?_ _
  have HE : Hid (FArr wE (u.heap.size + 1 + 1) zFS /\ Ft (u.heap.size + 1 + 1) u4 wE) := ⟨hA, hfE⟩
  clear hA hf hz hfE
  go_wp2
  refine bodyPost_ret (v := .tuple #[.agg Z0, .iface 192 (.agg #[.int .i64 (p : Int), .iface t x])]) (results_cell2 rfl _ _ (u.heap.size + 1 + 1) _ _ rfl rfl (HE.out.1.var HZ.out)) rfl ?_
  rw [show Z0 = fA zFS from HZ.out]
  exact L4.out.bad HE.out.2 (cmp_badx INV.out.1 INV.out.2.1 HE0.out HR1.out) (.within _ HE1.out)
 have HB : Hid (FGd G B) := gB
 have HR1 : Hid _ := hR
 have C3 : Hid (CS G L w0 bC mb bH cH d u3 r3) := c3
 obtain ⟨BA, hBA⟩ : ∃ x, x = fA B := ⟨_, rfl⟩
 have HBA : Hid (BA = fA B) := hBA
 rw [<- hBA]
 clear gB hR c3 hBA
 go_wp2_with (refine wpList_storeH rfl (.tmp 9) (.tmp 30) rfl u3.heap.size B zFS rfl BA HBA.out rfl (by rw [zero_fac]; exact FArr.fresh _) ?_; intro u4 hA hf hz)
 unfold Hid
 have HQ4 : Hid (FArr u4 u3.heap.size B) := hA
 have hcv := C3.out.var L3.out rfl hf
 have C4 : Hid (CS G L w0 bC mb bH cH d u4 r3) := hcv.1
 have L4 : Hid (LocP u bC mb (.cells #[.int .i64 (p : Int), .int .i64 (L p).cond, .slice a1 k1 c1, .slice a2 k2 c2] 159) F u4) := hcv.2
 have HB3 : Hid (bC < u3.heap.size /\ mb < u3.heap.size /\ u.heap.size + 1 + 1 < u3.heap.size) := ⟨C3.out.lt, C3.out.M.lt, L3.out.lt⟩
 clear hA hf hz hcv C3 L3
 generalize u3.heap.size = q3 at *
 have x3 : u4.cell? ⟨u.heap.size, 3, none⟩ = some (.slice a2 k2 c2) := (hq_cell L4.out.X 3).trans rfl
 have S4 := hq_ltC L4.out.X
 go_wp2_with (refine wpList_loadF rfl (.tmp 5) rfl (u.heap.size + 1) rfl F FA HF.out L4.out.F ?_)
 have hb2 := HN.out
 unfold BlkC at hb2
 refine (hb2 d u4 F FA r3 HF.out C4.out HG.out).mono ?_
 rintro e u5 ⟨k5, hx⟩
 rw [<- HL.out] at hx
 have L5 : Hid (LocP u bC mb (.cells #[.int .i64 (p : Int), .int .i64 (L p).cond, .slice a1 k1 c1, .slice a2 k2 c2] 159) F u5) := L4.out.kc k5
 have HQ5 : Hid (FArr u5 q3 B) := HQ4.out.kc k5 (by have := HB3.out; omega) (by have := HB3.out; omega)
 clear hb2 k5 x3 L4 C4 S4 HQ4
 rcases hx with ⟨B2, r5, hR, gB, rfl, c5⟩ | ⟨err, at', v, hR, hE, rfl⟩
 rotate_left
 ·obtain ⟨t, x, rfl⟩ := hE.shp
  have HE1 : Hid (ErrIs (.iface t x) err at') := hE
  have HR2 : Hid _ := hR
  clear hE hR
  rw [<- HZ.out]
  go_wp2_with (refine wpList_storeH rfl (.tmp 11) (.tmp 46) rfl u5.heap.size zFS zFS rfl Z0 HZ.out rfl (by rw [zero_fac]; exact FArr.fresh _) ?_; intro u6 hA hf hz)
  unfold Hid
  have hl4 := L5.out.below ((Below.refl _ _).alloc (Nat.le_refl _) (.cells (facA (fun _ => zV) 0 0) 78))
  rw [zero_fac] at hf
  have L6 : Hid (LocP u bC mb (.cells #[.int .i64 (p : Int), .int .i64 (L p).cond, .slice a1 k1 c1, .slice a2 k2 c2] 159) F u6) := hl4.ft hf L5.out.lt
  have S6 : u.heap.size < u6.heap.size := hq_ltC L6.out.X
  clear hA hf hz hl4 L5
  go_upto_region 9 with fail
  have j0 : ∀ w', Ft (u.heap.size + 1 + 1) u6 w' -> w'.cell? ⟨u.heap.size, 0, none⟩ = some (.int .i64 (p : Int)) := fun w' h => (hq_cell ((h.block _ S6 (by omega)).trans L6.out.X) 0).trans rfl
  have ZR : Hid (FArr u6 (u.heap.size + 1 + 1) zFS) := L6.out.R
  refine wp_region_held_drew (S := fun w' => Ft (u.heap.size + 1 + 1) u6 w') (by kernel_rfl) (Ft.refl _ _).drew (fun _ => ?_)
  refine wpAnyH_tk 0 (.agg Z0) rfl (fun w' _ => exec_zero rfl Z0 HZ.out) ?_
  try simp only [Act.put, List.getElem_toArray, List.getElem_cons_zero, List.setIfInBounds_toArray, List.set_cons_zero, List.set_cons_succ]
  refine wpAnyH_ta 1 rfl ?_
  refine wpAnyH_ta 2 rfl ?_
  refine wpAnyH_ta 3 rfl ?_
  refine wpAnyH_ta 4 rfl ?_
  refine wpAnyH_ta 5 rfl ?_
  refine wpAnyH_ready (rs := [6]) (by kernel_rfl) (by simp) ?_
  refine AllReadyH.cons rfl (fun KK hK => ?_) AllReadyH.nil
  refine if_in (by kernel_rfl) ?_
  refine wp_storeF (.tmp 6) (.tmp 50) rfl (u.heap.size + 1 + 1) zFS zFS rfl Z0 HZ.out rfl (FArr.below ZR.out (Below.refl _ _).drew) ?_
  intro wE hA hf hz
  have hfE : Ft (u.heap.size + 1 + 1) u6 wE := (Ft.refl _ _).drew.trans hf
  refine hK.out _ _ hfE (fun _ => ?_)
  clear hK KK
  try simp only [Act.put, List.getElem_toArray, List.getElem_cons_zero, List.getElem_cons_succ]
  refine wpAnyH_ta 7 rfl ?_
  refine wpAnyH_done (by kernel_rfl) ?_ _
  have HE : Hid (FArr wE (u.heap.size + 1 + 1) zFS /\ Ft (u.heap.size + 1 + 1) u6 wE) := ⟨hA, hfE⟩
  clear hA hf hz hfE
  go_wp2
  refine bodyPost_ret (v := .tuple #[.agg Z0, .iface 192 (.agg #[.int .i64 (p : Int), .iface t x])]) (results_cell2 rfl _ _ (u.heap.size + 1 + 1) _ _ rfl rfl (HE.out.1.var HZ.out)) rfl ?_
  rw [show Z0 = fA zFS from HZ.out]
  exact L6.out.bad HE.out.2 (cmp_bady INV.out.1 INV.out.2.1 INV.out.2.2 HE0.out HR1.out HR2.out) (.within _ HE1.out)
 have HB2 : Hid (FGd G B2) := gB
 have HR2 : Hid _ := hR
 have C5 : Hid (CS G L w0 bC mb bH cH d u5 r5) := c5
 obtain ⟨CA, hCA⟩ : ∃ x, x = fA B2 := ⟨_, rfl⟩
 have HCA : Hid (CA = fA B2) := hCA
 rw [<- hCA]
 clear gB hR c5 hCA
 go_wp2_with (refine wpList_storeH rfl (.tmp 11) (.tmp 46) rfl u5.heap.size B2 zFS rfl CA HCA.out rfl (by rw [zero_fac]; exact FArr.fresh _) ?_; intro u6 hA hf hz)
 unfold Hid
 have HP6 : Hid (FArr u6 u5.heap.size B2) := hA
 have hcv := C5.out.var L5.out rfl hf
 have C6 : Hid (CS G L w0 bC mb bH cH d u6 r5) := hcv.1
 have L6 : Hid (LocP u bC mb (.cells #[.int .i64 (p : Int), .int .i64 (L p).cond, .slice a1 k1 c1, .slice a2 k2 c2] 159) F u6) := hcv.2
 rw [zero_fac] at hf
 have hq5 := Arr.lt HQ5.out
 have HQ6 : Hid (FArr u6 q3 B) := (HQ5.out.below ((Below.refl _ _).alloc (Nat.le_refl _) _)).ft hf (by omega)
 clear hA hf hz hcv C5 L5 HQ5 hq5
 generalize u5.heap.size = q5 at *
 go_wp2_with (first | (refine wpList_loadF rfl (.tmp 9) rfl q3 rfl B BA HBA.out HQ6.out ?_) | (refine wpList_loadF rfl (.tmp 11) rfl q5 rfl B2 CA HCA.out HP6.out ?_))
 obtain ⟨_, _, _, z1, c1'⟩ := abs_iff.1 HB.out.1
 obtain ⟨_, _, _, z2, c2'⟩ := abs_iff.1 HB2.out.1
 refine (factsJoin_any B B2 BA CA HBA.out HCA.out z1.1 z1.2 c1'.1 c1'.2 z2.1 z2.2 c2'.1 c2'.2 _).mono ?_
 clear z1 c1' z2 c2'
 rintro e u7 ⟨rfl, hb⟩
 obtain ⟨JA, hJA⟩ : ∃ x, x = fA (jF B B2) := ⟨_, rfl⟩
 have HJA : Hid (JA = fA (jF B B2)) := hJA
 rw [<- hJA]
 have L7 : Hid (LocP u bC mb (.cells #[.int .i64 (p : Int), .int .i64 (L p).cond, .slice a1 k1 c1, .slice a2 k2 c2] 159) F u7) := L6.out.below hb
 have C7 : Hid (CS G L w0 bC mb bH cH d u7 r5) := C6.out.below hb
 clear hJA hb L6 C6 HQ6 HP6
 go_wp2_with (refine wpList_storeH rfl (.tmp 6) (.tmp 58) rfl (u.heap.size + 1 + 1) (jF B B2) zFS rfl JA HJA.out rfl L7.out.R ?_; intro wE hA hf hz)
 unfold Hid
 have HE : Hid (FArr wE (u.heap.size + 1 + 1) (jF B B2) /\ Ft (u.heap.size + 1 + 1) u7 wE) := ⟨hA, hf⟩
 clear hA hf hz
 go_wp2
 refine bodyPost_ret (v := .tuple #[.agg JA, .nilIface]) (results_cell2 rfl _ _ (u.heap.size + 1 + 1) _ _ rfl rfl (HE.out.1.var HJA.out)) rfl ?_
 rw [show JA = fA (jF B B2) from HJA.out]
 exact L7.out.ok HE.out.2 (cmp_ok INV.out.1 INV.out.2.1 INV.out.2.2 HE0.out HR1.out HR2.out) (HB.out.join HB2.out) C7.out
end
end Go.Proofs.YtcgcldokompafaaGreatDoor
