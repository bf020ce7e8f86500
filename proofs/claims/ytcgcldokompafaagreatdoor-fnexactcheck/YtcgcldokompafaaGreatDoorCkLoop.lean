import Derived.Test.YtcgcldokompafaaGreatDoorCkRound
import Derived.Deep.Cut
import Derived.Deep.DeepCutAuto
/- A loop checked by the program. -/
namespace Go.Proofs.YtcgcldokompafaaGreatDoor
open Go.RowKit Go.Deep
section
variable {G : SG} {L : Nat -> SV} {w0 : World} {bC mb bH cH p : Nat}
theorem lp_end {k : Nat} {F : FS} {r : Int} {RR : CR} (i : loopF (fun B q => ckL G (seg L (p + 1) (p + 1 + (L p).thn.toNat)) ((p : Int) + 1) B q) (L p).cond (p : Int) (20 - k) F r = RR) (h : ¬ (k : Int) < 20) : RR = .bad 10 (p : Int) := by
 rw [<- i, show 20 - k = 0 by omega]; rfl
theorem lp_bad {k : Nat} {F : FS} {r e a : Int} {RR : CR} (i : loopF (fun B q => ckL G (seg L (p + 1) (p + 1 + (L p).thn.toNat)) ((p : Int) + 1) B q) (L p).cond (p : Int) (20 - k) F r = RR) (h : (k : Int) < 20) (hb : rndF G L p F r = .bad e a) : RR = .bad e a := by
 rw [<- i, show 20 - k = (20 - (k + 1)) + 1 by omega, loopF_rnd, hb]
theorem lp_same {k : Nat} {F B : FS} {r r' : Int} {RR : CR} (i : loopF (fun B q => ckL G (seg L (p + 1) (p + 1 + (L p).thn.toNat)) ((p : Int) + 1) B q) (L p).cond (p : Int) (20 - k) F r = RR) (h : (k : Int) < 20) (hb : rndF G L p F r = .ok B r') (hs : sameP (jF F B) F) : RR = .ok F r' := by
 rw [<- i, show 20 - k = (20 - (k + 1)) + 1 by omega, loopF_rnd, hb]
 dsimp only
 rw [if_pos (sameB_iff.2 hs)]
theorem lp_next {k : Nat} {F B : FS} {r r' : Int} {RR : CR} (i : loopF (fun B q => ckL G (seg L (p + 1) (p + 1 + (L p).thn.toNat)) ((p : Int) + 1) B q) (L p).cond (p : Int) (20 - k) F r = RR) (h : (k : Int) < 20) (hb : rndF G L p F r = .ok B r') (hs : ¬ sameP (jF F B) F) : loopF (fun B q => ckL G (seg L (p + 1) (p + 1 + (L p).thn.toNat)) ((p : Int) + 1) B q) (L p).cond (p : Int) (20 - (k + 1)) (jF F B) r' = RR := by
 rw [<- i, show 20 - k = (20 - (k + 1)) + 1 by omega, loopF_rnd, hb]
 dsimp only
 rw [if_neg fun q => hs (sameB_iff.1 q)]
theorem wpList_zeroH {ops : Array Oper} {rest : List Oper} {op : Oper} {a : Act} {w : World} {Q : Exit -> Act -> World -> Prop} (hgd : op.guard = none) (ho : op.op = .build 78 #[]) (Z0 : Array Value) (hZ : Z0 = fA zFS) (h : wpList Tryz.prog ops Q rest (a.put op.dst (.agg Z0)) w) : wpList Tryz.prog ops Q (op :: rest) a w :=
 wpList_plain hgd fun _ hK => wp_of_exec (exec_zero ho Z0 hZ) (hK _ _ h)
set_option maxRecDepth 20000 in
set_option maxHeartbeats 8000000 in
theorem loop_any (hk : (L p).k = 3) (hs : 1 <= (L p).cond /\ (L p).cond <= 4) (hp : p <= 2000) (a1 : Option Addr) (k1 c1 : Nat) (hy : BlkC G L w0 bC mb bH cH (p + 1) (p + 1 + (L p).thn.toNat) (.slice a1 k1 c1)) (d : Int) (u : World) (F : FS) (FA : Array Value) (r : Int) (hF : FA = fA F) (hC : CS G L w0 bC mb bH cH d u r) (hG : FGd G F) :
  Calls Tryz.prog 82 #[.pointer (some ⟨bC, 0, none⟩), .agg #[.int .i64 (p : Int), .int .i64 (L p).cond, .slice a1 k1 c1], .agg FA] u (AnsC G L w0 bC mb bH cH d (ckSt G L p F r) u) := by
 have HF : Hid (FA = fA F) := hF
 have HG : Hid (FGd G F) := hG
 have HRD : Hid (∀ (u : World) (F : FS) (FA : Array Value) (r : Int), FA = fA F -> CS G L w0 bC mb bH cH d u r -> FGd G F -> Calls Tryz.prog 107 #[.pointer (some ⟨bC, 0, none⟩), .agg #[.int .i64 (p : Int), .int .i64 (L p).cond, .slice a1 k1 c1], .agg FA] u (AnsC G L w0 bC mb bH cH d (rndF G L p F r) u)) := fun u F FA r => round_any hs hp a1 k1 c1 hy d u F FA r
 obtain ⟨Z0, hZ0⟩ : ∃ x, x = fA zFS := ⟨_, rfl⟩
 have HZ : Hid (Z0 = fA zFS) := hZ0
 obtain ⟨RR, hRR⟩ : ∃ q, ckSt G L p F r = q := ⟨_, rfl⟩
 rw [hRR]
 have INV0 : Hid (loopF (fun B q => ckL G (seg L (p + 1) (p + 1 + (L p).thn.toNat)) ((p : Int) + 1) B q) (L p).cond (p : Int) (20 - 0) F r = RR) := (by rw [<- hRR, ckSt, if_neg (by omega), cmpL, if_pos hk] : loopF (fun B q => ckL G (seg L (p + 1) (p + 1 + (L p).thn.toNat)) ((p : Int) + 1) B q) (L p).cond (p : Int) (20 - 0) F r = RR)
 obtain ⟨u1, hu1, l1, c1'⟩ := loc_new hF (.cells #[.int .i64 (p : Int), .int .i64 (L p).cond, .slice a1 k1 c1] 162) hC
 clear hk hs hp hy hF hG hC hZ0 hRR
 go_enter Tryz.func82, Tryz.ntmps82
 go_upto_region 1 with fail
 rw [zero_fac, hu1]
 have L1 : Hid (LocP u bC mb (.cells #[.int .i64 (p : Int), .int .i64 (L p).cond, .slice a1 k1 c1] 162) F u1) := l1
 have C1 : Hid (CS G L w0 bC mb bH cH d u1 r) := c1'
 clear hu1 l1 c1'
 go_wp2_with fail
 go_loopw [11] (fun iv wr => ∃ (k : Nat) (H : FS) (rr : Int), iv = .int .i64 k /\ k <= 20 /\ FGd G H /\ Hid (loopF (fun B q => ckL G (seg L (p + 1) (p + 1 + (L p).thn.toNat)) ((p : Int) + 1) B q) (L p).cond (p : Int) (20 - k) H rr = RR) /\ LocP u bC mb (.cells #[.int .i64 (p : Int), .int .i64 (L p).cond, .slice a1 k1 c1] 162) H wr /\ CS G L w0 bC mb bH cH d wr rr) (fun iv _ => 20 - (intOf iv).toNat)
 case atStart => exact ⟨0, F, r, rfl, by omega, HG.out, INV0, L1.out, C1.out⟩
 case round =>
  clear L1 C1 INV0 HG HF
  obtain ⟨k, H, rr, rfl, hk, gH, INV, l2, c2⟩ := hrel
  have GH : Hid (FGd G H) := gH
  have L2 : Hid (LocP u bC mb (.cells #[.int .i64 (p : Int), .int .i64 (L p).cond, .slice a1 k1 c1] 162) H wr) := l2
  have C2 : Hid (CS G L w0 bC mb bH cH d wr rr) := c2
  obtain ⟨HA, hHA⟩ : ∃ x, x = fA H := ⟨_, rfl⟩
  have HHA : Hid (HA = fA H) := hHA
  clear gH l2 c2 hHA
  by_cases hlt : (k : Int) < 20
  rotate_left
  ·have S2 : u.heap.size < wr.heap.size := hq_ltC L2.out.X
   go_upto_region 11 with fail
   have j0 : ∀ w', Ft (u.heap.size + 1 + 1) wr w' -> w'.cell? ⟨u.heap.size, 0, none⟩ = some (.int .i64 (p : Int)) := fun w' h => (hq_cell ((h.block _ S2 (by omega)).trans L2.out.X) 0).trans rfl
   have ZR : Hid (FArr wr (u.heap.size + 1 + 1) zFS) := L2.out.R
   refine wp_region_held_drew (S := fun w' => Ft (u.heap.size + 1 + 1) wr w') (by kernel_rfl) (Ft.refl _ _).drew (fun _ => ?_)
   refine wpAnyH_tk 0 (.agg Z0) rfl (fun w' _ => exec_zero rfl Z0 HZ.out) ?_
   try simp only [Act.put, List.getElem_toArray, List.getElem_cons_zero, List.setIfInBounds_toArray, List.set_cons_zero, List.set_cons_succ]
   refine wpAnyH_ta 1 rfl ?_
   refine wpAnyH_ta 2 rfl ?_
   refine wpAnyH_ta 3 rfl ?_
   refine wpAnyH_ta 4 rfl ?_
   refine wpAnyH_ready (rs := [5]) (by kernel_rfl) (by simp) ?_
   refine AllReadyH.cons rfl (fun KK hK => ?_) AllReadyH.nil
   refine if_in (by kernel_rfl) ?_
   refine wp_storeF (.tmp 6) (.tmp 33) rfl (u.heap.size + 1 + 1) zFS zFS rfl Z0 HZ.out rfl (FArr.below ZR.out (Below.refl _ _).drew) ?_
   intro wE hA hf hz
   have hfE : Ft (u.heap.size + 1 + 1) wr wE := (Ft.refl _ _).drew.trans hf
   refine hK.out _ _ hfE (fun _ => ?_)
   clear hK KK
   try simp only [Act.put, List.getElem_toArray, List.getElem_cons_zero, List.getElem_cons_succ]
   refine wpAnyH_ta 6 rfl ?_
   refine wpAnyH_done (by kernel_rfl) ?_ _
   have HE : Hid (FArr wE (u.heap.size + 1 + 1) zFS /\ Ft (u.heap.size + 1 + 1) wr wE) := ⟨hA, hfE⟩
   clear hA hf hz hfE
   go_wp2
   refine bodyPost_ret (v := .tuple #[.agg Z0, .iface 85 (.agg #[.int .i64 10, .int .i64 (p : Int)])]) (results_cell2 rfl _ _ (u.heap.size + 1 + 1) _ _ rfl rfl (HE.out.1.var HZ.out)) rfl ?_
   rw [show Z0 = fA zFS from HZ.out]
   exact L2.out.bad HE.out.2 (lp_end INV.out (by omega)) (.flaw _ _)
  have x0 : wr.cell? ⟨u.heap.size, 0, none⟩ = some (.int .i64 (p : Int)) := (hq_cell L2.out.X 0).trans rfl
  have x1 : wr.cell? ⟨u.heap.size, 1, none⟩ = some (.int .i64 (L p).cond) := (hq_cell L2.out.X 1).trans rfl
  have x2 : wr.cell? ⟨u.heap.size, 2, none⟩ = some (.slice a1 k1 c1) := (hq_cell L2.out.X 2).trans rfl
  have xl := hq_ltC L2.out.X
  go_wp2_with (refine wpList_loadF rfl (.tmp 5) rfl (u.heap.size + 1) rfl H HA HHA.out L2.out.F ?_)
  refine (HRD.out wr H HA rr HHA.out C2.out GH.out).mono ?_
  rintro e u3 ⟨k3, hx⟩
  have L3 : Hid (LocP u bC mb (.cells #[.int .i64 (p : Int), .int .i64 (L p).cond, .slice a1 k1 c1] 162) H u3) := L2.out.kc k3
  clear k3 x0 x1 x2 xl L2 C2
  rcases hx with ⟨B, r3, hR, gB, rfl, c3⟩ | ⟨err, at', v, hR, hE, rfl⟩
  rotate_left
  ·obtain ⟨t, x, rfl⟩ := hE.shp
   have HE1 : Hid (ErrIs (.iface t x) err at') := hE
   have HR1 : Hid (rndF G L p H rr = .bad err at') := hR
   clear hE hR
   rw [<- HZ.out]
   go_wp2_with (refine wpList_storeH rfl (.tmp 8) (.tmp 18) rfl u3.heap.size zFS zFS rfl Z0 HZ.out rfl (by rw [zero_fac]; exact FArr.fresh _) ?_; intro u4 hA hf hz)
   unfold Hid
   have hl4 := L3.out.below ((Below.refl _ _).alloc (Nat.le_refl _) (.cells (facA (fun _ => zV) 0 0) 78))
   rw [zero_fac] at hf
   have L4 : Hid (LocP u bC mb (.cells #[.int .i64 (p : Int), .int .i64 (L p).cond, .slice a1 k1 c1] 162) H u4) := hl4.ft hf L3.out.lt
   clear hA hf hz hl4 L3
   go_wp2_with (first | (refine wpList_zeroH rfl rfl Z0 HZ.out ?_) | (refine wpList_storeH rfl (.tmp 6) (.tmp 22) rfl (u.heap.size + 1 + 1) zFS zFS rfl Z0 HZ.out rfl L4.out.R ?_; intro wE hA hf hz))
   unfold Hid
   have HE : Hid (FArr wE (u.heap.size + 1 + 1) zFS /\ Ft (u.heap.size + 1 + 1) u4 wE) := ⟨hA, hf⟩
   clear hA hf hz
   go_wp2
   refine bodyPost_ret (v := .tuple #[.agg Z0, .iface t x]) (results_cell2 rfl _ _ (u.heap.size + 1 + 1) _ _ rfl rfl (HE.out.1.var HZ.out)) rfl ?_
   rw [show Z0 = fA zFS from HZ.out]
   exact L4.out.bad HE.out.2 (lp_bad INV.out hlt HR1.out) HE1.out
  have HB : Hid (FGd G B) := gB
  have HR1 : Hid (rndF G L p H rr = .ok B r3) := hR
  have C3 : Hid (CS G L w0 bC mb bH cH d u3 r3) := c3
  obtain ⟨BA, hBA⟩ : ∃ x, x = fA B := ⟨_, rfl⟩
  have HBA : Hid (BA = fA B) := hBA
  rw [<- hBA]
  clear gB hR c3 hBA
  go_wp2_with (refine wpList_storeH rfl (.tmp 8) (.tmp 18) rfl u3.heap.size B zFS rfl BA HBA.out rfl (by rw [zero_fac]; exact FArr.fresh _) ?_; intro u4 hA hf hz)
  unfold Hid
  have HQ4 : Hid (FArr u4 u3.heap.size B) := hA
  have hcv := C3.out.var L3.out rfl hf
  have C4 : Hid (CS G L w0 bC mb bH cH d u4 r3) := hcv.1
  have L4 : Hid (LocP u bC mb (.cells #[.int .i64 (p : Int), .int .i64 (L p).cond, .slice a1 k1 c1] 162) H u4) := hcv.2
  clear hA hf hz hcv C3 L3
  generalize u3.heap.size = q3 at *
  go_wp2_with (first | (refine wpList_loadF rfl (.tmp 5) rfl (u.heap.size + 1) rfl H HA HHA.out L4.out.F ?_) | (refine wpList_loadF rfl (.tmp 8) rfl q3 rfl B BA HBA.out HQ4.out ?_))
  obtain ⟨_, _, _, z1, c1'⟩ := abs_iff.1 GH.out.1
  obtain ⟨_, _, _, z2, c2'⟩ := abs_iff.1 HB.out.1
  refine (factsJoin_any H B HA BA HHA.out HBA.out z1.1 z1.2 c1'.1 c1'.2 z2.1 z2.2 c2'.1 c2'.2 _).mono ?_
  clear z1 c1' z2 c2'
  rintro e u5 ⟨rfl, hb⟩
  obtain ⟨JA, hJA⟩ : ∃ x, x = fA (jF H B) := ⟨_, rfl⟩
  have HJA : Hid (JA = fA (jF H B)) := hJA
  rw [<- hJA]
  have L5 : Hid (LocP u bC mb (.cells #[.int .i64 (p : Int), .int .i64 (L p).cond, .slice a1 k1 c1] 162) H u5) := L4.out.below hb
  have C5 : Hid (CS G L w0 bC mb bH cH d u5 r3) := C4.out.below hb
  clear hJA hb L4 C4 HQ4
  go_wp2_with (refine wpList_storeH rfl (.tmp 10) (.tmp 26) rfl u5.heap.size (jF H B) zFS rfl JA HJA.out rfl (by rw [zero_fac]; exact FArr.fresh _) ?_; intro u6 hA hf hz)
  unfold Hid
  have HQ6 : Hid (FArr u6 u5.heap.size (jF H B)) := hA
  have hcv := C5.out.var L5.out rfl hf
  have C6 : Hid (CS G L w0 bC mb bH cH d u6 r3) := hcv.1
  have L6 : Hid (LocP u bC mb (.cells #[.int .i64 (p : Int), .int .i64 (L p).cond, .slice a1 k1 c1] 162) H u6) := hcv.2
  have HL5 : Hid (u.heap.size + 1 + 1 < u5.heap.size) := L5.out.lt
  clear hA hf hz hcv C5 L5
  generalize u5.heap.size = q5 at *
  go_wp2_with (first | (refine wpList_loadF rfl (.tmp 5) rfl (u.heap.size + 1) rfl H HA HHA.out L6.out.F ?_) | (refine wpList_loadF rfl (.tmp 10) rfl q5 rfl (jF H B) JA HJA.out HQ6.out ?_))
  refine (factsSame_any (jF H B) H JA HA HJA.out HHA.out (GH.out.join HB.out).1.rg.1 GH.out.1.rg.1 _).mono ?_
  rintro e u7 ⟨same, rfl, hs1, hs0, hb⟩
  have HS1 : Hid (same = true -> sameP (jF H B) H) := hs1
  have HS0 : Hid (same = false -> ¬ sameP (jF H B) H) := hs0
  have L7 : Hid (LocP u bC mb (.cells #[.int .i64 (p : Int), .int .i64 (L p).cond, .slice a1 k1 c1] 162) H u7) := L6.out.below hb
  have C7 : Hid (CS G L w0 bC mb bH cH d u7 r3) := C6.out.below hb
  have HQ7 : Hid (FArr u7 q5 (jF H B)) := HQ6.out.below hb
  clear hs1 hs0 hb L6 C6 HQ6
  cases same with
  | true =>
   go_wp2_with (first | (refine wpList_loadF rfl (.tmp 5) rfl (u.heap.size + 1) rfl H HA HHA.out L7.out.F ?_) | (refine wpList_storeH rfl (.tmp 6) (.tmp 30) rfl (u.heap.size + 1 + 1) H zFS rfl HA HHA.out rfl L7.out.R ?_; intro wE hA hf hz))
   unfold Hid
   have HE : Hid (FArr wE (u.heap.size + 1 + 1) H /\ Ft (u.heap.size + 1 + 1) u7 wE) := ⟨hA, hf⟩
   clear hA hf hz
   go_wp2
   refine bodyPost_ret (v := .tuple #[.agg HA, .nilIface]) (results_cell2 rfl _ _ (u.heap.size + 1 + 1) _ _ rfl rfl (HE.out.1.var HHA.out)) rfl ?_
   rw [show HA = fA H from HHA.out]
   exact L7.out.ok HE.out.2 (lp_same INV.out hlt HR1.out (HS1.out (by first | rfl | trivial))) GH.out C7.out
  | false =>
   go_wp2_with (first | (refine wpList_loadF rfl (.tmp 10) rfl q5 rfl (jF H B) JA HJA.out HQ7.out ?_) | (refine wpList_storeH rfl (.tmp 5) (.tmp 31) rfl (u.heap.size + 1) (jF H B) H rfl JA HJA.out rfl L7.out.F ?_; intro u8 hA hf hz))
   unfold Hid
   have L8 : Hid (LocP u bC mb (.cells #[.int .i64 (p : Int), .int .i64 (L p).cond, .slice a1 k1 c1] 162) (jF H B) u8) := L7.out.setF hf hA
   have C8 : Hid (CS G L w0 bC mb bH cH d u8 r3) := C7.out.ft hf (by have := L7.out.n1; omega) (by have := L7.out.n2; omega) (by have := L7.out.n1; have := C7.out.c1; omega)
   clear hA hf hz
   go_wp2_with fail
   go_roundw
   case rel => exact ⟨k + 1, jF H B, r3, by go_num, by omega, GH.out.join HB.out, lp_next INV.out hlt HR1.out (HS0.out (by first | rfl | trivial)), L8.out, C8.out⟩
   case measure => simp [intOf]; omega
end
end Go.Proofs.YtcgcldokompafaaGreatDoor
