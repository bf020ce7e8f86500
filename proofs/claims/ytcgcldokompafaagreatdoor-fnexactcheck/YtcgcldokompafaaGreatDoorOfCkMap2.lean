import Derived.Test.YtcgcldokompafaaGreatDoorOfCkCs
import Derived.Deep.Cut
import Derived.Deep.DeepCutAuto
import Derived.Test.YtcgcldokompafaaGreatDoorCk5e
/- A single statement checked by the program. -/
namespace Go.Proofs.YtcgcldokompafaaGreatDoor
open Go.RowKit Go.Deep
theorem hq_ltC {q : Nat} {u : World} {o : Obj} (h : u.heap[q]? = some o) : q < u.heap.size := (Array.getElem?_eq_some_iff.1 h).1
section
variable {G : SG} {L : Nat -> SV} {w0 : World} {bC mb bH cH p : Nat}
set_option maxRecDepth 20000 in
set_option maxHeartbeats 8000000 in
theorem ckst1_any (hk : (L p).k = 1) (hs : stOK (L p) 0 = true) : StC G L w0 bC mb bH cH p (.iface 155 (.agg #[.int .i64 (p : Int), .int .i64 (L p).op, .int .i64 (L p).d, .int .i64 (L p).a, .int .i64 (L p).b, .int .i64 (L p).imm, .int .i64 (L p).h])) := by
 intro d u F FA r hF hC hG
 have C0 : Hid (CS G L w0 bC mb bH cH d u r) := hC
 have HF : Hid (FA = fA F) := hF
 have HG : Hid (FGd G F) := hG
 obtain ⟨Z0, hZ0⟩ : ∃ x, x = fA zFS := ⟨_, rfl⟩
 have HZ : Hid (Z0 = fA zFS) := hZ0
 have CB : Hid (bC < u.heap.size /\ mb < u.heap.size) := ⟨hC.lt, hC.M.lt⟩
 clear hF hC hG hZ0
 have K : Hid ((L p).k = 1) := hk
 have SO : Hid (stOK (L p) 0 = true) := hs
 obtain ⟨RR, hRR⟩ : ∃ q, ckSt G L p F r = q := ⟨_, rfl⟩
 rw [hRR]
 have HR : Hid (ckSt G L p F r = RR) := hRR
 clear hk hs hRR
 have t1 := tl11
 go_enter Tryz.func52, Tryz.ntmps52
 go_upto_region 4 with fail
 clear t1
 rw [zero_fac]
 obtain ⟨u1, hu1, b1, f1, z1, x1⟩ := loc3 u HF.out (.cells #[.int .i64 (p : Int), .int .i64 (L p).op, .int .i64 (L p).d, .int .i64 (L p).a, .int .i64 (L p).b, .int .i64 (L p).imm, .int .i64 (L p).h] 155)
 rw [hu1]
 have C1 : Hid (CS G L w0 bC mb bH cH d u1 r) := C0.out.below b1
 have F1 : Hid (FArr u1 u.heap.size F) := f1
 have Z1 : Hid (FArr u1 (u.heap.size + 1) zFS) := z1
 have X1 : Hid (u1.heap[u.heap.size + 1 + 1]? = some (.cells #[.int .i64 (p : Int), .int .i64 (L p).op, .int .i64 (L p).d, .int .i64 (L p).a, .int .i64 (L p).b, .int .i64 (L p).imm, .int .i64 (L p).h] 155)) := x1
 have B1 : Hid (Below u.heap.size u u1) := b1
 have S1 : u.heap.size + 1 + 1 < u1.heap.size := hq_ltC x1
 clear hu1 b1 f1 z1 x1 C0
 obtain ⟨er, her⟩ : ∃ x, trFE G (L p) F = x := ⟨_, rfl⟩
 have HER : Hid (trFE G (L p) F = er) := her
 clear her
 go_cut [9, 10] (fun s9 s10 wx => ∃ (q : Nat) (B : FS), s9 = .pointer (some ⟨q, 0, none⟩) /\ s10 = .int .i64 er /\ FArr wx q B /\ (er = 0 -> B = trFF G (L p) F) /\ Below u1.heap.size u1 wx /\ u1.heap.size <= q)
 case first =>
  have j1 : ∀ w', Below u1.heap.size u1 w' -> w'.cell? ⟨u.heap.size + 1 + 1, 1, none⟩ = some (.int .i64 (L p).op) := fun w' h => (hq_cell ((h.block _ S1).trans X1.out) 1).trans rfl
  have j2 : ∀ w', Below u1.heap.size u1 w' -> w'.cell? ⟨u.heap.size + 1 + 1, 2, none⟩ = some (.int .i64 (L p).d) := fun w' h => (hq_cell ((h.block _ S1).trans X1.out) 2).trans rfl
  have j3 : ∀ w', Below u1.heap.size u1 w' -> w'.cell? ⟨u.heap.size + 1 + 1, 3, none⟩ = some (.int .i64 (L p).a) := fun w' h => (hq_cell ((h.block _ S1).trans X1.out) 3).trans rfl
  have j4 : ∀ w', Below u1.heap.size u1 w' -> w'.cell? ⟨u.heap.size + 1 + 1, 4, none⟩ = some (.int .i64 (L p).b) := fun w' h => (hq_cell ((h.block _ S1).trans X1.out) 4).trans rfl
  have j5 : ∀ w', Below u1.heap.size u1 w' -> w'.cell? ⟨u.heap.size + 1 + 1, 5, none⟩ = some (.int .i64 (L p).imm) := fun w' h => (hq_cell ((h.block _ S1).trans X1.out) 5).trans rfl
  have j6 : ∀ w', Below u1.heap.size u1 w' -> w'.cell? ⟨u.heap.size + 1 + 1, 6, none⟩ = some (.int .i64 (L p).h) := fun w' h => (hq_cell ((h.block _ S1).trans X1.out) 6).trans rfl
  have k0 : ∀ w', Below u1.heap.size u1 w' -> w'.cell? ⟨bC, 0, none⟩ = some (.slice (some ⟨bH, 0, none⟩) G.nH cH) := fun w' h => (C1.out.below h).cells.1
  have AFT : Hid (∀ t, Below u1.heap.size u1 t -> Calls Tryz.prog 80 #[.agg FA, .agg #[.int .i64 (L p).op, .int .i64 (L p).d, .int .i64 (L p).a, .int .i64 (L p).b, .int .i64 (L p).imm, .int .i64 (L p).h], .slice (some ⟨bH, 0, none⟩) G.nH cH] t fun e w' => ∃ B : FS, e = .returned (.tuple #[.agg (fA B), .int .i64 (trFE G (L p) F)]) /\ (trFE G (L p) F = 0 -> B = trFF G (L p) F) /\ Below t.heap.size t w') := fun t ht => after_F HF.out SO.out K.out HG.out.1 bH cH t (C1.out.below ht).H
  rw [HER.out] at AFT
  refine wp_region_held_drew (S := fun w' => Below u1.heap.size u1 w') (by kernel_rfl) (Below.refl _ _).drew (fun _ => ?_)
  refine wpAnyH_tk 0 (.agg FA) rfl (fun w' hw => exec_loadF (.tmp 5) rfl u.heap.size rfl F FA HF.out (F1.out.below hw)) ?_
  try simp only [Act.put, List.getElem_toArray, List.getElem_cons_zero, List.setIfInBounds_toArray, List.set_cons_zero, List.set_cons_succ]
  refine wpAnyH_ta 1 rfl ?_
  refine wpAnyH_ta 2 rfl ?_
  refine wpAnyH_ta 3 rfl ?_
  refine wpAnyH_ta 4 rfl ?_
  refine wpAnyH_ta 5 rfl ?_
  refine wpAnyH_ta 6 rfl ?_
  have hbd : Below u1.heap.size u1 u1.drew := (Below.refl _ _).drew
  generalize u1.drew = t0 at hbd ⊢
  refine wpAnyH_ready (rs := [7, 11]) (by kernel_rfl) (by simp) ?_
  refine AllReadyH.cons rfl (fun KK hK => ?_) (AllReadyH.cons rfl (fun KK hK => ?_) AllReadyH.nil)
  ·go_simp
   refine (AFT.out t0 hbd).mono ?_
   rintro e t1 ⟨B, rfl, hB, hb⟩
   have hB1 : Below u1.heap.size u1 t1 := hbd.trans (hb.mono hbd.size)
   refine hK.out _ _ hB1 (fun _ => ?_)
   clear hK KK
   try simp only [Act.put, List.getElem_toArray, List.getElem_cons_zero, List.getElem_cons_succ, List.setIfInBounds_toArray, List.set_cons_zero, List.set_cons_succ]
   refine wpAnyH_ta 8 rfl ?_
   refine wpAnyH_ta 9 rfl ?_
   refine wpAnyH_ta 10 rfl ?_
   refine wpAnyH_ready (rs := [11]) (by kernel_rfl) (by simp) ?_
   refine AllReadyH.cons rfl (fun KK hK => ?_) AllReadyH.nil
   go_simp
   rw [zero_fac]
   have hB2 := hB1.alloc hB1.size (.cells (facA (fun _ => zV) 0 0) 78)
   refine hK.out _ _ hB2 (fun _ => ?_)
   clear hK KK
   try simp only [Act.put, List.getElem_toArray, List.getElem_cons_zero, List.getElem_cons_succ, List.setIfInBounds_toArray, List.set_cons_zero, List.set_cons_succ]
   refine wpAnyH_ready (rs := [12]) (by kernel_rfl) (by simp) ?_
   refine AllReadyH.cons rfl (fun KK hK => ?_) AllReadyH.nil
   refine if_in (by kernel_rfl) ?_
   refine wp_storeF (.tmp 9) (.tmp 26) rfl t1.heap.size B zFS rfl (fA B) rfl rfl (FArr.fresh t1) ?_
   intro t2 hA hf hz
   have hq : u1.heap.size <= t1.heap.size := hB1.size
   have hB3 : Below u1.heap.size u1 t2 := hB2.trans ⟨hf.os, hf.tape, hf.output, hf.size, fun k hk => hf.block k (by simp; omega) (by omega)⟩
   refine hK.out _ _ hB3 (fun _ => ?_)
   clear hK KK
   try simp only [Act.put, List.getElem_toArray, List.getElem_cons_zero, List.getElem_cons_succ]
   refine wpAnyH_ta 13 rfl ?_
   refine wpAnyH_done (by kernel_rfl) ?_ _
   have HE : Hid (FArr t2 t1.heap.size B /\ (er = 0 -> B = trFF G (L p) F) /\ Below u1.heap.size u1 t2 /\ u1.heap.size <= t1.heap.size) := ⟨hA, hB, hB3, hq⟩
   clear hA hf hz hb hB1 hB2 hB3 hB hq j1 j2 j3 j4 j5 j6 k0
   go_wp2_with fail
   go_meet
   exact ⟨t1.heap.size, B, rfl, rfl, HE.out.1, HE.out.2.1, HE.out.2.2.1, HE.out.2.2.2⟩
  ·go_simp
   rw [zero_fac]
   have hf0 := FArr.fresh t0
   obtain ⟨t1, ht1, hb1⟩ : ∃ y, t0.alloc (.cells (facA (fun _ => zV) 0 0) 78) = y /\ Below t0.heap.size t0 y := ⟨_, rfl, (Below.refl _ _).alloc (Nat.le_refl _) _⟩
   rw [ht1] at hf0 ⊢
   have hB1 : Below u1.heap.size u1 t1 := hbd.trans (hb1.mono hbd.size)
   refine hK.out _ _ hB1 (fun _ => ?_)
   clear hK KK
   try simp only [Act.put, List.getElem_toArray, List.getElem_cons_zero, List.getElem_cons_succ, List.setIfInBounds_toArray, List.set_cons_zero, List.set_cons_succ]
   refine wpAnyH_ready (rs := [7]) (by kernel_rfl) (by simp) ?_
   refine AllReadyH.cons rfl (fun KK hK => ?_) AllReadyH.nil
   go_simp
   refine (AFT.out t1 hB1).mono ?_
   rintro e t2 ⟨B, rfl, hB, hb⟩
   have hB2 : Below u1.heap.size u1 t2 := hB1.trans (hb.mono hB1.size)
   refine hK.out _ _ hB2 (fun _ => ?_)
   clear hK KK
   try simp only [Act.put, List.getElem_toArray, List.getElem_cons_zero, List.getElem_cons_succ, List.setIfInBounds_toArray, List.set_cons_zero, List.set_cons_succ]
   refine wpAnyH_ta 8 rfl ?_
   refine wpAnyH_ta 9 rfl ?_
   refine wpAnyH_ta 10 rfl ?_
   refine wpAnyH_ready (rs := [12]) (by kernel_rfl) (by simp) ?_
   refine AllReadyH.cons rfl (fun KK hK => ?_) AllReadyH.nil
   refine if_in (by kernel_rfl) ?_
   refine wp_storeF (.tmp 9) (.tmp 26) rfl t0.heap.size B zFS rfl (fA B) rfl rfl (hf0.below hb) ?_
   intro t3 hA hf hz
   have hq : u1.heap.size <= t0.heap.size := hbd.size
   have hs2 := hB2.size
   have hB3 : Below u1.heap.size u1 t3 := hB2.trans ⟨hf.os, hf.tape, hf.output, hf.size, fun k hk => hf.block k (by omega) (by omega)⟩
   refine hK.out _ _ hB3 (fun _ => ?_)
   clear hK KK
   try simp only [Act.put, List.getElem_toArray, List.getElem_cons_zero, List.getElem_cons_succ]
   refine wpAnyH_ta 13 rfl ?_
   refine wpAnyH_done (by kernel_rfl) ?_ _
   have HE : Hid (FArr t3 t0.heap.size B /\ (er = 0 -> B = trFF G (L p) F) /\ Below u1.heap.size u1 t3 /\ u1.heap.size <= t0.heap.size) := ⟨hA, hB, hB3, hq⟩
   clear hA hf hz hb hB1 hB2 hB3 hB hq hs2 hf0 ht1 hb1 j1 j2 j3 j4 j5 j6 k0
   go_wp2_with fail
   go_meet
   exact ⟨t0.heap.size, B, rfl, rfl, HE.out.1, HE.out.2.1, HE.out.2.2.1, HE.out.2.2.2⟩
 case rest =>
 obtain ⟨q, B, rfl, rfl, hA, hB, hb2, hq⟩ := hcut
 have HA : Hid (FArr wc q B) := hA
 have HB : Hid (er = 0 -> B = trFF G (L p) F) := hB
 have B2 : Hid (Below u1.heap.size u1 wc) := hb2
 have BU : Hid (Below u.heap.size u wc) := B1.out.trans (hb2.mono B1.out.size)
 have C2 : Hid (CS G L w0 bC mb bH cH d wc r) := C1.out.below hb2
 have ZR : Hid (FArr wc (u.heap.size + 1) zFS) := Z1.out.below hb2
 have X2 : Hid (wc.heap[u.heap.size + 1 + 1]? = some (.cells #[.int .i64 (p : Int), .int .i64 (L p).op, .int .i64 (L p).d, .int .i64 (L p).a, .int .i64 (L p).b, .int .i64 (L p).imm, .int .i64 (L p).h] 155)) := (hb2.block _ S1).trans X1.out
 have HQ : Hid (u.heap.size + 1 + 1 < q) := (by omega : u.heap.size + 1 + 1 < q)
 have S2 : u.heap.size + 1 + 1 < wc.heap.size := hq_ltC X2.out
 clear hA hB hb2 hq C1 F1 Z1 X1
 by_cases h0 : er = 0
 rotate_left
 ·have e0 : (er != 0) = true := by simp [h0]
  have NE : Hid (¬ er = 0) := h0
  clear h0
  go_upto_region 6 with fail
  have j0 : ∀ w', Ft (u.heap.size + 1) wc w' -> w'.cell? ⟨u.heap.size + 1 + 1, 0, none⟩ = some (.int .i64 (p : Int)) := fun w' h => (hq_cell ((h.block _ S2 (by omega)).trans X2.out) 0).trans rfl
  refine wp_region_held_drew (S := fun w' => Ft (u.heap.size + 1) wc w') (by kernel_rfl) (Ft.refl _ _).drew (fun _ => ?_)
  refine wpAnyH_tk 0 (.agg Z0) rfl (fun w' _ => exec_zero rfl Z0 HZ.out) ?_
  try simp only [Act.put, List.getElem_toArray, List.getElem_cons_zero, List.setIfInBounds_toArray, List.set_cons_zero, List.set_cons_succ]
  refine wpAnyH_ta 1 rfl ?_
  refine wpAnyH_ta 2 rfl ?_
  refine wpAnyH_ta 3 rfl ?_
  refine wpAnyH_ta 4 rfl ?_
  refine wpAnyH_ta 5 rfl ?_
  refine wpAnyH_ready (rs := [6]) (by kernel_rfl) (by simp) ?_
  refine AllReadyH.cons rfl (fun KK hK => ?_) AllReadyH.nil
  refine if_in (by kernel_rfl) ?_
  refine wp_storeF (.tmp 6) (.tmp 30) rfl (u.heap.size + 1) zFS zFS rfl Z0 HZ.out rfl (FArr.below ZR.out (Below.refl _ _).drew) ?_
  intro wE hA hf hz
  have hfE : Ft (u.heap.size + 1) wc wE := (Ft.refl _ _).drew.trans hf
  refine hK.out _ _ hfE (fun _ => ?_)
  clear hK KK
  try simp only [Act.put, List.getElem_toArray, List.getElem_cons_zero, List.getElem_cons_succ]
  refine wpAnyH_ta 7 rfl ?_
  refine wpAnyH_done (by kernel_rfl) ?_ _
  have HE : Hid (FArr wE (u.heap.size + 1) zFS /\ Ft (u.heap.size + 1) wc wE) := ⟨hA, hfE⟩
  clear hA hf hz hfE
  go_wp2
  refine bodyPost_ret (v := .tuple #[.agg Z0, .iface 85 (.agg #[.int .i64 er, .int .i64 (p : Int)])]) (results_cell2 rfl _ _ (u.heap.size + 1) _ _ rfl rfl (HE.out.1.var HZ.out)) rfl ?_
  rw [show Z0 = fA zFS from HZ.out]
  exact ⟨(Kc.of_below BU.out).ft HE.out.2 (Or.inl (by omega)), Or.inr ⟨er, p, _, by rw [<- HR.out, ckSt, if_pos K.out, if_pos (by rw [HER.out]; exact NE.out), HER.out], .flaw _ _, rfl⟩⟩
 have e0 : (er != 0) = false := by simp [h0]
 have HE0 : Hid (er = 0) := h0
 clear h0
 obtain ⟨FB, hFB⟩ : ∃ x, x = fA B := ⟨_, rfl⟩
 have HFB : Hid (FB = fA B) := hFB
 clear hFB
 go_wp2_with (first | (refine wpList_loadF rfl (.tmp 9) rfl q rfl B FB HFB.out HA.out ?_) | (refine wpList_storeF rfl (.tmp 6) (.tmp 36) rfl (u.heap.size + 1) B zFS rfl FB HFB.out rfl ZR.out ?_; intro wE hE hf hz))
 have HE : Hid (FArr wE (u.heap.size + 1) B /\ Ft (u.heap.size + 1) wc wE) := ⟨hE, hf⟩
 clear hE hf hz
 go_wp2
 refine bodyPost_ret (v := .tuple #[.agg FB, .nilIface]) (results_cell2 rfl _ _ (u.heap.size + 1) _ _ rfl rfl (HE.out.1.var HFB.out)) rfl ?_
 rw [show FB = fA B from HFB.out]
 have hB := HB.out HE0.out
 have n1 : u.heap.size + 1 ≠ bC := by have := C2.out.lt; have h1 := CB.out.1; omega
 have n2 : u.heap.size + 1 ≠ mb := by have h1 := CB.out.2; omega
 exact ⟨(Kc.of_below BU.out).ft HE.out.2 (Or.inl (by omega)), Or.inl ⟨B, r, by rw [<- HR.out, ckSt, if_pos K.out, if_neg (by rw [HER.out]; simp [HE0.out]), hB], by rw [hB]; exact HG.out.tr (HER.out.trans HE0.out), rfl, C2.out.ft HE.out.2 n1 n2 (by have := CB.out.1; have := C2.out.c1; omega)⟩⟩
end
end Go.Proofs.YtcgcldokompafaaGreatDoor
/- Where a method of the checker stands. -/
namespace Go.Proofs.YtcgcldokompafaaGreatDoor
open Go.RowKit Go.Deep
theorem wpList_storeH {ops : Array Oper} {rest : List Oper} {op : Oper} {a : Act} {w : World} {Q : Exit -> Act -> World -> Prop} (hgd : op.guard = none) (x y : Operand) (ho : op.op = .store 78 x y) (b : Nat) (F F0 : FS) (hx : a.eval x = .pointer (some ⟨b, 0, none⟩)) (FA : Array Value) (hF : FA = fA F) (hy : a.eval y = .agg FA) (ht : FArr w b F0)
  (h : ∀ w', FArr w' b F -> Ft b w w' -> w'.heap.size = w.heap.size -> Hid (wpList Tryz.prog ops Q rest (a.put op.dst undef) w')) : wpList Tryz.prog ops Q (op :: rest) a w := wpList_storeF hgd x y ho b F F0 hx FA hF hy ht h
structure LocP (u : World) (bC mb : Nat) (o : Obj) (F : FS) (v : World) : Prop where
 K : Kc bC mb u v
 X : v.heap[u.heap.size]? = some o
 F : FArr v (u.heap.size + 1) F
 R : FArr v (u.heap.size + 1 + 1) zFS
 n1 : bC < u.heap.size
 n2 : mb < u.heap.size
section
variable {G : SG} {L : Nat -> SV} {w0 : World} {bC mb bH cH : Nat} {d : Int} {u v v' : World} {o : Obj} {F : FS} {r : Int}
theorem loc_new {F : FS} {FA : Array Value} (hF : FA = fA F) (o : Obj) (h : CS G L w0 bC mb bH cH d u r) : ∃ y, ((u.alloc o).alloc (.cells FA 78)).alloc (.cells (facA (fun _ => zV) 0 0) 78) = y /\ LocP u bC mb o F y /\ CS G L w0 bC mb bH cH d y r := by
 obtain ⟨y, h1, h2, h3, h4, h5⟩ := locx u hF o
 exact ⟨y, h1, ⟨Kc.of_below h2, h3, h4, h5, h.lt, h.M.lt⟩, h.below h2⟩
theorem LocP.kc (h : LocP u bC mb o F v) (k : Kc bC mb v v') : LocP u bC mb o F v' := by
 have := h.n1
 have := h.n2
 exact ⟨h.K.trans k, (k.block _ (hq_ltC h.X) (by omega) (by omega)).trans h.X, h.F.kc k (by omega) (by omega), h.R.kc k (by omega) (by omega), h.n1, h.n2⟩
theorem LocP.below (h : LocP u bC mb o F v) (k : Below v.heap.size v v') : LocP u bC mb o F v' := h.kc (Kc.of_below k)
theorem LocP.ft {q : Nat} (h : LocP u bC mb o F v) (k : Ft q v v') (hq : u.heap.size + 1 + 1 < q) : LocP u bC mb o F v' :=
 ⟨h.K.ft k (Or.inl (by omega)), (k.block _ (hq_ltC h.X) (by omega)).trans h.X, h.F.ft k (by omega), h.R.ft k (by omega), h.n1, h.n2⟩
theorem LocP.setF {F' : FS} (h : LocP u bC mb o F v) (k : Ft (u.heap.size + 1) v v') (hF : FArr v' (u.heap.size + 1) F') : LocP u bC mb o F' v' :=
 ⟨h.K.ft k (Or.inl (by omega)), (k.block _ (hq_ltC h.X) (by omega)).trans h.X, hF, h.R.ft k (by omega), h.n1, h.n2⟩
theorem LocP.lt (h : LocP u bC mb o F v) : u.heap.size + 1 + 1 < v.heap.size := Arr.lt h.R
theorem LocP.bad {R : CR} {e a : Int} {x : Value} {wE : World} (h : LocP u bC mb o F v) (hf : Ft (u.heap.size + 1 + 1) v wE) (hR : R = .bad e a) (hv : ErrIs x e a) : AnsC G L w0 bC mb bH cH d R u (.returned (.tuple #[.agg (fA zFS), x])) wE :=
 ⟨h.K.ft hf (Or.inl (by omega)), Or.inr ⟨e, a, x, hR, hv, rfl⟩⟩
theorem LocP.ok {R : CR} {B : FS} {r' : Int} {wE : World} (h : LocP u bC mb o F v) (hf : Ft (u.heap.size + 1 + 1) v wE) (hR : R = .ok B r') (hB : FGd G B) (hC : CS G L w0 bC mb bH cH d v r') : AnsC G L w0 bC mb bH cH d R u (.returned (.tuple #[.agg (fA B), .nilIface])) wE := by
 have := h.n1
 have := h.n2
 have := hC.c1
 exact ⟨h.K.ft hf (Or.inl (by omega)), Or.inl ⟨B, r', hR, hB, rfl, hC.ft hf (by omega) (by omega) (by omega)⟩⟩
theorem CS.var {q : Nat} {x : Obj} (h : CS G L w0 bC mb bH cH d v r) (l : LocP u bC mb o F v) (hq : q = v.heap.size) (f : Ft q (v.alloc x) v') : CS G L w0 bC mb bH cH d v' r /\ LocP u bC mb o F v' := by
 subst hq
 have b : Below v.heap.size v (v.alloc x) := (Below.refl _ _).alloc (Nat.le_refl _) _
 have := h.lt
 have := h.M.lt
 have := h.B.size
 have := l.lt
 exact ⟨(h.below b).ft f (by omega) (by omega) (by omega), (l.below b).ft f (by omega)⟩
end
end Go.Proofs.YtcgcldokompafaaGreatDoor
/- The heads that were seen: looked up in whatever world holds the map. -/
namespace Go.Proofs.YtcgcldokompafaaGreatDoor
open Go.RowKit Go.ChangeMaps Go.MapKept
open Go.WideElems (Fit rg)
theorem pair_eq {a b : MapEntry} : ∀ {l : List MapEntry}, l.Pairwise (fun x y => x.key ≠ y.key) -> a ∈ l -> b ∈ l -> a.key = b.key -> a = b
 | [], _, h, _, _ => by cases h
 | c :: l, h, ha, hb, e => by
  obtain ⟨h1, h2⟩ := List.pairwise_cons.1 h
  rcases List.mem_cons.1 ha with q1 | q1 <;> rcases List.mem_cons.1 hb with q2 | q2
  ·rw [q1, q2]
  ·exact absurd (q1 ▸ e) (h1 b q2)
  ·exact absurd (q2 ▸ e).symm (h1 a q1)
  ·exact pair_eq h2 q1 q2 e
def LookR (G : SG) (L : Nat -> SV) (p : Nat) (F : FS) (B : FS) (k : Int) (ok : Bool) : Prop := ok = true -> Memo G L p F B k
theorem MapI.looks {G : SG} {L : Nat -> SV} {u : World} {mb p : Nat} {n : Int} {F : FS} (h : MapI G L u mb n) (hF : FGd G F) (hp : p <= 2000) : ∃ (B : FS) (k : Int) (ok : Bool), LookR G L p F B k ok /\ ∀ w', w'.heap[mb]? = u.heap[mb]? -> (Instr.lookup 71 (.map (some mb)) (.agg (kL p F).toArray) true).run Tryz.prog w' = .ok (.tuple #[.agg (eL B k).toArray, .bool ok]) w' := by
 obtain ⟨es, clock, h1, h2, h3, h4⟩ := h
 obtain ⟨kl, hk⟩ := key_of hF hp
 have hn := ((stamped_iff es clock).1 h2.stamped).2.2
 rcases Maps.fit_look true keyK (t := 71) (e := 200) Tryz.underlying71 (zero_end u) h1 h2 hk with ⟨hr, hno, _⟩ | ⟨e0, y, hm, he, hr, _⟩
 ·refine ⟨zFS, 0, false, (fun e => by cases e), fun w' hw => ?_⟩
  rcases Maps.fit_look true keyK (t := 71) (e := 200) Tryz.underlying71 (zero_end w') (hw.trans h1) h2 hk with ⟨hr', _⟩ | ⟨e1, _, hm', he', _⟩
  ·exact hr'
  ·exact absurd he' (hno e1 hm')
 ·obtain ⟨p', F', B, k, q1, q2, q3⟩ := h4 e0 hm
  refine ⟨B, k, true, (fun _ => ?_), fun w' hw => ?_⟩
  ·rw [he] at q1
   obtain ⟨e1, e2⟩ := kL_inj (Value.agg.inj q1)
   have e3 : p = p' := by omega
   have e4 := hF.eq q3.1 e2
   rw [e3, e4]
   exact q3
  ·rcases Maps.fit_look true keyK (t := 71) (e := 200) Tryz.underlying71 (zero_end w') (hw.trans h1) h2 hk with ⟨_, hno, _⟩ | ⟨e1, _, hm', he', hr', _⟩
   ·exact absurd he (hno e0 hm)
   ·rw [pair_eq hn hm' hm (he'.trans he.symm), q2] at hr'
    exact hr'
theorem zero_key : (#[.int .i64 0, .int .i64 0, .bool false, .int .i64 0, .int .i64 0, .int .i64 0, .int .i64 0, .int .i64 0, .bool false, .int .i64 0, .int .i64 0, .int .i64 0, .int .i64 0, .int .i64 0, .bool false, .int .i64 0, .int .i64 0, .int .i64 0, .int .i64 0, .int .i64 0, .bool false, .int .i64 0, .int .i64 0, .int .i64 0, .int .i64 0, .int .i64 0, .bool false, .int .i64 0, .int .i64 0, .int .i64 0, .int .i64 0, .int .i64 0, .bool false, .int .i64 0, .int .i64 0, .int .i64 0, .int .i64 0, .int .i64 0, .bool false, .int .i64 0, .int .i64 0, .int .i64 0, .int .i64 0, .int .i64 0, .bool false, .int .i64 0, .int .i64 0, .int .i64 0, .int .i64 0, .int .i64 0, .int .i64 0] : Array Value) = (kL 0 zFS).toArray := by kernel_rfl
theorem zero_endA : (#[.int .i64 0, .bool false, .int .i64 0, .int .i64 0, .int .i64 0, .int .i64 0, .int .i64 0, .bool false, .int .i64 0, .int .i64 0, .int .i64 0, .int .i64 0, .int .i64 0, .bool false, .int .i64 0, .int .i64 0, .int .i64 0, .int .i64 0, .int .i64 0, .bool false, .int .i64 0, .int .i64 0, .int .i64 0, .int .i64 0, .int .i64 0, .bool false, .int .i64 0, .int .i64 0, .int .i64 0, .int .i64 0, .int .i64 0, .bool false, .int .i64 0, .int .i64 0, .int .i64 0, .int .i64 0, .int .i64 0, .bool false, .int .i64 0, .int .i64 0, .int .i64 0, .int .i64 0, .int .i64 0, .bool false, .int .i64 0, .int .i64 0, .int .i64 0, .int .i64 0, .int .i64 0, .int .i64 0, .int .i64 0] : Array Value) = (eL zFS 0).toArray := by kernel_rfl
theorem wpList_storeK {ops : Array Oper} {rest : List Oper} {op : Oper} {a : Act} {w : World} {Q : Exit -> Act -> World -> Prop} (hgd : op.guard = none) (ty : TypeId) (x y : Operand) (ho : op.op = .store ty x y) (b : Nat) (l l0 : List Value) (hx : a.eval x = .pointer (some ⟨b, 0, none⟩)) (A : Array Value) (hA : A = l.toArray) (hy : a.eval y = .agg A) (hi : (Tryz.prog.info? ty).map (·.size) = some 51) (hl : l.length = 51 /\ ∀ v ∈ l, v.oneCell' = true) (ht : LArr w b l0)
  (h : ∀ w', LArr w' b l -> Ft b w w' -> w'.heap.size = w.heap.size -> Hid (wpList Tryz.prog ops Q rest (a.put op.dst undef) w')) : wpList Tryz.prog ops Q (op :: rest) a w := wpList_storeL hgd ty x y ho b l l0 hx A hA hy hi hl ht h
theorem wpList_buildK {ops : Array Oper} {rest : List Oper} {op : Oper} {a : Act} {w : World} {Q : Exit -> Act -> World -> Prop} (hgd : op.guard = none) (x y : Operand) (ho : op.op = .build 198 #[(0, x), (1, y)]) (p : Int) (F : FS) (FA KA : Array Value) (hF : FA = fA F) (hK : KA = (kL p F).toArray) (hx : a.eval x = .int .i64 p) (hy : a.eval y = .agg FA)
  (h : wpList Tryz.prog ops Q rest (a.put op.dst (.agg KA)) w) : wpList Tryz.prog ops Q (op :: rest) a w := by
 subst hF hK
 exact wpList_plain hgd fun K hK => wp_of_exec (exec_build (vs := #[(0, .int .i64 p), (1, .agg (fA F))]) _ _ ho (by simp [hx, hy]) (key_build p F w)) (hK _ _ h)
theorem exec_buildE {a : Act} {op : Oper} {w : World} (x y : Operand) (ho : op.op = .build 200 #[(0, x), (1, y)]) (F : FS) (k : Int) (FA EA : Array Value) (hF : FA = fA F) (hE : EA = (eL F k).toArray) (hx : a.eval x = .agg FA) (hy : a.eval y = .int .i64 k) : (execOp a.eval op).run Tryz.prog w = .ok (.value (.agg EA)) w := by
 subst hF hE
 exact exec_build (vs := #[(0, .agg (fA F)), (1, .int .i64 k)]) _ _ ho (by simp [hx, hy]) (end_build F k w)
theorem exec_look {a : Act} {op : Oper} {w : World} (x y : Operand) (ho : op.op = .lookup 71 x y true) (A B v : Value) (hx : a.eval x = A) (hy : a.eval y = B) (hr : (Instr.lookup 71 A B true).run Tryz.prog w = .ok v w) : (execOp a.eval op).run Tryz.prog w = .ok (.value v) w := by
 unfold execOp
 simp only [ho, hx, hy, Sem.run_bind, hr, Result.andThen_ok, Sem.run_pure]
theorem wp_update {op : Oper} {a : Act} {w w' : World} {K : Act -> World -> Prop} {Q : Exit -> Act -> World -> Prop} (x y z : Operand) (ho : op.op = .mapUpdate 71 x y z) (A B C : Value) (hx : a.eval x = A) (hy : a.eval y = B) (hz : a.eval z = C) (hr : (Instr.mapUpdate 71 A B C).run Tryz.prog w = .ok () w') (h : K (a.put op.dst undef) w') : op.wp Tryz.prog a w K Q := by
 unfold Oper.wp execOp
 simp only [ho, hx, hy, hz, Sem.run_bind, hr, Result.andThen_ok, Sem.run_pure]
 exact h
theorem CS.updated {G : SG} {L : Nat -> SV} {w0 : World} {bC mb bH cH : Nat} {d : Int} {u u' : World} {r : Int} {n : Int} (h : CS G L w0 bC mb bH cH (d + 1) u r) (hd : 0 <= d) (hM : MapI G L u' mb n) (hn : n <= r - d) (f : Ft mb u u') : CS G L w0 bC mb bH cH d u' r :=
 ⟨h.B.trans ⟨f.os, f.tape, f.output, f.size, fun k hk => f.block k (by have := h.B.size; omega) (by have := h.c2; omega)⟩, (f.block bC h.lt h.ne).trans h.C, hM.mono hn, Arr.blk h.H (f.block bH h.H.lt (by have := h.hb; have := h.c2; omega)), hd, h.r0, h.r1, h.c1, h.c2, h.ne, h.hb⟩
end Go.Proofs.YtcgcldokompafaaGreatDoor
