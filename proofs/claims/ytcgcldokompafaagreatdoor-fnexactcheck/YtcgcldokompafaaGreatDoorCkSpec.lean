import Derived.Test.YtcgcldokompafaaGreatDoorCk5e
import Derived.Test.YtcgcldokompafaaGreatDoorOfCkHq
import Derived.Test.YtcgcldokompafaaGreatDoorCkIc
/- spec.Check. -/
namespace Go.Proofs.YtcgcldokompafaaGreatDoor
open Go.RowKit Go.Deep
theorem lst_seg (L : Nat -> SV) (i te j : Nat) (hj : j < te - i) : lst (seg L i te) j = L (i + j) := by
 unfold lst seg
 rw [List.getD_eq_getElem?_getD, List.getElem?_map, List.getElem?_range hj]
 rfl
theorem sl_seg {w : World} {b n cap : Nat} {L : Nat -> SV} (h : Arr w b (n * 11) (stF L)) (hc : n <= cap) : SL w (.slice (some ⟨b, 0, none⟩) n cap) (seg L 0 n) := by
 have e : (seg L 0 n).length = n := by rw [seg_len]; omega
 refine ⟨_, cap, by rw [e], by omega, Or.inr ⟨b, 0, rfl, h.lt, fun i hi => ?_⟩⟩
 rw [e] at hi
 rw [Nat.zero_add, h.cell hi]
 unfold stF
 rw [lst_seg L 0 n (i / 11) (by omega), Nat.zero_add]
theorem wl_seg (L : Nat -> SV) : ∀ (m i te : Nat) (depth : Int), te - i <= m -> i <= te -> (chk L 0 0 321 i te depth).1 = 0 -> Wl (seg L i te) := by
 intro m
 induction m with
 | zero => intro i te depth h1 h2 _; rw [seg_end (by omega)]; exact .nil
 | succ m ih =>
  intro i te depth h1 h2 h3
  by_cases hlt : i < te
  rotate_left
  ·rw [seg_end hlt]; exact .nil
  obtain ⟨sok, hnt, k1, k2, k3⟩ := chk_next h3 hlt
  have r3 := ih _ te depth (by omega) hnt k3
  have hs := sok
  unfold stOK at hs
  by_cases e1 : (L i).k = 1
  ·rw [if_pos e1] at hs
   simp only [Bool.and_eq_true, decide_eq_true_eq] at hs
   rw [seg_more hlt]
   have e : i + 1 + (L i).thn.toNat + (L i).els.toNat = i + 1 := by omega
   rw [e] at r3
   exact .ins e1 (by omega) (by omega) r3
  ·have ht : 0 <= (L i).thn /\ 0 <= (L i).els := by
    rw [if_neg e1] at hs
    split at hs
    ·simp only [decide_eq_true_eq] at hs; omega
    split at hs
    ·simp only [decide_eq_true_eq] at hs; omega
    split at hs
    ·simp only [decide_eq_true_eq] at hs; omega
    ·cases hs
   have r1 := ih _ _ _ (by omega) (by omega) k1
   have r2 := ih _ _ _ (by omega) (by omega) k2
   rw [seg_more hlt, seg_app (show i + 1 <= i + 1 + (L i).thn.toNat by omega) (show i + 1 + (L i).thn.toNat <= te by omega), seg_app (show i + 1 + (L i).thn.toNat <= i + 1 + (L i).thn.toNat + (L i).els.toNat by omega) hnt, <- List.append_assoc]
   exact .node e1 (by rw [seg_len]; omega) (by rw [seg_len]; omega) r1 r2 r3
theorem field_res (err at' : Int) (ao : Option Addr) (m cap : Nat) (z c r : Int) (w : World) : (Instr.field 53 (.agg #[.int .i64 err, .int .i64 at', .slice ao m cap, .int .i64 z, .int .i64 c, .int .i64 r]) 0).run Tryz.prog w = .ok (.agg #[.int .i64 err, .int .i64 at', .slice ao m cap, .int .i64 z, .int .i64 c]) w := by kernel_rfl
def SpO (RR : CR) (B q : Nat) (err at' : Int) (ao : Option Addr) (m cap : Nat) (z c : Int) (v : World) : Prop :=
 BadIs RR err at' /\ (err = 0 -> ∃ (g cg : Nat) (U : Nat -> VV) (r : Int), (Value.slice ao m cap) = .slice (some ⟨g, 0, none⟩) 8 cg /\ B <= g /\ g ≠ q /\ Arr v g (8 * 6) (vF U) /\ RR = .ok ⟨U, z, c⟩ r)
set_option maxRecDepth 20000 in
set_option maxHeartbeats 16000000 in
theorem specCheck_any (HTR : TrSpec) (bH cH nH : Nat) (S : Nat -> HS) (bR cR nR : Nat) (V : Nat -> VV) (b n cap : Nat) (L : Nat -> SV) (w : World) (lH : nH <= 1048576) (lR : nR <= 1048576) (ln : n <= 1048576) (hc : n <= cap) (h1 : SigCp w bH nH S bR nR V) (hA : Arr w b (n * 11) (stF L)) :
  Calls Tryz.prog 6 #[.agg #[.slice (some ⟨bH, 0, none⟩) nH cH, .slice (some ⟨bR, 0, none⟩) nR cR], .slice (some ⟨b, 0, none⟩) n cap] w (AnsK (chkR nH S nR V L n) w) := by
 obtain ⟨RR, hRR⟩ : ∃ q, chkR nH S nR V L n = q := ⟨_, rfl⟩
 rw [hRR]
 have HRR : Hid (chkR nH S nR V L n = RR) := hRR
 have H1 : Hid (SigCp w bH nH S bR nR V) := h1
 have H2 : Hid (Arr w b (n * 11) (stF L)) := hA
 have HCAP : Hid (n <= cap) := hc
 clear hRR h1 hA hc
 go_enter Tryz.func6, Tryz.ntmps6
 go_upto_region 1 with fail
 obtain ⟨u, hu, pu⟩ := ic_new w bH nH cH bR nR cR
 rw [hu]
 have P0 : Hid (IcP w bH nH cH bR nR cR u) := pu
 clear hu pu
 obtain ⟨s0, s1, sl⟩ := P0.out.cells
 go_wp2_with fail
 refine (specSig_any bH cH nH S bR cR nR V u lH lR ⟨H1.out.h.below P0.out.B H1.out.h.lt, H1.out.r.below P0.out.B H1.out.r.lt⟩).mono ?_
 rintro e u1 ⟨rfl, hb⟩
 have P1 : Hid (IcP w bH nH cH bR nR cR u1) := P0.out.below hb
 clear hb s0 s1 sl P0
 obtain ⟨ok, hok⟩ : ∃ x, sigOK nH S nR V = x := ⟨_, rfl⟩
 rw [hok]
 have HOK : Hid (sigOK nH S nR V = ok) := hok
 clear hok
 cases ok with
 | false =>
  obtain ⟨r0, r1, r2, r3, r4, rf, rl⟩ := P1.out.res
  go_wp2
  refine bodyPost_ret (v := .agg #[.int .i64 11, .int .i64 0, .slice none 0 0, .int .i64 0, .int .i64 0]) (by simp [results, Tryz.results6, go_sem, *]) rfl ⟨below_set5 P1.out.B (by omega) _ _ _ _ _, Or.inl ⟨11, 0, ?_, rfl⟩⟩
  rw [<- HRR.out, chkR, if_neg (by rw [HOK.out]; decide)]
 | true =>
 go_wp2_with fail
 refine (l3Runnable_any b n cap L u1 ln (H2.out.below P1.out.B H2.out.lt)).mono ?_
 rintro e u2 ⟨rfl, hb⟩
 have P2 : Hid (IcP w bH nH cH bR nR cR u2) := P1.out.below hb
 clear hb P1
 by_cases hrun : runB L n
 rotate_left
 ·rw [decide_eq_false hrun]
  have HN : Hid (¬ runB L n) := hrun
  clear hrun
  obtain ⟨r0, r1, r2, r3, r4, rf, rl⟩ := P2.out.res
  go_wp2
  refine bodyPost_ret (v := .agg #[.int .i64 12, .int .i64 0, .slice none 0 0, .int .i64 0, .int .i64 0]) (by simp [results, Tryz.results6, go_sem, *]) rfl ⟨below_set5 P2.out.B (by omega) _ _ _ _ _, Or.inl ⟨12, 0, ?_, rfl⟩⟩
  rw [<- HRR.out, chkR, if_pos HOK.out, if_neg HN.out]
 rw [decide_eq_true hrun]
 have HRUN : Hid (runB L n) := hrun
 clear hrun
 obtain ⟨e8, h8, hgd⟩ := can_good HOK.out
 have HGD : Hid (FGd ⟨nH, S, V⟩ ⟨canV V, 0, 0⟩) := hgd
 subst e8
 clear hgd
 have HCK : Hid (ckL ⟨nH, S, V⟩ (seg L 0 n) 0 ⟨canV V, 0, 0⟩ 0 = RR) := (by rw [<- HRR.out, chkR, if_pos HOK.out, if_pos HRUN.out] : ckL ⟨nH, S, V⟩ (seg L 0 n) 0 ⟨canV V, 0, 0⟩ 0 = RR)
 have BLK : Hid (BC (seg L 0 n)) := l5Block_any HTR (seg L 0 n) (by rw [seg_len]; omega) (wl_seg L n 0 n 0 (by omega) (Nat.zero_le _) HRUN.out.2.1)
 obtain ⟨iV, gV, gV0, gV1, gV2⟩ := info_parts info_cV
 have HIV : Hid (_ /\ _ /\ _ /\ _) := ⟨gV, gV0, gV1, gV2⟩
 clear gV gV0 gV1 gV2
 go_wp2_with fail
 go_cut [5] (fun s5 wx => ∃ (q : Nat) (err at' : Int) (ao : Option Addr) (m cp : Nat) (z c : Int), s5 = .pointer (some ⟨q, 0, none⟩) /\ wx.heap[q]? = some (.cells #[.int .i64 err, .int .i64 at', .slice ao m cp, .int .i64 z, .int .i64 c] 33) /\ IcP w bH nH cH bR 8 cR wx /\ SpO RR u2.heap.size q err at' ao m cp z c wx /\ u2.heap.size <= q)
 case first =>
  have s0 : ∀ w', Below u2.heap.size u2 w' -> w'.cell? ⟨w.heap.size, 0, none⟩ = some (.slice (some ⟨bH, 0, none⟩) nH cH) := fun w' h => (P2.out.below h).cells.1
  have s1 : ∀ w', Below u2.heap.size u2 w' -> w'.cell? ⟨w.heap.size, 1, none⟩ = some (.slice (some ⟨bR, 0, none⟩) 8 cR) := fun w' h => (P2.out.below h).cells.2.1
  have fr := field_res
  refine wp_region_held_drew (S := fun w' => Below u2.heap.size u2 w') (by kernel_rfl) (Below.refl _ _).drew (fun _ => ?_)
  refine wpAnyH_ta 0 rfl ?_
  refine wpAnyH_ta 1 rfl ?_
  refine wpAnyH_ta 3 rfl ?_
  refine wpAnyH_ta 4 rfl ?_
  have hb0 : Below u2.heap.size u2 u2.drew := (Below.refl _ _).drew
  generalize u2.drew = t0 at hb0 ⊢
  refine wpAnyH_ready (rs := [2, 9]) (by kernel_rfl) (by simp) ?_
  refine AllReadyH.cons rfl (fun KK hK => ?_) (AllReadyH.cons rfl (fun KK hK => ?_) AllReadyH.nil)
  ·skip
   go_simp
   obtain ⟨t1, ht1, bt1, ot1⟩ : ∃ y, t0.alloc (.cells #[] 75) = y /\ Below t0.heap.size t0 y /\ y.ownsRow u2.heap.size 75 6 (.slice (some ⟨t0.heap.size, 0, none⟩) 0 0) 0 [] := ⟨_, rfl, (Below.refl _ _).alloc (Nat.le_refl _) _, World.ownsRow_lit t0 #[] 0 hb0.size (by unfold maxLen; omega) rfl⟩
   rw [ht1]
   have hb1 : Below u2.heap.size u2 t1 := hb0.trans (bt1.mono hb0.size)
   refine hK.out _ _ hb1 (fun _ => ?_)
   clear hK KK
   try simp only [Act.put, List.getElem_toArray, List.getElem_cons_zero, List.getElem_cons_succ, List.setIfInBounds_toArray, List.set_cons_zero, List.set_cons_succ]
   obtain ⟨sv, hsv⟩ : ∃ y, Value.slice (some ⟨t0.heap.size, 0, none⟩) 0 0 = y := ⟨_, rfl⟩
   rw [hsv] at ot1 ⊢
   refine wpAnyH_ready (rs := [5, 9]) (by kernel_rfl) (by simp) ?_
   refine AllReadyH.cons rfl (fun KK hK => ?_) (AllReadyH.cons rfl (fun KK hK => ?_) AllReadyH.nil)
   ·skip
    refine step_append_own rfl (.tmp 16) (.tmp 18) 29 rfl u2.heap.size 75 iV (.agg #[.int .i64 0, .bool false, .int .i64 0, .int .i64 0, .int .i64 0, .int .i64 0]) 6 48 Tryz.underlying29 HIV.out.1 HIV.out.2.1 HIV.out.2.2.1 HIV.out.2.2.2 rfl (by decide) sv 0 [] rfl ot1 ⟨bR, 0, none⟩ 8 cR (first (8 * 6) (vF V)) rfl (first_length _ _) (fun j x hj => ?_) (fun x hx => by obtain ⟨j, _, rfl⟩ := first_mem hx; exact vF_one V j) (by unfold maxLen; omega) (by omega) hb1.size ?_
    ·obtain ⟨hm, rfl⟩ := first_get hj
     rw [Addr.add_lit, Nat.zero_add]
     exact ((H1.out.r.below P2.out.B H1.out.r.lt).below hb1 (Nat.lt_of_lt_of_le H1.out.r.lt P2.out.B.size)).cell hm
    intro vD t2 hown hgrow
    have hD : t2.ownsRow u2.heap.size 75 6 vD 8 (first (8 * 6) (vF V)) := by simpa using hown
    obtain ⟨gD, cD, hvD⟩ := row_some' hD (by omega)
    subst hvD
    have hg9 : u2.heap.size <= gD := (hD.lt _ rfl).1
    have aD : Arr t2 gD (8 * 6) (vF V) := row_arr hD
    have hsb : ∀ k, sv.ownBlock = some k -> u2.heap.size <= k := fun k hk => (ot1.lt k hk).1
    have hb2 : Below u2.heap.size u2 t2 := hb1.trans ((Below.refl _ _).grown hgrow hb1.size hsb)
    clear hown hgrow hD
    refine hK.out _ _ hb2 (fun _ => ?_)
    clear hK KK
    try simp only [Act.put, List.getElem_toArray, List.getElem_cons_zero, List.getElem_cons_succ, List.setIfInBounds_toArray, List.set_cons_zero, List.set_cons_succ]
    refine wpAnyH_ta 6 rfl ?_
    refine wpAnyH_ready (rs := [7, 9]) (by kernel_rfl) (by simp) ?_
    refine AllReadyH.cons rfl (fun KK hK => ?_) (AllReadyH.cons rfl (fun KK hK => ?_) AllReadyH.nil)
    ·skip
     go_simp
     have hcall := BLK.out bH cH nH S bR cR V gD cD (canV V) 0 0 0 0 (.slice (some ⟨b, 0, none⟩) n cap) t2 lH ⟨(H1.out.h.below P2.out.B H1.out.h.lt).below hb2 (Nat.lt_of_lt_of_le H1.out.h.lt P2.out.B.size), (H1.out.r.below P2.out.B H1.out.r.lt).below hb2 (Nat.lt_of_lt_of_le H1.out.r.lt P2.out.B.size)⟩ (can_arr aD) HGD.out.1 (sl_seg ((H2.out.below P2.out.B H2.out.lt).below hb2 (Nat.lt_of_lt_of_le H2.out.lt P2.out.B.size)) HCAP.out) (by omega) (by omega) (by omega) (by rw [seg_len]; omega)
     rw [HCK.out] at hcall
     refine hcall.mono ?_
     rintro e t3 ⟨err, at', ao, m, cp, z, c, rr, rfl, _, _, hbd, hab, hb⟩
     have hb3 : Below u2.heap.size u2 t3 := hb2.trans (hb.mono hb2.size)
     have hgs : gD < t2.heap.size := aD.lt
     have hab1 : err = 0 -> ∃ (g cg : Nat) (U : Nat -> VV), (Value.slice ao m cp) = .slice (some ⟨g, 0, none⟩) 8 cg /\ u2.heap.size <= g /\ Arr t3 g (8 * 6) (vF U) /\ RR = .ok ⟨U, z, c⟩ rr := fun e0 => by
      obtain ⟨g, cg, U, k1, k2, k3, _, k5⟩ := hab e0
      have hz := hb2.size
      rcases k2 with rfl | k2
      ·exact ⟨g, cg, U, k1, hg9, k3, k5⟩
      ·exact ⟨g, cg, U, k1, by omega, k3, k5⟩
     clear hab
     refine hK.out _ _ hb3 (fun _ => ?_)
     clear hK KK hcall
     unfold outV
     try simp only [Act.put, List.getElem_toArray, List.getElem_cons_zero, List.getElem_cons_succ, List.setIfInBounds_toArray, List.set_cons_zero, List.set_cons_succ]
     refine wpAnyH_ta 8 rfl ?_
     refine wpAnyH_ready (rs := [9]) (by kernel_rfl) (by simp) ?_
     refine AllReadyH.cons rfl (fun KK hK => ?_) AllReadyH.nil
     go_simp
     obtain ⟨t4, ht4, bt4, ft4⟩ : ∃ y, t3.alloc (.cells #[.int .i64 0, .int .i64 0, .slice none 0 0, .int .i64 0, .int .i64 0] 33) = y /\ Below t3.heap.size t3 y /\ y.heap[t3.heap.size]? = some (.cells crZ 33) := ⟨_, rfl, (Below.refl _ _).alloc (Nat.le_refl _) _, hq_new _ _⟩
     rw [ht4]
     have hb4 : Below u2.heap.size u2 t4 := hb3.trans (bt4.mono hb3.size)
     have hq9 : u2.heap.size <= t3.heap.size := hb3.size
     have hab2 : err = 0 -> ∃ (g cg : Nat) (U : Nat -> VV), (Value.slice ao m cp) = .slice (some ⟨g, 0, none⟩) 8 cg /\ u2.heap.size <= g /\ g ≠ t3.heap.size /\ Arr t4 g (8 * 6) (vF U) /\ RR = .ok ⟨U, z, c⟩ rr := fun e0 => by
      obtain ⟨g, cg, U, k1, k2, k3, k5⟩ := hab1 e0
      have hz := k3.lt
      exact ⟨g, cg, U, k1, k2, by omega, k3.below bt4 k3.lt, k5⟩
     refine hK.out _ _ hb4 (fun _ => ?_)
     clear hK KK
     try simp only [Act.put, List.getElem_toArray, List.getElem_cons_zero, List.getElem_cons_succ, List.setIfInBounds_toArray, List.set_cons_zero, List.set_cons_succ]
     refine wpAnyH_ready (rs := [10]) (by kernel_rfl) (by simp) ?_
     refine AllReadyH.cons rfl (fun KK hK => ?_) AllReadyH.nil
     have c0 : t4.cell? ⟨t3.heap.size, 0, none⟩ = some (.int .i64 0) := (hq_cell ft4 0).trans rfl
     have c1 : t4.cell? ⟨t3.heap.size, 1, none⟩ = some (.int .i64 0) := (hq_cell ft4 1).trans rfl
     have c2 : t4.cell? ⟨t3.heap.size, 2, none⟩ = some (.slice none 0 0) := (hq_cell ft4 2).trans rfl
     have c3 : t4.cell? ⟨t3.heap.size, 3, none⟩ = some (.int .i64 0) := (hq_cell ft4 3).trans rfl
     have c4 : t4.cell? ⟨t3.heap.size, 4, none⟩ = some (.int .i64 0) := (hq_cell ft4 4).trans rfl
     have cf := hq_free ft4
     have cl := hq_ltC ft4
     have hI := P2.out.below hb4
     obtain ⟨q9, hq9e⟩ : ∃ y, t3.heap.size = y := ⟨_, rfl⟩
     rw [hq9e] at c0 c1 c2 c3 c4 cf cl ft4 hq9 hab2 ⊢
     have hset : (((((t4.setCell ⟨q9, 0, none⟩ (.int .i64 err)).setCell ⟨q9, 1, none⟩ (.int .i64 at')).setCell ⟨q9, 2, none⟩ (.slice ao m cp)).setCell ⟨q9, 3, none⟩ (.int .i64 z)).setCell ⟨q9, 4, none⟩ (.int .i64 c)).heap[q9]? = some (.cells #[.int .i64 err, .int .i64 at', .slice ao m cp, .int .i64 z, .int .i64 c] 33) := hq_set (hq_set (hq_set (hq_set (hq_set ft4 0 _) 1 _) 2 _) 3 _) 4 _
     have hft : Ft q9 t4 (((((t4.setCell ⟨q9, 0, none⟩ (.int .i64 err)).setCell ⟨q9, 1, none⟩ (.int .i64 at')).setCell ⟨q9, 2, none⟩ (.slice ao m cp)).setCell ⟨q9, 3, none⟩ (.int .i64 z)).setCell ⟨q9, 4, none⟩ (.int .i64 c)) := (((((Ft.refl _ _).set _ _).set _ _).set _ _).set _ _).set _ _
     have hI2 := hI.ft hft (by have := hq_ltC P2.out.R; omega)
     have hO : SpO RR u2.heap.size q9 err at' ao m cp z c (((((t4.setCell ⟨q9, 0, none⟩ (.int .i64 err)).setCell ⟨q9, 1, none⟩ (.int .i64 at')).setCell ⟨q9, 2, none⟩ (.slice ao m cp)).setCell ⟨q9, 3, none⟩ (.int .i64 z)).setCell ⟨q9, 4, none⟩ (.int .i64 c)) := ⟨hbd, fun e0 => by
       obtain ⟨g, cg, U, k1, k2, hgn, k3, k5⟩ := hab2 e0
       exact ⟨g, cg, U, rr, k1, k2, hgn, Arr.blk k3 (hft.block g k3.lt hgn), k5⟩⟩
     have hbz : Below u2.heap.size u2 (((((t4.setCell ⟨q9, 0, none⟩ (.int .i64 err)).setCell ⟨q9, 1, none⟩ (.int .i64 at')).setCell ⟨q9, 2, none⟩ (.slice ao m cp)).setCell ⟨q9, 3, none⟩ (.int .i64 z)).setCell ⟨q9, 4, none⟩ (.int .i64 c)) := hb4.trans ⟨hft.os, hft.tape, hft.output, hft.size, fun k hk => hft.block k (by have := hb4.size; omega) (by omega)⟩
     have HE : Hid (_ /\ _ /\ _ /\ _) := ⟨hset, hI2, hO, hq9⟩
     go_simp
     refine hK.out _ _ hbz (fun _ => ?_)
     clear hK KK c0 c1 c2 c3 c4 cf cl hset hft hI hI2 hO hbz hbd hab2 fr s0 s1 ft4
     try simp only [Act.put, List.getElem_toArray, List.getElem_cons_zero, List.getElem_cons_succ, List.setIfInBounds_toArray, List.set_cons_zero, List.set_cons_succ]
     refine wpAnyH_done (by kernel_rfl) ?_ _
     go_wp2_with fail
     go_meet
     exact ⟨q9, err, at', ao, m, cp, z, c, rfl, HE.out⟩
    ·skip
     go_simp
     obtain ⟨t3, ht3, bt3, ft3⟩ : ∃ y, t2.alloc (.cells #[.int .i64 0, .int .i64 0, .slice none 0 0, .int .i64 0, .int .i64 0] 33) = y /\ Below t2.heap.size t2 y /\ y.heap[t2.heap.size]? = some (.cells crZ 33) := ⟨_, rfl, (Below.refl _ _).alloc (Nat.le_refl _) _, hq_new _ _⟩
     rw [ht3]
     have hb3 : Below u2.heap.size u2 t3 := hb2.trans (bt3.mono hb2.size)
     have hq9 : u2.heap.size <= t2.heap.size := hb2.size
     have hgq : gD ≠ t2.heap.size := by have := aD.lt; omega
     have aD := aD.below bt3 aD.lt
     refine hK.out _ _ hb3 (fun _ => ?_)
     clear hK KK
     try simp only [Act.put, List.getElem_toArray, List.getElem_cons_zero, List.getElem_cons_succ, List.setIfInBounds_toArray, List.set_cons_zero, List.set_cons_succ]
     refine wpAnyH_ready (rs := [7]) (by kernel_rfl) (by simp) ?_
     refine AllReadyH.cons rfl (fun KK hK => ?_) AllReadyH.nil
     go_simp
     have hcall := BLK.out bH cH nH S bR cR V gD cD (canV V) 0 0 0 0 (.slice (some ⟨b, 0, none⟩) n cap) t3 lH ⟨(H1.out.h.below P2.out.B H1.out.h.lt).below hb3 (Nat.lt_of_lt_of_le H1.out.h.lt P2.out.B.size), (H1.out.r.below P2.out.B H1.out.r.lt).below hb3 (Nat.lt_of_lt_of_le H1.out.r.lt P2.out.B.size)⟩ (can_arr aD) HGD.out.1 (sl_seg ((H2.out.below P2.out.B H2.out.lt).below hb3 (Nat.lt_of_lt_of_le H2.out.lt P2.out.B.size)) HCAP.out) (by omega) (by omega) (by omega) (by rw [seg_len]; omega)
     rw [HCK.out] at hcall
     refine hcall.mono ?_
     rintro e t4 ⟨err, at', ao, m, cp, z, c, rr, rfl, _, _, hbd, hab, hb⟩
     have hb4 : Below u2.heap.size u2 t4 := hb3.trans (hb.mono hb3.size)
     have hgs : gD < t3.heap.size := aD.lt
     have ft4 : t4.heap[t2.heap.size]? = some (.cells crZ 33) := (hb.block _ (hq_ltC ft3)).trans ft3
     have hqt : t2.heap.size < t3.heap.size := hq_ltC ft3
     have hab2 : err = 0 -> ∃ (g cg : Nat) (U : Nat -> VV), (Value.slice ao m cp) = .slice (some ⟨g, 0, none⟩) 8 cg /\ u2.heap.size <= g /\ g ≠ t2.heap.size /\ Arr t4 g (8 * 6) (vF U) /\ RR = .ok ⟨U, z, c⟩ rr := fun e0 => by
      obtain ⟨g, cg, U, k1, k2, k3, _, k5⟩ := hab e0
      have hz := hb3.size
      rcases k2 with rfl | k2
      ·exact ⟨g, cg, U, k1, hg9, hgq, k3, k5⟩
      ·exact ⟨g, cg, U, k1, by omega, by omega, k3, k5⟩
     clear hab
     refine hK.out _ _ hb4 (fun _ => ?_)
     clear hK KK hcall
     unfold outV
     try simp only [Act.put, List.getElem_toArray, List.getElem_cons_zero, List.getElem_cons_succ, List.setIfInBounds_toArray, List.set_cons_zero, List.set_cons_succ]
     refine wpAnyH_ta 8 rfl ?_
     refine wpAnyH_ready (rs := [10]) (by kernel_rfl) (by simp) ?_
     refine AllReadyH.cons rfl (fun KK hK => ?_) AllReadyH.nil
     have c0 : t4.cell? ⟨t2.heap.size, 0, none⟩ = some (.int .i64 0) := (hq_cell ft4 0).trans rfl
     have c1 : t4.cell? ⟨t2.heap.size, 1, none⟩ = some (.int .i64 0) := (hq_cell ft4 1).trans rfl
     have c2 : t4.cell? ⟨t2.heap.size, 2, none⟩ = some (.slice none 0 0) := (hq_cell ft4 2).trans rfl
     have c3 : t4.cell? ⟨t2.heap.size, 3, none⟩ = some (.int .i64 0) := (hq_cell ft4 3).trans rfl
     have c4 : t4.cell? ⟨t2.heap.size, 4, none⟩ = some (.int .i64 0) := (hq_cell ft4 4).trans rfl
     have cf := hq_free ft4
     have cl := hq_ltC ft4
     have hI := P2.out.below hb4
     obtain ⟨q9, hq9e⟩ : ∃ y, t2.heap.size = y := ⟨_, rfl⟩
     rw [hq9e] at c0 c1 c2 c3 c4 cf cl ft4 hq9 hab2 ⊢
     have hset : (((((t4.setCell ⟨q9, 0, none⟩ (.int .i64 err)).setCell ⟨q9, 1, none⟩ (.int .i64 at')).setCell ⟨q9, 2, none⟩ (.slice ao m cp)).setCell ⟨q9, 3, none⟩ (.int .i64 z)).setCell ⟨q9, 4, none⟩ (.int .i64 c)).heap[q9]? = some (.cells #[.int .i64 err, .int .i64 at', .slice ao m cp, .int .i64 z, .int .i64 c] 33) := hq_set (hq_set (hq_set (hq_set (hq_set ft4 0 _) 1 _) 2 _) 3 _) 4 _
     have hft : Ft q9 t4 (((((t4.setCell ⟨q9, 0, none⟩ (.int .i64 err)).setCell ⟨q9, 1, none⟩ (.int .i64 at')).setCell ⟨q9, 2, none⟩ (.slice ao m cp)).setCell ⟨q9, 3, none⟩ (.int .i64 z)).setCell ⟨q9, 4, none⟩ (.int .i64 c)) := (((((Ft.refl _ _).set _ _).set _ _).set _ _).set _ _).set _ _
     have hI2 := hI.ft hft (by have := hq_ltC P2.out.R; omega)
     have hO : SpO RR u2.heap.size q9 err at' ao m cp z c (((((t4.setCell ⟨q9, 0, none⟩ (.int .i64 err)).setCell ⟨q9, 1, none⟩ (.int .i64 at')).setCell ⟨q9, 2, none⟩ (.slice ao m cp)).setCell ⟨q9, 3, none⟩ (.int .i64 z)).setCell ⟨q9, 4, none⟩ (.int .i64 c)) := ⟨hbd, fun e0 => by
       obtain ⟨g, cg, U, k1, k2, hgn, k3, k5⟩ := hab2 e0
       exact ⟨g, cg, U, rr, k1, k2, hgn, Arr.blk k3 (hft.block g k3.lt hgn), k5⟩⟩
     have hbz : Below u2.heap.size u2 (((((t4.setCell ⟨q9, 0, none⟩ (.int .i64 err)).setCell ⟨q9, 1, none⟩ (.int .i64 at')).setCell ⟨q9, 2, none⟩ (.slice ao m cp)).setCell ⟨q9, 3, none⟩ (.int .i64 z)).setCell ⟨q9, 4, none⟩ (.int .i64 c)) := hb4.trans ⟨hft.os, hft.tape, hft.output, hft.size, fun k hk => hft.block k (by have := hb4.size; omega) (by omega)⟩
     have HE : Hid (_ /\ _ /\ _ /\ _) := ⟨hset, hI2, hO, hq9⟩
     go_simp
     refine hK.out _ _ hbz (fun _ => ?_)
     clear hK KK c0 c1 c2 c3 c4 cf cl hset hft hI hI2 hO hbz hbd hab2 fr s0 s1 ft4
     try simp only [Act.put, List.getElem_toArray, List.getElem_cons_zero, List.getElem_cons_succ, List.setIfInBounds_toArray, List.set_cons_zero, List.set_cons_succ]
     refine wpAnyH_done (by kernel_rfl) ?_ _
     go_wp2_with fail
     go_meet
     exact ⟨q9, err, at', ao, m, cp, z, c, rfl, HE.out⟩
   ·skip
    go_simp
    obtain ⟨t2, ht2, bt2, ft2⟩ : ∃ y, t1.alloc (.cells #[.int .i64 0, .int .i64 0, .slice none 0 0, .int .i64 0, .int .i64 0] 33) = y /\ Below t1.heap.size t1 y /\ y.heap[t1.heap.size]? = some (.cells crZ 33) := ⟨_, rfl, (Below.refl _ _).alloc (Nat.le_refl _) _, hq_new _ _⟩
    rw [ht2]
    have hb2 : Below u2.heap.size u2 t2 := hb1.trans (bt2.mono hb1.size)
    have hq9 : u2.heap.size <= t1.heap.size := hb1.size
    have ot2 := row_belowD ot1 bt2
    refine hK.out _ _ hb2 (fun _ => ?_)
    clear hK KK
    try simp only [Act.put, List.getElem_toArray, List.getElem_cons_zero, List.getElem_cons_succ, List.setIfInBounds_toArray, List.set_cons_zero, List.set_cons_succ]
    refine wpAnyH_ready (rs := [5]) (by kernel_rfl) (by simp) ?_
    refine AllReadyH.cons rfl (fun KK hK => ?_) AllReadyH.nil
    refine step_append_own rfl (.tmp 16) (.tmp 18) 29 rfl u2.heap.size 75 iV (.agg #[.int .i64 0, .bool false, .int .i64 0, .int .i64 0, .int .i64 0, .int .i64 0]) 6 48 Tryz.underlying29 HIV.out.1 HIV.out.2.1 HIV.out.2.2.1 HIV.out.2.2.2 rfl (by decide) sv 0 [] rfl ot2 ⟨bR, 0, none⟩ 8 cR (first (8 * 6) (vF V)) rfl (first_length _ _) (fun j x hj => ?_) (fun x hx => by obtain ⟨j, _, rfl⟩ := first_mem hx; exact vF_one V j) (by unfold maxLen; omega) (by omega) hb2.size ?_
    ·obtain ⟨hm, rfl⟩ := first_get hj
     rw [Addr.add_lit, Nat.zero_add]
     exact ((H1.out.r.below P2.out.B H1.out.r.lt).below hb2 (Nat.lt_of_lt_of_le H1.out.r.lt P2.out.B.size)).cell hm
    intro vD t3 hown hgrow
    have hD : t3.ownsRow u2.heap.size 75 6 vD 8 (first (8 * 6) (vF V)) := by simpa using hown
    obtain ⟨gD, cD, hvD⟩ := row_some' hD (by omega)
    subst hvD
    have hg9 : u2.heap.size <= gD := (hD.lt _ rfl).1
    have aD : Arr t3 gD (8 * 6) (vF V) := row_arr hD
    have hsb : ∀ k, sv.ownBlock = some k -> u2.heap.size <= k := fun k hk => (ot2.lt k hk).1
    have hb3 : Below u2.heap.size u2 t3 := hb2.trans ((Below.refl _ _).grown hgrow hb2.size hsb)
    have ft3 : t3.heap[t1.heap.size]? = some (.cells crZ 33) := grown_obj ft2 hgrow (grown_ne ft2 ot2 (by decide))
    have hgq : gD ≠ t1.heap.size := fun e => grown_ne ft3 hD (by decide) (by rw [<- e]; rfl)
    clear hown hgrow hD
    refine hK.out _ _ hb3 (fun _ => ?_)
    clear hK KK
    try simp only [Act.put, List.getElem_toArray, List.getElem_cons_zero, List.getElem_cons_succ, List.setIfInBounds_toArray, List.set_cons_zero, List.set_cons_succ]
    refine wpAnyH_ta 6 rfl ?_
    refine wpAnyH_ready (rs := [7]) (by kernel_rfl) (by simp) ?_
    refine AllReadyH.cons rfl (fun KK hK => ?_) AllReadyH.nil
    go_simp
    have hcall := BLK.out bH cH nH S bR cR V gD cD (canV V) 0 0 0 0 (.slice (some ⟨b, 0, none⟩) n cap) t3 lH ⟨(H1.out.h.below P2.out.B H1.out.h.lt).below hb3 (Nat.lt_of_lt_of_le H1.out.h.lt P2.out.B.size), (H1.out.r.below P2.out.B H1.out.r.lt).below hb3 (Nat.lt_of_lt_of_le H1.out.r.lt P2.out.B.size)⟩ (can_arr aD) HGD.out.1 (sl_seg ((H2.out.below P2.out.B H2.out.lt).below hb3 (Nat.lt_of_lt_of_le H2.out.lt P2.out.B.size)) HCAP.out) (by omega) (by omega) (by omega) (by rw [seg_len]; omega)
    rw [HCK.out] at hcall
    refine hcall.mono ?_
    rintro e t4 ⟨err, at', ao, m, cp, z, c, rr, rfl, _, _, hbd, hab, hb⟩
    have hb4 : Below u2.heap.size u2 t4 := hb3.trans (hb.mono hb3.size)
    have hgs : gD < t3.heap.size := aD.lt
    have ft4 : t4.heap[t1.heap.size]? = some (.cells crZ 33) := (hb.block _ (hq_ltC ft3)).trans ft3
    have hqt : t1.heap.size < t3.heap.size := hq_ltC ft3
    have hab2 : err = 0 -> ∃ (g cg : Nat) (U : Nat -> VV), (Value.slice ao m cp) = .slice (some ⟨g, 0, none⟩) 8 cg /\ u2.heap.size <= g /\ g ≠ t1.heap.size /\ Arr t4 g (8 * 6) (vF U) /\ RR = .ok ⟨U, z, c⟩ rr := fun e0 => by
     obtain ⟨g, cg, U, k1, k2, k3, _, k5⟩ := hab e0
     have hz := hb3.size
     rcases k2 with rfl | k2
     ·exact ⟨g, cg, U, k1, hg9, hgq, k3, k5⟩
     ·exact ⟨g, cg, U, k1, by omega, by omega, k3, k5⟩
    clear hab
    refine hK.out _ _ hb4 (fun _ => ?_)
    clear hK KK hcall
    unfold outV
    try simp only [Act.put, List.getElem_toArray, List.getElem_cons_zero, List.getElem_cons_succ, List.setIfInBounds_toArray, List.set_cons_zero, List.set_cons_succ]
    refine wpAnyH_ta 8 rfl ?_
    refine wpAnyH_ready (rs := [10]) (by kernel_rfl) (by simp) ?_
    refine AllReadyH.cons rfl (fun KK hK => ?_) AllReadyH.nil
    have c0 : t4.cell? ⟨t1.heap.size, 0, none⟩ = some (.int .i64 0) := (hq_cell ft4 0).trans rfl
    have c1 : t4.cell? ⟨t1.heap.size, 1, none⟩ = some (.int .i64 0) := (hq_cell ft4 1).trans rfl
    have c2 : t4.cell? ⟨t1.heap.size, 2, none⟩ = some (.slice none 0 0) := (hq_cell ft4 2).trans rfl
    have c3 : t4.cell? ⟨t1.heap.size, 3, none⟩ = some (.int .i64 0) := (hq_cell ft4 3).trans rfl
    have c4 : t4.cell? ⟨t1.heap.size, 4, none⟩ = some (.int .i64 0) := (hq_cell ft4 4).trans rfl
    have cf := hq_free ft4
    have cl := hq_ltC ft4
    have hI := P2.out.below hb4
    obtain ⟨q9, hq9e⟩ : ∃ y, t1.heap.size = y := ⟨_, rfl⟩
    rw [hq9e] at c0 c1 c2 c3 c4 cf cl ft4 hq9 hab2 ⊢
    have hset : (((((t4.setCell ⟨q9, 0, none⟩ (.int .i64 err)).setCell ⟨q9, 1, none⟩ (.int .i64 at')).setCell ⟨q9, 2, none⟩ (.slice ao m cp)).setCell ⟨q9, 3, none⟩ (.int .i64 z)).setCell ⟨q9, 4, none⟩ (.int .i64 c)).heap[q9]? = some (.cells #[.int .i64 err, .int .i64 at', .slice ao m cp, .int .i64 z, .int .i64 c] 33) := hq_set (hq_set (hq_set (hq_set (hq_set ft4 0 _) 1 _) 2 _) 3 _) 4 _
    have hft : Ft q9 t4 (((((t4.setCell ⟨q9, 0, none⟩ (.int .i64 err)).setCell ⟨q9, 1, none⟩ (.int .i64 at')).setCell ⟨q9, 2, none⟩ (.slice ao m cp)).setCell ⟨q9, 3, none⟩ (.int .i64 z)).setCell ⟨q9, 4, none⟩ (.int .i64 c)) := (((((Ft.refl _ _).set _ _).set _ _).set _ _).set _ _).set _ _
    have hI2 := hI.ft hft (by have := hq_ltC P2.out.R; omega)
    have hO : SpO RR u2.heap.size q9 err at' ao m cp z c (((((t4.setCell ⟨q9, 0, none⟩ (.int .i64 err)).setCell ⟨q9, 1, none⟩ (.int .i64 at')).setCell ⟨q9, 2, none⟩ (.slice ao m cp)).setCell ⟨q9, 3, none⟩ (.int .i64 z)).setCell ⟨q9, 4, none⟩ (.int .i64 c)) := ⟨hbd, fun e0 => by
      obtain ⟨g, cg, U, k1, k2, hgn, k3, k5⟩ := hab2 e0
      exact ⟨g, cg, U, rr, k1, k2, hgn, Arr.blk k3 (hft.block g k3.lt hgn), k5⟩⟩
    have hbz : Below u2.heap.size u2 (((((t4.setCell ⟨q9, 0, none⟩ (.int .i64 err)).setCell ⟨q9, 1, none⟩ (.int .i64 at')).setCell ⟨q9, 2, none⟩ (.slice ao m cp)).setCell ⟨q9, 3, none⟩ (.int .i64 z)).setCell ⟨q9, 4, none⟩ (.int .i64 c)) := hb4.trans ⟨hft.os, hft.tape, hft.output, hft.size, fun k hk => hft.block k (by have := hb4.size; omega) (by omega)⟩
    have HE : Hid (_ /\ _ /\ _ /\ _) := ⟨hset, hI2, hO, hq9⟩
    go_simp
    refine hK.out _ _ hbz (fun _ => ?_)
    clear hK KK c0 c1 c2 c3 c4 cf cl hset hft hI hI2 hO hbz hbd hab2 fr s0 s1 ft4
    try simp only [Act.put, List.getElem_toArray, List.getElem_cons_zero, List.getElem_cons_succ, List.setIfInBounds_toArray, List.set_cons_zero, List.set_cons_succ]
    refine wpAnyH_done (by kernel_rfl) ?_ _
    go_wp2_with fail
    go_meet
    exact ⟨q9, err, at', ao, m, cp, z, c, rfl, HE.out⟩
  ·skip
   go_simp
   obtain ⟨t1, ht1, bt1, ft1⟩ : ∃ y, t0.alloc (.cells #[.int .i64 0, .int .i64 0, .slice none 0 0, .int .i64 0, .int .i64 0] 33) = y /\ Below t0.heap.size t0 y /\ y.heap[t0.heap.size]? = some (.cells crZ 33) := ⟨_, rfl, (Below.refl _ _).alloc (Nat.le_refl _) _, hq_new _ _⟩
   rw [ht1]
   have hb1 : Below u2.heap.size u2 t1 := hb0.trans (bt1.mono hb0.size)
   have hq9 : u2.heap.size <= t0.heap.size := hb0.size
   refine hK.out _ _ hb1 (fun _ => ?_)
   clear hK KK
   try simp only [Act.put, List.getElem_toArray, List.getElem_cons_zero, List.getElem_cons_succ, List.setIfInBounds_toArray, List.set_cons_zero, List.set_cons_succ]
   refine wpAnyH_ready (rs := [2]) (by kernel_rfl) (by simp) ?_
   refine AllReadyH.cons rfl (fun KK hK => ?_) AllReadyH.nil
   go_simp
   obtain ⟨t2, ht2, bt2, ot2⟩ : ∃ y, t1.alloc (.cells #[] 75) = y /\ Below t1.heap.size t1 y /\ y.ownsRow u2.heap.size 75 6 (.slice (some ⟨t1.heap.size, 0, none⟩) 0 0) 0 [] := ⟨_, rfl, (Below.refl _ _).alloc (Nat.le_refl _) _, World.ownsRow_lit t1 #[] 0 hb1.size (by unfold maxLen; omega) rfl⟩
   rw [ht2]
   have hb2 : Below u2.heap.size u2 t2 := hb1.trans (bt2.mono hb1.size)
   refine hK.out _ _ hb2 (fun _ => ?_)
   clear hK KK
   try simp only [Act.put, List.getElem_toArray, List.getElem_cons_zero, List.getElem_cons_succ, List.setIfInBounds_toArray, List.set_cons_zero, List.set_cons_succ]
   have ft2 : t2.heap[t0.heap.size]? = some (.cells crZ 33) := (bt2.block _ (hq_ltC ft1)).trans ft1
   obtain ⟨sv, hsv⟩ : ∃ y, Value.slice (some ⟨t1.heap.size, 0, none⟩) 0 0 = y := ⟨_, rfl⟩
   rw [hsv] at ot2 ⊢
   refine wpAnyH_ready (rs := [5]) (by kernel_rfl) (by simp) ?_
   refine AllReadyH.cons rfl (fun KK hK => ?_) AllReadyH.nil
   refine step_append_own rfl (.tmp 16) (.tmp 18) 29 rfl u2.heap.size 75 iV (.agg #[.int .i64 0, .bool false, .int .i64 0, .int .i64 0, .int .i64 0, .int .i64 0]) 6 48 Tryz.underlying29 HIV.out.1 HIV.out.2.1 HIV.out.2.2.1 HIV.out.2.2.2 rfl (by decide) sv 0 [] rfl ot2 ⟨bR, 0, none⟩ 8 cR (first (8 * 6) (vF V)) rfl (first_length _ _) (fun j x hj => ?_) (fun x hx => by obtain ⟨j, _, rfl⟩ := first_mem hx; exact vF_one V j) (by unfold maxLen; omega) (by omega) hb2.size ?_
   ·obtain ⟨hm, rfl⟩ := first_get hj
    rw [Addr.add_lit, Nat.zero_add]
    exact ((H1.out.r.below P2.out.B H1.out.r.lt).below hb2 (Nat.lt_of_lt_of_le H1.out.r.lt P2.out.B.size)).cell hm
   intro vD t3 hown hgrow
   have hD : t3.ownsRow u2.heap.size 75 6 vD 8 (first (8 * 6) (vF V)) := by simpa using hown
   obtain ⟨gD, cD, hvD⟩ := row_some' hD (by omega)
   subst hvD
   have hg9 : u2.heap.size <= gD := (hD.lt _ rfl).1
   have aD : Arr t3 gD (8 * 6) (vF V) := row_arr hD
   have hsb : ∀ k, sv.ownBlock = some k -> u2.heap.size <= k := fun k hk => (ot2.lt k hk).1
   have hb3 : Below u2.heap.size u2 t3 := hb2.trans ((Below.refl _ _).grown hgrow hb2.size hsb)
   have ft3 : t3.heap[t0.heap.size]? = some (.cells crZ 33) := grown_obj ft2 hgrow (grown_ne ft2 ot2 (by decide))
   have hgq : gD ≠ t0.heap.size := fun e => grown_ne ft3 hD (by decide) (by rw [<- e]; rfl)
   clear hown hgrow hD
   refine hK.out _ _ hb3 (fun _ => ?_)
   clear hK KK
   try simp only [Act.put, List.getElem_toArray, List.getElem_cons_zero, List.getElem_cons_succ, List.setIfInBounds_toArray, List.set_cons_zero, List.set_cons_succ]
   refine wpAnyH_ta 6 rfl ?_
   refine wpAnyH_ready (rs := [7]) (by kernel_rfl) (by simp) ?_
   refine AllReadyH.cons rfl (fun KK hK => ?_) AllReadyH.nil
   go_simp
   have hcall := BLK.out bH cH nH S bR cR V gD cD (canV V) 0 0 0 0 (.slice (some ⟨b, 0, none⟩) n cap) t3 lH ⟨(H1.out.h.below P2.out.B H1.out.h.lt).below hb3 (Nat.lt_of_lt_of_le H1.out.h.lt P2.out.B.size), (H1.out.r.below P2.out.B H1.out.r.lt).below hb3 (Nat.lt_of_lt_of_le H1.out.r.lt P2.out.B.size)⟩ (can_arr aD) HGD.out.1 (sl_seg ((H2.out.below P2.out.B H2.out.lt).below hb3 (Nat.lt_of_lt_of_le H2.out.lt P2.out.B.size)) HCAP.out) (by omega) (by omega) (by omega) (by rw [seg_len]; omega)
   rw [HCK.out] at hcall
   refine hcall.mono ?_
   rintro e t4 ⟨err, at', ao, m, cp, z, c, rr, rfl, _, _, hbd, hab, hb⟩
   have hb4 : Below u2.heap.size u2 t4 := hb3.trans (hb.mono hb3.size)
   have hgs : gD < t3.heap.size := aD.lt
   have ft4 : t4.heap[t0.heap.size]? = some (.cells crZ 33) := (hb.block _ (hq_ltC ft3)).trans ft3
   have hqt : t0.heap.size < t3.heap.size := hq_ltC ft3
   have hab2 : err = 0 -> ∃ (g cg : Nat) (U : Nat -> VV), (Value.slice ao m cp) = .slice (some ⟨g, 0, none⟩) 8 cg /\ u2.heap.size <= g /\ g ≠ t0.heap.size /\ Arr t4 g (8 * 6) (vF U) /\ RR = .ok ⟨U, z, c⟩ rr := fun e0 => by
    obtain ⟨g, cg, U, k1, k2, k3, _, k5⟩ := hab e0
    have hz := hb3.size
    rcases k2 with rfl | k2
    ·exact ⟨g, cg, U, k1, hg9, hgq, k3, k5⟩
    ·exact ⟨g, cg, U, k1, by omega, by omega, k3, k5⟩
   clear hab
   refine hK.out _ _ hb4 (fun _ => ?_)
   clear hK KK hcall
   unfold outV
   try simp only [Act.put, List.getElem_toArray, List.getElem_cons_zero, List.getElem_cons_succ, List.setIfInBounds_toArray, List.set_cons_zero, List.set_cons_succ]
   refine wpAnyH_ta 8 rfl ?_
   refine wpAnyH_ready (rs := [10]) (by kernel_rfl) (by simp) ?_
   refine AllReadyH.cons rfl (fun KK hK => ?_) AllReadyH.nil
   have c0 : t4.cell? ⟨t0.heap.size, 0, none⟩ = some (.int .i64 0) := (hq_cell ft4 0).trans rfl
   have c1 : t4.cell? ⟨t0.heap.size, 1, none⟩ = some (.int .i64 0) := (hq_cell ft4 1).trans rfl
   have c2 : t4.cell? ⟨t0.heap.size, 2, none⟩ = some (.slice none 0 0) := (hq_cell ft4 2).trans rfl
   have c3 : t4.cell? ⟨t0.heap.size, 3, none⟩ = some (.int .i64 0) := (hq_cell ft4 3).trans rfl
   have c4 : t4.cell? ⟨t0.heap.size, 4, none⟩ = some (.int .i64 0) := (hq_cell ft4 4).trans rfl
   have cf := hq_free ft4
   have cl := hq_ltC ft4
   have hI := P2.out.below hb4
   obtain ⟨q9, hq9e⟩ : ∃ y, t0.heap.size = y := ⟨_, rfl⟩
   rw [hq9e] at c0 c1 c2 c3 c4 cf cl ft4 hq9 hab2 ⊢
   have hset : (((((t4.setCell ⟨q9, 0, none⟩ (.int .i64 err)).setCell ⟨q9, 1, none⟩ (.int .i64 at')).setCell ⟨q9, 2, none⟩ (.slice ao m cp)).setCell ⟨q9, 3, none⟩ (.int .i64 z)).setCell ⟨q9, 4, none⟩ (.int .i64 c)).heap[q9]? = some (.cells #[.int .i64 err, .int .i64 at', .slice ao m cp, .int .i64 z, .int .i64 c] 33) := hq_set (hq_set (hq_set (hq_set (hq_set ft4 0 _) 1 _) 2 _) 3 _) 4 _
   have hft : Ft q9 t4 (((((t4.setCell ⟨q9, 0, none⟩ (.int .i64 err)).setCell ⟨q9, 1, none⟩ (.int .i64 at')).setCell ⟨q9, 2, none⟩ (.slice ao m cp)).setCell ⟨q9, 3, none⟩ (.int .i64 z)).setCell ⟨q9, 4, none⟩ (.int .i64 c)) := (((((Ft.refl _ _).set _ _).set _ _).set _ _).set _ _).set _ _
   have hI2 := hI.ft hft (by have := hq_ltC P2.out.R; omega)
   have hO : SpO RR u2.heap.size q9 err at' ao m cp z c (((((t4.setCell ⟨q9, 0, none⟩ (.int .i64 err)).setCell ⟨q9, 1, none⟩ (.int .i64 at')).setCell ⟨q9, 2, none⟩ (.slice ao m cp)).setCell ⟨q9, 3, none⟩ (.int .i64 z)).setCell ⟨q9, 4, none⟩ (.int .i64 c)) := ⟨hbd, fun e0 => by
     obtain ⟨g, cg, U, k1, k2, hgn, k3, k5⟩ := hab2 e0
     exact ⟨g, cg, U, rr, k1, k2, hgn, Arr.blk k3 (hft.block g k3.lt hgn), k5⟩⟩
   have hbz : Below u2.heap.size u2 (((((t4.setCell ⟨q9, 0, none⟩ (.int .i64 err)).setCell ⟨q9, 1, none⟩ (.int .i64 at')).setCell ⟨q9, 2, none⟩ (.slice ao m cp)).setCell ⟨q9, 3, none⟩ (.int .i64 z)).setCell ⟨q9, 4, none⟩ (.int .i64 c)) := hb4.trans ⟨hft.os, hft.tape, hft.output, hft.size, fun k hk => hft.block k (by have := hb4.size; omega) (by omega)⟩
   have HE : Hid (_ /\ _ /\ _ /\ _) := ⟨hset, hI2, hO, hq9⟩
   go_simp
   refine hK.out _ _ hbz (fun _ => ?_)
   clear hK KK c0 c1 c2 c3 c4 cf cl hset hft hI hI2 hO hbz hbd hab2 fr s0 s1 ft4
   try simp only [Act.put, List.getElem_toArray, List.getElem_cons_zero, List.getElem_cons_succ, List.setIfInBounds_toArray, List.set_cons_zero, List.set_cons_succ]
   refine wpAnyH_done (by kernel_rfl) ?_ _
   go_wp2_with fail
   go_meet
   exact ⟨q9, err, at', ao, m, cp, z, c, rfl, HE.out⟩
 case rest =>
 obtain ⟨q, err, at', ao, m, cp, z, c, rfl, hq, hI, hO, hq2⟩ := hcut
 have HQ : Hid (wc.heap[q]? = some (.cells #[.int .i64 err, .int .i64 at', .slice ao m cp, .int .i64 z, .int .i64 c] 33)) := hq
 have P3 : Hid (IcP w bH nH cH bR 8 cR wc) := hI
 have HO : Hid (SpO RR u2.heap.size q err at' ao m cp z c wc) := hO
 have hwq : w.heap.size + 1 < u2.heap.size := hq_ltC P2.out.R
 clear hq hI hO P2
 generalize wc = u3 at *
 have c0 := (hq_cell HQ.out 0).trans rfl
 have c1 := (hq_cell HQ.out 1).trans rfl
 have c2 := (hq_cell HQ.out 2).trans rfl
 have c3 := (hq_cell HQ.out 3).trans rfl
 have c4 := (hq_cell HQ.out 4).trans rfl
 have cf := hq_free HQ.out
 have cl := hq_ltC HQ.out
 obtain ⟨r0, r1, r2, r3, r4, rf, rl⟩ := P3.out.res
 have hnq : q ≠ w.heap.size + 1 := by omega
 have hnq' : w.heap.size + 1 ≠ q := by omega
 by_cases h0 : err = 0
 ·subst h0
  obtain ⟨g, cg, U, rr, hv, hg, hgq, aU, hR⟩ := HO.out.2 rfl
  simp only [Value.slice.injEq] at hv
  obtain ⟨rfl, rfl, rfl⟩ := hv
  have HE : Hid (Arr u3 g (8 * 6) (vF U) /\ RR = .ok ⟨U, z, c⟩ rr) := ⟨aU, hR⟩
  clear aU hR
  have hat : at' = 0 := HO.out.1.2 rfl
  subst hat
  have hgw : w.heap.size + 1 ≠ g := by omega
  have HGW : Hid (w.heap.size <= g) := (by omega : w.heap.size <= g)
  go_wp2
  refine bodyPost_ret (v := .agg #[.int .i64 0, .int .i64 0, .slice (some ⟨g, 0, none⟩) 8 cp, .int .i64 z, .int .i64 c]) (by simp [results, Tryz.results6, go_sem, *]) rfl ⟨below_set5 P3.out.B (by omega) _ _ _ _ _, Or.inr ⟨⟨U, z, c⟩, rr, g, cp, HE.out.2, HGW.out, rfl, ?_⟩⟩
  iterate 5 refine Arr.other ?_ (by show w.heap.size + 1 ≠ g; omega) _
  exact HE.out.1
 ·have e0 : (err != 0) = true := by simp [h0]
  have HNE : Hid (¬ err = 0) := h0
  clear h0
  have hB3 : Below w.heap.size w (((u3.setCell ⟨q, 2, none⟩ (.slice none 0 0)).setCell ⟨q, 3, none⟩ (.int .i64 0)).setCell ⟨q, 4, none⟩ (.int .i64 0)) := ((P3.out.B.setCell (p := ⟨q, 2, none⟩) (show w.heap.size <= q by omega) _).setCell (p := ⟨q, 3, none⟩) (show w.heap.size <= q by omega) _).setCell (p := ⟨q, 4, none⟩) (show w.heap.size <= q by omega) _
  have HB3 : Hid _ := hB3
  clear hB3
  go_wp2
  refine bodyPost_ret (v := .agg #[.int .i64 err, .int .i64 at', .slice none 0 0, .int .i64 0, .int .i64 0]) (by simp [results, Tryz.results6, go_sem, *]) rfl ⟨below_set5 HB3.out (by omega) _ _ _ _ _, Or.inl ⟨err, at', HO.out.1.1 HNE.out, rfl⟩⟩
end Go.Proofs.YtcgcldokompafaaGreatDoor
