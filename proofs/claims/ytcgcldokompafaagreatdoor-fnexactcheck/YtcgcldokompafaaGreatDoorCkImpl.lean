import Derived.Test.YtcgcldokompafaaGreatDoorOfCkBlock
import Derived.Test.YtcgcldokompafaaGreatDoorOfCkAs2
import Derived.Test.YtcgcldokompafaaGreatDoorOfCkHq
import Derived.Test.YtcgcldokompafaaGreatDoorCkIc
import Derived.Test.YtcgcldokompafaaGreatDoorOfTransAbsI
import Derived.Carry
/- impl.Check. -/
namespace Go.Proofs.YtcgcldokompafaaGreatDoor
open Go.RowKit Go.Deep
theorem ck_made (w : World) : (Instr.makeMap 71 none).run Tryz.prog w = .ok (.map (some w.heap.size)) (w.alloc (.map #[] 0)) := by kernel_rfl
set_option maxRecDepth 20000 in
set_option maxHeartbeats 16000000 in
theorem implCheck_any (bH cH nH : Nat) (S : Nat -> HS) (bR cR nR : Nat) (V : Nat -> VV) (b n cap : Nat) (L : Nat -> SV) (w : World) (lH : nH <= 1048576) (lR : nR <= 1048576) (ln : n <= 1048576) (h1 : SigCp w bH nH S bR nR V) (hA : Arr w b (n * 11) (stF L)) (hg : w.cell? ⟨0, 0, none⟩ = some (.iface 165 (.agg #[.pointer (some ⟨1, 80, none⟩)]))) (h0 : 0 < w.heap.size) :
  Calls Tryz.prog 9 #[.agg #[.slice (some ⟨bH, 0, none⟩) nH cH, .slice (some ⟨bR, 0, none⟩) nR cR], .slice (some ⟨b, 0, none⟩) n cap] w (AnsK (chkR nH S nR V L n) w) := by
 obtain ⟨RR, hRR⟩ : ∃ q, chkR nH S nR V L n = q := ⟨_, rfl⟩
 rw [hRR]
 have HRR : Hid (chkR nH S nR V L n = RR) := hRR
 have H1 : Hid (SigCp w bH nH S bR nR V) := h1
 have H2 : Hid (Arr w b (n * 11) (stF L)) := hA
 have HG : Hid (w.cell? ⟨0, 0, none⟩ = some (.iface 165 (.agg #[.pointer (some ⟨1, 80, none⟩)])) /\ 0 < w.heap.size) := ⟨hg, h0⟩
 clear hRR h1 hA hg h0
 go_enter Tryz.func9, Tryz.ntmps9
 go_upto_region 1 with fail
 obtain ⟨u, hu, pu⟩ := ic_new w bH nH cH bR nR cR
 rw [hu]
 have P0 : Hid (IcP w bH nH cH bR nR cR u) := pu
 clear hu pu
 obtain ⟨s0, s1, sl⟩ := P0.out.cells
 go_wp2_with fail
 refine (implSig_any bH cH nH S bR cR nR V u lH lR ⟨H1.out.h.below P0.out.B H1.out.h.lt, H1.out.r.below P0.out.B H1.out.r.lt⟩).mono ?_
 rintro e u1 ⟨rfl, hb⟩
 have P1 : Hid (IcP w bH nH cH bR nR cR u1) := P0.out.below hb
 clear hb s0 s1 sl P0
 obtain ⟨ok, hok⟩ : ∃ x, sigOK nH S nR V = x := ⟨_, rfl⟩
 rw [hok]
 have HOK : Hid (sigOK nH S nR V = ok) := hok
 clear hok
 cases ok with
 | false =>
  obtain ⟨r0, r1, r2, r3, r4, rf, rl⟩ := P1.out.res
  go_wp2
  refine bodyPost_ret (v := .agg #[.int .i64 11, .int .i64 0, .slice none 0 0, .int .i64 0, .int .i64 0]) (by simp [results, Tryz.results9, go_sem, *]) rfl ⟨below_set5 P1.out.B (by omega) _ _ _ _ _, Or.inl ⟨11, 0, ?_, rfl⟩⟩
  rw [<- HRR.out, chkR, if_neg (by rw [HOK.out]; decide)]
 | true =>
 go_wp2_with fail
 refine (runTree_any b n cap L u1 ln (H2.out.below P1.out.B H2.out.lt)).mono ?_
 rintro e u2 ⟨at', kt, ct, rfl, hb, ht⟩
 have P2 : Hid (IcP w bH nH cH bR nR cR u2) := P1.out.below hb
 have HT : Hid (runB L n -> RepN L (n + 1) u2 (fun q => u1.heap.size <= q) (.slice at' kt ct) 0 n) := ht
 clear hb ht P1
 by_cases hrun : runB L n
 rotate_left
 ·rw [decide_eq_false hrun]
  have HN : Hid (¬ runB L n) := hrun
  clear hrun
  obtain ⟨r0, r1, r2, r3, r4, rf, rl⟩ := P2.out.res
  go_wp2
  refine bodyPost_ret (v := .agg #[.int .i64 12, .int .i64 0, .slice none 0 0, .int .i64 0, .int .i64 0]) (by simp [results, Tryz.results9, go_sem, *]) rfl ⟨below_set5 P2.out.B (by omega) _ _ _ _ _, Or.inl ⟨12, 0, ?_, rfl⟩⟩
  rw [<- HRR.out, chkR, if_pos HOK.out, if_neg HN.out]
 rw [decide_eq_true hrun]
 have HRUN : Hid (runB L n) := hrun
 clear hrun
 obtain ⟨e8, h8, hgd⟩ := can_good HOK.out
 have HGD : Hid (FGd ⟨nH, S, V⟩ ⟨canV V, 0, 0⟩) := hgd
 subst e8
 clear hgd
 have HCK : Hid (ckL ⟨nH, S, V⟩ (seg L 0 n) 0 ⟨canV V, 0, 0⟩ 0 = RR) := (by rw [<- HRR.out, chkR, if_pos HOK.out, if_pos HRUN.out] : ckL ⟨nH, S, V⟩ (seg L 0 n) 0 ⟨canV V, 0, 0⟩ 0 = RR)
 obtain ⟨s0, s1, sl⟩ := P2.out.cells
 have mm := ck_made
 go_upto_region 7 with fail
 clear mm s0 s1 sl
 obtain ⟨u3, hu3, b3, c3⟩ : ∃ y, (u2.alloc (.map #[] 0)).alloc (.cells #[.slice (some ⟨bH, 0, none⟩) nH cH, .int .i64 0, .map (some u2.heap.size)] 73) = y /\ Below u2.heap.size u2 y /\ CS ⟨nH, S, V⟩ L u2 (u2.heap.size + 1) u2.heap.size bH cH 0 y 0 := by
  have m0 := MapI.made u2 ⟨nH, S, V⟩ L
  have b0 := (Below.refl u2.heap.size u2).alloc (Nat.le_refl _) (.map #[] 0)
  generalize hx : u2.alloc (.map #[] 0) = x at *
  have s0 : x.heap.size = u2.heap.size + 1 := by rw [<- hx]; simp
  have n1 := hq_new x (.cells #[.slice (some ⟨bH, 0, none⟩) nH cH, .int .i64 0, .map (some u2.heap.size)] 73)
  have b1 := (Below.refl x.heap.size x).alloc (Nat.le_refl _) (.cells #[.slice (some ⟨bH, 0, none⟩) nH cH, .int .i64 0, .map (some u2.heap.size)] 73)
  rw [s0] at n1
  have bb := b0.trans (b1.mono (by omega))
  have hl := H1.out.h.lt
  have hs := P2.out.B.size
  exact ⟨_, rfl, bb, bb, n1, m0.kept (b1.block _ (by omega)), (H1.out.h.below P2.out.B hl).below bb (by omega), by omega, by omega, by omega, by omega, by omega, by omega, by omega⟩
 rw [hu3]
 have P3 : Hid (IcP w bH nH cH bR 8 cR u3) := P2.out.below b3
 have C3 : Hid (CS ⟨nH, S, V⟩ L u2 (u2.heap.size + 1) u2.heap.size bH cH 0 u3 0) := c3
 have HLT : Hid (w.heap.size + 1 < u2.heap.size) := hq_ltC P2.out.R
 have BLK : Hid (BlkC ⟨nH, S, V⟩ L u2 (u2.heap.size + 1) u2.heap.size bH cH 0 n (.slice at' kt ct)) := ckblk_any ⟨nH, S, V⟩ L u2 (u2.heap.size + 1) u2.heap.size bH cH (fun q => u1.heap.size <= q) (n + 1) 0 n 0 (.slice at' kt ct) (HT.out HRUN.out) (Nat.zero_le _) HRUN.out.1 HRUN.out.2.1
 clear hu3 b3 c3 P2 HT
 generalize u2.heap.size = mb at *
 obtain ⟨s0, s1, sl⟩ := P3.out.cells
 go_wp2_with fail
 refine (factsOf_any bR cR (canV V) 0 0 u3 (can_arr (H1.out.r.below P3.out.B H1.out.r.lt))).mono ?_
 rintro e u4 ⟨rfl, hb⟩
 have P4 : Hid (IcP w bH nH cH bR 8 cR u4) := P3.out.below hb
 have C4 : Hid (CS ⟨nH, S, V⟩ L u2 (mb + 1) mb bH cH 0 u4 0) := C3.out.below hb
 obtain ⟨FA, hFA⟩ : ∃ x, x = fA ⟨canV V, 0, 0⟩ := ⟨_, rfl⟩
 have HFA : Hid (FA = fA ⟨canV V, 0, 0⟩) := hFA
 rw [show facA (canV V) 0 0 = FA from hFA.symm]
 clear hb hFA s0 s1 sl P3 C3
 go_wp2_with fail
 have hb2 := BLK.out
 unfold BlkC at hb2
 refine (hb2 0 u4 ⟨canV V, 0, 0⟩ FA 0 HFA.out C4.out HGD.out).mono ?_
 rintro e u5 ⟨k5, hx⟩
 rw [show ((0 : Nat) : Int) = 0 from rfl, HCK.out] at hx
 have P5 : Hid (IcP w bH nH cH bR 8 cR u5) := P4.out.kc k5 (by have := HLT.out; omega) (by have := HLT.out; omega)
 clear hb2 k5 P4 C4
 rcases hx with ⟨B, r5, hR, gB, rfl, _⟩ | ⟨err, at2, v, hR, hE, rfl⟩
 rotate_left
 ·obtain ⟨t, x, rfl⟩ := hE.shp
  have HE1 : Hid (ErrIs (.iface t x) err at2) := hE
  have HR1 : Hid (RR = .bad err at2) := hR
  obtain ⟨Z0, hZ0⟩ : ∃ x, x = fA zFS := ⟨_, rfl⟩
  have HZ : Hid (Z0 = fA zFS) := hZ0
  rw [<- hZ0]
  clear hE hR hZ0
  go_wp2_with (refine wpList_storeH rfl (.tmp 8) (.tmp 36) rfl u5.heap.size zFS zFS rfl Z0 HZ.out rfl (by rw [zero_fac]; exact FArr.fresh _) ?_; intro u6 hA hf hz)
  unfold Hid
  rw [zero_fac] at hf
  have P6 : Hid (IcP w bH nH cH bR 8 cR u6) := (P5.out.below ((Below.refl _ _).alloc (Nat.le_refl _) _)).ft hf (hq_ltC P5.out.R)
  clear hA hf hz P5
  go_upto_region 9 with fail
  obtain ⟨u7, hu7, b7, f7⟩ : ∃ y, u6.alloc (.cells #[.int .i64 0, .int .i64 0] 85) = y /\ Below u6.heap.size u6 y /\ y.heap[u6.heap.size]? = some (.cells #[.int .i64 0, .int .i64 0] 85) := ⟨_, rfl, (Below.refl _ _).alloc (Nat.le_refl _) _, hq_new _ _⟩
  rw [hu7]
  have P7 : Hid (IcP w bH nH cH bR 8 cR u7) := P6.out.below b7
  have F7 : Hid (u7.heap[u6.heap.size]? = some (.cells #[.int .i64 0, .int .i64 0] 85)) := f7
  have Q6 : Hid (w.heap.size + 1 < u6.heap.size) := hq_ltC P6.out.R
  clear hu7 b7 f7 P6
  generalize u6.heap.size = q6 at *
  go_wp2_with fail
  have hs7 := P7.out.B.size
  refine (errorsAs_any err at2 _ HE1.out q6 _ _ u7 F7.out ((P7.out.B.cell (p := ⟨0, 0, none⟩) HG.out.2).trans HG.out.1) (by have := HG.out.2; omega)).mono ?_
  rintro e u8 ⟨rfl, hf, hb8⟩
  have P8 : Hid (IcP w bH nH cH bR 8 cR u8) := P7.out.ft hf Q6.out
  have f0 : u8.cell? ⟨q6, 0, none⟩ = some (.int .i64 err) := (hq_cell hb8 0).trans rfl
  have f1 : u8.cell? ⟨q6, 1, none⟩ = some (.int .i64 at2) := (hq_cell hb8 1).trans rfl
  have fl := hq_ltC hb8
  clear hf hb8 hs7 P7 F7
  obtain ⟨r0, r1, r2, r3, r4, rf, rl⟩ := P8.out.res
  go_wp2
  refine bodyPost_ret (v := .agg #[.int .i64 err, .int .i64 at2, .slice none 0 0, .int .i64 0, .int .i64 0]) (by simp [results, Tryz.results9, go_sem, *]) rfl ⟨below_set5 P8.out.B (by omega) _ _ _ _ _, Or.inl ⟨err, at2, HR1.out, rfl⟩⟩
 have HR1 : Hid (RR = .ok B r5) := hR
 obtain ⟨BA, hBA⟩ : ∃ x, x = fA B := ⟨_, rfl⟩
 have HBA : Hid (BA = fA B) := hBA
 rw [<- hBA]
 clear gB hR hBA
 go_wp2_with (refine wpList_storeH rfl (.tmp 8) (.tmp 36) rfl u5.heap.size B zFS rfl BA HBA.out rfl (by rw [zero_fac]; exact FArr.fresh _) ?_; intro u6 hA hf hz)
 unfold Hid
 rw [zero_fac] at hf
 have P6 : Hid (IcP w bH nH cH bR 8 cR u6) := (P5.out.below ((Below.refl _ _).alloc (Nat.le_refl _) _)).ft hf (hq_ltC P5.out.R)
 have HQ6 : Hid (FArr u6 u5.heap.size B) := hA
 clear hA hf hz P5
 generalize u5.heap.size = q5 at *
 go_upto_region 9 with fail
 obtain ⟨u7, hu7, b7⟩ : ∃ y, u6.alloc (.cells #[.int .i64 0, .int .i64 0] 85) = y /\ Below u6.heap.size u6 y := ⟨_, rfl, (Below.refl _ _).alloc (Nat.le_refl _) _⟩
 rw [hu7]
 have P7 : Hid (IcP w bH nH cH bR 8 cR u7) := P6.out.below b7
 have HQ7 : Hid (FArr u7 q5 B) := HQ6.out.below b7
 clear hu7 b7 P6 HQ6
 go_wp2_with fail
 refine (as_nil _ _).mono ?_
 rintro e w' ⟨rfl, hw⟩
 rw [hw]
 clear hw
 go_wp2_with (refine wpList_loadF rfl (.tmp 8) rfl q5 rfl B BA HBA.out HQ7.out ?_)
 refine (absOf_any B.V B.z B.c BA HBA.out u7).mono ?_
 rintro e u8 ⟨g, cg, hg, rfl, hb8, hA8⟩
 have P8 : Hid (IcP w bH nH cH bR 8 cR u8) := P7.out.below hb8
 have HA8 : Hid (Arr u8 g (8 * 6) (vF B.V)) := hA8
 have HG8 : Hid (w.heap.size + 1 < g) := (by have := hq_ltC P7.out.R; omega : w.heap.size + 1 < g)
 clear hg hb8 hA8 P7 HQ7
 obtain ⟨r0, r1, r2, r3, r4, rf, rl⟩ := P8.out.res
 go_wp2
 refine bodyPost_ret (v := .agg #[.int .i64 0, .int .i64 0, .slice (some ⟨g, 0, none⟩) 8 cg, .int .i64 B.z, .int .i64 B.c]) (by simp [results, Tryz.results9, go_sem, *]) rfl ⟨below_set5 P8.out.B (by omega) _ _ _ _ _, Or.inr ⟨B, r5, g, cg, HR1.out, by have := HG8.out; omega, rfl, ?_⟩⟩
 iterate 5 refine Arr.other ?_ (by have := HG8.out; show w.heap.size + 1 ≠ g; omega) _
 exact HA8.out
end Go.Proofs.YtcgcldokompafaaGreatDoor
