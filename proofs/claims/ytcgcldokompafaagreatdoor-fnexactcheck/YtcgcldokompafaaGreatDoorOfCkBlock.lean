import Derived.Test.YtcgcldokompafaaGreatDoorCkLoop
import Derived.Test.YtcgcldokompafaaGreatDoorCkChoice
import Derived.Deep.Cut
import Derived.Deep.DeepCutAuto
/- A statement checked by the program. -/
namespace Go.Proofs.YtcgcldokompafaaGreatDoor
open Go.RowKit Go.Deep
structure Loc2 (u : World) (bC mb : Nat) (F : FS) (v : World) : Prop where
 K : Kc bC mb u v
 F : FArr v u.heap.size F
 R : FArr v (u.heap.size + 1) zFS
 n1 : bC < u.heap.size
 n2 : mb < u.heap.size
section
variable {G : SG} {L : Nat -> SV} {w0 : World} {bC mb bH cH p : Nat} {d : Int} {u v v' : World} {F : FS} {r : Int}
theorem Loc2.kc (h : Loc2 u bC mb F v) (k : Kc bC mb v v') : Loc2 u bC mb F v' := by
 have := h.n1
 have := h.n2
 exact ⟨h.K.trans k, h.F.kc k (by omega) (by omega), h.R.kc k (by omega) (by omega), h.n1, h.n2⟩
theorem Loc2.below (h : Loc2 u bC mb F v) (k : Below v.heap.size v v') : Loc2 u bC mb F v' := h.kc (Kc.of_below k)
theorem Loc2.ft {q : Nat} (h : Loc2 u bC mb F v) (k : Ft q v v') (hq : u.heap.size + 1 < q) : Loc2 u bC mb F v' :=
 ⟨h.K.ft k (Or.inl (by omega)), h.F.ft k (by omega), h.R.ft k (by omega), h.n1, h.n2⟩
theorem Loc2.setF {F' : FS} (h : Loc2 u bC mb F v) (k : Ft u.heap.size v v') (hF : FArr v' u.heap.size F') : Loc2 u bC mb F' v' :=
 ⟨h.K.ft k (Or.inl (by omega)), hF, h.R.ft k (by omega), h.n1, h.n2⟩
theorem Loc2.lt (h : Loc2 u bC mb F v) : u.heap.size + 1 < v.heap.size := Arr.lt h.R
theorem Loc2.bad {R : CR} {e a : Int} {x : Value} {wE : World} (h : Loc2 u bC mb F v) (hf : Ft (u.heap.size + 1) v wE) (hR : R = .bad e a) (hv : ErrIs x e a) : AnsC G L w0 bC mb bH cH d R u (.returned (.tuple #[.agg (fA zFS), x])) wE :=
 ⟨h.K.ft hf (Or.inl (by omega)), Or.inr ⟨e, a, x, hR, hv, rfl⟩⟩
theorem Loc2.ok {R : CR} {B : FS} {r' : Int} {wE : World} (h : Loc2 u bC mb F v) (hf : Ft (u.heap.size + 1) v wE) (hR : R = .ok B r') (hB : FGd G B) (hC : CS G L w0 bC mb bH cH d v r') : AnsC G L w0 bC mb bH cH d R u (.returned (.tuple #[.agg (fA B), .nilIface])) wE := by
 have := h.n1
 have := h.n2
 have := hC.c1
 exact ⟨h.K.ft hf (Or.inl (by omega)), Or.inl ⟨B, r', hR, hB, rfl, hC.ft hf (by omega) (by omega) (by omega)⟩⟩
theorem CS.var2 {q : Nat} {x : Obj} (h : CS G L w0 bC mb bH cH d v r) (l : Loc2 u bC mb F v) (hq : q = v.heap.size) (f : Ft q (v.alloc x) v') : CS G L w0 bC mb bH cH d v' r /\ Loc2 u bC mb F v' := by
 subst hq
 have b : Below v.heap.size v (v.alloc x) := (Below.refl _ _).alloc (Nat.le_refl _) _
 have := h.lt
 have := h.M.lt
 have := h.B.size
 have := l.lt
 exact ⟨(h.below b).ft f (by omega) (by omega) (by omega), (l.below b).ft f (by omega)⟩
set_option maxRecDepth 20000 in
set_option maxHeartbeats 8000000 in
theorem ckst2_any (hk : (L p).k = 2) (hs : 1 <= (L p).cond /\ (L p).cond <= 4) (ht : 0 <= (L p).thn) (a1 a2 : Option Addr) (k1 c1 k2 c2 : Nat) (hy : BlkC G L w0 bC mb bH cH (p + 1) (p + 1 + (L p).thn.toNat) (.slice a1 k1 c1)) (hn : BlkC G L w0 bC mb bH cH (p + 1 + (L p).thn.toNat) (nxt L p) (.slice a2 k2 c2)) : StC G L w0 bC mb bH cH p (.iface 159 (.agg #[.int .i64 (p : Int), .int .i64 (L p).cond, .slice a1 k1 c1, .slice a2 k2 c2])) := by
 intro d u F FA r hF hC hG
 have HF : Hid (FA = fA F) := hF
 have HG : Hid (FGd G F) := hG
 obtain ⟨Z0, hZ0⟩ : ∃ x, x = fA zFS := ⟨_, rfl⟩
 have HZ : Hid (Z0 = fA zFS) := hZ0
 have HCALL : Hid (∀ (u : World) (F : FS) (FA : Array Value) (r : Int), FA = fA F -> CS G L w0 bC mb bH cH d u r -> FGd G F -> Calls Tryz.prog 81 #[.pointer (some ⟨bC, 0, none⟩), .agg #[.int .i64 (p : Int), .int .i64 (L p).cond, .slice a1 k1 c1, .slice a2 k2 c2], .agg FA] u (AnsC G L w0 bC mb bH cH d (ckSt G L p F r) u)) := fun u F FA r => choice_any hk hs ht a1 a2 k1 c1 k2 c2 hy hn d u F FA r
 obtain ⟨u1, hu1, b1, f1, z1, x1'⟩ := loc3 u hF (.cells #[.int .i64 (p : Int), .int .i64 (L p).cond, .slice a1 k1 c1, .slice a2 k2 c2] 159)
 have L1 : Hid (Loc2 u bC mb F u1) := ⟨Kc.of_below b1, f1, z1, hC.lt, hC.M.lt⟩
 have C1 : Hid (CS G L w0 bC mb bH cH d u1 r) := hC.below b1
 have xl := hq_ltC x1'
 have x0 : u1.cell? ⟨u.heap.size + 1 + 1, 0, none⟩ = some (.int .i64 (p : Int)) := (hq_cell x1' 0).trans rfl
 have x1 : u1.cell? ⟨u.heap.size + 1 + 1, 1, none⟩ = some (.int .i64 (L p).cond) := (hq_cell x1' 1).trans rfl
 have x2 : u1.cell? ⟨u.heap.size + 1 + 1, 2, none⟩ = some (.slice a1 k1 c1) := (hq_cell x1' 2).trans rfl
 have x3 : u1.cell? ⟨u.heap.size + 1 + 1, 3, none⟩ = some (.slice a2 k2 c2) := (hq_cell x1' 3).trans rfl
 clear hk hs hy hF hG hC hZ0 b1 f1 z1 x1' ht hn
 have t1 := tl21
 have t2 := tl22
 go_enter Tryz.func52, Tryz.ntmps52
 go_upto_region 10 with fail
 clear t1 t2
 rw [zero_fac, hu1]
 clear hu1
 go_wp2_with (refine wpList_loadF rfl (.tmp 5) rfl u.heap.size rfl F FA HF.out L1.out.F ?_)
 refine (HCALL.out u1 F FA r HF.out C1.out HG.out).mono ?_
 rintro e u2 ⟨k2', hx⟩
 have L2 : Hid (Loc2 u bC mb F u2) := L1.out.kc k2'
 clear k2' x0 x1 x2 x3 xl L1 C1
 rcases hx with ⟨B, r3, hR, gB, rfl, c3⟩ | ⟨err, at', v, hR, hE, rfl⟩
 ·have HB : Hid (FGd G B) := gB
  have HR1 : Hid (ckSt G L p F r = .ok B r3) := hR
  have C3 : Hid (CS G L w0 bC mb bH cH d u2 r3) := c3
  obtain ⟨BA, hBA⟩ : ∃ x, x = fA B := ⟨_, rfl⟩
  have HBA : Hid (BA = fA B) := hBA
  rw [<- hBA]
  clear gB hR c3 hBA
  go_wp2_with (refine wpList_storeH rfl (.tmp 6) (.tmp 44) rfl (u.heap.size + 1) B zFS rfl BA HBA.out rfl L2.out.R ?_; intro wE hA hf hz)
  unfold Hid
  have HE : Hid (FArr wE (u.heap.size + 1) B /\ Ft (u.heap.size + 1) u2 wE) := ⟨hA, hf⟩
  clear hA hf hz
  go_wp2
  refine bodyPost_ret (v := .tuple #[.agg BA, .nilIface]) (results_cell2 rfl _ _ (u.heap.size + 1) _ _ rfl rfl (HE.out.1.var HBA.out)) rfl ?_
  rw [show BA = fA B from HBA.out]
  exact L2.out.ok HE.out.2 HR1.out HB.out C3.out
 ·obtain ⟨t, x, rfl⟩ := hE.shp
  have HE1 : Hid (ErrIs (.iface t x) err at') := hE
  have HR1 : Hid (ckSt G L p F r = .bad err at') := hR
  clear hE hR
  rw [<- HZ.out]
  go_wp2_with (refine wpList_storeH rfl (.tmp 6) (.tmp 44) rfl (u.heap.size + 1) zFS zFS rfl Z0 HZ.out rfl L2.out.R ?_; intro wE hA hf hz)
  unfold Hid
  have HE : Hid (FArr wE (u.heap.size + 1) zFS /\ Ft (u.heap.size + 1) u2 wE) := ⟨hA, hf⟩
  clear hA hf hz
  go_wp2
  refine bodyPost_ret (v := .tuple #[.agg Z0, .iface t x]) (results_cell2 rfl _ _ (u.heap.size + 1) _ _ rfl rfl (HE.out.1.var HZ.out)) rfl ?_
  rw [show Z0 = fA zFS from HZ.out]
  exact L2.out.bad HE.out.2 HR1.out HE1.out
set_option maxRecDepth 20000 in
set_option maxHeartbeats 8000000 in
theorem ckst3_any (hk : (L p).k = 3) (hs : 1 <= (L p).cond /\ (L p).cond <= 4) (hp : p <= 2000) (a1 : Option Addr) (k1 c1 : Nat) (hy : BlkC G L w0 bC mb bH cH (p + 1) (p + 1 + (L p).thn.toNat) (.slice a1 k1 c1)) : StC G L w0 bC mb bH cH p (.iface 162 (.agg #[.int .i64 (p : Int), .int .i64 (L p).cond, .slice a1 k1 c1])) := by
 intro d u F FA r hF hC hG
 have HF : Hid (FA = fA F) := hF
 have HG : Hid (FGd G F) := hG
 obtain ⟨Z0, hZ0⟩ : ∃ x, x = fA zFS := ⟨_, rfl⟩
 have HZ : Hid (Z0 = fA zFS) := hZ0
 have HCALL : Hid (∀ (u : World) (F : FS) (FA : Array Value) (r : Int), FA = fA F -> CS G L w0 bC mb bH cH d u r -> FGd G F -> Calls Tryz.prog 82 #[.pointer (some ⟨bC, 0, none⟩), .agg #[.int .i64 (p : Int), .int .i64 (L p).cond, .slice a1 k1 c1], .agg FA] u (AnsC G L w0 bC mb bH cH d (ckSt G L p F r) u)) := fun u F FA r => loop_any hk hs hp a1 k1 c1 hy d u F FA r
 obtain ⟨u1, hu1, b1, f1, z1, x1'⟩ := loc3 u hF (.cells #[.int .i64 (p : Int), .int .i64 (L p).cond, .slice a1 k1 c1] 162)
 have L1 : Hid (Loc2 u bC mb F u1) := ⟨Kc.of_below b1, f1, z1, hC.lt, hC.M.lt⟩
 have C1 : Hid (CS G L w0 bC mb bH cH d u1 r) := hC.below b1
 have xl := hq_ltC x1'
 have x0 : u1.cell? ⟨u.heap.size + 1 + 1, 0, none⟩ = some (.int .i64 (p : Int)) := (hq_cell x1' 0).trans rfl
 have x1 : u1.cell? ⟨u.heap.size + 1 + 1, 1, none⟩ = some (.int .i64 (L p).cond) := (hq_cell x1' 1).trans rfl
 have x2 : u1.cell? ⟨u.heap.size + 1 + 1, 2, none⟩ = some (.slice a1 k1 c1) := (hq_cell x1' 2).trans rfl
 clear hk hs hy hF hG hC hZ0 b1 f1 z1 x1' hp
 have t1 := tl31
 have t2 := tl32
 have t3 := tl33
 go_enter Tryz.func52, Tryz.ntmps52
 go_upto_region 13 with fail
 clear t1 t2 t3
 rw [zero_fac, hu1]
 clear hu1
 go_wp2_with (refine wpList_loadF rfl (.tmp 5) rfl u.heap.size rfl F FA HF.out L1.out.F ?_)
 refine (HCALL.out u1 F FA r HF.out C1.out HG.out).mono ?_
 rintro e u2 ⟨k2', hx⟩
 have L2 : Hid (Loc2 u bC mb F u2) := L1.out.kc k2'
 clear k2' x0 x1 x2 xl L1 C1
 rcases hx with ⟨B, r3, hR, gB, rfl, c3⟩ | ⟨err, at', v, hR, hE, rfl⟩
 ·have HB : Hid (FGd G B) := gB
  have HR1 : Hid (ckSt G L p F r = .ok B r3) := hR
  have C3 : Hid (CS G L w0 bC mb bH cH d u2 r3) := c3
  obtain ⟨BA, hBA⟩ : ∃ x, x = fA B := ⟨_, rfl⟩
  have HBA : Hid (BA = fA B) := hBA
  rw [<- hBA]
  clear gB hR c3 hBA
  go_wp2_with (refine wpList_storeH rfl (.tmp 6) (.tmp 53) rfl (u.heap.size + 1) B zFS rfl BA HBA.out rfl L2.out.R ?_; intro wE hA hf hz)
  unfold Hid
  have HE : Hid (FArr wE (u.heap.size + 1) B /\ Ft (u.heap.size + 1) u2 wE) := ⟨hA, hf⟩
  clear hA hf hz
  go_wp2
  refine bodyPost_ret (v := .tuple #[.agg BA, .nilIface]) (results_cell2 rfl _ _ (u.heap.size + 1) _ _ rfl rfl (HE.out.1.var HBA.out)) rfl ?_
  rw [show BA = fA B from HBA.out]
  exact L2.out.ok HE.out.2 HR1.out HB.out C3.out
 ·obtain ⟨t, x, rfl⟩ := hE.shp
  have HE1 : Hid (ErrIs (.iface t x) err at') := hE
  have HR1 : Hid (ckSt G L p F r = .bad err at') := hR
  clear hE hR
  rw [<- HZ.out]
  go_wp2_with (refine wpList_storeH rfl (.tmp 6) (.tmp 53) rfl (u.heap.size + 1) zFS zFS rfl Z0 HZ.out rfl L2.out.R ?_; intro wE hA hf hz)
  unfold Hid
  have HE : Hid (FArr wE (u.heap.size + 1) zFS /\ Ft (u.heap.size + 1) u2 wE) := ⟨hA, hf⟩
  clear hA hf hz
  go_wp2
  refine bodyPost_ret (v := .tuple #[.agg Z0, .iface t x]) (results_cell2 rfl _ _ (u.heap.size + 1) _ _ rfl rfl (HE.out.1.var HZ.out)) rfl ?_
  rw [show Z0 = fA zFS from HZ.out]
  exact L2.out.bad HE.out.2 HR1.out HE1.out
end
end Go.Proofs.YtcgcldokompafaaGreatDoor
/- A block checked by the program. -/
namespace Go.Proofs.YtcgcldokompafaaGreatDoor
open Go.RowKit Go.Deep
theorem st_condC {s : SV} (h : stOK s 0 = true) (hk : s.k = 2 ∨ s.k = 3) : (1 <= s.cond /\ s.cond <= 4) /\ 0 <= s.thn := by
 unfold stOK at h
 rcases hk with hk | hk
 ·rw [if_neg (by omega), if_pos hk] at h
  simp only [decide_eq_true_eq] at h
  omega
 ·rw [if_neg (by omega), if_neg (by omega), if_pos hk] at h
  simp only [decide_eq_true_eq] at h
  omega
theorem st_callC {s : SV} (h : stOK s 0 = true) (hk : s.k = 4) : False := by
 unfold stOK at h
 rw [if_neg (by omega), if_neg (by omega), if_neg (by omega), if_pos hk] at h
 simp only [decide_eq_true_eq] at h
 omega
theorem seg_bad {G : SG} {L : Nat -> SV} {p te : Nat} {F : FS} {r : Int} {RR : CR} (i : ckL G (seg L p te) (p : Int) F r = RR) (hlt : p < te) (hs : stOK (L p) 0 = true) (hn : nxt L p <= te) {e a : Int} (h : ckSt G L p F r = .bad e a) : RR = .bad e a := by
 rw [<- i, ck_seg G L hlt hs hn, h]
theorem seg_ok {G : SG} {L : Nat -> SV} {p te : Nat} {F B : FS} {r r' : Int} {RR : CR} (i : ckL G (seg L p te) (p : Int) F r = RR) (hlt : p < te) (hs : stOK (L p) 0 = true) (hn : nxt L p <= te) (h : ckSt G L p F r = .ok B r') : ckL G (seg L (nxt L p) te) (nxt L p : Int) B r' = RR := by
 rw [<- i, ck_seg G L hlt hs hn, h]
theorem seg_done {G : SG} {L : Nat -> SV} {p te : Nat} {F : FS} {r : Int} {RR : CR} (i : ckL G (seg L p te) (p : Int) F r = RR) (hlt : ¬ p < te) : RR = .ok F r := by
 rw [<- i, seg_end hlt, ckL_nil]
set_option maxRecDepth 20000 in
set_option maxHeartbeats 8000000 in
theorem ckblk_go (G : SG) (L : Nat -> SV) (w0 : World) (bC mb bH cH m i te : Nat) (depth : Int) (tv : Value) (S : Nat -> Prop)
  (hr : RepN L (m + 1) w0 S tv i te) (hit : i <= te) (hte : te <= 2000) (hck : (chk L 0 0 321 i te depth).1 = 0)
  (ih : ∀ i' te' d v, i < i' -> i' <= te' -> te' <= te -> (chk L 0 0 321 i' te' d).1 = 0 -> RepN L m w0 S v i' te' -> BlkC G L w0 bC mb bH cH i' te' v) : BlkC G L w0 bC mb bH cH i te tv := by
 intro d u F FA r hF hC hG
 obtain ⟨ns, hrow, hxl, hx⟩ := hr
 obtain ⟨aot, kt, ct, htv⟩ := row_slU hrow.1
 subst htv
 have HROW : Hid (RowS w0 S (.slice aot kt ct) ns) := hrow
 have HXL : Hid (ns.length = (tops L i te).length) := hxl
 have HX : Hid _ := hx
 have HCK : Hid ((chk L 0 0 321 i te depth).1 = 0) := hck
 have IH : Hid _ := ih
 have HF : Hid (FA = fA F) := hF
 have HG : Hid (FGd G F) := hG
 obtain ⟨Z0, hZ0⟩ : ∃ x, x = fA zFS := ⟨_, rfl⟩
 have HZ : Hid (Z0 = fA zFS) := hZ0
 obtain ⟨RR, hRR⟩ : ∃ q, ckL G (seg L i te) (i : Int) F r = q := ⟨_, rfl⟩
 rw [hRR]
 have INV0 : Hid (ckL G (seg L i te) (i : Int) F r = RR) := hRR
 have hkt : kt = ns.length := by
  rcases hrow.1.2 with ⟨e, e2⟩ | ⟨g, cap, cur, e, _⟩
  ·have := (Value.slice.inj e).2.1; omega
  ·exact (Value.slice.inj e).2.1
 have hk2 : kt <= 2000 := by rw [hkt, hxl]; exact Nat.le_trans (tops_len L _ i te (Nat.le_refl _)) (by omega)
 have HKT : Hid (kt = ns.length) := hkt
 obtain ⟨u1, hu1, l1, c1⟩ : ∃ y, (u.alloc (.cells FA 78)).alloc (.cells (facA (fun _ => zV) 0 0) 78) = y /\ Loc2 u bC mb F y /\ CS G L w0 bC mb bH cH d y r := by
  have n0 := FArr.new u hF
  have b0 := (Below.refl u.heap.size u).alloc (Nat.le_refl _) (.cells FA 78)
  generalize hx : u.alloc (.cells FA 78) = x at *
  have s0 : x.heap.size = u.heap.size + 1 := by rw [<- hx]; simp
  have n1 := FArr.fresh x
  have b1 := (Below.refl x.heap.size x).alloc (Nat.le_refl _) (.cells (facA (fun _ => zV) 0 0) 78)
  rw [s0] at n1
  have bb := b0.trans (b1.mono (by omega))
  exact ⟨_, rfl, ⟨Kc.of_below bb, n0.below b1, n1, hC.lt, hC.M.lt⟩, hC.below bb⟩
 clear hrow hxl hx hck ih hF hC hG hkt hZ0 hRR
 go_enter Tryz.func27, Tryz.ntmps27
 go_upto_region 1 with fail
 rw [zero_fac, hu1]
 have L1 : Hid (Loc2 u bC mb F u1) := l1
 have C1 : Hid (CS G L w0 bC mb bH cH d u1 r) := c1
 clear hu1 l1 c1
 go_wp2_with fail
 go_loopw [14] (fun iv wr => ∃ (q p : Nat) (H : FS) (rk : Int), q <= kt /\ i <= p /\ p <= te /\ iv = .int .i64 (q : Int) /\ FGd G H /\ Hid (ckL G (seg L p te) (p : Int) H rk = RR) /\ Loc2 u bC mb H wr /\ CS G L w0 bC mb bH cH d wr rk /\ (tops L i te).drop q = tops L p te /\ (chk L 0 0 321 p te depth).1 = 0) (fun iv _ => kt - (intOf iv).toNat)
 case atStart => exact ⟨0, i, F, r, Nat.zero_le _, Nat.le_refl _, hit, rfl, HG.out, INV0, L1.out, C1.out, by simp, HCK.out⟩
 case round =>
  clear L1 C1 INV0 HG HF
  obtain ⟨q, p, H, rk, hq, hip, hpt, rfl, gH, INV, l2, c2, hdr, hc⟩ := hrel
  have GH : Hid (FGd G H) := gH
  have L2 : Hid (Loc2 u bC mb H wr) := l2
  have C2 : Hid (CS G L w0 bC mb bH cH d wr rk) := c2
  have HDR : Hid ((tops L i te).drop q = tops L p te) := hdr
  have HK : Hid ((chk L 0 0 321 p te depth).1 = 0) := hc
  obtain ⟨HA, hHA⟩ : ∃ x, x = fA H := ⟨_, rfl⟩
  have HHA : Hid (HA = fA H) := hHA
  clear gH l2 c2 hdr hc hHA
  by_cases hlt : p < te
  rotate_left
  ·have hqn : q = kt := by
    have h := congrArg List.length HDR.out
    rw [List.length_drop, <- HXL.out, <- HKT.out, tops_end hlt] at h
    simp at h; omega
   have hqx' : ¬ (q : Int) < (kt : Int) := by omega
   go_wp2_with (first | (refine wpList_loadF rfl (.tmp 5) rfl u.heap.size rfl H HA HHA.out L2.out.F ?_) | (refine wpList_storeH rfl (.tmp 6) (.tmp 31) rfl (u.heap.size + 1) H zFS rfl HA HHA.out rfl L2.out.R ?_; intro wE hA hf hz))
   unfold Hid
   have HE : Hid (FArr wE (u.heap.size + 1) H /\ Ft (u.heap.size + 1) wr wE) := ⟨hA, hf⟩
   clear hA hf hz
   go_wp2
   refine bodyPost_ret (v := .tuple #[.agg HA, .nilIface]) (results_cell2 rfl _ _ (u.heap.size + 1) _ _ rfl rfl (HE.out.1.var HHA.out)) rfl ?_
   rw [show HA = fA H from HHA.out]
   exact L2.out.ok HE.out.2 (seg_done INV.out hlt) GH.out C2.out
  have hqx : q < kt := by
   have h := congrArg List.length HDR.out
   rw [List.length_drop, <- HXL.out, <- HKT.out, tops_more hlt] at h
   simp at h; omega
  have hqx' : (q : Int) < (kt : Int) := by omega
  obtain ⟨gt, ctt, htt⟩ := row_some2 HROW.out.1 (by rw [<- HKT.out]; omega)
  obtain ⟨rfl, hz, rfl⟩ := Value.slice.inj htt
  clear hz
  have HR2 : Hid (w0.ownsRow 0 119 1 (.slice (some ⟨gt, 0, none⟩) ns.length ct) ns.length ns) := (by have := HROW.out.1; rwa [HKT.out] at this : w0.ownsRow 0 119 1 (.slice (some ⟨gt, 0, none⟩) ns.length ct) ns.length ns)
  obtain ⟨x, hxq⟩ : ∃ x, ns[q]? = some x := ⟨ns[q]'(by rw [<- HKT.out]; exact hqx), by simp [<- HKT.out, hqx]⟩
  have hpq : (tops L i te)[q]? = some p := by
   have h := congrArg (fun l => l[0]?) HDR.out
   simp only [tops_more hlt, List.getElem?_drop, Nat.add_zero, List.getElem?_cons_zero] at h
   exact h
  have hdn : (tops L i te).drop (q + 1) = tops L (nxt L p) te := by
   have h := congrArg (List.drop 1) HDR.out
   rw [List.drop_drop, tops_more hlt] at h
   simpa [Nat.add_comm, nxt] using h
  have lgt : gt < w0.heap.size := (HROW.out.1.lt gt rfl).2
  have g0 : wr.cell? ⟨gt, q, none⟩ = some x := by
   rw [C2.out.B.cell (p := ⟨gt, q, none⟩) lgt, HR2.out.cellAt q (by rw [<- HKT.out]; omega)]
   exact hxq
  obtain ⟨sok, hnt, k1', k2', k3'⟩ := chk_next HK.out hlt
  have HSO : Hid (stOK (L p) 0 = true) := sok
  have HC3 : Hid _ := k3'
  have HDN : Hid _ := hdn
  have hnt' : nxt L p <= te := hnt
  have hcase := HX.out q x p hxq hpq
  have hst : StC G L w0 bC mb bH cH p x := by
   rcases hcase with ⟨k1, rfl⟩ | ⟨k2, v1, v2, rfl, r1, r2⟩ | ⟨k3, v1, rfl, r1⟩ | ⟨k4, rfl⟩
   ·exact ckst1_any k1 sok
   ·obtain ⟨a1, n1, c1, rfl⟩ := r1.shp
    obtain ⟨a2, n2, c2, rfl⟩ := r2.shp
    have hc := st_condC sok (.inl k2)
    exact ckst2_any k2 hc.1 hc.2 _ _ _ _ _ _ (IH.out _ _ _ _ (by omega) (by omega) (by omega) k1' r1) (IH.out _ _ _ _ (by omega) (by have : nxt L p = p + 1 + (L p).thn.toNat + (L p).els.toNat := rfl; omega) hnt' k2' r2)
   ·obtain ⟨a1, n1, c1, rfl⟩ := r1.shp
    exact ckst3_any k3 (st_condC sok (.inr k3)).1 (by omega) _ _ _ (IH.out _ _ _ _ (by omega) (by omega) (by omega) k1' r1)
   ·exact (st_callC sok k4).elim
  have HST : Hid (StC G L w0 bC mb bH cH p x) := hst
  clear sok k1' k2' k3' hdn hxq hpq htt HDR HK hcase hst
  have hpn : p < nxt L p := by unfold nxt; omega
  go_wp2_with (refine wpList_loadF rfl (.tmp 5) rfl u.heap.size rfl H HA HHA.out L2.out.F ?_)
  have hs2 := HST.out
  unfold StC at hs2
  refine (hs2 d wr H HA rk HHA.out C2.out GH.out).mono ?_
  rintro e u3 ⟨k3, hx⟩
  have L3 : Hid (Loc2 u bC mb H u3) := L2.out.kc k3
  clear hs2 k3 g0 L2 C2
  rcases hx with ⟨B, r3, hR, gB, rfl, c3⟩ | ⟨err, at', v, hR, hE, rfl⟩
  rotate_left
  ·obtain ⟨t, x', rfl⟩ := hE.shp
   have HE1 : Hid (ErrIs (.iface t x') err at') := hE
   have HR1 : Hid (ckSt G L p H rk = .bad err at') := hR
   clear hE hR
   rw [<- HZ.out]
   go_wp2_with (refine wpList_storeH rfl (.tmp 10) (.tmp 23) rfl u3.heap.size zFS zFS rfl Z0 HZ.out rfl (by rw [zero_fac]; exact FArr.fresh _) ?_; intro u4 hA hf hz)
   unfold Hid
   have hl4 := L3.out.below ((Below.refl _ _).alloc (Nat.le_refl _) (.cells (facA (fun _ => zV) 0 0) 78))
   rw [zero_fac] at hf
   have L4 : Hid (Loc2 u bC mb H u4) := hl4.ft hf L3.out.lt
   clear hA hf hz hl4 L3
   go_wp2_with (first | (refine wpList_zeroH rfl rfl Z0 HZ.out ?_) | (refine wpList_storeH rfl (.tmp 6) (.tmp 27) rfl (u.heap.size + 1) zFS zFS rfl Z0 HZ.out rfl L4.out.R ?_; intro wE hA hf hz))
   unfold Hid
   have HE : Hid (FArr wE (u.heap.size + 1) zFS /\ Ft (u.heap.size + 1) u4 wE) := ⟨hA, hf⟩
   clear hA hf hz
   go_wp2
   refine bodyPost_ret (v := .tuple #[.agg Z0, .iface t x']) (results_cell2 rfl _ _ (u.heap.size + 1) _ _ rfl rfl (HE.out.1.var HZ.out)) rfl ?_
   rw [show Z0 = fA zFS from HZ.out]
   exact L4.out.bad HE.out.2 (seg_bad INV.out hlt HSO.out hnt' HR1.out) HE1.out
  have HB : Hid (FGd G B) := gB
  have HR1 : Hid (ckSt G L p H rk = .ok B r3) := hR
  have C3 : Hid (CS G L w0 bC mb bH cH d u3 r3) := c3
  obtain ⟨BA, hBA⟩ : ∃ x, x = fA B := ⟨_, rfl⟩
  have HBA : Hid (BA = fA B) := hBA
  rw [<- hBA]
  clear gB hR c3 hBA
  go_wp2_with (refine wpList_storeH rfl (.tmp 10) (.tmp 23) rfl u3.heap.size B zFS rfl BA HBA.out rfl (by rw [zero_fac]; exact FArr.fresh _) ?_; intro u4 hA hf hz)
  unfold Hid
  have HQ4 : Hid (FArr u4 u3.heap.size B) := hA
  have hcv := C3.out.var2 L3.out rfl hf
  have C4 : Hid (CS G L w0 bC mb bH cH d u4 r3) := hcv.1
  have L4 : Hid (Loc2 u bC mb H u4) := hcv.2
  clear hA hf hz hcv C3 L3
  generalize u3.heap.size = q3 at *
  go_wp2_with (first | (refine wpList_loadF rfl (.tmp 10) rfl q3 rfl B BA HBA.out HQ4.out ?_) | (refine wpList_storeH rfl (.tmp 5) (.tmp 29) rfl u.heap.size B H rfl BA HBA.out rfl L4.out.F ?_; intro u8 hA hf hz))
  unfold Hid
  have L8 : Hid (Loc2 u bC mb B u8) := L4.out.setF hf hA
  have C8 : Hid (CS G L w0 bC mb bH cH d u8 r3) := C4.out.ft hf (by have := L4.out.n1; omega) (by have := L4.out.n2; omega) (by have := L4.out.n1; have := C4.out.c1; omega)
  clear hA hf hz
  go_wp2_with fail
  go_roundw
  case rel => exact ⟨q + 1, nxt L p, B, r3, by omega, by omega, hnt', by go_num, HB.out, seg_ok INV.out hlt HSO.out hnt' HR1.out, L8.out, C8.out, HDN.out, HC3.out⟩
  case measure => simp [intOf]; omega
theorem ckblk_any (G : SG) (L : Nat -> SV) (w0 : World) (bC mb bH cH : Nat) (S : Nat -> Prop) : ∀ (m i te : Nat) (depth : Int) (tv : Value), RepN L m w0 S tv i te -> i <= te -> te <= 2000 -> (chk L 0 0 321 i te depth).1 = 0 -> BlkC G L w0 bC mb bH cH i te tv := by
 intro m
 induction m with
 | zero =>
  intro i te depth tv hr hit hte hck
  obtain ⟨h1, rfl⟩ := hr
  obtain rfl : i = te := by omega
  exact ckblk_go G L w0 bC mb bH cH 0 i i depth (.slice none 0 0) S ⟨[], ⟨World.ownsRow_nil _ _ _ _, fun b h => by cases h⟩, by rw [tops_end (by omega)]; rfl, fun k x p h => by simp at h⟩ hit hte hck (fun i' te' d v h1 h2 h3 => by omega)
 | succ m ih =>
  intro i te depth tv hr hit hte hck
  exact ckblk_go G L w0 bC mb bH cH m i te depth tv S hr hit hte hck (fun i' te' d v h1 h2 h3 h4 h5 => ih i' te' d v h5 h2 (by omega) h4)
end Go.Proofs.YtcgcldokompafaaGreatDoor
