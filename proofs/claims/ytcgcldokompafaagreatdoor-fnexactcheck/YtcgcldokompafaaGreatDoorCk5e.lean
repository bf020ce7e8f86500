import Derived.Test.YtcgcldokompafaaGreatDoorCk5d
/- The model's check of a block, as much of it as the draws want. -/
namespace Go.Proofs.YtcgcldokompafaaGreatDoor
open Go.RowKit Go.Deep
theorem LX.nh {w : World} {bH cH nH : Nat} {S : Nat -> HS} {bR cR : Nat} {V0 : Nat -> VV} {b0 bs bh br bA cA : Nat} {V : Nat -> VV} {z c : Int} {u : World} (h : LX w bH cH nH S bR cR V0 b0 bs bh br bA cA V z c u) : bA ≠ bh := fun e => by
 have q := h.A.cell (i := 3) (by omega)
 rw [e, hq_cell h.hd 3] at q
 simp at q
theorem lst_at {pre rest : List SV} {s : SV} (j : Nat) (hj : j < 11) : stF (lst (pre ++ s :: rest)) (pre.length * 11 + j) = stC s j := by
 rw [stF_at _ _ _ hj]
 congr 1
 unfold lst
 simp
theorem st_in {w : World} {b off n : Nat} {pre rest : List SV} {s : SV} (h : At w b off (n * 11) (stF (lst (pre ++ s :: rest)))) (hn : pre.length < n) : w.cell? ⟨b, off + pre.length * 11, none⟩ = some (.int .i64 s.k) /\ w.cell? ⟨b, off + pre.length * 11 + 1, none⟩ = some (.int .i64 s.op) /\ w.cell? ⟨b, off + pre.length * 11 + 2, none⟩ = some (.int .i64 s.d) /\ w.cell? ⟨b, off + pre.length * 11 + 3, none⟩ = some (.int .i64 s.a) /\ w.cell? ⟨b, off + pre.length * 11 + 4, none⟩ = some (.int .i64 s.b) /\ w.cell? ⟨b, off + pre.length * 11 + 5, none⟩ = some (.int .i64 s.imm) /\ w.cell? ⟨b, off + pre.length * 11 + 6, none⟩ = some (.int .i64 s.h) /\ w.cell? ⟨b, off + pre.length * 11 + 7, none⟩ = some (.int .i64 s.cond) /\ w.cell? ⟨b, off + pre.length * 11 + 8, none⟩ = some (.int .i64 s.thn) /\ w.cell? ⟨b, off + pre.length * 11 + 9, none⟩ = some (.int .i64 s.els) /\ w.cell? ⟨b, off + pre.length * 11 + 10, none⟩ = some (.int .i64 s.proc) /\ b < w.heap.size :=
 ⟨(h.cell (i := pre.length * 11 + 0) (by omega)).trans (congrArg some (lst_at 0 (by omega))), (h.cell (i := pre.length * 11 + 1) (by omega)).trans (congrArg some (lst_at 1 (by omega))), (h.cell (i := pre.length * 11 + 2) (by omega)).trans (congrArg some (lst_at 2 (by omega))), (h.cell (i := pre.length * 11 + 3) (by omega)).trans (congrArg some (lst_at 3 (by omega))), (h.cell (i := pre.length * 11 + 4) (by omega)).trans (congrArg some (lst_at 4 (by omega))), (h.cell (i := pre.length * 11 + 5) (by omega)).trans (congrArg some (lst_at 5 (by omega))), (h.cell (i := pre.length * 11 + 6) (by omega)).trans (congrArg some (lst_at 6 (by omega))), (h.cell (i := pre.length * 11 + 7) (by omega)).trans (congrArg some (lst_at 7 (by omega))), (h.cell (i := pre.length * 11 + 8) (by omega)).trans (congrArg some (lst_at 8 (by omega))), (h.cell (i := pre.length * 11 + 9) (by omega)).trans (congrArg some (lst_at 9 (by omega))), (h.cell (i := pre.length * 11 + 10) (by omega)).trans (congrArg some (lst_at 10 (by omega))), h.lt⟩
theorem stb_ins {u : World} {sb : Nat} {s : SV} (h : u.heap[sb]? = some (.cells (stL s).toArray 60)) : u.cell? ⟨sb, 1, none⟩ = some (.int .i64 s.op) /\ u.cell? ⟨sb, 2, none⟩ = some (.int .i64 s.d) /\ u.cell? ⟨sb, 3, none⟩ = some (.int .i64 s.a) /\ u.cell? ⟨sb, 4, none⟩ = some (.int .i64 s.b) /\ u.cell? ⟨sb, 5, none⟩ = some (.int .i64 s.imm) /\ u.cell? ⟨sb, 6, none⟩ = some (.int .i64 s.h) :=
 ⟨(hq_cell h 1).trans rfl, (hq_cell h 2).trans rfl, (hq_cell h 3).trans rfl, (hq_cell h 4).trans rfl, (hq_cell h 5).trans rfl, (hq_cell h 6).trans rfl⟩

def TrSpec : Prop := ∀ (bH cH nH : Nat) (S : Nat -> HS) (bR cR : Nat) (V0 : Nat -> VV) (bA cA : Nat) (V : Nat -> VV) (z c op d ra rb imm h : Int) (w : World), nH <= 1048576 -> SigCp w bH nH S bR 8 V0 -> Arr w bA (8 * 6) (vF V) -> absOK nH S 8 V0 8 V z c = true ->
 Calls Tryz.prog 43 #[.agg #[.slice (some ⟨bH, 0, none⟩) nH cH, .slice (some ⟨bR, 0, none⟩) 8 cR], .agg #[.slice (some ⟨bA, 0, none⟩) 8 cA, .int .i64 z, .int .i64 c], .agg #[.int .i64 op, .int .i64 d, .int .i64 ra, .int .i64 rb, .int .i64 imm, .int .i64 h]] w fun e w' => TrAns w w' e (trE nH S 8 V0 8 V z c op d ra rb imm h) (trW S V z c op d ra rb imm h) (trZ V z c op ra rb z) (trZ V z c op ra rb c) /\ Below w.heap.size w w'
section
variable {G : SG} {s : SV} {x y rest : List SV} {a r r' : Int} {F B : FS} {RR : CR}
theorem blk_nil (i : ckL G [] a F r = RR) : RR = .ok F r := by rw [<- i, ckL_nil]
theorem blk_insbad (i : ckL G (s :: rest) a F r = RR) (h : s.k = 1) {e : Int} (he : trFE G s F = e) (h0 : e ≠ 0) : RR = .bad e a := by
 rw [<- i, ckL_ins h, if_pos (by omega), he]
theorem blk_ins (i : ckL G (s :: rest) a F r = RR) (h : s.k = 1) (he : trFE G s F = 0) (hB : trFF G s F = B) {a' : Int} (ha : a + 1 = a') : ckL G rest a' B r = RR := by
 rw [<- i, ckL_ins h, if_neg (by omega), hB, ha]
theorem blk_nodebad (i : ckL G (s :: (x ++ y ++ rest)) a F r = RR) (h : s.k ≠ 1) (ht : s.thn = (x.length : Int)) (he : s.els = (y.length : Int)) {e a' : Int} (hc : cmpL G s x y a F r = .bad e a') : RR = .bad e a' := by
 rw [<- i, ckL_node h ht he, hc]
theorem blk_node (i : ckL G (s :: (x ++ y ++ rest)) a F r = RR) (h : s.k ≠ 1) (ht : s.thn = (x.length : Int)) (he : s.els = (y.length : Int)) (hc : cmpL G s x y a F r = .ok B r') {a' : Int} (ha : a + 1 + (x.length : Int) + (y.length : Int) = a') : ckL G rest a' B r' = RR := by
 rw [<- i, ckL_node h ht he, hc, ht, he, <- ha]
end
set_option maxRecDepth 20000 in
set_option maxHeartbeats 16000000 in
theorem l5Block_go (HTR : TrSpec) (xs : List SV) (hl : xs.length <= 1048576) (hw : Wl xs) (IH : ∀ ys : List SV, ys.length < xs.length -> Wl ys -> BC ys) : BC xs := by
 intro bH cH nH S bR cR V0 bA cA V z c at' rounds v w lH h1 h2 h3 h4 r0 r1 a0 a1
 obtain ⟨RR, hRR⟩ : ∃ rq, ckL ⟨nH, S, V0⟩ xs at' ⟨V, z, c⟩ rounds = rq := ⟨_, rfl⟩
 rw [hRR]
 have INV0 : Hid (ckL ⟨nH, S, V0⟩ xs (at' + (([] : List SV).length : Int)) ⟨V, z, c⟩ rounds = RR) := (by rw [<- hRR]; simp : ckL ⟨nH, S, V0⟩ xs (at' + (([] : List SV).length : Int)) ⟨V, z, c⟩ rounds = RR)
 clear hRR
 have N1 : Hid (bH < w.heap.size /\ bR < w.heap.size) := ⟨h1.h.lt, h1.r.lt⟩
 have LL : Hid (nH <= 1048576) := lH
 have X0 : Hid (LX w bH cH nH S bR cR V0 bA w.heap.size (w.heap.size + 1) (w.heap.size + 1 + 1) bA cA V z c (((w.alloc (.cells #[.slice (some ⟨bH, 0, none⟩) nH cH, .slice (some ⟨bR, 0, none⟩) 8 cR] 37)).alloc (.cells #[.slice (some ⟨bA, 0, none⟩) 8 cA, .int .i64 z, .int .i64 c] 31)).alloc (.cells oz 53))) := lx_new w h1 h2 h3
 have HL : Hid (SL w v xs) := h4
 obtain ⟨ao, cap, rfl, hcap, hrow⟩ := h4
 have HROW : Hid (InRow w ao (xs.length * 11) (stF (lst xs))) := hrow
 clear h1 h2 h3 lH hrow
 go_enter Tryz.func21, Tryz.ntmps21
 go_upto_region 1 with fail
 unfold oz at X0
 obtain ⟨u, hu⟩ : ∃ y, ((w.alloc (.cells #[.slice (some ⟨bH, 0, none⟩) nH cH, .slice (some ⟨bR, 0, none⟩) 8 cR] 37)).alloc (.cells #[.slice (some ⟨bA, 0, none⟩) 8 cA, .int .i64 z, .int .i64 c] 31)).alloc (.cells #[.int .i64 0, .int .i64 0, .slice none 0 0, .int .i64 0, .int .i64 0, .int .i64 0] 53) = y := ⟨_, rfl⟩
 rw [hu] at X0 ⊢
 obtain ⟨bs, hbs⟩ : ∃ y, w.heap.size = y := ⟨_, rfl⟩
 obtain ⟨bh, hbh⟩ : ∃ y, w.heap.size + 1 = y := ⟨_, rfl⟩
 obtain ⟨br, hbr⟩ : ∃ y, w.heap.size + 1 + 1 = y := ⟨_, rfl⟩
 have X0 : Hid (LX w bH cH nH S bR cR V0 bA bs bh br bA cA V z c u) := by rw [<- hbs, <- hbh, <- hbr]; exact X0
 rw [hbr, hbh, hbs]
 have BO : Hid (w.heap.size = bs /\ bs < bh /\ bh < br) := ⟨hbs, by omega, by omega⟩
 clear hu hbs hbh hbr
 go_wp2_with fail
 go_loopw [4, 11] (fun rv iv wr => ∃ (pre rest : List SV) (rounds : Int) (g cg : Nat) (U : Nat -> VV) (z' c' : Int), rv = .int .i64 rounds /\ iv = .int .i64 (pre.length : Int) /\ Hid (xs = pre ++ rest /\ Wl rest) /\ pre.length + rest.length = xs.length /\ 0 <= rounds /\ rounds <= 1000 /\ Hid (ckL ⟨nH, S, V0⟩ rest (at' + (pre.length : Int)) ⟨U, z', c'⟩ rounds = RR) /\ LX w bH cH nH S bR cR V0 bA bs bh br g cg U z' c' wr) (fun _ iv _ => xs.length - (intOf iv).toNat)
 case atStart => exact ⟨[], xs, rounds, bA, cA, V, z, c, rfl, rfl, ⟨rfl, hw⟩, by simp, r0, r1, INV0, X0.out⟩
 case round =>
  clear X0 r0 r1 hw INV0
  obtain ⟨pre, rest, rounds, g, cg, U, z', c', rfl, rfl, HX, hlen, r0, r1, INV, x⟩ := hrel
  have X : Hid (LX w bH cH nH S bR cR V0 bA bs bh br g cg U z' c' wr) := x
  clear x
  obtain ⟨hxs, hwl⟩ := HX.out
  have hwi := hwl.inv
  clear hwl
  rcases hwi with rfl | ⟨s, rest, rfl, hk, ht, he, hwr⟩ | ⟨s, x, y, rest, rfl, hk, ht, he, hwx, hwy, hwr⟩
  ·
   have hend : ¬ (pre.length : Int) < (xs.length : Int) := by simp at hlen; omega
   obtain ⟨_, ⟨c0, c1, c2⟩, cl1, cl2⟩ := X.out.cells
   obtain ⟨y0, y1, y2, y3, y4, y5, yf, yl⟩ := X.out.res
   have YA : Hid (Arr wr g (8 * 6) (vF U) /\ g ≠ br /\ absOK nH S 8 V0 8 U z' c' = true /\ (g = bA ∨ w.heap.size <= g) /\ Below w.heap.size w wr) := ⟨X.out.A, X.out.ne, X.out.ok, X.out.nw, X.out.bel⟩
   have hbr : bh ≠ br := by have := BO.out; omega
   clear X HX hxs hlen
   go_wp2_with fail
   refine bodyPost_ret (v := outV 0 0 (.slice (some ⟨g, 0, none⟩) 8 cg) z' c' rounds) (by simp [results, Tryz.results21, go_sem, outV, *]) rfl ⟨0, 0, _, _, _, z', c', rounds, rfl, r0, r1, ⟨fun e => absurd rfl e, fun _ => rfl⟩, fun _ => ⟨g, cg, U, rfl, YA.out.2.2.2.1, ?_, YA.out.2.2.1, blk_nil INV.out⟩, ?_⟩
   ·exact arr_set6 YA.out.1 YA.out.2.1 _ _ _ _ _ _
   ·exact below_set6 YA.out.2.2.2.2 (by have := BO.out; omega) _ _ _ _ _ _
  ·
   obtain ⟨b, off, rfl, hat⟩ : ∃ b off, ao = some ⟨b, off, none⟩ /\ At w b off (xs.length * 11) (stF (lst xs)) := by
    rcases HROW.out with h | h
    ·simp at hlen; omega
    ·exact h
   have hplt : pre.length < xs.length := by simp at hlen; omega
   have HAT : Hid (At w b off (xs.length * 11) (stF (lst xs))) := hat
   have hat' : At wr b off (xs.length * 11) (stF (lst (pre ++ s :: rest))) := by rw [<- hxs]; exact hat.below X.out.bel hat.lt
   obtain ⟨k0, k1, k2, k3, k4, k5, k6, k7, k8, k9, k10, kl⟩ := st_in hat' hplt
   have hplt' : (pre.length : Int) < (xs.length : Int) := by omega
   have hwp : IntKind.i64.wrap (at' + (pre.length : Int)) = at' + (pre.length : Int) := by rw [IntKind.wrap_i64] <;> omega
   clear hat hat' hxs
   have HT : Hid (s.thn = 0 /\ s.els = 0 /\ s.k = 1) := ⟨ht, he, hk⟩
   clear ht he hk
   go_upto_region 4 with fail
   obtain ⟨u1, hu1, bu1⟩ : ∃ q, wr.alloc (.cells (stL s).toArray 60) = q /\ Below wr.heap.size wr q := ⟨_, rfl, (Below.refl _ _).alloc (Nat.le_refl _) _⟩
   have q1 := hq_new wr (.cells (stL s).toArray 60)
   rw [hu1] at q1
   unfold stL at hu1 q1
   rw [hu1]
   have X1 : Hid (LX w bH cH nH S bR cR V0 bA bs bh br g cg U z' c' u1) := X.out.below bu1
   have HSB0 : bh < wr.heap.size := X.out.hd.lt
   have HBRS0 : br < wr.heap.size := hq_lt X.out.R
   obtain ⟨sb, hsb⟩ : ∃ q, wr.heap.size = q := ⟨_, rfl⟩
   rw [hsb] at q1 HSB0 HBRS0 ⊢
   have HSB : Hid (sb ≠ bh) := (by omega : sb ≠ bh)
   have HBRS : Hid (br < sb) := HBRS0
   have Q1 : Hid (u1.heap[sb]? = some (.cells (stL s).toArray 60)) := q1
   clear hu1 bu1 q1 hsb HSB0 HBRS0 k0 k1 k2 k3 k4 k5 k6 k7 k8 k9 k10 kl X
   obtain ⟨k0, k7, k8, k9, kl⟩ := stb Q1.out
   rw [HT.out.1] at k8
   rw [HT.out.2.1] at k9
   rw [HT.out.2.2] at k0
   obtain ⟨i1, i2, i3, i4, i5, i6⟩ := stb_ins Q1.out
   obtain ⟨⟨s0, s1⟩, ⟨c0, c1, c2⟩, cl1, cl2⟩ := X1.out.cells
   go_wp2_with fail
   refine (HTR bH cH nH S bR cR V0 g cg U z' c' s.op s.d s.a s.b s.imm s.h u1 LL.out X1.out.sc X1.out.A X1.out.ok).mono ?_
   rintro e u2 ⟨hans, hb⟩
   obtain ⟨err, herr⟩ : ∃ x, trFE ⟨nH, S, V0⟩ s ⟨U, z', c'⟩ = x := ⟨_, rfl⟩
   obtain ⟨F2, hF2⟩ : ∃ x, trFF ⟨nH, S, V0⟩ s ⟨U, z', c'⟩ = x := ⟨_, rfl⟩
   have hans : TrAns u1 u2 e err F2.V F2.z F2.c := by rw [<- herr, <- hF2]; exact hans
   obtain ⟨V2, z2, c2'⟩ := F2
   dsimp only at hans
   have hok : err = 0 -> absOK nH S 8 V0 8 V2 z2 c2' = true := fun e0 => by
    have := FOk.tr (herr.trans e0)
    rw [hF2] at this
    exact this
   have HTE : Hid (trFE ⟨nH, S, V0⟩ s ⟨U, z', c'⟩ = err) := herr
   have HTF : Hid (trFF ⟨nH, S, V0⟩ s ⟨U, z', c'⟩ = ⟨V2, z2, c2'⟩) := hF2
   clear herr hF2
   have X2 : Hid (LX w bH cH nH S bR cR V0 bA bs bh br g cg U z' c' u2) := X1.out.below hb
   have Q2 : Hid (u2.heap[sb]? = some (.cells (stL s).toArray 60)) := hq_below Q1.out hb
   have hbr1 : br < u1.heap.size := hq_lt X1.out.R
   have hw1 : w.heap.size <= u1.heap.size := X1.out.bel.size
   clear hb X1 Q1 s0 s1 c0 c1 c2 cl1 cl2 i1 i2 i3 i4 i5 i6 k0 k7 k8 k9 kl
   rcases hans with ⟨hne, rfl⟩ | ⟨rfl, g2, cg2, hg2, rfl, A2⟩
   ·go_wp2_with fail
    refine (l5Bad_any _ _ _ _).mono ?_
    rintro e t ⟨rfl, hb⟩
    have Y : Hid (LX w bH cH nH S bR cR V0 bA bs bh br g cg U z' c' t) := (X2.out.below ((Below.refl _ _).alloc (Nat.le_refl _) _)).below hb
    obtain ⟨y0, y1, y2, y3, y4, y5, yf, yl⟩ := Y.out.res
    unfold outV
    clear hok
    go_wp2_with fail
    refine bodyPost_ret (v := outV err (at' + (pre.length : Int)) (.slice none 0 0) 0 0 rounds) (by simp [results, Tryz.results21, go_sem, outV, *]) rfl ⟨err, _, none, 0, 0, 0, 0, rounds, rfl, r0, r1, ⟨fun _ => blk_insbad INV.out HT.out.2.2 HTE.out hne, fun e => absurd e hne⟩, fun e => absurd e hne, ?_⟩
    exact below_set6 Y.out.bel (by have := BO.out; omega) _ _ _ _ _ _
   ·have OK2 : Hid (absOK nH S 8 V0 8 V2 z2 c2' = true) := hok rfl
    have bn : Below u2.heap.size u2 (u2.alloc (.cells #[.int .i64 0, .slice (some ⟨g2, 0, none⟩) 8 cg2, .int .i64 z2, .int .i64 c2'] 105)) := (Below.refl _ _).alloc (Nat.le_refl _) _
    have n3 := hq_new u2 (.cells #[.int .i64 0, .slice (some ⟨g2, 0, none⟩) 8 cg2, .int .i64 z2, .int .i64 c2'] 105)
    obtain ⟨u3, hu3⟩ : ∃ q, u2.alloc (.cells #[.int .i64 0, .slice (some ⟨g2, 0, none⟩) 8 cg2, .int .i64 z2, .int .i64 c2'] 105) = q := ⟨_, rfl⟩
    rw [hu3] at bn n3
    have X3 : Hid (LX w bH cH nH S bR cR V0 bA bs bh br g cg U z' c' u3) := X2.out.below bn
    have Q3 : Hid (u3.heap[sb]? = some (.cells (stL s).toArray 60)) := hq_below Q2.out bn
    have A3 : Hid (Arr u3 g2 (8 * 6) (vF V2)) := A2.below bn A2.lt
    have m0 := (hq_cell n3 0).trans rfl
    have m1 := (hq_cell n3 1).trans rfl
    have m2 := (hq_cell n3 2).trans rfl
    have m3 := (hq_cell n3 3).trans rfl
    have ml := hq_lt n3
    go_upto_region 7 with fail
    obtain ⟨nt, hnt⟩ : ∃ q, u2.heap.size = q := ⟨_, rfl⟩
    rw [hnt] at m0 m1 m2 m3 ml ⊢
    clear hu3 bn n3 hnt A2 hok X2 Q2
    obtain ⟨_, ⟨c0, c1, c2⟩, cl1, cl2⟩ := X3.out.cells
    have hf := X3.out.hd.free
    obtain ⟨k0, k7, k8, k9, kl⟩ := stb Q3.out
    rw [HT.out.1] at k8
    rw [HT.out.2.1] at k9
    have hsbh : sb ≠ bh := HSB.out
    have Y : Hid (LX w bH cH nH S bR cR V0 bA bs bh br g2 cg2 V2 z2 c2' (((u3.setCell ⟨bh, 0, none⟩ (.slice (some ⟨g2, 0, none⟩) 8 cg2)).setCell ⟨bh, 1, none⟩ (.int .i64 z2)).setCell ⟨bh, 2, none⟩ (.int .i64 c2'))) := X3.out.put A3.out OK2.out (Or.inr (by omega)) (by omega) (by have := BO.out; omega) (by have := N1.out; have := BO.out; omega) (by have := N1.out; have := BO.out; omega)
    have hpl : (pre.length : Int) < 1048576 := by have := hlen; simp at this; omega
    clear X3 A3 Q3
    go_wp2_with fail
    go_roundw
    case rel => exact ⟨pre ++ [s], rest, rounds, g2, cg2, V2, z2, c2', rfl, by simp; try omega, ⟨by rw [HX.out.1]; simp, hwr⟩, by simp at hlen ⊢; omega, r0, r1, blk_ins INV.out HT.out.2.2 HTE.out HTF.out (by rw [List.length_append]; simp; omega), Y.out⟩
    case measure => simp [intOf] at hlen ⊢; omega
  ·
   obtain ⟨b, off, rfl, hat⟩ : ∃ b off, ao = some ⟨b, off, none⟩ /\ At w b off (xs.length * 11) (stF (lst xs)) := by
    rcases HROW.out with h | h
    ·simp at hlen; omega
    ·exact h
   have hplt : pre.length < xs.length := by simp at hlen; omega
   have HAT : Hid (At w b off (xs.length * 11) (stF (lst xs))) := hat
   have hat' : At wr b off (xs.length * 11) (stF (lst (pre ++ s :: (x ++ y ++ rest)))) := by rw [<- hxs]; exact hat.below X.out.bel hat.lt
   obtain ⟨k0, k1, k2, k3, k4, k5, k6, k7, k8, k9, k10, kl⟩ := st_in hat' hplt
   have hplt' : (pre.length : Int) < (xs.length : Int) := by omega
   have hwp : IntKind.i64.wrap (at' + (pre.length : Int)) = at' + (pre.length : Int) := by rw [IntKind.wrap_i64] <;> omega
   clear hat hat' hxs
   have HT : Hid (s.thn = (x.length : Int) /\ s.els = (y.length : Int)) := ⟨ht, he⟩
   have hsum : pre.length + 1 + x.length + y.length + rest.length = xs.length := by simp at hlen; omega
   have HSUM : Hid (pre.length + 1 + x.length + y.length + rest.length = xs.length) := hsum
   clear ht he
   go_upto_region 4 with fail
   obtain ⟨u1, hu1, bu1⟩ : ∃ q, wr.alloc (.cells (stL s).toArray 60) = q /\ Below wr.heap.size wr q := ⟨_, rfl, (Below.refl _ _).alloc (Nat.le_refl _) _⟩
   have q1 := hq_new wr (.cells (stL s).toArray 60)
   rw [hu1] at q1
   unfold stL at hu1 q1
   rw [hu1]
   have X1 : Hid (LX w bH cH nH S bR cR V0 bA bs bh br g cg U z' c' u1) := X.out.below bu1
   have HSB0 : bh < wr.heap.size := X.out.hd.lt
   have HBRS0 : br < wr.heap.size := hq_lt X.out.R
   obtain ⟨sb, hsb⟩ : ∃ q, wr.heap.size = q := ⟨_, rfl⟩
   rw [hsb] at q1 HSB0 HBRS0 ⊢
   have HSB : Hid (sb ≠ bh) := (by omega : sb ≠ bh)
   have HBRS : Hid (br < sb) := HBRS0
   have Q1 : Hid (u1.heap[sb]? = some (.cells (stL s).toArray 60)) := q1
   clear hu1 bu1 q1 hsb HSB0 HBRS0 k0 k1 k2 k3 k4 k5 k6 k7 k8 k9 k10 kl X
   obtain ⟨k0, k7, k8, k9, kl⟩ := stb Q1.out
   rw [HT.out.1] at k8
   rw [HT.out.2] at k9
   have hk' : ¬ s.k = 1 := hk
   go_upto_region 10 with fail
   clear k0 k7 k8 k9 kl
   obtain ⟨RC, hRC⟩ : ∃ q, cmpL ⟨nH, S, V0⟩ s x y (at' + (pre.length : Int)) ⟨U, z', c'⟩ rounds = q := ⟨_, rfl⟩
   have HRC : Hid (cmpL ⟨nH, S, V0⟩ s x y (at' + (pre.length : Int)) ⟨U, z', c'⟩ rounds = RC) := hRC
   clear hRC
   go_cut [15] (fun s15 wx => ∃ (ny : Nat) (err3 at3 : Int) (ao3 : Option Addr) (m3 cap3 : Nat) (z3 c3 r3 : Int), s15 = .pointer (some ⟨ny, 0, none⟩) /\ sb < ny /\ 0 <= r3 /\ r3 <= 1000 /\ LX w bH cH nH S bR cR V0 bA bs bh br g cg U z' c' wx /\ wx.heap[sb]? = some (.cells (stL s).toArray 60) /\ YB RC nH S V0 g sb ny err3 at3 ao3 m3 cap3 z3 c3 r3 wx)
   case first =>
    have j0 : ∀ w', Below u1.heap.size u1 w' -> w'.cell? ⟨bs, 0, none⟩ = some (.slice (some ⟨bH, 0, none⟩) nH cH) := fun w' h => (X1.out.below h).cells.1.1
    have j1 : ∀ w', Below u1.heap.size u1 w' -> w'.cell? ⟨bs, 1, none⟩ = some (.slice (some ⟨bR, 0, none⟩) 8 cR) := fun w' h => (X1.out.below h).cells.1.2
    have j2 : ∀ w', Below u1.heap.size u1 w' -> w'.cell? ⟨bh, 0, none⟩ = some (.slice (some ⟨g, 0, none⟩) 8 cg) := fun w' h => (X1.out.below h).cells.2.1.1
    have j3 : ∀ w', Below u1.heap.size u1 w' -> w'.cell? ⟨bh, 1, none⟩ = some (.int .i64 z') := fun w' h => (X1.out.below h).cells.2.1.2.1
    have j4 : ∀ w', Below u1.heap.size u1 w' -> w'.cell? ⟨bh, 2, none⟩ = some (.int .i64 c') := fun w' h => (X1.out.below h).cells.2.1.2.2
    have j5 : ∀ w', Below u1.heap.size u1 w' -> w'.cell? ⟨sb, 8, none⟩ = some (.int .i64 (x.length : Int)) := fun w' h => by rw [<- HT.out.1]; exact (stb (hq_below Q1.out h)).2.2.1
    have j6 : ∀ w', Below u1.heap.size u1 w' -> w'.cell? ⟨sb, 9, none⟩ = some (.int .i64 (y.length : Int)) := fun w' h => by rw [<- HT.out.2]; exact (stb (hq_below Q1.out h)).2.2.2.1
    have hsb1 : sb < u1.heap.size := hq_lt Q1.out
    obtain ⟨i1, hi1⟩ : ∃ q : Nat, q = pre.length + 1 + x.length + y.length := ⟨_, rfl⟩
    obtain ⟨pa, hpa⟩ : ∃ q : Nat, q = pre.length + 1 := ⟨_, rfl⟩
    obtain ⟨pb, hpb⟩ : ∃ q : Nat, q = pre.length + 1 + x.length := ⟨_, rfl⟩
    have wa : IntKind.i64.wrap ((pre.length : Int) + 1) = (pa : Int) := by rw [IntKind.wrap_i64] <;> omega
    have wb : IntKind.i64.wrap ((pa : Int) + (x.length : Int)) = (pb : Int) := by rw [IntKind.wrap_i64] <;> omega
    have wc : IntKind.i64.wrap ((pb : Int) + (y.length : Int)) = (i1 : Int) := by rw [IntKind.wrap_i64] <;> omega
    have hz1 : i1 <= xs.length := by omega
    have hz2 : pre.length <= i1 := by omega
    have hz3 : i1 <= cap := by omega
    have hz4 : (i1 : Int) <= (cap : Int) := by omega
    have hz5 : (pre.length : Int) <= (i1 : Int) := by omega
    clear hpa hpb
    have HI1 : Hid (i1 = pre.length + 1 + x.length + y.length) := hi1
    clear hsum hi1
    refine wp_region_held_drew (S := fun w' => Below u1.heap.size u1 w') (by kernel_rfl) (Below.refl _ _).drew (fun _ => ?_)
    refine wpAnyH_ta 0 rfl ?_
    refine wpAnyH_ta 1 rfl ?_
    refine wpAnyH_ta 2 rfl ?_
    refine wpAnyH_ta 3 rfl ?_
    refine wpAnyH_ta 4 rfl ?_
    refine wpAnyH_ta 5 rfl ?_
    refine wpAnyH_ta 6 rfl ?_
    refine wpAnyH_ta 7 rfl ?_
    refine wpAnyH_ta 8 rfl ?_
    refine wpAnyH_ta 9 rfl ?_
    refine wpAnyH_ta 10 rfl ?_
    refine wpAnyH_tk 11 (.slice (if cap = pre.length then some ⟨b, off, none⟩ else some ⟨b, off + pre.length * 11, none⟩) (i1 - pre.length) (cap - pre.length)) rfl ?kby ?kbr
    case kby => (intro w hSw; (try dsimp only at hSw); go_simp; first | done | (rw [if_pos (by omega)]; simp))
    try simp only [Act.put, List.getElem_toArray, List.getElem_cons_zero, List.getElem_cons_succ, List.setIfInBounds_toArray, List.set_cons_zero, List.set_cons_succ]
    refine wpAnyH_ta 12 rfl ?_
    refine wpAnyH_ta 13 rfl ?_
    refine wpAnyH_ta 14 rfl ?_
    obtain ⟨ev, hev, HE⟩ : ∃ q, Value.slice (if cap = pre.length then some ⟨b, off, none⟩ else some ⟨b, off + pre.length * 11, none⟩) (i1 - pre.length) (cap - pre.length) = q /\ Hid (SL u1 q (s :: (x ++ y))) := ⟨_, rfl, sl_cut (L := xs) (i := pre.length) (HAT.out.below X1.out.bel HAT.out.lt) (by rw [HX.out.1, List.drop_left, List.length_cons, List.take_succ_cons, List.take_left]) hcap (by have := HSUM.out; simp; omega) rfl (by have := HI1.out; simp; omega) rfl⟩
    rw [hev]
    clear hev
    have hbd : Below u1.heap.size u1 u1.drew := (Below.refl _ _).drew
    generalize u1.drew = t0 at hbd ⊢
    have hxl : x.length + y.length <= 1048576 := by have := HSUM.out; omega
    have hx1 : x.length < xs.length := by have := HSUM.out; omega
    have hy1 : y.length < xs.length := by have := HSUM.out; omega
    have CC : Hid (∀ t, Below u1.heap.size u1 t -> Calls Tryz.prog 45 #[.agg #[.slice (some ⟨bH, 0, none⟩) nH cH, .slice (some ⟨bR, 0, none⟩) 8 cR], ev, .int .i64 (at' + (pre.length : Int)), .agg #[.slice (some ⟨g, 0, none⟩) 8 cg, .int .i64 z', .int .i64 c'], .int .i64 rounds] t (BlkR RC nH S V0 g t)) := fun t ht => HRC.out ▸ l5Compound_any s x y HT.out.1 HT.out.2 (IH x hx1 hwx) (IH y hy1 hwy) bH cH nH S bR cR V0 g cg U z' c' _ rounds ev t LL.out (X1.out.below ht).sc (X1.out.below ht).A X1.out.ok (HE.out.below ht) hxl r0 r1 (by omega) (by have := HSUM.out; omega)
    refine wpAnyH_ready (rs := [15, 16]) (by kernel_rfl) (by simp) ?_
    refine AllReadyH.cons rfl (fun KK hK => ?_) (AllReadyH.cons rfl (fun KK hK => ?_) AllReadyH.nil)
    ·go_simp
     refine (CC.out t0 hbd).mono ?_
     rintro e t1 ⟨err3, at3, ao3, m3, cap3, z3, c3, r3, rfl, p0, p1, hbd3, hab, hb⟩
     have hB1 : Below u1.heap.size u1 t1 := hbd.trans (hb.mono hbd.size)
     refine hK.out _ _ hB1 (fun _ => ?_)
     clear hK KK
     unfold outV
     try simp only [Act.put, List.getElem_toArray, List.getElem_cons_zero, List.getElem_cons_succ, List.setIfInBounds_toArray, List.set_cons_zero, List.set_cons_succ]
     refine wpAnyH_ready (rs := [16]) (by kernel_rfl) (by simp) ?_
     refine AllReadyH.cons rfl (fun KK hK => ?_) AllReadyH.nil
     go_simp
     refine hK.out _ _ (hB1.alloc hB1.size _) (fun _ => ?_)
     clear hK KK
     try simp only [Act.put, List.getElem_toArray, List.getElem_cons_zero, List.getElem_cons_succ, List.setIfInBounds_toArray, List.set_cons_zero, List.set_cons_succ]
     refine wpAnyH_ready (rs := [17]) (by kernel_rfl) (by simp) ?_
     refine AllReadyH.cons rfl (fun KK hK => ?_) AllReadyH.nil
     go_simp
     refine hK.out _ _ (hB1.alloc hB1.size _) (fun _ => ?_)
     clear hK KK
     refine wpAnyH_done (by kernel_rfl) ?_ _
     have bn : Below t1.heap.size t1 (t1.alloc (.cells #[.int .i64 err3, .int .i64 at3, .slice ao3 m3 cap3, .int .i64 z3, .int .i64 c3, .int .i64 r3] 53)) := (Below.refl _ _).alloc (Nat.le_refl _) _
     have hab' : err3 = 0 -> AbIn RC r3 nH S V0 g sb t1 (.slice ao3 m3 cap3) z3 c3 := fun e => by
      obtain ⟨g', cg', U', h1, h2, h3, h4⟩ := hab e
      exact ⟨g', cg', U', h1, by have := hbd.size; omega, h3, h4⟩
     have RES : Hid (LX w bH cH nH S bR cR V0 bA bs bh br g cg U z' c' (t1.alloc (.cells #[.int .i64 err3, .int .i64 at3, .slice ao3 m3 cap3, .int .i64 z3, .int .i64 c3, .int .i64 r3] 53)) /\ (t1.alloc (.cells #[.int .i64 err3, .int .i64 at3, .slice ao3 m3 cap3, .int .i64 z3, .int .i64 c3, .int .i64 r3] 53)).heap[sb]? = some (.cells (stL s).toArray 60) /\ YB RC nH S V0 g sb t1.heap.size err3 at3 ao3 m3 cap3 z3 c3 r3 (t1.alloc (.cells #[.int .i64 err3, .int .i64 at3, .slice ao3 m3 cap3, .int .i64 z3, .int .i64 c3, .int .i64 r3] 53))) := ⟨(X1.out.below hB1).below bn, hq_below (hq_below Q1.out hB1) bn, yb_new hab' hbd3⟩
     have hn1 : sb < t1.heap.size := by have := hB1.size; omega
     clear hab hab' hbd3 hb hB1 bn j0 j1 j2 j3 j4 j5 j6
     go_wp2_with fail
     go_meet
     exact ⟨t1.heap.size, err3, at3, ao3, m3, cap3, z3, c3, r3, rfl, hn1, p0, p1, RES.out.1, RES.out.2.1, RES.out.2.2⟩
    ·go_simp
     obtain ⟨t1, ht1, bn, n1⟩ : ∃ q, t0.alloc (.cells #[.int .i64 0, .int .i64 0, .slice none 0 0, .int .i64 0, .int .i64 0, .int .i64 0] 53) = q /\ Below t0.heap.size t0 q /\ q.heap[t0.heap.size]? = some (.cells #[.int .i64 0, .int .i64 0, .slice none 0 0, .int .i64 0, .int .i64 0, .int .i64 0] 53) := ⟨_, rfl, (Below.refl _ _).alloc (Nat.le_refl _) _, hq_new _ _⟩
     rw [ht1]
     have hB1 : Below u1.heap.size u1 t1 := hbd.trans (bn.mono hbd.size)
     refine hK.out _ _ hB1 (fun _ => ?_)
     clear hK KK
     try simp only [Act.put, List.getElem_toArray, List.getElem_cons_zero, List.getElem_cons_succ, List.setIfInBounds_toArray, List.set_cons_zero, List.set_cons_succ]
     refine wpAnyH_ready (rs := [15]) (by kernel_rfl) (by simp) ?_
     refine AllReadyH.cons rfl (fun KK hK => ?_) AllReadyH.nil
     go_simp
     refine (CC.out t1 hB1).mono ?_
     rintro e t2 ⟨err3, at3, ao3, m3, cap3, z3, c3, r3, rfl, p0, p1, hbd3, hab, hb⟩
     have hB2 : Below u1.heap.size u1 t2 := hB1.trans (hb.mono hB1.size)
     refine hK.out _ _ hB2 (fun _ => ?_)
     clear hK KK
     unfold outV
     try simp only [Act.put, List.getElem_toArray, List.getElem_cons_zero, List.getElem_cons_succ, List.setIfInBounds_toArray, List.set_cons_zero, List.set_cons_succ]
     have n2 := hq_below n1 hb
     have f0 := (hq_cell n2 0).trans rfl
     have f1 := (hq_cell n2 1).trans rfl
     have f2 := (hq_cell n2 2).trans rfl
     have f3 := (hq_cell n2 3).trans rfl
     have f4 := (hq_cell n2 4).trans rfl
     have f5 := (hq_cell n2 5).trans rfl
     have ff := hq_free n2
     have fl := hq_lt n2
     have hnA : g ≠ t0.heap.size := by have := (X1.out.below hbd).A.lt; omega
     have hny : t0.heap.size < t1.heap.size := hq_lt n1
     have hu4 : u1.heap.size <= t0.heap.size := hbd.size
     obtain ⟨ny, hnye⟩ : ∃ q, t0.heap.size = q := ⟨_, rfl⟩
     rw [hnye] at n2 f0 f1 f2 f3 f4 f5 ff fl hnA hny hu4 ⊢
     have hYB : YB RC nH S V0 g sb ny err3 at3 ao3 m3 cap3 z3 c3 r3 (set6 t2 ny (.int .i64 err3) (.int .i64 at3) (.slice ao3 m3 cap3) (.int .i64 z3) (.int .i64 c3) (.int .i64 r3)) := by
      refine ⟨hq_set6 n2 _ _ _ _ _ _, fun e => ?_, hbd3⟩
      obtain ⟨g', cg', U', h1, h2, h3, h4⟩ := hab e
      have hne : g' ≠ ny := by omega
      exact ⟨g', cg', U', h1, by omega, hne, arr_set6 h3 hne _ _ _ _ _ _, h4⟩
     have bs6 : Below u1.heap.size u1 (set6 t2 ny (.int .i64 err3) (.int .i64 at3) (.slice ao3 m3 cap3) (.int .i64 z3) (.int .i64 c3) (.int .i64 r3)) := below_set6 hB2 hu4 _ _ _ _ _ _
     have RES : Hid (LX w bH cH nH S bR cR V0 bA bs bh br g cg U z' c' (set6 t2 ny (.int .i64 err3) (.int .i64 at3) (.slice ao3 m3 cap3) (.int .i64 z3) (.int .i64 c3) (.int .i64 r3)) /\ ((set6 t2 ny (.int .i64 err3) (.int .i64 at3) (.slice ao3 m3 cap3) (.int .i64 z3) (.int .i64 c3) (.int .i64 r3))).heap[sb]? = some (.cells (stL s).toArray 60) /\ YB RC nH S V0 g sb ny err3 at3 ao3 m3 cap3 z3 c3 r3 (set6 t2 ny (.int .i64 err3) (.int .i64 at3) (.slice ao3 m3 cap3) (.int .i64 z3) (.int .i64 c3) (.int .i64 r3))) := ⟨X1.out.below bs6, hq_below Q1.out bs6, hYB⟩
     have hn1 : sb < ny := by omega
     clear hab hbd3 hb hYB n1 n2 ht1 bn hnye
     refine wpAnyH_ready (rs := [17]) (by kernel_rfl) (by simp) ?_
     refine AllReadyH.cons rfl (fun KK hK => ?_) AllReadyH.nil
     go_simp
     refine hK.out _ _ bs6 (fun _ => ?_)
     clear hK KK bs6 f0 f1 f2 f3 f4 f5 ff fl j0 j1 j2 j3 j4 j5 j6
     refine wpAnyH_done (by kernel_rfl) ?_ _
     go_wp2_with fail
     go_meet
     exact ⟨ny, err3, at3, ao3, m3, cap3, z3, c3, r3, rfl, hn1, p0, p1, RES.out.1, RES.out.2.1, RES.out.2.2⟩
   case rest =>
   obtain ⟨ny, err3, at3, ao3, m3, cap3, z3, c3, r3, rfl, hsn, p0, p1, l5, q5, y5⟩ := hcut
   have X5 : Hid (LX w bH cH nH S bR cR V0 bA bs bh br g cg U z' c' wc) := l5
   have Q5 : Hid (wc.heap[sb]? = some (.cells (stL s).toArray 60)) := q5
   have Y5 : Hid (YB RC nH S V0 g sb ny err3 at3 ao3 m3 cap3 z3 c3 r3 wc) := y5
   have hbr1 : br < sb := HBRS.out
   have hws : w.heap.size <= sb := by have := BO.out; omega
   clear l5 q5 y5 X1 Q1
   generalize wc = u5 at X5 Q5 Y5 ⊢
   obtain ⟨v0, v1, v2, v3, v4, v5, vf, vl⟩ := Y5.out.cells
   by_cases hy0 : err3 = 0
   rotate_left
   ·obtain ⟨y0, y1, y2, y3, y4, y5, yf, yl⟩ := X5.out.res
    go_wp2_with fail
    refine bodyPost_ret (v := outV err3 at3 (.slice ao3 m3 cap3) z3 c3 r3) (by simp [results, Tryz.results21, go_sem, outV, *]) rfl ⟨err3, at3, ao3, m3, cap3, z3, c3, r3, rfl, p0, p1, ⟨fun _ => blk_nodebad INV.out hk' HT.out.1 HT.out.2 (HRC.out.trans (Y5.out.bd.1 hy0)), fun e => absurd e hy0⟩, fun e => absurd e hy0, ?_⟩
    exact below_set6 X5.out.bel (by have := BO.out; omega) _ _ _ _ _ _
   subst hy0
   obtain ⟨gy, cgy, Uy, hvy, nwy, nny, Ay, oky, hRy⟩ := Y5.out.ab rfl
   have HRY : Hid (cmpL ⟨nH, S, V0⟩ s x y (at' + (pre.length : Int)) ⟨U, z', c'⟩ rounds = .ok ⟨Uy, z3, c3⟩ r3) := HRC.out.trans hRy
   clear hRy
   simp only [Value.slice.injEq] at hvy
   obtain ⟨rfl, rfl, rfl⟩ := hvy
   obtain ⟨_, ⟨c0, c1, c2⟩, cl1, cl2⟩ := X5.out.cells
   have hf := X5.out.hd.free
   obtain ⟨k0, k7, k8, k9, kl⟩ := stb Q5.out
   rw [HT.out.1] at k8
   rw [HT.out.2] at k9
   have hsbh : sb ≠ bh := HSB.out
   have hnbh : ny ≠ bh := by have := BO.out; omega
   have hgbh : g ≠ bh := X5.out.nh
   have Y : Hid (LX w bH cH nH S bR cR V0 bA bs bh br gy cap3 Uy z3 c3 (((u5.setCell ⟨bh, 0, none⟩ (.slice (some ⟨gy, 0, none⟩) 8 cap3)).setCell ⟨bh, 1, none⟩ (.int .i64 z3)).setCell ⟨bh, 2, none⟩ (.int .i64 c3))) := X5.out.put Ay oky (by have := X5.out.nw; omega) (by have := X5.out.ne; omega) (by have := BO.out; omega) (by have := N1.out; have := BO.out; omega) (by have := N1.out; have := BO.out; omega)
   have hpl : (pre.length : Int) + 1 + (x.length : Int) + (y.length : Int) <= 1048576 := by have := HSUM.out; omega
   clear X5 Y5 Q5 Ay oky nwy nny
   go_wp2_with fail
   go_roundw
   case rel => exact ⟨pre ++ s :: (x ++ y), rest, r3, gy, cap3, Uy, z3, c3, rfl, by simp; try omega, ⟨by rw [HX.out.1]; simp, hwr⟩, by have := HSUM.out; simp; omega, p0, p1, blk_node INV.out hk' HT.out.1 HT.out.2 HRY.out (by simp; omega), Y.out⟩
   case measure => have := HSUM.out; simp [intOf]; omega
theorem l5Block_any (HTR : TrSpec) (xs : List SV) (hl : xs.length <= 1048576) (hw : Wl xs) : BC xs := by
 have H : ∀ (n : Nat) (ys : List SV), ys.length <= n -> ys.length <= 1048576 -> Wl ys -> BC ys := by
  intro n
  induction n with
  | zero => intro ys h1 h2 h3; exact l5Block_go HTR ys h2 h3 (fun zs hz => by omega)
  | succ n ih => intro ys h1 h2 h3; exact l5Block_go HTR ys h2 h3 (fun zs hz hw => ih zs (by omega) (by omega) hw)
 exact H _ xs (Nat.le_refl _) hl hw
end Go.Proofs.YtcgcldokompafaaGreatDoor
