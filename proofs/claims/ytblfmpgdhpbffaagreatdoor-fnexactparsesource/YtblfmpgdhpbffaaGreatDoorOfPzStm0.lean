import Derived.Test.YtblfmpgdhpbffaaGreatDoorOfPzCell
import Derived.Test.YtblfmpgdhpbffaaGreatDoorPzPut
import Derived.Test.YtblfmpgdhpbffaaGreatDoorOfRdMark
import Derived.Test.YtblfmpgdhpbffaaGreatDoorOfInsSame
/- spec.l6Close. -/
namespace Go.Proofs.YtblfmpgdhpbffaaGreatDoor
open Go.RowKit

theorem op_row (o : OV) (os : List OV) : (o :: os).reverse.flatMap ovL = os.reverse.flatMap ovL ++ ovL o := by simp
/-- The innermost open block is written. -/
theorem MS.setO {w : World} {B g c m : Nat} {S : PS} {sH sR sP sN : Sl} {bv : List Value} {o o' : OV} {os : List OV} (h : MS w B S sH sR sP sN ⟨some ⟨g, 0, none⟩, m, c⟩ bv) (hop : S.op = o :: os) (ha : o'.at' = o.at') :
    MS (setW w g (os.length * 3) (ovL o')) B { S with op := o' :: os } sH sR sP sN ⟨some ⟨g, 0, none⟩, m, c⟩ bv ∧ (B ≤ w.heap.size → Fm tsM B w (setW w g (os.length * 3) (ovL o'))) := by
  have ho : w.ownsRow B 96 3 (.slice (some ⟨g, 0, none⟩) m c) S.op.length (S.op.reverse.flatMap ovL) := h.R.own 1 _ rfl
  have hm := row_n ho
  subst hm
  obtain ⟨s1, s2⟩ := stored_all (ovL o') w _ (os.length * 3) ho
  have e : setL (S.op.reverse.flatMap ovL) (os.length * 3) (ovL o') = (o' :: os).reverse.flatMap ovL := by
    have q := fm_setL ovL 3 (fun _ => rfl) (os.reverse ++ [o]) os.length o' (by simp)
    rw [hop, List.reverse_cons, q, set_last _ _ _ _ (by simp), List.reverse_cons]
  rw [e] at s1
  have hol := h.I.ol
  have hod := h.I.od
  rw [hop] at hol hod
  refine ⟨⟨?_, h.L, ⟨h.I.st, h.I.d, h.I.hs, h.I.rg, h.I.gv, h.I.ps, fun e => (by have := h.I.op e; rw [hop] at this; cases this), fun q hq => (by
    rcases List.mem_cons.1 hq with rfl | hq
    · rw [ha]; exact hol o (by simp)
    · exact hol q (by simp [hq])), List.Pairwise.cons (fun q hq => by rw [ha]; exact (List.pairwise_cons.1 hod).1 q hq) (List.pairwise_cons.1 hod).2⟩⟩, fun hB => Fm.of_grow ho (Nat.le_refl _) s2 hB (by decide)⟩
  have q := h.R.grow (j := 1) (r := ⟨96, 3, .slice (some ⟨g, 0, none⟩) S.op.length c, S.op.length, S.op.reverse.flatMap ovL⟩) (r' := ⟨96, 3, .slice (some ⟨g, 0, none⟩) S.op.length c, (o' :: os).length, (o' :: os).reverse.flatMap ovL⟩) rfl s2 (by unfold Rw.own; rw [hop] at s1 ⊢; exact s1) (.inl rfl)
  exact q
theorem MS.opC {w : World} {B g c m : Nat} {S : PS} {sH sR sP sN : Sl} {bv : List Value} {o : OV} {os : List OV} (h : MS w B S sH sR sP sN ⟨some ⟨g, 0, none⟩, m, c⟩ bv) (hop : S.op = o :: os) :
    w.cell? ⟨g, os.length * 3, none⟩ = some (.int .i64 (o.at' : Int)) ∧ w.cell? ⟨g, os.length * 3 + 1, none⟩ = some (.int .i64 o.th) ∧ w.cell? ⟨g, os.length * 3 + 2, none⟩ = some (.bool o.els) := by
  have ho : w.ownsRow B 96 3 (.slice (some ⟨g, 0, none⟩) m c) S.op.length (S.op.reverse.flatMap ovL) := h.R.own 1 _ rfl
  have hm := row_n ho
  subst hm
  have key : ∀ j, j < 3 → w.cell? ⟨g, os.length * 3 + j, none⟩ = (ovL o)[j]? := fun j hj => by
    rw [ho.cellAt _ (by rw [hop]; simp only [List.length_cons]; omega), hop, List.reverse_cons]
    exact fm_get ovL 3 (fun _ => rfl) (os.reverse ++ [o]) os.length j o (get_last _ _ _ (by simp)) hj
  exact ⟨key 0 (by omega), key 1 (by omega), key 2 (by omega)⟩
/-- The innermost open block is open no more. -/
theorem MS.popO {w : World} {B g c m : Nat} {S : PS} {sH sR sP sN : Sl} {bv : List Value} {o : OV} {os : List OV} (h : MS w B S sH sR sP sN ⟨some ⟨g, 0, none⟩, m, c⟩ bv) (hop : S.op = o :: os) :
    MS w B { S with op := os } sH sR sP sN ⟨some ⟨g, 0, none⟩, os.length, c⟩ bv := by
  have ho : w.ownsRow B 96 3 (.slice (some ⟨g, 0, none⟩) m c) S.op.length (S.op.reverse.flatMap ovL) := h.R.own 1 _ rfl
  have hm := row_n ho
  subst hm
  have ho2 := ho
  rw [hop, op_row] at ho2
  have s1 : w.ownsRow B 96 3 (.slice (some ⟨g, 0, none⟩) os.length c) os.length (os.reverse.flatMap ovL) := ownsRow_pop (by rw [fm_len ovL 3 (fun _ => rfl)]; simp) ho2
  have hol := h.I.ol
  have hod := h.I.od
  rw [hop] at hol hod
  refine ⟨?_, h.L, ⟨h.I.st, h.I.d, h.I.hs, h.I.rg, h.I.gv, h.I.ps, fun e => (by have := h.I.op e; rw [hop] at this; cases this), fun q hq => hol q (by simp [show q ∈ os from hq]), (List.pairwise_cons.1 hod).2⟩⟩
  have q := h.R.grow (w' := w) (j := 1) (r := ⟨96, 3, .slice (some ⟨g, 0, none⟩) S.op.length c, S.op.length, S.op.reverse.flatMap ovL⟩) (r' := ⟨96, 3, .slice (some ⟨g, 0, none⟩) os.length c, os.length, os.reverse.flatMap ovL⟩) rfl (gr_reflZ _ _) s1 (.inl rfl)
  exact q
/-- Cells of the last procedure's statements are written. -/
theorem Rws.bodySetL {w : World} {B g n c j : Nat} {ex : List Rw} {hs : List HS} {rg : List VV} {ip : List (List SV)} {b b' : List SV} {vH vR vP : Value} {vs ib : List Value} (h : Rws w B (srcR ex hs rg (ip ++ [b]) vH vR vP (ib ++ [.slice (some ⟨g, 0, none⟩) n c]))) (hl : ib.length = ip.length) (hb : b'.length = b.length) (hu : setL (cs b) j vs = cs b') :
    Rws (setW w g j vs) B (srcR ex hs rg (ip ++ [b']) vH vR vP (ib ++ [.slice (some ⟨g, 0, none⟩) n c])) ∧ w.grownBy (setW w g j vs) (some g) := by
  have ho : w.ownsRow B 93 11 (.slice (some ⟨g, 0, none⟩) n c) b.length (cs b) := h.own _ _ (srcR_last hl)
  have hn := row_n ho
  subst hn
  obtain ⟨s1, s2⟩ := stored_all vs w _ j ho
  rw [hu] at s1
  refine ⟨?_, s2⟩
  have h1 := h.grow (j := ex.length + (ib.length + 3)) (r' := ⟨93, 11, .slice (some ⟨g, 0, none⟩) b.length c, b'.length, cs b'⟩) (srcR_last hl) s2 (by unfold Rw.own; rw [hb]; exact s1) (.inl rfl)
  rw [srcR_setL hl] at h1
  exact h1
theorem MS.putC {w : World} {B g n c j : Nat} {S : PS} {sH sR sP sN sO : Sl} {ib vs : List Value} {b' : List SV} (h : MS w B S sH sR sP sN sO (ib ++ [.slice (some ⟨g, 0, none⟩) n c])) (hps : S.ps = S.ps.dropLast ++ [bodS S]) (hil : ib.length = S.ps.dropLast.length) (h3 : S.st = 3) (hb : b'.length = (bodS S).length) (hu : setL (cs (bodS S)) j vs = cs b') :
    MS (setW w g j vs) B (putS S b') sH sR sP sN sO (ib ++ [.slice (some ⟨g, 0, none⟩) n c]) ∧ (B ≤ w.heap.size → Fm tsM B w (setW w g j vs)) := by
  have hR := h.R
  rw [hps] at hR
  obtain ⟨q1, q2⟩ := hR.bodySetL hil hb hu
  have ho := hR.own _ _ (srcR_last hil)
  refine ⟨⟨q1, ?_, h.I.put b' S.op h3 (fun o ho => by rw [hb]; exact h.I.ol o ho) h.I.od⟩, fun hB => Fm.of_grow ho (Nat.le_refl _) q2 hB (by decide : 93 ∈ tsM)⟩
  show _ = (S.ps.dropLast ++ [b']).length
  rw [List.length_append, List.length_append, hil]
  rfl
theorem cs_get {b : List SV} {a : Nat} (j : Nat) (ha : a < b.length) (hj : j < 11) : (cs b)[a * 11 + j]? = (stL (b.getD a sv0))[j]? := by
  have e : b[a]? = some (b.getD a sv0) := by rw [List.getD_eq_getElem?_getD, List.getElem?_eq_getElem ha]; rfl
  exact fm_get stL 11 (fun _ => rfl) b a j _ e hj
theorem cs_set {b : List SV} {a : Nat} (j : Nat) (ha : a < b.length) (hj : j < 11) (s : SV) (u : Value) (hu : (stL (b.getD a sv0)).set j u = stL s) : (cs b).set (a * 11 + j) u = cs (b.set a s) := by
  have e : b[a]? = some (b.getD a sv0) := by rw [List.getD_eq_getElem?_getD, List.getElem?_eq_getElem ha]; rfl
  exact fm_set stL 11 (fun _ => rfl) b a j _ s u e hj hu
theorem cs_set2 {b : List SV} {a : Nat} (ha : a < b.length) (s : SV) (t e : Int) (hs : b.getD a sv0 = s) : setL (cs b) (a * 11 + 8) [.int .i64 t, .int .i64 e] = cs (b.set a { s with thn := t, els := e }) := by
  show ((cs b).set (a * 11 + 8) (.int .i64 t)).set (a * 11 + 9) (.int .i64 e) = _
  subst hs
  rw [cs_set 8 ha (by omega) { b.getD a sv0 with thn := t } _ rfl, cs_set 9 (by rw [List.length_set]; exact ha) (by omega) { b.getD a sv0 with thn := t, els := e } _ (by rw [List.getD_eq_getElem?_getD, List.getElem?_set, if_pos rfl, if_pos ha]; rfl), List.set_set]
theorem cs_set1 {b : List SV} {a : Nat} (ha : a < b.length) (s : SV) (t : Int) (hs : b.getD a sv0 = s) : setL (cs b) (a * 11 + 8) [.int .i64 t] = cs (b.set a { s with thn := t }) := by
  subst hs
  exact cs_set 8 ha (by omega) _ _ rfl

set_option maxRecDepth 20000 in
set_option maxHeartbeats 12800000 in
theorem l6Close_any (B : Nat) (S : PS) (sH sR sP sN sO : Sl) (bv : List Value) (f : List (List UInt8)) (els : Bool) (w : World) (hB : B ≤ w.heap.size) (hm : MS w B S sH sR sP sN sO bv) (h3 : S.st = 3) (hl : (bodS S).length ≤ 1000000) (hp : S.ps.length ≤ 1000000) (hf : f.length = 1) (ho6 : S.op.length ≤ 1000000) (hth : ∀ o ∈ S.op, 0 ≤ o.th ∧ o.th ≤ 1000000) :
    Calls Tryz.prog 50 #[.agg #[.int .i64 S.d, .slice sH.a sH.n sH.c, .slice sR.a sR.n sR.c, .slice sP.a sP.n sP.c, .int .i64 (S.st : Int), .slice sN.a sN.n sN.c, .slice sO.a sO.n sO.c, .bool false], .bool els] w fun e w' => MR B w (if els = true then elsS S f else endS S f) e w' := by
  obtain ⟨RR, hRR⟩ : ∃ y, (if els = true then elsS S f else endS S f) = y := ⟨_, rfl⟩
  rw [hRR]
  have HRR : Hid ((if els = true then elsS S f else endS S f) = RR) := hRR
  clear hRR
  have M : Hid (MS w B S sH sR sP sN sO bv) := hm
  have oO : w.ownsRow B 96 3 (.slice sO.a sO.n sO.c) S.op.length (S.op.reverse.flatMap ovL) := hm.R.own 1 _ rfl
  have HNO : Hid (sO.n = S.op.length) := row_n oO
  cases hop : S.op with
  | nil =>
    have HOP : Hid (S.op = []) := hop
    clear hm hop oO h3
    go_enter Tryz.func50, Tryz.ntmps50
    go_upto_region 1 with fail
    obtain ⟨u, hu, p0, bu⟩ : ∃ y, ((w.alloc (.cells #[.int .i64 S.d, .slice sH.a sH.n sH.c, .slice sR.a sR.n sR.c, .slice sP.a sP.n sP.c, .int .i64 (S.st : Int), .slice sN.a sN.n sN.c, .slice sO.a sO.n sO.c, .bool false] 45)).alloc (.cells #[.int .i64 0, .slice none 0 0, .slice none 0 0, .slice none 0 0, .int .i64 0, .slice none 0 0, .slice none 0 0, .bool false] 45)) = y ∧ PX w.heap.size (w.heap.size + 1) #[.int .i64 S.d, .slice sH.a sH.n sH.c, .slice sR.a sR.n sR.c, .slice sP.a sP.n sP.c, .int .i64 (S.st : Int), .slice sN.a sN.n sN.c, .slice sO.a sO.n sO.c, .bool false] #[.int .i64 0, .slice none 0 0, .slice none 0 0, .slice none 0 0, .int .i64 0, .slice none 0 0, .slice none 0 0, .bool false] y ∧ Below w.heap.size w y := ⟨_, rfl, px_new w _ _, two_below w _ _⟩
    rw [hu]
    obtain ⟨x, hx⟩ : ∃ y, w.heap.size = y := ⟨_, rfl⟩
    rw [hx] at p0 ⊢
    have HX : Hid (w.heap.size = x) := hx
    have P0 : Hid (PX x (x + 1) #[.int .i64 S.d, .slice sH.a sH.n sH.c, .slice sR.a sR.n sR.c, .slice sP.a sP.n sP.c, .int .i64 (S.st : Int), .slice sN.a sN.n sN.c, .slice sO.a sO.n sO.c, .bool false] #[.int .i64 0, .slice none 0 0, .slice none 0 0, .slice none 0 0, .int .i64 0, .slice none 0 0, .slice none 0 0, .bool false] u) := p0
    have F0 : Hid (Fm tsM B w u) := Fm.of_below bu hB
    have M0 : Hid (MS u B S sH sR sP sN sO bv) := M.out.below bu
    have hBx : B ≤ x := by omega
    have hBu : B ≤ u.heap.size := by have := bu.size; omega
    obtain ⟨c0, c1, c2, c3, c4, c5, c6, c7⟩ := hp8 p0.P
    clear hu hx p0 bu M
    have e0 : ((sO.n : Int) == 0) = true := by rw [beq_iff_eq]; have := HNO.out; rw [HOP.out] at this; simp at this; omega
    have HR : Hid (RR = none) := (by rw [← HRR.out]; unfold elsS endS; rw [HOP.out]; split <;> rfl : RR = none)
    go_wp2_with fail
    refine (l6Bad_any S.d (S.st : Int) sH sR sP sN sO false u).mono ?_
    rintro e u9 ⟨rfl, hb9⟩
    have P9 := P0.out.below hb9
    have F9 : Hid (Fm tsM B w u9) := F0.out.below hb9 hBu
    obtain ⟨z0, z1, z2, z3, z4, z5, z6, z7⟩ := hp8 P9.R
    have f9 := hp_frz P9.R
    clear hb9
    go_wp2
    refine bodyPost_ret (v := .agg #[.int .i64 S.d, .slice sH.a sH.n sH.c, .slice sR.a sR.n sR.c, .slice sP.a sP.n sP.c, .int .i64 (S.st : Int), .slice sN.a sN.n sN.c, .slice sO.a sO.n sO.c, .bool true]) (by simp [results, Tryz.results50, go_sem, z0, z1, z2, z3, z4, z5, z6, z7]) rfl ?_
    unfold MR
    rw [HR.out]
    exact ⟨F9.out.put8 (by have := HX.out; omega) (by omega) _ _ _ _ _ _ _ _, S.d, (S.st : Int), sH, sR, sP, sN, sO, rfl⟩
  | cons o os =>
    have HOP : Hid (S.op = o :: os) := hop
    have hol := hm.I.ol o (by rw [hop]; simp)
    have holn : S.op.length = os.length + 1 := by rw [hop]; rfl
    have hth1 := hth o (by rw [hop]; simp)
    have ol5 : os.length ≤ 1000000 := by omega
    obtain ⟨ib, g, aB, cB, hbv, hps, hil, hPa, hPn, hPc, hcl, hg⟩ := hm.last h3
    obtain ⟨gO, cO', eO, _, lO, lcO⟩ := row_someZ oO (by omega)
    have oB : w.ownsRow B 93 11 (.slice aB (bodS S).length cB) (bodS S).length (cs (bodS S)) := by
      have hR := hm.R
      rw [hps, hbv] at hR
      exact hR.own _ _ (srcR_last hil)
    obtain ⟨gB, cB', eB, _, lB, _⟩ := row_someZ oB (by omega)
    obtain ⟨aP, nP, cP⟩ := sP
    obtain ⟨aO, nO, cO⟩ := sO
    injection eO with eO1 eO2 eO3
    injection eB with eB1 eB2 eB3
    dsimp only at hPa hPn hPc eO1 eO2 eO3 oO M HNO hm ⊢
    rw [holn] at eO2
    subst hPa hPn hbv eO1 eO2 eB1 eO3 eB3
    clear eB2
    have ocO : os.length ≤ cO := by omega
    have hi6 : ib.length + 1 ≤ 1000000 := by have := hm.L; simp at this; omega
    have HPS : Hid (S.ps = S.ps.dropLast ++ [bodS S]) := hps
    have HIL : Hid (ib.length = S.ps.dropLast.length) := hil
    have H3 : Hid (S.st = 3) := h3
    have hod := hm.I.od
    have CO : Hid (∀ j, j < 3 → w.cell? ⟨gO, os.length * 3 + j, none⟩ = (ovL o)[j]?) := (fun j hj => by
      have o2 := oO
      rw [holn] at o2
      rw [o2.cellAt _ (by omega), hop, List.reverse_cons]
      exact fm_get ovL 3 (fun _ => rfl) (os.reverse ++ [o]) os.length j o (get_last _ _ _ (by simp)) hj : ∀ j, j < 3 → w.cell? ⟨gO, os.length * 3 + j, none⟩ = (ovL o)[j]?)
    have FO : Hid (∀ j, w.frozen? ⟨gO, j, none⟩ = false) := (fun j => by
      have o2 := oO
      rw [holn] at o2
      exact o2.frozenAt j : ∀ j, w.frozen? ⟨gO, j, none⟩ = false)
    have CB : Hid (∀ j, j < 11 → w.cell? ⟨gB, o.at' * 11 + j, none⟩ = (stL ((bodS S).getD o.at' sv0))[j]?) := (fun j hj => by rw [oB.cellAt _ (by omega)]; exact cs_get j hol hj : ∀ j, j < 11 → w.cell? ⟨gB, o.at' * 11 + j, none⟩ = (stL ((bodS S).getD o.at' sv0))[j]?)
    have FB : Hid (∀ j, w.frozen? ⟨gB, j, none⟩ = false) := fun j => oB.frozenAt j
    clear hm hop oO oB hps hil h3 hPc hod HNO hth ho6 holn
    obtain ⟨cur, hcur⟩ : ∃ y, (bodS S).getD o.at' sv0 = y := ⟨_, rfl⟩
    have HCUR : Hid ((bodS S).getD o.at' sv0 = cur) := hcur
    rw [hcur] at CB
    clear hcur
    obtain ⟨at', th, oe⟩ := o
    dsimp only at hol CO CB hth1
    go_enter Tryz.func50, Tryz.ntmps50
    go_upto_region 1 with fail
    obtain ⟨u, hu, p0, bu⟩ : ∃ y, ((w.alloc (.cells #[.int .i64 S.d, .slice sH.a sH.n sH.c, .slice sR.a sR.n sR.c, .slice (some ⟨g, 0, none⟩) (ib.length + 1) cP, .int .i64 (S.st : Int), .slice sN.a sN.n sN.c, .slice (some ⟨gO, 0, none⟩) (os.length + 1) cO, .bool false] 45)).alloc (.cells #[.int .i64 0, .slice none 0 0, .slice none 0 0, .slice none 0 0, .int .i64 0, .slice none 0 0, .slice none 0 0, .bool false] 45)) = y ∧ PX w.heap.size (w.heap.size + 1) #[.int .i64 S.d, .slice sH.a sH.n sH.c, .slice sR.a sR.n sR.c, .slice (some ⟨g, 0, none⟩) (ib.length + 1) cP, .int .i64 (S.st : Int), .slice sN.a sN.n sN.c, .slice (some ⟨gO, 0, none⟩) (os.length + 1) cO, .bool false] #[.int .i64 0, .slice none 0 0, .slice none 0 0, .slice none 0 0, .int .i64 0, .slice none 0 0, .slice none 0 0, .bool false] y ∧ Below w.heap.size w y := ⟨_, rfl, px_new w _ _, two_below w _ _⟩
    rw [hu]
    obtain ⟨x, hx⟩ : ∃ y, w.heap.size = y := ⟨_, rfl⟩
    rw [hx] at p0 ⊢
    have HX : Hid (w.heap.size = x) := hx
    have P0 : Hid (PX x (x + 1) #[.int .i64 S.d, .slice sH.a sH.n sH.c, .slice sR.a sR.n sR.c, .slice (some ⟨g, 0, none⟩) (ib.length + 1) cP, .int .i64 (S.st : Int), .slice sN.a sN.n sN.c, .slice (some ⟨gO, 0, none⟩) (os.length + 1) cO, .bool false] #[.int .i64 0, .slice none 0 0, .slice none 0 0, .slice none 0 0, .int .i64 0, .slice none 0 0, .slice none 0 0, .bool false] u) := p0
    have F0 : Hid (Fm tsM B w u) := Fm.of_below bu hB
    have M0 : Hid (MS u B S sH sR ⟨some ⟨g, 0, none⟩, ib.length + 1, cP⟩ sN ⟨some ⟨gO, 0, none⟩, os.length + 1, cO⟩ (ib ++ [.slice (some ⟨gB, 0, none⟩) (bodS S).length cB])) := M.out.below bu
    have hBx : B ≤ x := by omega
    have hBu : B ≤ u.heap.size := by have := bu.size; omega
    have CL : Hid (u.cell? ⟨g, ib.length, none⟩ = some (.slice (some ⟨gB, 0, none⟩) (bodS S).length cB)) := (bu.cell (p := ⟨g, ib.length, none⟩) hg).trans hcl
    have o0 : u.cell? ⟨gO, os.length * 3, none⟩ = some (.int .i64 (at' : Int)) := (bu.cell (p := ⟨gO, os.length * 3, none⟩) lO).trans (CO.out 0 (by omega))
    have o1 : u.cell? ⟨gO, os.length * 3 + 1, none⟩ = some (.int .i64 th) := (bu.cell (p := ⟨gO, os.length * 3 + 1, none⟩) lO).trans (CO.out 1 (by omega))
    have o2 : u.cell? ⟨gO, os.length * 3 + 2, none⟩ = some (.bool oe) := (bu.cell (p := ⟨gO, os.length * 3 + 2, none⟩) lO).trans (CO.out 2 (by omega))
    have CBu : Hid (∀ j, j < 11 → u.cell? ⟨gB, at' * 11 + j, none⟩ = (stL cur)[j]?) := (fun j hj => (bu.cell (p := ⟨gB, at' * 11 + j, none⟩) lB).trans (CB.out j hj) : ∀ j, j < 11 → u.cell? ⟨gB, at' * 11 + j, none⟩ = (stL cur)[j]?)
    have FBu : Hid (∀ j, u.frozen? ⟨gB, j, none⟩ = false) := (fun j => (bu.frozen (p := ⟨gB, j, none⟩) lB).trans (FB.out j) : ∀ j, u.frozen? ⟨gB, j, none⟩ = false)
    have FOu : Hid (∀ j, u.frozen? ⟨gO, j, none⟩ = false) := (fun j => (bu.frozen (p := ⟨gO, j, none⟩) lO).trans (FO.out j) : ∀ j, u.frozen? ⟨gO, j, none⟩ = false)
    have lgu : g < u.heap.size := Nat.lt_of_lt_of_le hg bu.size
    have lOu : gO < u.heap.size := Nat.lt_of_lt_of_le lO bu.size
    have lBu : gB < u.heap.size := Nat.lt_of_lt_of_le lB bu.size
    obtain ⟨c0, c1, c2, c3, c4, c5, c6, c7⟩ := hp8 p0.P
    clear hu hx p0 bu M CO FO CB FB hcl
    have e0 : ((os.length : Int) + 1 == 0) = false := by rw [beq_eq_false_iff_ne]; omega
    have e1 : (os.length : Int) < (os.length : Int) + 1 := by omega
    have ew : IntKind.i64.wrap (os.length : Int) = (os.length : Int) := by rw [IntKind.wrap_i64]; omega
    have HOE : Hid (∀ (x : PS), True) := fun _ => trivial
    go_upto_region 4 with fail
    obtain ⟨u2, hu2, hb2, hv2⟩ : ∃ y, u.alloc (.cells #[.int .i64 (at' : Int), .int .i64 th, .bool oe] 96) = y ∧ Below u.heap.size u y ∧ y.heap[u.heap.size]? = some (.cells #[.int .i64 (at' : Int), .int .i64 th, .bool oe] 96) := ⟨_, rfl, (Below.refl _ _).alloc (Nat.le_refl _) _, heap_alloc_newB _ _⟩
    rw [hu2]
    obtain ⟨ob, hob⟩ : ∃ y, u.heap.size = y := ⟨_, rfl⟩
    rw [hob] at hv2 ⊢
    have HVB : Hid (u.heap.size = ob) := hob
    have B2 : Hid (Below u.heap.size u u2) := hb2
    have V2 : Hid (u2.heap[ob]? = some (.cells #[.int .i64 (at' : Int), .int .i64 th, .bool oe] 96)) := hv2
    have P2 : Hid (PX x (x + 1) #[.int .i64 S.d, .slice sH.a sH.n sH.c, .slice sR.a sR.n sR.c, .slice (some ⟨g, 0, none⟩) (ib.length + 1) cP, .int .i64 (S.st : Int), .slice sN.a sN.n sN.c, .slice (some ⟨gO, 0, none⟩) (os.length + 1) cO, .bool false] #[.int .i64 0, .slice none 0 0, .slice none 0 0, .slice none 0 0, .int .i64 0, .slice none 0 0, .slice none 0 0, .bool false] u2) := P0.out.below hb2
    have hcl2 : u2.cell? ⟨g, ib.length, none⟩ = some (.slice (some ⟨gB, 0, none⟩) (bodS S).length cB) := (hb2.cell (p := ⟨g, ib.length, none⟩) lgu).trans CL.out
    clear hu2 hb2 hv2 hob c0 c1 c2 c3 c4 c5 c6 c7 o0 o1 o2
    obtain ⟨c0, c1, c2, c3, c4, c5, c6, c7⟩ := hp8 P2.out.P
    go_wp2_with fail
    refine (l6Body_any S.d (S.st : Int) sH sR ⟨some ⟨g, 0, none⟩, ib.length + 1, cP⟩ sN ⟨some ⟨gO, 0, none⟩, os.length + 1, cO⟩ ⟨some ⟨gB, 0, none⟩, (bodS S).length, cB⟩ false g u2 rfl (by show 0 < ib.length + 1; omega) (by show ((ib.length + 1 : Nat) : Int) ≤ _; omega) hcl2).mono ?_
    rintro e u3 ⟨rfl, hb3'⟩
    have hb3 : Below u.heap.size u u3 := B2.out.trans (hb3'.mono B2.out.size)
    have V3 : Hid (u3.heap[ob]? = some (.cells #[.int .i64 (at' : Int), .int .i64 th, .bool oe] 96)) := (hb3'.block ob (Array.getElem?_eq_some_iff.1 V2.out).1).trans V2.out
    have M3 : Hid (MS u3 B S sH sR ⟨some ⟨g, 0, none⟩, ib.length + 1, cP⟩ sN ⟨some ⟨gO, 0, none⟩, os.length + 1, cO⟩ (ib ++ [.slice (some ⟨gB, 0, none⟩) (bodS S).length cB])) := M0.out.below hb3
    have P3 : Hid (PX x (x + 1) #[.int .i64 S.d, .slice sH.a sH.n sH.c, .slice sR.a sR.n sR.c, .slice (some ⟨g, 0, none⟩) (ib.length + 1) cP, .int .i64 (S.st : Int), .slice sN.a sN.n sN.c, .slice (some ⟨gO, 0, none⟩) (os.length + 1) cO, .bool false] #[.int .i64 0, .slice none 0 0, .slice none 0 0, .slice none 0 0, .int .i64 0, .slice none 0 0, .slice none 0 0, .bool false] u3) := P0.out.below hb3
    have F3 : Hid (Fm tsM B w u3) := F0.out.below hb3 hBu
    have hBu3 : B ≤ u3.heap.size := by have := hb3.size; omega
    have k0 : u3.cell? ⟨gB, at' * 11, none⟩ = some (.int .i64 cur.k) := (hb3.cell (p := ⟨gB, at' * 11, none⟩) lBu).trans (CBu.out 0 (by omega))
    have k8 : u3.cell? ⟨gB, at' * 11 + 8, none⟩ = some (.int .i64 cur.thn) := (hb3.cell (p := ⟨gB, at' * 11 + 8, none⟩) lBu).trans (CBu.out 8 (by omega))
    have k9 : u3.cell? ⟨gB, at' * 11 + 9, none⟩ = some (.int .i64 cur.els) := (hb3.cell (p := ⟨gB, at' * 11 + 9, none⟩) lBu).trans (CBu.out 9 (by omega))
    have kf : ∀ j, u3.frozen? ⟨gB, j, none⟩ = false := fun j => (hb3.frozen (p := ⟨gB, j, none⟩) lBu).trans (FBu.out j)
    have of : ∀ j, u3.frozen? ⟨gO, j, none⟩ = false := fun j => (hb3.frozen (p := ⟨gO, j, none⟩) lOu).trans (FOu.out j)
    obtain ⟨oC0, oC1, oC2⟩ := M3.out.opC HOP.out
    have y0 := hp_cell V3.out 0
    have y1 := hp_cell V3.out 1
    have y2 := hp_cell V3.out 2
    simp only [List.getElem?_toArray, List.getElem?_cons_zero, List.getElem?_cons_succ] at y0 y1 y2
    obtain ⟨nn, hnn⟩ : ∃ y : Int, ((bodS S).length : Int) - (at' : Int) - 1 = y := ⟨_, rfl⟩
    have HNN : Hid (((bodS S).length : Int) - (at' : Int) - 1 = nn) := hnn
    have nn0 : 0 ≤ nn := by omega
    have nn1 : nn ≤ 1000000 := by omega
    have ha1 : (at' : Int) < ((bodS S).length : Int) := by omega
    have HF1 : Hid (f.length = 1) := hf
    clear hb3' hb3 hnn c0 c1 c2 c3 c4 c5 c6 c7 hcl2 B2 V2 P2 P0 F0 M0 CL CBu FBu FOu hf HOE
    obtain ⟨c0, c1, c2, c3, c4, c5, c6, c7⟩ := hp8 P3.out.P
    cases els with
    | true =>
      cases oe with
      | true =>
        have HR : Hid (RR = none) := (by rw [← HRR.out, if_pos rfl]; unfold elsS; rw [HOP.out]; simp only; rw [if_neg (fun h => by cases h.2.1)] : RR = none)
        go_wp2_with fail
        refine (l6Bad_any S.d (S.st : Int) sH sR ⟨some ⟨g, 0, none⟩, ib.length + 1, cP⟩ sN ⟨some ⟨gO, 0, none⟩, os.length + 1, cO⟩ false u3).mono ?_
        rintro e u9 ⟨rfl, hb9⟩
        have P9 := P3.out.below hb9
        have F9 : Hid (Fm tsM B w u9) := F3.out.below hb9 hBu3
        obtain ⟨z0, z1, z2, z3, z4, z5, z6, z7⟩ := hp8 P9.R
        have f9 := hp_frz P9.R
        clear hb9
        go_wp2
        refine bodyPost_ret (v := .agg #[.int .i64 S.d, .slice sH.a sH.n sH.c, .slice sR.a sR.n sR.c, .slice (some ⟨g, 0, none⟩) (ib.length + 1) cP, .int .i64 (S.st : Int), .slice sN.a sN.n sN.c, .slice (some ⟨gO, 0, none⟩) (os.length + 1) cO, .bool true]) (by simp [results, Tryz.results50, go_sem, z0, z1, z2, z3, z4, z5, z6, z7]) rfl ?_
        unfold MR
        rw [HR.out]
        exact ⟨F9.out.put8 (by have := HX.out; omega) (by omega) _ _ _ _ _ _ _ _, S.d, (S.st : Int), sH, sR, ⟨some ⟨g, 0, none⟩, ib.length + 1, cP⟩, sN, ⟨some ⟨gO, 0, none⟩, os.length + 1, cO⟩, rfl⟩
      | false =>
        by_cases hk : cur.k = 2
        rotate_left
        · have e5 : (cur.k != 2) = true := by rw [bne_iff_ne]; exact hk
          have HR : Hid (RR = none) := (by rw [← HRR.out, if_pos rfl]; unfold elsS; rw [HOP.out]; simp only; rw [if_neg (fun h => hk (by have := h.2.2; rw [HCUR.out] at this; exact this))] : RR = none)
          clear hk
          go_wp2_with fail
          refine (l6Bad_any S.d (S.st : Int) sH sR ⟨some ⟨g, 0, none⟩, ib.length + 1, cP⟩ sN ⟨some ⟨gO, 0, none⟩, os.length + 1, cO⟩ false u3).mono ?_
          rintro e u9 ⟨rfl, hb9⟩
          have P9 := P3.out.below hb9
          have F9 : Hid (Fm tsM B w u9) := F3.out.below hb9 hBu3
          obtain ⟨z0, z1, z2, z3, z4, z5, z6, z7⟩ := hp8 P9.R
          have f9 := hp_frz P9.R
          clear hb9
          go_wp2
          refine bodyPost_ret (v := .agg #[.int .i64 S.d, .slice sH.a sH.n sH.c, .slice sR.a sR.n sR.c, .slice (some ⟨g, 0, none⟩) (ib.length + 1) cP, .int .i64 (S.st : Int), .slice sN.a sN.n sN.c, .slice (some ⟨gO, 0, none⟩) (os.length + 1) cO, .bool true]) (by simp [results, Tryz.results50, go_sem, z0, z1, z2, z3, z4, z5, z6, z7]) rfl ?_
          unfold MR
          rw [HR.out]
          exact ⟨F9.out.put8 (by have := HX.out; omega) (by omega) _ _ _ _ _ _ _ _, S.d, (S.st : Int), sH, sR, ⟨some ⟨g, 0, none⟩, ib.length + 1, cP⟩, sN, ⟨some ⟨gO, 0, none⟩, os.length + 1, cO⟩, rfl⟩
        have e5 : (cur.k != 2) = false := by rw [bne_eq_false_iff_eq]; exact hk
        have HR : Hid (RR = some { S with op := ⟨at', nn, true⟩ :: os }) := (by rw [← HRR.out, if_pos rfl]; unfold elsS; rw [HOP.out]; simp only; rw [if_pos ⟨HF1.out, (by first | rfl | trivial), by rw [HCUR.out]; exact hk⟩, HNN.out] : RR = some { S with op := ⟨at', nn, true⟩ :: os })
        clear hk
        go_upto_region 10 with fail
        obtain ⟨u4, hu4, m4, f4⟩ : ∃ y, setW u3 gO (os.length * 3) (ovL ⟨at', nn, true⟩) = y ∧ MS y B { S with op := ⟨at', nn, true⟩ :: os } sH sR ⟨some ⟨g, 0, none⟩, ib.length + 1, cP⟩ sN ⟨some ⟨gO, 0, none⟩, os.length + 1, cO⟩ (ib ++ [.slice (some ⟨gB, 0, none⟩) (bodS S).length cB]) ∧ Fm tsM B u3 y := ⟨_, rfl, (M3.out.setO (o' := ⟨at', nn, true⟩) HOP.out rfl).1, (M3.out.setO (o' := ⟨at', nn, true⟩) HOP.out rfl).2 hBu3⟩
        simp only [HNN.out]
        change Code.wp _ _ _ _ (setW u3 gO (os.length * 3) (ovL ⟨at', nn, true⟩))
        rw [hu4]
        have M4 : Hid (MS u4 B { S with op := ⟨at', nn, true⟩ :: os } sH sR ⟨some ⟨g, 0, none⟩, ib.length + 1, cP⟩ sN ⟨some ⟨gO, 0, none⟩, os.length + 1, cO⟩ (ib ++ [.slice (some ⟨gB, 0, none⟩) (bodS S).length cB])) := m4
        have P4 : Hid (PX x (x + 1) #[.int .i64 S.d, .slice sH.a sH.n sH.c, .slice sR.a sR.n sR.c, .slice (some ⟨g, 0, none⟩) (ib.length + 1) cP, .int .i64 (S.st : Int), .slice sN.a sN.n sN.c, .slice (some ⟨gO, 0, none⟩) (os.length + 1) cO, .bool false] #[.int .i64 0, .slice none 0 0, .slice none 0 0, .slice none 0 0, .int .i64 0, .slice none 0 0, .slice none 0 0, .bool false] u4) := P3.out.fm f4
        have F4 : Hid (Fm tsM B w u4) := F3.out.trans f4
        clear hu4 m4 f4 c0 c1 c2 c3 c4 c5 c6 c7 k0 k8 k9 kf of oC0 oC1 oC2 y0 y1 y2 M3 P3 F3
        obtain ⟨y0, y1, y2, y3, y4, y5, y6, y7⟩ := hp8 P4.out.P
        obtain ⟨z0, z1, z2, z3, z4, z5, z6, z7⟩ := hp8 P4.out.R
        have f9 := hp_frz P4.out.R
        go_wp2
        refine bodyPost_ret (v := .agg #[.int .i64 S.d, .slice sH.a sH.n sH.c, .slice sR.a sR.n sR.c, .slice (some ⟨g, 0, none⟩) (ib.length + 1) cP, .int .i64 (S.st : Int), .slice sN.a sN.n sN.c, .slice (some ⟨gO, 0, none⟩) (os.length + 1) cO, .bool false]) (by simp [results, Tryz.results50, go_sem, z0, z1, z2, z3, z4, z5, z6, z7]) rfl ?_
        unfold MR
        rw [HR.out]
        exact ⟨F4.out.put8 (by have := HX.out; omega) (by omega) _ _ _ _ _ _ _ _, sH, sR, ⟨some ⟨g, 0, none⟩, ib.length + 1, cP⟩, sN, ⟨some ⟨gO, 0, none⟩, os.length + 1, cO⟩, _, rfl, M4.out.put8 P4.out _ _ _ _ _ _ _ _⟩
    | false =>
      cases oe with
      | true =>
        have HR : Hid (RR = some { putS S ((bodS S).set at' { cur with thn := th, els := nn - th }) with op := os }) := (by rw [← HRR.out, if_neg (by decide)]; unfold endS; rw [HOP.out]; simp only; rw [if_pos HF1.out, HCUR.out, HNN.out]; rfl : RR = some { putS S ((bodS S).set at' { cur with thn := th, els := nn - th }) with op := os })
        go_upto_region 15 with fail
        obtain ⟨u4, hu4, m4, f4⟩ : ∃ y, setW u3 gB (at' * 11 + 8) [.int .i64 th, .int .i64 (nn - th)] = y ∧ MS y B (putS S ((bodS S).set at' { cur with thn := th, els := nn - th })) sH sR ⟨some ⟨g, 0, none⟩, ib.length + 1, cP⟩ sN ⟨some ⟨gO, 0, none⟩, os.length + 1, cO⟩ (ib ++ [.slice (some ⟨gB, 0, none⟩) (bodS S).length cB]) ∧ Fm tsM B u3 y := ⟨_, rfl, (M3.out.putC HPS.out HIL.out H3.out (by rw [List.length_set]) (cs_set2 hol cur th (nn - th) HCUR.out)).1, (M3.out.putC HPS.out HIL.out H3.out (by rw [List.length_set]) (cs_set2 hol cur th (nn - th) HCUR.out)).2 hBu3⟩
        simp only [HNN.out]
        change Code.wp _ _ _ _ (setW u3 gB (at' * 11 + 8) [.int .i64 th, .int .i64 (nn - th)])
        rw [hu4]
        have M4 : Hid (MS u4 B { putS S ((bodS S).set at' { cur with thn := th, els := nn - th }) with op := os } sH sR ⟨some ⟨g, 0, none⟩, ib.length + 1, cP⟩ sN ⟨some ⟨gO, 0, none⟩, os.length, cO⟩ (ib ++ [.slice (some ⟨gB, 0, none⟩) (bodS S).length cB])) := m4.popO (o := ⟨at', th, true⟩) HOP.out
        have P4 : Hid (PX x (x + 1) #[.int .i64 S.d, .slice sH.a sH.n sH.c, .slice sR.a sR.n sR.c, .slice (some ⟨g, 0, none⟩) (ib.length + 1) cP, .int .i64 (S.st : Int), .slice sN.a sN.n sN.c, .slice (some ⟨gO, 0, none⟩) (os.length + 1) cO, .bool false] #[.int .i64 0, .slice none 0 0, .slice none 0 0, .slice none 0 0, .int .i64 0, .slice none 0 0, .slice none 0 0, .bool false] u4) := P3.out.fm f4
        have F4 : Hid (Fm tsM B w u4) := F3.out.trans f4
        clear hu4 m4 f4 c0 c1 c2 c3 c4 c5 c6 c7 k0 k8 k9 kf of oC0 oC1 oC2 y0 y1 y2 M3 P3 F3
        have c6 := hp_cell P4.out.P 6
        simp only [List.getElem?_toArray, List.getElem?_cons_zero, List.getElem?_cons_succ] at c6
        have qf := hp_frz P4.out.P
        go_upto_region 16 with fail
        have M6 : Hid (MS (u4.setCell ⟨x, 6, none⟩ (.slice (some ⟨gO, 0, none⟩) os.length cO)) B { putS S ((bodS S).set at' { cur with thn := th, els := nn - th }) with op := os } sH sR ⟨some ⟨g, 0, none⟩, ib.length + 1, cP⟩ sN ⟨some ⟨gO, 0, none⟩, os.length, cO⟩ (ib ++ [.slice (some ⟨gB, 0, none⟩) (bodS S).length cB])) := M4.out.setP P4.out 6 _
        have P6 : Hid (PX x (x + 1) #[.int .i64 S.d, .slice sH.a sH.n sH.c, .slice sR.a sR.n sR.c, .slice (some ⟨g, 0, none⟩) (ib.length + 1) cP, .int .i64 (S.st : Int), .slice sN.a sN.n sN.c, .slice (some ⟨gO, 0, none⟩) os.length cO, .bool false] #[.int .i64 0, .slice none 0 0, .slice none 0 0, .slice none 0 0, .int .i64 0, .slice none 0 0, .slice none 0 0, .bool false] (u4.setCell ⟨x, 6, none⟩ (.slice (some ⟨gO, 0, none⟩) os.length cO))) := P4.out.setP 6 _
        have F6 : Hid (Fm tsM B w (u4.setCell ⟨x, 6, none⟩ (.slice (some ⟨gO, 0, none⟩) os.length cO))) := F4.out.setNew (a := ⟨x, 6, none⟩) (by have := HX.out; show _ ≤ x; omega) hBx _
        clear c6 qf M4 P4 F4
        generalize u4.setCell ⟨x, 6, none⟩ (.slice (some ⟨gO, 0, none⟩) os.length cO) = u6 at M6 P6 F6 ⊢
        obtain ⟨y0, y1, y2, y3, y4, y5, y6, y7⟩ := hp8 P6.out.P
        obtain ⟨z0, z1, z2, z3, z4, z5, z6, z7⟩ := hp8 P6.out.R
        have f9 := hp_frz P6.out.R
        go_wp2
        refine bodyPost_ret (v := .agg #[.int .i64 S.d, .slice sH.a sH.n sH.c, .slice sR.a sR.n sR.c, .slice (some ⟨g, 0, none⟩) (ib.length + 1) cP, .int .i64 (S.st : Int), .slice sN.a sN.n sN.c, .slice (some ⟨gO, 0, none⟩) os.length cO, .bool false]) (by simp [results, Tryz.results50, go_sem, z0, z1, z2, z3, z4, z5, z6, z7]) rfl ?_
        unfold MR
        rw [HR.out]
        exact ⟨F6.out.put8 (by have := HX.out; omega) (by omega) _ _ _ _ _ _ _ _, sH, sR, ⟨some ⟨g, 0, none⟩, ib.length + 1, cP⟩, sN, ⟨some ⟨gO, 0, none⟩, os.length, cO⟩, _, rfl, M6.out.put8 P6.out _ _ _ _ _ _ _ _⟩
      | false =>
        have HR : Hid (RR = some { putS S ((bodS S).set at' { cur with thn := nn }) with op := os }) := (by rw [← HRR.out, if_neg (by decide)]; unfold endS; rw [HOP.out]; simp only; rw [if_pos HF1.out, HCUR.out, HNN.out]; rfl : RR = some { putS S ((bodS S).set at' { cur with thn := nn }) with op := os })
        go_upto_region 15 with fail
        obtain ⟨u4, hu4, m4, f4⟩ : ∃ y, setW u3 gB (at' * 11 + 8) [.int .i64 nn] = y ∧ MS y B (putS S ((bodS S).set at' { cur with thn := nn })) sH sR ⟨some ⟨g, 0, none⟩, ib.length + 1, cP⟩ sN ⟨some ⟨gO, 0, none⟩, os.length + 1, cO⟩ (ib ++ [.slice (some ⟨gB, 0, none⟩) (bodS S).length cB]) ∧ Fm tsM B u3 y := ⟨_, rfl, (M3.out.putC HPS.out HIL.out H3.out (by rw [List.length_set]) (cs_set1 hol cur nn HCUR.out)).1, (M3.out.putC HPS.out HIL.out H3.out (by rw [List.length_set]) (cs_set1 hol cur nn HCUR.out)).2 hBu3⟩
        simp only [HNN.out]
        change Code.wp _ _ _ _ (setW u3 gB (at' * 11 + 8) [.int .i64 nn])
        rw [hu4]
        have M4 : Hid (MS u4 B { putS S ((bodS S).set at' { cur with thn := nn }) with op := os } sH sR ⟨some ⟨g, 0, none⟩, ib.length + 1, cP⟩ sN ⟨some ⟨gO, 0, none⟩, os.length, cO⟩ (ib ++ [.slice (some ⟨gB, 0, none⟩) (bodS S).length cB])) := m4.popO (o := ⟨at', th, false⟩) HOP.out
        have P4 : Hid (PX x (x + 1) #[.int .i64 S.d, .slice sH.a sH.n sH.c, .slice sR.a sR.n sR.c, .slice (some ⟨g, 0, none⟩) (ib.length + 1) cP, .int .i64 (S.st : Int), .slice sN.a sN.n sN.c, .slice (some ⟨gO, 0, none⟩) (os.length + 1) cO, .bool false] #[.int .i64 0, .slice none 0 0, .slice none 0 0, .slice none 0 0, .int .i64 0, .slice none 0 0, .slice none 0 0, .bool false] u4) := P3.out.fm f4
        have F4 : Hid (Fm tsM B w u4) := F3.out.trans f4
        clear hu4 m4 f4 c0 c1 c2 c3 c4 c5 c6 c7 k0 k8 k9 kf of oC0 oC1 oC2 y0 y1 y2 M3 P3 F3
        have c6 := hp_cell P4.out.P 6
        simp only [List.getElem?_toArray, List.getElem?_cons_zero, List.getElem?_cons_succ] at c6
        have qf := hp_frz P4.out.P
        go_upto_region 16 with fail
        have M6 : Hid (MS (u4.setCell ⟨x, 6, none⟩ (.slice (some ⟨gO, 0, none⟩) os.length cO)) B { putS S ((bodS S).set at' { cur with thn := nn }) with op := os } sH sR ⟨some ⟨g, 0, none⟩, ib.length + 1, cP⟩ sN ⟨some ⟨gO, 0, none⟩, os.length, cO⟩ (ib ++ [.slice (some ⟨gB, 0, none⟩) (bodS S).length cB])) := M4.out.setP P4.out 6 _
        have P6 : Hid (PX x (x + 1) #[.int .i64 S.d, .slice sH.a sH.n sH.c, .slice sR.a sR.n sR.c, .slice (some ⟨g, 0, none⟩) (ib.length + 1) cP, .int .i64 (S.st : Int), .slice sN.a sN.n sN.c, .slice (some ⟨gO, 0, none⟩) os.length cO, .bool false] #[.int .i64 0, .slice none 0 0, .slice none 0 0, .slice none 0 0, .int .i64 0, .slice none 0 0, .slice none 0 0, .bool false] (u4.setCell ⟨x, 6, none⟩ (.slice (some ⟨gO, 0, none⟩) os.length cO))) := P4.out.setP 6 _
        have F6 : Hid (Fm tsM B w (u4.setCell ⟨x, 6, none⟩ (.slice (some ⟨gO, 0, none⟩) os.length cO))) := F4.out.setNew (a := ⟨x, 6, none⟩) (by have := HX.out; show _ ≤ x; omega) hBx _
        clear c6 qf M4 P4 F4
        generalize u4.setCell ⟨x, 6, none⟩ (.slice (some ⟨gO, 0, none⟩) os.length cO) = u6 at M6 P6 F6 ⊢
        obtain ⟨y0, y1, y2, y3, y4, y5, y6, y7⟩ := hp8 P6.out.P
        obtain ⟨z0, z1, z2, z3, z4, z5, z6, z7⟩ := hp8 P6.out.R
        have f9 := hp_frz P6.out.R
        go_wp2
        refine bodyPost_ret (v := .agg #[.int .i64 S.d, .slice sH.a sH.n sH.c, .slice sR.a sR.n sR.c, .slice (some ⟨g, 0, none⟩) (ib.length + 1) cP, .int .i64 (S.st : Int), .slice sN.a sN.n sN.c, .slice (some ⟨gO, 0, none⟩) os.length cO, .bool false]) (by simp [results, Tryz.results50, go_sem, z0, z1, z2, z3, z4, z5, z6, z7]) rfl ?_
        unfold MR
        rw [HR.out]
        exact ⟨F6.out.put8 (by have := HX.out; omega) (by omega) _ _ _ _ _ _ _ _, sH, sR, ⟨some ⟨g, 0, none⟩, ib.length + 1, cP⟩, sN, ⟨some ⟨gO, 0, none⟩, os.length, cO⟩, _, rfl, M6.out.put8 P6.out _ _ _ _ _ _ _ _⟩
end Go.Proofs.YtblfmpgdhpbffaaGreatDoor
/- spec.l6Stmt. -/
namespace Go.Proofs.YtblfmpgdhpbffaaGreatDoor
open Go.RowKit

theorem cl_set0 {u : World} {a0 a1 a2 a3 a4 a5 a6 a7 a8 a9 a10 b : Value} {t : TypeId} : Cl ((u.alloc (.cells #[a0, a1, a2, a3, a4, a5, a6, a7, a8, a9, a10] t)).setCell ⟨u.heap.size, 0, none⟩ b) u.heap.size [b, a1, a2, a3, a4, a5, a6, a7, a8, a9, a10] := by
  have h := heap_setZ (heap_alloc_newB u (.cells #[a0, a1, a2, a3, a4, a5, a6, a7, a8, a9, a10] t)) 0 b
  refine ⟨(Array.getElem?_eq_some_iff.1 h).1, fun i hi => (hp_cell h i).trans ?_⟩
  have hi' : i < 11 := by simpa using hi
  match i, hi' with
  | 0, _ => rfl
  | 1, _ => rfl
  | 2, _ => rfl
  | 3, _ => rfl
  | 4, _ => rfl
  | 5, _ => rfl
  | 6, _ => rfl
  | 7, _ => rfl
  | 8, _ => rfl
  | 9, _ => rfl
  | 10, _ => rfl
theorem info_open : (Tryz.prog.info? 96).map (fun i => (i.zero, i.size, i.bytes)) = some (some (.agg #[.int .i64 0, .int .i64 0, .bool false]), 3, 24) := by kernel_rfl
/-- A block more is open. -/
theorem MS.pushO {w w5 : World} {B : Nat} {S : PS} {sH sR sP sN sO : Sl} {bv : List Value} {o : OV} {a5 : Option Addr} {c5 : Nat} (h : MS w B S sH sR sP sN sO bv) (hg : w.grownBy w5 (Value.slice sO.a sO.n sO.c).ownBlock) (ho : w5.ownsRow B 96 3 (.slice a5 (S.op.length + 1) c5) (S.op.length + 1) (S.op.reverse.flatMap ovL ++ ovL o)) (hat : (Value.slice a5 (S.op.length + 1) c5).ownBlock = (Value.slice sO.a sO.n sO.c).ownBlock ∨ (Value.slice a5 (S.op.length + 1) c5).ownBlock = some w.heap.size) :
    Rws w5 B (srcR (exM { S with op := o :: S.op } (.slice sN.a sN.n sN.c) (.slice a5 (S.op.length + 1) c5)) S.hs S.rg S.ps (.slice sH.a sH.n sH.c) (.slice sR.a sR.n sR.c) (.slice sP.a sP.n sP.c) bv) := by
  have q := h.R.grow (j := 1) (r := ⟨96, 3, .slice sO.a sO.n sO.c, S.op.length, S.op.reverse.flatMap ovL⟩) (r' := ⟨96, 3, .slice a5 (S.op.length + 1) c5, (o :: S.op).length, (o :: S.op).reverse.flatMap ovL⟩) rfl hg (by unfold Rw.own; rw [op_row]; exact ho) (hat.elim .inl (fun e => .inr ⟨_, e, Nat.le_refl _⟩))
  exact q
theorem MS0.setP {u : World} {B x y : Nat} {S : PS} {sH sR sP sN sO : Sl} {bv : List Value} {cs rs : Array Value} (h : MS0 u B S sH sR sP sN sO bv) (p : PX x y cs rs u) (i : Nat) (v : Value) : MS0 (u.setCell ⟨x, i, none⟩ v) B S sH sR sP sN sO bv :=
  ⟨h.R.typ (ts := tsM) (srcR_typ (exM_typ S _ _) (by decide) (by decide) (by decide) (by decide)) (fun q c t f hq ht => Below.heap_setCell u ⟨x, i, none⟩ v q (fun e => by subst e; rw [p.P] at hq; exact part_no c t f _ (Option.some.inj hq) ht)), h.L⟩
set_option maxHeartbeats 400000 in
theorem inv_op (S : PS) (os : List OV) (s : SV) (h : Inv { addS S s with op := os }) : Inv (addS { S with op := os } s) := h
set_option maxHeartbeats 400000 in
theorem bod_op (S : PS) (os : List OV) (h : (bodS S).length ≤ 1000000) : (bodS { S with op := os }).length ≤ 1000000 := h
set_option maxHeartbeats 400000 in
theorem l6Put_op (B : Nat) (S : PS) (os : List OV) (sH sR sP sN sO : Sl) (bv : List Value) (k cv p o1 o2 o3 o4 o5 o6 : Int) (w : World) (hB : B ≤ w.heap.size) (hm : MS0 w B { S with op := os } sH sR sP sN sO bv) (hne : S.ps ≠ []) (hI : Inv { addS S ⟨k, o1, o2, o3, o4, o5, o6, cv, 0, 0, p⟩ with op := os }) (hl : (bodS S).length ≤ 1000000) (hp : S.ps.length ≤ 1000000) :
    Calls Tryz.prog 49 #[.agg #[.int .i64 S.d, .slice sH.a sH.n sH.c, .slice sR.a sR.n sR.c, .slice sP.a sP.n sP.c, .int .i64 (S.st : Int), .slice sN.a sN.n sN.c, .slice sO.a sO.n sO.c, .bool false], .agg #[.int .i64 k, .int .i64 o1, .int .i64 o2, .int .i64 o3, .int .i64 o4, .int .i64 o5, .int .i64 o6, .int .i64 cv, .int .i64 0, .int .i64 0, .int .i64 p]] w fun e w' => ∃ bv', Fm tsM B w w' ∧ e = .returned (.agg #[.int .i64 S.d, .slice sH.a sH.n sH.c, .slice sR.a sR.n sR.c, .slice sP.a sP.n sP.c, .int .i64 (S.st : Int), .slice sN.a sN.n sN.c, .slice sO.a sO.n sO.c, .bool false]) ∧ MS w' B { addS S ⟨k, o1, o2, o3, o4, o5, o6, cv, 0, 0, p⟩ with op := os } sH sR sP sN sO bv' :=
  l6Put_any B { S with op := os } sH sR sP sN sO bv ⟨k, o1, o2, o3, o4, o5, o6, cv, 0, 0, p⟩ w hB hm hne (inv_op S os _ hI) (bod_op S os hl) hp
end Go.Proofs.YtblfmpgdhpbffaaGreatDoor
