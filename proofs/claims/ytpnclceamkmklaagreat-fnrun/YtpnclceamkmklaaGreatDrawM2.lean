import Derived.Test.YtpnclceamkmklaaGreatDrawM1
import Derived.Deep.CutBlock
import Derived.Laws.OwnMore
/- A drawn machine that is spoiled. -/
namespace Go.Proofs.YtpnclceamkmklaaGreat
open Go.RowKit

theorem dx_new2 {w0 w : World} {p n cap : Nat} {ao : Option Addr} {m : Md} (h : DW w0 p ao n cap m w) : DX w0 p ao n cap w.heap.size (w.heap.size + 1) m ((w.alloc (.cells m.a 28)).alloc (.cells md0.a 28)) := by
  have b : Below w.heap.size w ((w.alloc (.cells m.a 28)).alloc (.cells md0.a 28)) := ((Below.refl _ _).alloc (Nat.le_refl _) _).alloc (by simp) _
  have e1 : (w.alloc (.cells m.a 28)).heap.size = w.heap.size + 1 := by simp
  refine ⟨h.below b, ?_, ?_, h.F.size, by have := h.F.size; omega, by omega⟩
  · exact (Below.heap_alloc _ _ _ (by rw [e1]; omega)).trans (hq_new w _)
  · rw [← e1]; exact hq_new _ _
theorem wrap_nat (n : Nat) (h : n ≤ 5000) : IntKind.i64.wrap (n : Int) = n := by
  rw [IntKind.wrap_i64]
  omega
theorem row_take {w : World} {B e s n g c k : Nat} {xs : List Value} (h : w.ownsRow B e s (.slice (some ⟨g, 0, none⟩) n c) n xs) (hk : k ≤ n) : w.ownsRow B e s (.slice (some ⟨g, 0, none⟩) k c) k (xs.take (k * s)) := by
  have hle : k * s ≤ n * s := Nat.mul_le_mul_right _ hk
  refine ⟨by rw [List.length_take, h.1]; omega, ?_⟩
  rcases h.2 with ⟨h', _⟩ | ⟨g', c', cur, h', h1, h2, h3, h4, h5, h6⟩
  · cases h'
  · obtain ⟨e1, e2, e3⟩ := Value.slice.inj h'
    have e4 := congrArg Addr.block (Option.some.inj e1)
    dsimp only at e4
    subst e3
    subst e4
    exact .inr ⟨g, c, cur, rfl, h1, h2, by omega, h4, h5, by rw [← h6, List.take_take, Nat.min_eq_left hle]⟩
theorem made_zero (n : Nat) : (madeCells (Value.int .u8 0).cells (n * 1)).toList = (List.replicate n (0 : Int)).map (Value.int .u8 ·) := by
  rw [List.map_replicate, Nat.mul_one]
  apply List.ext_getElem
  · simp [madeCells]
  · intro i h1 h2
    simp [madeCells, Value.cells, Nat.mod_one]
set_option maxRecDepth 20000 in
set_option maxHeartbeats 8000000 in
theorem l1SpoilMach_any (w0 : World) (p : Nat) (ao : Option Addr) (n cap : Nat) (ra : Option Addr) (rc : Nat) (fz fc fhz fhc : Bool) (ha : Option Addr) (hcp : Nat) (pc st : Int) (oa : Option Addr) (oc : Nat) (rs : List Int) (hs : List HD) (os : List (Int × Int)) (w : World) (h : DW w0 p ao n cap ⟨.slice ra rs.length rc, fz, fc, fhz, fhc, .slice ha hs.length hcp, pc, st, .slice oa os.length oc, rs, hs, os⟩ w) (h1 : rs.length = 8) (h2 : hs.length ≤ 3) (h3 : os.length ≤ 1) :
    Calls Tryz.prog 32 #[.pointer (some ⟨p, 0, none⟩), .agg #[.slice ra rs.length rc, .bool fz, .bool fc, .bool fhz, .bool fhc, .slice ha hs.length hcp, .int .i64 pc, .int .i64 st, .slice oa os.length oc]] w fun e w' => ∃ m : Md, e = .returned (.agg m.a) ∧ m.rs.length ≤ 8 ∧ m.hs.length ≤ 4 ∧ m.os.length ≤ 2 ∧ DW w0 p ao n cap m w' := by
  obtain ⟨iH, gH, gH0, gH1, gH2⟩ := info_parts info_cH
  have HIH : Hid (Tryz.prog.info? 55 = some iH ∧ iH.zero = some (.agg #[.int .u64 0, .bool false, .slice none 0 0]) ∧ iH.size = 3 ∧ iH.bytes = 40) := ⟨gH, gH0, gH1, gH2⟩
  obtain ⟨iO, gO, gO0, gO1, gO2⟩ := info_parts info_cO
  have HIO : Hid (Tryz.prog.info? 63 = some iO ∧ iO.zero = some (.agg #[.int .i64 0, .int .u64 0]) ∧ iO.size = 2 ∧ iO.bytes = 16) := ⟨gO, gO0, gO1, gO2⟩
  have H : Hid (DW w0 p ao n cap ⟨.slice ra rs.length rc, fz, fc, fhz, fhc, .slice ha hs.length hcp, pc, st, .slice oa os.length oc, rs, hs, os⟩ w) := h
  have H1 : Hid (rs.length = 8) := h1
  obtain ⟨iB, gB, gB0, gB1, gB2⟩ := info_parts info_cB
  have HIB : Hid (Tryz.prog.info? 5 = some iB ∧ iB.zero = some (.int .u8 0) ∧ iB.size = 1 ∧ iB.bytes = 1) := ⟨gB, gB0, gB1, gB2⟩
  clear gB gB0 gB1 gB2 h h1 gH gH0 gH1 gH2 gO gO0 gO1 gO2
  go_enter Tryz.func32, Tryz.ntmps32
  go_upto_region 1 with fail
  obtain ⟨u0, hu0, x0⟩ : ∃ y, (w.alloc (.cells #[.slice ra rs.length rc, .bool fz, .bool fc, .bool fhz, .bool fhc, .slice ha hs.length hcp, .int .i64 pc, .int .i64 st, .slice oa os.length oc] 28)).alloc (.cells #[.slice none 0 0, .bool false, .bool false, .bool false, .bool false, .slice none 0 0, .int .i64 0, .int .i64 0, .slice none 0 0] 28) = y ∧ DX w0 p ao n cap w.heap.size (w.heap.size + 1) ⟨.slice ra rs.length rc, fz, fc, fhz, fhc, .slice ha hs.length hcp, pc, st, .slice oa os.length oc, rs, hs, os⟩ y := ⟨_, rfl, dx_new2 H.out⟩
  rw [hu0]
  obtain ⟨q, hq⟩ : ∃ y, w.heap.size = y := ⟨_, rfl⟩
  obtain ⟨r, hr⟩ : ∃ y, w.heap.size + 1 = y := ⟨_, rfl⟩
  rw [hr, hq] at x0
  rw [hr, hq]
  have X0 : Hid (DX w0 p ao n cap q r ⟨.slice ra rs.length rc, fz, fc, fhz, fhc, .slice ha hs.length hcp, pc, st, .slice oa os.length oc, rs, hs, os⟩ u0) := x0
  clear hu0 x0 hr hq H
  go_wp2_with fail
  refine (l1Below_any p ao n cap 9 _ (by omega) X0.out.W.K).mono ?_
  rintro e u1 ⟨k, rfl, k0, k1, f, c⟩
  have X1 : Hid (DX w0 p ao n cap q r ⟨.slice ra rs.length rc, fz, fc, fhz, fhc, .slice ha hs.length hcp, pc, st, .slice oa os.length oc, rs, hs, os⟩ u1) := X0.out.fw f c
  clear f c X0
  go_upto_block 0 with fail
  go_cut [3, 4] (fun s3 s4 wx => s3 = .pointer (some ⟨q, 0, none⟩) ∧ s4 = .pointer (some ⟨r, 0, none⟩) ∧ ∃ m : Md, m.rs.length ≤ 8 ∧ m.hs.length ≤ 4 ∧ m.os.length ≤ 2 ∧ DX w0 p ao n cap q r m wx)
  case first =>
    obtain ⟨⟨x0, x1, x2, x3, x4, x5, x6, x7, x8⟩, xf, xz⟩ := X1.out.cells
    dsimp only at x0 x1 x2 x3 x4 x5 x6 x7 x8
    obtain rfl | rfl | rfl | rfl | rfl | rfl | rfl | rfl | rfl : k = 0 ∨ k = 1 ∨ k = 2 ∨ k = 3 ∨ k = 4 ∨ k = 5 ∨ k = 6 ∨ k = 7 ∨ k = 8 := by omega
    · rw [H1.out] at x0
      obtain ⟨g, gc, hg⟩ := row_some X1.out.W.R (by show 0 < rs.length; rw [H1.out]; decide)
      obtain ⟨e1, _, e3⟩ := Value.slice.inj hg
      subst e1
      subst e3
      have c7 : 7 ≤ rc := by
        rcases X1.out.W.R.2 with ⟨h', _⟩ | ⟨g', c', cur, h', _, _, h3', _⟩
        · cases h'
        · have := (Value.slice.inj h').2.2
          have := H1.out
          have h4 : rs.length ≤ c' := h3'
          omega
      have W2 : DW w0 p ao n cap ⟨.slice (some ⟨g, 0, none⟩) 7 rc, fz, fc, fhz, fhc, .slice ha hs.length hcp, pc, st, .slice oa os.length oc, rs.take 7, hs, os⟩ u1 :=
        ⟨X1.out.W.F, X1.out.W.K, by
          have := row_take (k := 7) X1.out.W.R (by show 7 ≤ rs.length; rw [H1.out]; decide)
          show u1.ownsRow _ _ _ _ (rs.take 7).length ((rs.take 7).map _)
          rw [List.length_take, H1.out, List.map_take]
          exact this, X1.out.W.H, X1.out.W.O, X1.out.W.D, fun y hy => X1.out.W.rr y (List.mem_of_mem_take hy), X1.out.W.hr, X1.out.W.pw⟩
      have X2 : Hid (DX w0 p ao n cap q r ⟨.slice (some ⟨g, 0, none⟩) 7 rc, fz, fc, fhz, fhc, .slice ha hs.length hcp, pc, st, .slice oa os.length oc, rs.take 7, hs, os⟩ (u1.setCell ⟨q, 0, none⟩ (.slice (some ⟨g, 0, none⟩) 7 rc))) := DX.store W2 X1.out.X X1.out.Z X1.out.wq X1.out.wr X1.out.ne 0 _ rfl
      have HL : Hid ((rs.take 7).length ≤ 8) := (by rw [List.length_take]; omega : (rs.take 7).length ≤ 8)
      clear W2 hg
      go_wp2_with fail
      go_meet
      exact ⟨rfl, rfl, _, HL.out, by show hs.length ≤ 4; omega, by show os.length ≤ 2; omega, X2.out⟩
    · go_upto_region 7 with fail
      obtain ⟨u2, hu2, y2⟩ : ∃ y, u1.setCell ⟨q, 1, none⟩ (.bool true) = y ∧ DX w0 p ao n cap q r ⟨.slice ra rs.length rc, true, fc, fhz, fhc, .slice ha hs.length hcp, pc, st, .slice oa os.length oc, rs, hs, os⟩ y := ⟨_, rfl, X1.out.set ⟨.slice ra rs.length rc, true, fc, fhz, fhc, .slice ha hs.length hcp, pc, st, .slice oa os.length oc, rs, hs, os⟩ 1 _ rfl rfl rfl rfl rfl rfl rfl⟩
      rw [hu2]
      have X2 : Hid (DX w0 p ao n cap q r ⟨.slice ra rs.length rc, true, fc, fhz, fhc, .slice ha hs.length hcp, pc, st, .slice oa os.length oc, rs, hs, os⟩ u2) := y2
      clear hu2 y2 X1 x0 x1 x2 x3 x4 x5 x6 x7 x8 xf xz
      go_wp2_with fail
      refine (l1Once_any p ao n cap 2 _ (by omega) X2.out.W.K).mono ?_
      rintro e u3 ⟨b, rfl, f, c⟩
      have X3 : Hid (DX w0 p ao n cap q r ⟨.slice ra rs.length rc, true, fc, fhz, fhc, .slice ha hs.length hcp, pc, st, .slice oa os.length oc, rs, hs, os⟩ u3) := X2.out.fw f c
      clear f c X2
      obtain ⟨⟨x0, x1, x2, x3, x4, x5, x6, x7, x8⟩, xf, xz⟩ := X3.out.cells
      dsimp only at x3
      clear x0 x1 x2 x4 x5 x6 x7 x8
      go_wp2_with fail
      go_meet
      exact ⟨rfl, rfl, ⟨.slice ra rs.length rc, true, fc, b, fhc, .slice ha hs.length hcp, pc, st, .slice oa os.length oc, rs, hs, os⟩, by show rs.length ≤ 8; rw [H1.out]; decide, by show hs.length ≤ 4; omega, by show os.length ≤ 2; omega, X3.out.set ⟨.slice ra rs.length rc, true, fc, b, fhc, .slice ha hs.length hcp, pc, st, .slice oa os.length oc, rs, hs, os⟩ 3 _ rfl rfl rfl rfl rfl rfl rfl⟩
    · go_wp2_with fail
      refine (l1Below_any p ao n cap 3 _ (by omega) X1.out.W.K).mono ?_
      rintro e u3 ⟨y, rfl, y0, y1, f, c⟩
      have X3 : Hid (DX w0 p ao n cap q r ⟨.slice ra rs.length rc, fz, fc, fhz, fhc, .slice ha hs.length hcp, pc, st, .slice oa os.length oc, rs, hs, os⟩ u3) := X1.out.fw f c
      clear f c X1 x0 x1 x2 x3 x4 x5 x6 x7 x8 xf xz
      obtain ⟨⟨x0, x1, x2, x3, x4, x5, x6, x7, x8⟩, xf, xz⟩ := X3.out.cells
      dsimp only at x7
      go_wp2_with fail
      go_meet
      exact ⟨rfl, rfl, ⟨.slice ra rs.length rc, fz, fc, fhz, fhc, .slice ha hs.length hcp, pc, (1 + y), .slice oa os.length oc, rs, hs, os⟩, by show rs.length ≤ 8; rw [H1.out]; decide, by show hs.length ≤ 4; omega, by show os.length ≤ 2; omega, X3.out.set ⟨.slice ra rs.length rc, fz, fc, fhz, fhc, .slice ha hs.length hcp, pc, (1 + y), .slice oa os.length oc, rs, hs, os⟩ 7 _ rfl rfl rfl rfl rfl rfl rfl⟩
    · go_wp2_with fail
      refine (l1Below_any p ao n cap 2 _ (by omega) X1.out.W.K).mono ?_
      rintro e u3 ⟨y, rfl, y0, y1, f, c⟩
      have X3 : Hid (DX w0 p ao n cap q r ⟨.slice ra rs.length rc, fz, fc, fhz, fhc, .slice ha hs.length hcp, pc, st, .slice oa os.length oc, rs, hs, os⟩ u3) := X1.out.fw f c
      clear f c X1 x0 x1 x2 x3 x4 x5 x6 x7 x8 xf xz
      obtain ⟨⟨x0, x1, x2, x3, x4, x5, x6, x7, x8⟩, xf, xz⟩ := X3.out.cells
      dsimp only at x6
      go_wp2_with fail
      go_meet
      exact ⟨rfl, rfl, ⟨.slice ra rs.length rc, fz, fc, fhz, fhc, .slice ha hs.length hcp, (2000 + y), st, .slice oa os.length oc, rs, hs, os⟩, by show rs.length ≤ 8; rw [H1.out]; decide, by show hs.length ≤ 4; omega, by show os.length ≤ 2; omega, X3.out.set ⟨.slice ra rs.length rc, fz, fc, fhz, fhc, .slice ha hs.length hcp, (2000 + y), st, .slice oa os.length oc, rs, hs, os⟩ 6 _ rfl rfl rfl rfl rfl rfl rfl⟩
    · have j5 : ∀ w' : World, w'.heap[q]? = some (.cells (Md.a ⟨.slice ra rs.length rc, fz, fc, fhz, fhc, .slice ha hs.length hcp, pc, st, .slice oa os.length oc, rs, hs, os⟩) 28) → w'.cell? ⟨q, 8, none⟩ = some (.slice oa os.length oc) := fun w' h => hq_cell h 8
      have jf : ∀ w' : World, w'.heap[q]? = some (.cells (Md.a ⟨.slice ra rs.length rc, fz, fc, fhz, fhc, .slice ha hs.length hcp, pc, st, .slice oa os.length oc, rs, hs, os⟩) 28) → ∀ j, w'.frozen? ⟨q, j, none⟩ = false := fun w' h => hq_free h
      have jz : ∀ w' : World, w'.heap[q]? = some (.cells (Md.a ⟨.slice ra rs.length rc, fz, fc, fhz, fhc, .slice ha hs.length hcp, pc, st, .slice oa os.length oc, rs, hs, os⟩) 28) → q < w'.heap.size := fun w' h => (Array.getElem?_eq_some_iff.1 h).1
      go_upto_region 13 with fail
      have XD : Hid (DX w0 p ao n cap q r ⟨.slice ra rs.length rc, fz, fc, fhz, fhc, .slice ha hs.length hcp, pc, st, .slice oa os.length oc, rs, hs, os⟩ u1.drew) := X1.out.below (Below.refl _ _).drew
      have hT := XD.out.X
      refine wp_region_L (T := fun w' => w'.heap[q]? = some (.cells (Md.a ⟨.slice ra rs.length rc, fz, fc, fhz, fhc, .slice ha hs.length hcp, pc, st, .slice oa os.length oc, rs, hs, os⟩) 28)) (s := 9) (by kernel_rfl) hT (fun _ => ?_)
      clear X1 x0 x1 x2 x3 x4 x5 x6 x7 x8 xf xz
      refine wpAnyL_tkT 0 ?k1v rfl ?k1y ?k1r
      case k1y => (intro w hSw; (try dsimp only at hSw); go_simp; try with_reducible rfl)
      try simp only [Act.put, List.getElem_toArray, List.getElem_cons_zero, List.setIfInBounds_toArray, List.set_cons_zero, List.set_cons_succ]
      refine wpAnyL_tkT 1 ?k2v rfl ?k2y ?k2r
      case k2y => (intro w hSw; (try dsimp only at hSw); go_simp; try with_reducible rfl)
      try simp only [Act.put, List.getElem_toArray, List.getElem_cons_zero, List.getElem_cons_succ, List.setIfInBounds_toArray, List.set_cons_zero, List.set_cons_succ]
      refine wpAnyL_tkT 2 ?k3v rfl ?k3y ?k3r
      case k3y => (intro w hSw; (try dsimp only at hSw); go_simp; try with_reducible rfl)
      try simp only [Act.put, List.getElem_toArray, List.getElem_cons_zero, List.getElem_cons_succ, List.setIfInBounds_toArray, List.set_cons_zero, List.set_cons_succ]
      refine wpAnyL_call (i := 3) rfl (by kernel_rfl) (fun KK hK => ?_)
      go_simp
      refine (l1Below_any p ao n cap 2 _ (by omega) XD.out.W.K).mono ?_
      rintro e v1 ⟨y, rfl, y0, y1, f, c⟩
      have XE : Hid (DX w0 p ao n cap q r ⟨.slice ra rs.length rc, fz, fc, fhz, fhc, .slice ha hs.length hcp, pc, st, .slice oa os.length oc, rs, hs, os⟩ v1) := XD.out.fw f c
      have hT1 := XE.out.X
      go_wp2_with fail
      refine hK.out _ _ hT1 (fun _ => ?_)
      clear hK KK f c XD hT
      refine wpAnyL_tkT 4 ?k4v rfl ?k4y ?k4r
      case k4y => (intro w hSw; (try dsimp only at hSw); go_simp; try with_reducible rfl)
      try simp only [Act.put, List.getElem_toArray, List.getElem_cons_zero, List.getElem_cons_succ, List.setIfInBounds_toArray, List.set_cons_zero, List.set_cons_succ]
      refine wpAnyL_tkT 5 ?k5v rfl ?k5y ?k5r
      case k5y => (intro w hSw; (try dsimp only at hSw); go_simp; try with_reducible rfl)
      try simp only [Act.put, List.getElem_toArray, List.getElem_cons_zero, List.getElem_cons_succ, List.setIfInBounds_toArray, List.set_cons_zero, List.set_cons_succ]
      refine wpAnyL_call (i := 6) rfl (by kernel_rfl) (fun KK hK => ?_)
      go_simp
      obtain ⟨kk, hkk⟩ : ∃ z, IntKind.i64.wrap (4 * y) = z := ⟨_, rfl⟩
      rw [hkk]
      clear hkk
      obtain ⟨v3, hv3, hb3, hnw⟩ : ∃ z, v1.alloc (.cells #[.int .i64 kk, .int .u64 0] 63) = z ∧ Below v1.heap.size v1 z ∧ (∀ j u, [Value.int .i64 kk, .int .u64 0][j]? = some u → z.cell? ((⟨v1.heap.size, 0, none⟩ : Addr).add j) = some u) := ⟨_, rfl, (Below.refl _ _).alloc (Nat.le_refl _) _, cells_newD v1 _ _⟩
      rw [hv3]
      have XG : Hid (DX w0 p ao n cap q r ⟨.slice ra rs.length rc, fz, fc, fhz, fhc, .slice ha hs.length hcp, pc, st, .slice oa os.length oc, rs, hs, os⟩ v3) := XE.out.below hb3
      have HNW : Hid (∀ j u, [Value.int .i64 kk, .int .u64 0][j]? = some u → v3.cell? ((⟨v1.heap.size, 0, none⟩ : Addr).add j) = some u) := hnw
      have hT3 := XG.out.X
      refine hK.out _ _ hT3 (fun _ => ?_)
      clear hK KK hv3 hb3 hnw XE hT1
      try simp only [Act.put, List.getElem_toArray, List.getElem_cons_zero, List.getElem_cons_succ, List.setIfInBounds_toArray, List.set_cons_zero, List.set_cons_succ]
      obtain ⟨v', v4, hrun, hown, hgrow, _, _⟩ := run_append_own_at (P := Tryz.prog) v3 w0.heap.size 26 26 63 iO _ 2 16 Tryz.underlying26 HIO.out.1 HIO.out.2.1 HIO.out.2.2.1 HIO.out.2.2.2 rfl (by decide) (.slice oa os.length oc) os.length (os.flatMap obC) XG.out.W.O ⟨v1.heap.size, 0, none⟩ 1 1 [Value.int .i64 kk, .int .u64 0] rfl HNW.out (by simp [Value.oneCell']) (by unfold maxLen; omega) (by omega) XG.out.W.F.size
      obtain ⟨vb, vcp, rfl⟩ := row_slD hown
      have W12 := XG.out.W.growO _ (kk, 0) hgrow hown
      have Q12 := grown_obj XG.out.X hgrow (grown_ne XG.out.X XG.out.W.O (by decide))
      have Z12 := grown_obj XG.out.Z hgrow (grown_ne XG.out.Z XG.out.W.O (by decide))
      have X12 : Hid (DX w0 p ao n cap q r ⟨.slice ra rs.length rc, fz, fc, fhz, fhc, .slice ha hs.length hcp, pc, st, .slice vb (os.length + 1) vcp, rs, hs, os ++ [(kk, 0)]⟩ (v4.setCell ⟨q, 8, none⟩ (.slice vb (os.length + 1) vcp))) := DX.store W12 Q12 Z12 XG.out.wq XG.out.wr XG.out.ne 8 _ rfl
      refine wpAnyL_appendZ (.tmp 36) (.tmp 41) (i := 7) rfl (by kernel_rfl) (by kernel_rfl) rfl rfl rfl hrun Q12 (fun _ => ?_)
      try simp only [Act.put, List.getElem_toArray, List.getElem_cons_zero, List.getElem_cons_succ, List.setIfInBounds_toArray, List.set_cons_zero, List.set_cons_succ]
      refine wpAnyL_tk 8 ?k6v rfl ?k6y ?k6r
      case k6y => (intro w hSw; (try dsimp only at hSw); go_simp; try with_reducible rfl)
      try simp only [Act.put, List.getElem_toArray, List.getElem_cons_zero, List.getElem_cons_succ, List.setIfInBounds_toArray, List.set_cons_zero, List.set_cons_succ]
      have y5 := j5 _ Q12
      have yf := jf _ Q12
      have yz := jz _ Q12
      refine wpAnyL_store rfl (by kernel_rfl) (by kernel_rfl) (fun KK hK => ?_)
      go_simp
      refine hK.out _ _ ?_
      clear hK KK hown hgrow hrun W12 Q12 Z12 y5 yf yz j5 jf jz XG HNW hT3
      go_wp2_with fail
      go_meet
      exact ⟨rfl, rfl, ⟨.slice ra rs.length rc, fz, fc, fhz, fhc, .slice ha hs.length hcp, pc, st, .slice vb (os.length + 1) vcp, rs, hs, os ++ [(kk, 0)]⟩, by show rs.length ≤ 8; rw [H1.out]; decide, by show hs.length ≤ 4; omega, by simp; omega, X12.out⟩
    · have j5 : ∀ w' : World, w'.heap[q]? = some (.cells (Md.a ⟨.slice ra rs.length rc, fz, fc, fhz, fhc, .slice ha hs.length hcp, pc, st, .slice oa os.length oc, rs, hs, os⟩) 28) → w'.cell? ⟨q, 5, none⟩ = some (.slice ha hs.length hcp) := fun w' h => hq_cell h 5
      have jf : ∀ w' : World, w'.heap[q]? = some (.cells (Md.a ⟨.slice ra rs.length rc, fz, fc, fhz, fhc, .slice ha hs.length hcp, pc, st, .slice oa os.length oc, rs, hs, os⟩) 28) → ∀ j, w'.frozen? ⟨q, j, none⟩ = false := fun w' h => hq_free h
      have jz : ∀ w' : World, w'.heap[q]? = some (.cells (Md.a ⟨.slice ra rs.length rc, fz, fc, fhz, fhc, .slice ha hs.length hcp, pc, st, .slice oa os.length oc, rs, hs, os⟩) 28) → q < w'.heap.size := fun w' h => (Array.getElem?_eq_some_iff.1 h).1
      go_upto_region 15 with fail
      have XD : Hid (DX w0 p ao n cap q r ⟨.slice ra rs.length rc, fz, fc, fhz, fhc, .slice ha hs.length hcp, pc, st, .slice oa os.length oc, rs, hs, os⟩ u1.drew) := X1.out.below (Below.refl _ _).drew
      have hT := XD.out.X
      refine wp_region_L (T := fun w' => w'.heap[q]? = some (.cells (Md.a ⟨.slice ra rs.length rc, fz, fc, fhz, fhc, .slice ha hs.length hcp, pc, st, .slice oa os.length oc, rs, hs, os⟩) 28)) (s := 10) (by kernel_rfl) hT (fun _ => ?_)
      clear X1 x0 x1 x2 x3 x4 x5 x6 x7 x8 xf xz
      refine wpAnyL_tkT 0 ?k7v rfl ?k7y ?k7r
      case k7y => (intro w hSw; (try dsimp only at hSw); go_simp; try with_reducible rfl)
      try simp only [Act.put, List.getElem_toArray, List.getElem_cons_zero, List.setIfInBounds_toArray, List.set_cons_zero, List.set_cons_succ]
      refine wpAnyL_tkT 1 ?k8v rfl ?k8y ?k8r
      case k8y => (intro w hSw; (try dsimp only at hSw); go_simp; try with_reducible rfl)
      try simp only [Act.put, List.getElem_toArray, List.getElem_cons_zero, List.getElem_cons_succ, List.setIfInBounds_toArray, List.set_cons_zero, List.set_cons_succ]
      refine wpAnyL_tkT 2 ?k9v rfl ?k9y ?k9r
      case k9y => (intro w hSw; (try dsimp only at hSw); go_simp; try with_reducible rfl)
      try simp only [Act.put, List.getElem_toArray, List.getElem_cons_zero, List.getElem_cons_succ, List.setIfInBounds_toArray, List.set_cons_zero, List.set_cons_succ]
      refine wpAnyL_call (i := 3) rfl (by kernel_rfl) (fun KK hK => ?_)
      go_simp
      refine (l1Below_any p ao n cap 2 _ (by omega) XD.out.W.K).mono ?_
      rintro e v1 ⟨y, rfl, y0, y1, f, c⟩
      have XE : Hid (DX w0 p ao n cap q r ⟨.slice ra rs.length rc, fz, fc, fhz, fhc, .slice ha hs.length hcp, pc, st, .slice oa os.length oc, rs, hs, os⟩ v1) := XD.out.fw f c
      have hT1 := XE.out.X
      go_wp2_with fail
      refine hK.out _ _ hT1 (fun _ => ?_)
      clear hK KK f c XD hT
      refine wpAnyL_tkT 4 ?k10v rfl ?k10y ?k10r
      case k10y => (intro w hSw; (try dsimp only at hSw); go_simp; try with_reducible rfl)
      try simp only [Act.put, List.getElem_toArray, List.getElem_cons_zero, List.getElem_cons_succ, List.setIfInBounds_toArray, List.set_cons_zero, List.set_cons_succ]
      obtain ⟨nk, hnk⟩ : ∃ nk : Nat, 4096 + y = (nk : Int) := ⟨(4096 + y).toNat, by omega⟩
      have hn1 : nk ≤ 4097 := by omega
      have wnk : IntKind.i64.wrap (4096 + y) = (nk : Int) := by rw [hnk]; exact wrap_nat nk (by omega)
      (try rw [wnk])
      obtain ⟨v2, hms, hmo, hmg⟩ := run_makeSlice_full (P := Tryz.prog) v1 w0.heap.size 22 5 iB (.int .u8 0) 1 Tryz.underlying22 HIB.out.1 HIB.out.2.1 HIB.out.2.2.1 .i64 .i64 nk (by omega) (by rw [HIB.out.2.2.2]; omega) (by unfold maxLen; omega) XE.out.W.F.size
      refine wpAnyL_call (i := 5) rfl (by kernel_rfl) (fun KK hK => ?_)
      go_simp
      have bm : Below v1.heap.size v1 v2 := (Below.refl _ _).grown hmg (Nat.le_refl _) (fun k hk => by cases hk)
      have XF : Hid (DX w0 p ao n cap q r ⟨.slice ra rs.length rc, fz, fc, fhz, fhc, .slice ha hs.length hcp, pc, st, .slice oa os.length oc, rs, hs, os⟩ v2) := XE.out.below bm
      have HDN : Hid (v2.ownsRow w0.heap.size 5 1 (.slice (some ⟨v1.heap.size, 0, none⟩) nk nk) (List.replicate nk (0 : Int)).length ((List.replicate nk (0 : Int)).map (.int .u8 ·))) := (by rw [List.length_replicate, ← made_zero]; exact hmo : v2.ownsRow w0.heap.size 5 1 (.slice (some ⟨v1.heap.size, 0, none⟩) nk nk) (List.replicate nk (0 : Int)).length ((List.replicate nk (0 : Int)).map (.int .u8 ·)))
      have hT2 := XF.out.X
      refine hK.out _ _ hT2 (fun _ => ?_)
      clear hK KK hms hmo hmg bm XE hT1
      try simp only [Act.put, List.getElem_toArray, List.getElem_cons_zero, List.getElem_cons_succ, List.setIfInBounds_toArray, List.set_cons_zero, List.set_cons_succ]
      refine wpAnyL_tkT 6 ?k11v rfl ?k11y ?k11r
      case k11y => (intro w hSw; (try dsimp only at hSw); go_simp; try with_reducible rfl)
      try simp only [Act.put, List.getElem_toArray, List.getElem_cons_zero, List.getElem_cons_succ, List.setIfInBounds_toArray, List.set_cons_zero, List.set_cons_succ]
      refine wpAnyL_call (i := 7) rfl (by kernel_rfl) (fun KK hK => ?_)
      go_simp
      obtain ⟨v3, hv3, hb3, hnw⟩ : ∃ z, v2.alloc (.cells #[.int .u64 100, .bool false, .slice (some ⟨v1.heap.size, 0, none⟩) nk nk] 55) = z ∧ Below v2.heap.size v2 z ∧ (∀ j u, [Value.int .u64 100, .bool false, .slice (some ⟨v1.heap.size, 0, none⟩) nk nk][j]? = some u → z.cell? ((⟨v2.heap.size, 0, none⟩ : Addr).add j) = some u) := ⟨_, rfl, (Below.refl _ _).alloc (Nat.le_refl _) _, cells_newD v2 _ _⟩
      rw [hv3]
      have XG : Hid (DX w0 p ao n cap q r ⟨.slice ra rs.length rc, fz, fc, fhz, fhc, .slice ha hs.length hcp, pc, st, .slice oa os.length oc, rs, hs, os⟩ v3) := XF.out.below hb3
      have HDG : Hid (v3.ownsRow w0.heap.size 5 1 (.slice (some ⟨v1.heap.size, 0, none⟩) nk nk) (List.replicate nk (0 : Int)).length ((List.replicate nk (0 : Int)).map (.int .u8 ·))) := row_belowD HDN.out hb3
      have HNW : Hid (∀ j u, [Value.int .u64 100, .bool false, .slice (some ⟨v1.heap.size, 0, none⟩) nk nk][j]? = some u → v3.cell? ((⟨v2.heap.size, 0, none⟩ : Addr).add j) = some u) := hnw
      have hT3 := XG.out.X
      refine hK.out _ _ hT3 (fun _ => ?_)
      clear hK KK hv3 hb3 hnw XF hT2
      try simp only [Act.put, List.getElem_toArray, List.getElem_cons_zero, List.getElem_cons_succ, List.setIfInBounds_toArray, List.set_cons_zero, List.set_cons_succ]
      obtain ⟨v', v4, hrun, hown, hgrow, _, _⟩ := run_append_own_at (P := Tryz.prog) v3 w0.heap.size 25 25 55 iH _ 3 40 Tryz.underlying25 HIH.out.1 HIH.out.2.1 HIH.out.2.2.1 HIH.out.2.2.2 rfl (by decide) (.slice ha hs.length hcp) hs.length (hs.flatMap hdC) XG.out.W.H ⟨v2.heap.size, 0, none⟩ 1 1 [Value.int .u64 100, .bool false, .slice (some ⟨v1.heap.size, 0, none⟩) nk nk] rfl HNW.out (by simp [Value.oneCell']) (by unfold maxLen; omega) (by omega) XG.out.W.F.size
      obtain ⟨vb, vcp, rfl⟩ := row_slD hown
      have W12 := XG.out.W.growH _ ⟨100, false, .slice (some ⟨v1.heap.size, 0, none⟩) nk nk, List.replicate nk 0⟩ ⟨by unfold u64r; dsimp only; omega, by show (List.replicate nk (0 : Int)).length ≤ 4100; rw [List.length_replicate]; omega, fun y hy => by have e := List.eq_of_mem_replicate hy; omega⟩ HDG.out hgrow hown
      have Q12 := grown_obj XG.out.X hgrow (grown_ne XG.out.X XG.out.W.H (by decide))
      have Z12 := grown_obj XG.out.Z hgrow (grown_ne XG.out.Z XG.out.W.H (by decide))
      have X12 : Hid (DX w0 p ao n cap q r ⟨.slice ra rs.length rc, fz, fc, fhz, fhc, .slice vb (hs.length + 1) vcp, pc, st, .slice oa os.length oc, rs, hs ++ [⟨100, false, .slice (some ⟨v1.heap.size, 0, none⟩) nk nk, List.replicate nk 0⟩], os⟩ (v4.setCell ⟨q, 5, none⟩ (.slice vb (hs.length + 1) vcp))) := DX.store W12 Q12 Z12 XG.out.wq XG.out.wr XG.out.ne 5 _ rfl
      refine wpAnyL_appendZ (.tmp 47) (.tmp 53) (i := 8) rfl (by kernel_rfl) (by kernel_rfl) rfl rfl rfl hrun Q12 (fun _ => ?_)
      try simp only [Act.put, List.getElem_toArray, List.getElem_cons_zero, List.getElem_cons_succ, List.setIfInBounds_toArray, List.set_cons_zero, List.set_cons_succ]
      refine wpAnyL_tk 9 ?k12v rfl ?k12y ?k12r
      case k12y => (intro w hSw; (try dsimp only at hSw); go_simp; try with_reducible rfl)
      try simp only [Act.put, List.getElem_toArray, List.getElem_cons_zero, List.getElem_cons_succ, List.setIfInBounds_toArray, List.set_cons_zero, List.set_cons_succ]
      have y5 := j5 _ Q12
      have yf := jf _ Q12
      have yz := jz _ Q12
      refine wpAnyL_store rfl (by kernel_rfl) (by kernel_rfl) (fun KK hK => ?_)
      go_simp
      refine hK.out _ _ ?_
      clear hK KK hown hgrow hrun W12 Q12 Z12 y5 yf yz j5 jf jz XG HNW hT3
      go_wp2_with fail
      go_meet
      exact ⟨rfl, rfl, ⟨.slice ra rs.length rc, fz, fc, fhz, fhc, .slice vb (hs.length + 1) vcp, pc, st, .slice oa os.length oc, rs, hs ++ [⟨100, false, .slice (some ⟨v1.heap.size, 0, none⟩) nk nk, List.replicate nk 0⟩], os⟩, by show rs.length ≤ 8; rw [H1.out]; decide, by simp; omega, by show os.length ≤ 2; omega, X12.out⟩
      
    · have j5 : ∀ w' : World, w'.heap[q]? = some (.cells (Md.a ⟨.slice ra rs.length rc, fz, fc, fhz, fhc, .slice ha hs.length hcp, pc, st, .slice oa os.length oc, rs, hs, os⟩) 28) → w'.cell? ⟨q, 5, none⟩ = some (.slice ha hs.length hcp) := fun w' h => hq_cell h 5
      have jf : ∀ w' : World, w'.heap[q]? = some (.cells (Md.a ⟨.slice ra rs.length rc, fz, fc, fhz, fhc, .slice ha hs.length hcp, pc, st, .slice oa os.length oc, rs, hs, os⟩) 28) → ∀ j, w'.frozen? ⟨q, j, none⟩ = false := fun w' h => hq_free h
      have jz : ∀ w' : World, w'.heap[q]? = some (.cells (Md.a ⟨.slice ra rs.length rc, fz, fc, fhz, fhc, .slice ha hs.length hcp, pc, st, .slice oa os.length oc, rs, hs, os⟩) 28) → q < w'.heap.size := fun w' h => (Array.getElem?_eq_some_iff.1 h).1
      go_upto_region 17 with fail
      have XD : Hid (DX w0 p ao n cap q r ⟨.slice ra rs.length rc, fz, fc, fhz, fhc, .slice ha hs.length hcp, pc, st, .slice oa os.length oc, rs, hs, os⟩ u1.drew) := X1.out.below (Below.refl _ _).drew
      have hT := XD.out.X
      refine wp_region_L (T := fun w' => w'.heap[q]? = some (.cells (Md.a ⟨.slice ra rs.length rc, fz, fc, fhz, fhc, .slice ha hs.length hcp, pc, st, .slice oa os.length oc, rs, hs, os⟩) 28)) (s := 10) (by kernel_rfl) hT (fun _ => ?_)
      clear X1 x0 x1 x2 x3 x4 x5 x6 x7 x8 xf xz
      refine wpAnyL_tkT 0 ?k13v rfl ?k13y ?k13r
      case k13y => (intro w hSw; (try dsimp only at hSw); go_simp; try with_reducible rfl)
      try simp only [Act.put, List.getElem_toArray, List.getElem_cons_zero, List.setIfInBounds_toArray, List.set_cons_zero, List.set_cons_succ]
      refine wpAnyL_tkT 1 ?k14v rfl ?k14y ?k14r
      case k14y => (intro w hSw; (try dsimp only at hSw); go_simp; try with_reducible rfl)
      try simp only [Act.put, List.getElem_toArray, List.getElem_cons_zero, List.getElem_cons_succ, List.setIfInBounds_toArray, List.set_cons_zero, List.set_cons_succ]
      refine wpAnyL_tkT 2 ?k15v rfl ?k15y ?k15r
      case k15y => (intro w hSw; (try dsimp only at hSw); go_simp; try with_reducible rfl)
      try simp only [Act.put, List.getElem_toArray, List.getElem_cons_zero, List.getElem_cons_succ, List.setIfInBounds_toArray, List.set_cons_zero, List.set_cons_succ]
      refine wpAnyL_call (i := 3) rfl (by kernel_rfl) (fun KK hK => ?_)
      go_simp
      refine (l1Below_any p ao n cap 2 _ (by omega) XD.out.W.K).mono ?_
      rintro e v1 ⟨y, rfl, y0, y1, f, c⟩
      have XE : Hid (DX w0 p ao n cap q r ⟨.slice ra rs.length rc, fz, fc, fhz, fhc, .slice ha hs.length hcp, pc, st, .slice oa os.length oc, rs, hs, os⟩ v1) := XD.out.fw f c
      have hT1 := XE.out.X
      go_wp2_with fail
      refine hK.out _ _ hT1 (fun _ => ?_)
      clear hK KK f c XD hT
      refine wpAnyL_tkT 4 ?k16v rfl ?k16y ?k16r
      case k16y => (intro w hSw; (try dsimp only at hSw); go_simp; try with_reducible rfl)
      try simp only [Act.put, List.getElem_toArray, List.getElem_cons_zero, List.getElem_cons_succ, List.setIfInBounds_toArray, List.set_cons_zero, List.set_cons_succ]
      obtain ⟨nk, hnk⟩ : ∃ nk : Nat, 2 + y = (nk : Int) := ⟨(2 + y).toNat, by omega⟩
      have hn1 : nk ≤ 4097 := by omega
      have wnk : IntKind.i64.wrap (2 + y) = (nk : Int) := by rw [hnk]; exact wrap_nat nk (by omega)
      (try rw [wnk])
      obtain ⟨v2, hms, hmo, hmg⟩ := run_makeSlice_full (P := Tryz.prog) v1 w0.heap.size 22 5 iB (.int .u8 0) 1 Tryz.underlying22 HIB.out.1 HIB.out.2.1 HIB.out.2.2.1 .i64 .i64 nk (by omega) (by rw [HIB.out.2.2.2]; omega) (by unfold maxLen; omega) XE.out.W.F.size
      refine wpAnyL_call (i := 5) rfl (by kernel_rfl) (fun KK hK => ?_)
      go_simp
      have bm : Below v1.heap.size v1 v2 := (Below.refl _ _).grown hmg (Nat.le_refl _) (fun k hk => by cases hk)
      have XF : Hid (DX w0 p ao n cap q r ⟨.slice ra rs.length rc, fz, fc, fhz, fhc, .slice ha hs.length hcp, pc, st, .slice oa os.length oc, rs, hs, os⟩ v2) := XE.out.below bm
      have HDN : Hid (v2.ownsRow w0.heap.size 5 1 (.slice (some ⟨v1.heap.size, 0, none⟩) nk nk) (List.replicate nk (0 : Int)).length ((List.replicate nk (0 : Int)).map (.int .u8 ·))) := (by rw [List.length_replicate, ← made_zero]; exact hmo : v2.ownsRow w0.heap.size 5 1 (.slice (some ⟨v1.heap.size, 0, none⟩) nk nk) (List.replicate nk (0 : Int)).length ((List.replicate nk (0 : Int)).map (.int .u8 ·)))
      have hT2 := XF.out.X
      refine hK.out _ _ hT2 (fun _ => ?_)
      clear hK KK hms hmo hmg bm XE hT1
      try simp only [Act.put, List.getElem_toArray, List.getElem_cons_zero, List.getElem_cons_succ, List.setIfInBounds_toArray, List.set_cons_zero, List.set_cons_succ]
      refine wpAnyL_tkT 6 ?k17v rfl ?k17y ?k17r
      case k17y => (intro w hSw; (try dsimp only at hSw); go_simp; try with_reducible rfl)
      try simp only [Act.put, List.getElem_toArray, List.getElem_cons_zero, List.getElem_cons_succ, List.setIfInBounds_toArray, List.set_cons_zero, List.set_cons_succ]
      refine wpAnyL_call (i := 7) rfl (by kernel_rfl) (fun KK hK => ?_)
      go_simp
      obtain ⟨v3, hv3, hb3, hnw⟩ : ∃ z, v2.alloc (.cells #[.int .u64 18446744073709551613, .bool false, .slice (some ⟨v1.heap.size, 0, none⟩) nk nk] 55) = z ∧ Below v2.heap.size v2 z ∧ (∀ j u, [Value.int .u64 18446744073709551613, .bool false, .slice (some ⟨v1.heap.size, 0, none⟩) nk nk][j]? = some u → z.cell? ((⟨v2.heap.size, 0, none⟩ : Addr).add j) = some u) := ⟨_, rfl, (Below.refl _ _).alloc (Nat.le_refl _) _, cells_newD v2 _ _⟩
      rw [hv3]
      have XG : Hid (DX w0 p ao n cap q r ⟨.slice ra rs.length rc, fz, fc, fhz, fhc, .slice ha hs.length hcp, pc, st, .slice oa os.length oc, rs, hs, os⟩ v3) := XF.out.below hb3
      have HDG : Hid (v3.ownsRow w0.heap.size 5 1 (.slice (some ⟨v1.heap.size, 0, none⟩) nk nk) (List.replicate nk (0 : Int)).length ((List.replicate nk (0 : Int)).map (.int .u8 ·))) := row_belowD HDN.out hb3
      have HNW : Hid (∀ j u, [Value.int .u64 18446744073709551613, .bool false, .slice (some ⟨v1.heap.size, 0, none⟩) nk nk][j]? = some u → v3.cell? ((⟨v2.heap.size, 0, none⟩ : Addr).add j) = some u) := hnw
      have hT3 := XG.out.X
      refine hK.out _ _ hT3 (fun _ => ?_)
      clear hK KK hv3 hb3 hnw XF hT2
      try simp only [Act.put, List.getElem_toArray, List.getElem_cons_zero, List.getElem_cons_succ, List.setIfInBounds_toArray, List.set_cons_zero, List.set_cons_succ]
      obtain ⟨v', v4, hrun, hown, hgrow, _, _⟩ := run_append_own_at (P := Tryz.prog) v3 w0.heap.size 25 25 55 iH _ 3 40 Tryz.underlying25 HIH.out.1 HIH.out.2.1 HIH.out.2.2.1 HIH.out.2.2.2 rfl (by decide) (.slice ha hs.length hcp) hs.length (hs.flatMap hdC) XG.out.W.H ⟨v2.heap.size, 0, none⟩ 1 1 [Value.int .u64 18446744073709551613, .bool false, .slice (some ⟨v1.heap.size, 0, none⟩) nk nk] rfl HNW.out (by simp [Value.oneCell']) (by unfold maxLen; omega) (by omega) XG.out.W.F.size
      obtain ⟨vb, vcp, rfl⟩ := row_slD hown
      have W12 := XG.out.W.growH _ ⟨18446744073709551613, false, .slice (some ⟨v1.heap.size, 0, none⟩) nk nk, List.replicate nk 0⟩ ⟨by unfold u64r; dsimp only; omega, by show (List.replicate nk (0 : Int)).length ≤ 4100; rw [List.length_replicate]; omega, fun y hy => by have e := List.eq_of_mem_replicate hy; omega⟩ HDG.out hgrow hown
      have Q12 := grown_obj XG.out.X hgrow (grown_ne XG.out.X XG.out.W.H (by decide))
      have Z12 := grown_obj XG.out.Z hgrow (grown_ne XG.out.Z XG.out.W.H (by decide))
      have X12 : Hid (DX w0 p ao n cap q r ⟨.slice ra rs.length rc, fz, fc, fhz, fhc, .slice vb (hs.length + 1) vcp, pc, st, .slice oa os.length oc, rs, hs ++ [⟨18446744073709551613, false, .slice (some ⟨v1.heap.size, 0, none⟩) nk nk, List.replicate nk 0⟩], os⟩ (v4.setCell ⟨q, 5, none⟩ (.slice vb (hs.length + 1) vcp))) := DX.store W12 Q12 Z12 XG.out.wq XG.out.wr XG.out.ne 5 _ rfl
      refine wpAnyL_appendZ (.tmp 59) (.tmp 65) (i := 8) rfl (by kernel_rfl) (by kernel_rfl) rfl rfl rfl hrun Q12 (fun _ => ?_)
      try simp only [Act.put, List.getElem_toArray, List.getElem_cons_zero, List.getElem_cons_succ, List.setIfInBounds_toArray, List.set_cons_zero, List.set_cons_succ]
      refine wpAnyL_tk 9 ?k18v rfl ?k18y ?k18r
      case k18y => (intro w hSw; (try dsimp only at hSw); go_simp; try with_reducible rfl)
      try simp only [Act.put, List.getElem_toArray, List.getElem_cons_zero, List.getElem_cons_succ, List.setIfInBounds_toArray, List.set_cons_zero, List.set_cons_succ]
      have y5 := j5 _ Q12
      have yf := jf _ Q12
      have yz := jz _ Q12
      refine wpAnyL_store rfl (by kernel_rfl) (by kernel_rfl) (fun KK hK => ?_)
      go_simp
      refine hK.out _ _ ?_
      clear hK KK hown hgrow hrun W12 Q12 Z12 y5 yf yz j5 jf jz XG HNW hT3
      go_wp2_with fail
      go_meet
      exact ⟨rfl, rfl, ⟨.slice ra rs.length rc, fz, fc, fhz, fhc, .slice vb (hs.length + 1) vcp, pc, st, .slice oa os.length oc, rs, hs ++ [⟨18446744073709551613, false, .slice (some ⟨v1.heap.size, 0, none⟩) nk nk, List.replicate nk 0⟩], os⟩, by show rs.length ≤ 8; rw [H1.out]; decide, by simp; omega, by show os.length ≤ 2; omega, X12.out⟩
      
    · have j5 : ∀ w' : World, w'.heap[q]? = some (.cells (Md.a ⟨.slice ra rs.length rc, fz, fc, fhz, fhc, .slice ha hs.length hcp, pc, st, .slice oa os.length oc, rs, hs, os⟩) 28) → w'.cell? ⟨q, 5, none⟩ = some (.slice ha hs.length hcp) := fun w' h => hq_cell h 5
      have jf : ∀ w' : World, w'.heap[q]? = some (.cells (Md.a ⟨.slice ra rs.length rc, fz, fc, fhz, fhc, .slice ha hs.length hcp, pc, st, .slice oa os.length oc, rs, hs, os⟩) 28) → ∀ j, w'.frozen? ⟨q, j, none⟩ = false := fun w' h => hq_free h
      have jz : ∀ w' : World, w'.heap[q]? = some (.cells (Md.a ⟨.slice ra rs.length rc, fz, fc, fhz, fhc, .slice ha hs.length hcp, pc, st, .slice oa os.length oc, rs, hs, os⟩) 28) → q < w'.heap.size := fun w' h => (Array.getElem?_eq_some_iff.1 h).1
      go_upto_region 19 with fail
      have XD : Hid (DX w0 p ao n cap q r ⟨.slice ra rs.length rc, fz, fc, fhz, fhc, .slice ha hs.length hcp, pc, st, .slice oa os.length oc, rs, hs, os⟩ u1.drew) := X1.out.below (Below.refl _ _).drew
      have hT := XD.out.X
      refine wp_region_L (T := fun w' => w'.heap[q]? = some (.cells (Md.a ⟨.slice ra rs.length rc, fz, fc, fhz, fhc, .slice ha hs.length hcp, pc, st, .slice oa os.length oc, rs, hs, os⟩) 28)) (s := 10) (by kernel_rfl) hT (fun _ => ?_)
      clear X1 x0 x1 x2 x3 x4 x5 x6 x7 x8 xf xz
      refine wpAnyL_tkT 0 ?k19v rfl ?k19y ?k19r
      case k19y => (intro w hSw; (try dsimp only at hSw); go_simp; try with_reducible rfl)
      try simp only [Act.put, List.getElem_toArray, List.getElem_cons_zero, List.setIfInBounds_toArray, List.set_cons_zero, List.set_cons_succ]
      refine wpAnyL_tkT 1 ?k20v rfl ?k20y ?k20r
      case k20y => (intro w hSw; (try dsimp only at hSw); go_simp; try with_reducible rfl)
      try simp only [Act.put, List.getElem_toArray, List.getElem_cons_zero, List.getElem_cons_succ, List.setIfInBounds_toArray, List.set_cons_zero, List.set_cons_succ]
      refine wpAnyL_tkT 2 ?k21v rfl ?k21y ?k21r
      case k21y => (intro w hSw; (try dsimp only at hSw); go_simp; try with_reducible rfl)
      try simp only [Act.put, List.getElem_toArray, List.getElem_cons_zero, List.getElem_cons_succ, List.setIfInBounds_toArray, List.set_cons_zero, List.set_cons_succ]
      refine wpAnyL_call (i := 3) rfl (by kernel_rfl) (fun KK hK => ?_)
      go_simp
      refine (l1Below_any p ao n cap 90 _ (by omega) XD.out.W.K).mono ?_
      rintro e v1 ⟨y, rfl, y0, y1, f, c⟩
      have XE : Hid (DX w0 p ao n cap q r ⟨.slice ra rs.length rc, fz, fc, fhz, fhc, .slice ha hs.length hcp, pc, st, .slice oa os.length oc, rs, hs, os⟩ v1) := XD.out.fw f c
      have hT1 := XE.out.X
      go_wp2_with fail
      refine hK.out _ _ hT1 (fun _ => ?_)
      clear hK KK f c XD hT
      refine wpAnyL_tkT 4 ?k22v rfl ?k22y ?k22r
      case k22y => (intro w hSw; (try dsimp only at hSw); go_simp; try with_reducible rfl)
      try simp only [Act.put, List.getElem_toArray, List.getElem_cons_zero, List.getElem_cons_succ, List.setIfInBounds_toArray, List.set_cons_zero, List.set_cons_succ]
      obtain ⟨nk, hnk⟩ : ∃ nk : Nat, 1 + y = (nk : Int) := ⟨(1 + y).toNat, by omega⟩
      have hn1 : nk ≤ 4097 := by omega
      have wnk : IntKind.i64.wrap (1 + y) = (nk : Int) := by rw [hnk]; exact wrap_nat nk (by omega)
      (try rw [wnk])
      obtain ⟨v2, hms, hmo, hmg⟩ := run_makeSlice_full (P := Tryz.prog) v1 w0.heap.size 22 5 iB (.int .u8 0) 1 Tryz.underlying22 HIB.out.1 HIB.out.2.1 HIB.out.2.2.1 .i64 .i64 nk (by omega) (by rw [HIB.out.2.2.2]; omega) (by unfold maxLen; omega) XE.out.W.F.size
      refine wpAnyL_call (i := 5) rfl (by kernel_rfl) (fun KK hK => ?_)
      go_simp
      have bm : Below v1.heap.size v1 v2 := (Below.refl _ _).grown hmg (Nat.le_refl _) (fun k hk => by cases hk)
      have XF : Hid (DX w0 p ao n cap q r ⟨.slice ra rs.length rc, fz, fc, fhz, fhc, .slice ha hs.length hcp, pc, st, .slice oa os.length oc, rs, hs, os⟩ v2) := XE.out.below bm
      have HDN : Hid (v2.ownsRow w0.heap.size 5 1 (.slice (some ⟨v1.heap.size, 0, none⟩) nk nk) (List.replicate nk (0 : Int)).length ((List.replicate nk (0 : Int)).map (.int .u8 ·))) := (by rw [List.length_replicate, ← made_zero]; exact hmo : v2.ownsRow w0.heap.size 5 1 (.slice (some ⟨v1.heap.size, 0, none⟩) nk nk) (List.replicate nk (0 : Int)).length ((List.replicate nk (0 : Int)).map (.int .u8 ·)))
      have hT2 := XF.out.X
      refine hK.out _ _ hT2 (fun _ => ?_)
      clear hK KK hms hmo hmg bm XE hT1
      try simp only [Act.put, List.getElem_toArray, List.getElem_cons_zero, List.getElem_cons_succ, List.setIfInBounds_toArray, List.set_cons_zero, List.set_cons_succ]
      refine wpAnyL_tkT 6 ?k23v rfl ?k23y ?k23r
      case k23y => (intro w hSw; (try dsimp only at hSw); go_simp; try with_reducible rfl)
      try simp only [Act.put, List.getElem_toArray, List.getElem_cons_zero, List.getElem_cons_succ, List.setIfInBounds_toArray, List.set_cons_zero, List.set_cons_succ]
      refine wpAnyL_call (i := 7) rfl (by kernel_rfl) (fun KK hK => ?_)
      go_simp
      obtain ⟨v3, hv3, hb3, hnw⟩ : ∃ z, v2.alloc (.cells #[.int .u64 40, .bool false, .slice (some ⟨v1.heap.size, 0, none⟩) nk nk] 55) = z ∧ Below v2.heap.size v2 z ∧ (∀ j u, [Value.int .u64 40, .bool false, .slice (some ⟨v1.heap.size, 0, none⟩) nk nk][j]? = some u → z.cell? ((⟨v2.heap.size, 0, none⟩ : Addr).add j) = some u) := ⟨_, rfl, (Below.refl _ _).alloc (Nat.le_refl _) _, cells_newD v2 _ _⟩
      rw [hv3]
      have XG : Hid (DX w0 p ao n cap q r ⟨.slice ra rs.length rc, fz, fc, fhz, fhc, .slice ha hs.length hcp, pc, st, .slice oa os.length oc, rs, hs, os⟩ v3) := XF.out.below hb3
      have HDG : Hid (v3.ownsRow w0.heap.size 5 1 (.slice (some ⟨v1.heap.size, 0, none⟩) nk nk) (List.replicate nk (0 : Int)).length ((List.replicate nk (0 : Int)).map (.int .u8 ·))) := row_belowD HDN.out hb3
      have HNW : Hid (∀ j u, [Value.int .u64 40, .bool false, .slice (some ⟨v1.heap.size, 0, none⟩) nk nk][j]? = some u → v3.cell? ((⟨v2.heap.size, 0, none⟩ : Addr).add j) = some u) := hnw
      have hT3 := XG.out.X
      refine hK.out _ _ hT3 (fun _ => ?_)
      clear hK KK hv3 hb3 hnw XF hT2
      try simp only [Act.put, List.getElem_toArray, List.getElem_cons_zero, List.getElem_cons_succ, List.setIfInBounds_toArray, List.set_cons_zero, List.set_cons_succ]
      obtain ⟨v', v4, hrun, hown, hgrow, _, _⟩ := run_append_own_at (P := Tryz.prog) v3 w0.heap.size 25 25 55 iH _ 3 40 Tryz.underlying25 HIH.out.1 HIH.out.2.1 HIH.out.2.2.1 HIH.out.2.2.2 rfl (by decide) (.slice ha hs.length hcp) hs.length (hs.flatMap hdC) XG.out.W.H ⟨v2.heap.size, 0, none⟩ 1 1 [Value.int .u64 40, .bool false, .slice (some ⟨v1.heap.size, 0, none⟩) nk nk] rfl HNW.out (by simp [Value.oneCell']) (by unfold maxLen; omega) (by omega) XG.out.W.F.size
      obtain ⟨vb, vcp, rfl⟩ := row_slD hown
      have W12 := XG.out.W.growH _ ⟨40, false, .slice (some ⟨v1.heap.size, 0, none⟩) nk nk, List.replicate nk 0⟩ ⟨by unfold u64r; dsimp only; omega, by show (List.replicate nk (0 : Int)).length ≤ 4100; rw [List.length_replicate]; omega, fun y hy => by have e := List.eq_of_mem_replicate hy; omega⟩ HDG.out hgrow hown
      have Q12 := grown_obj XG.out.X hgrow (grown_ne XG.out.X XG.out.W.H (by decide))
      have Z12 := grown_obj XG.out.Z hgrow (grown_ne XG.out.Z XG.out.W.H (by decide))
      have X12 : Hid (DX w0 p ao n cap q r ⟨.slice ra rs.length rc, fz, fc, fhz, fhc, .slice vb (hs.length + 1) vcp, pc, st, .slice oa os.length oc, rs, hs ++ [⟨40, false, .slice (some ⟨v1.heap.size, 0, none⟩) nk nk, List.replicate nk 0⟩], os⟩ (v4.setCell ⟨q, 5, none⟩ (.slice vb (hs.length + 1) vcp))) := DX.store W12 Q12 Z12 XG.out.wq XG.out.wr XG.out.ne 5 _ rfl
      refine wpAnyL_appendZ (.tmp 71) (.tmp 77) (i := 8) rfl (by kernel_rfl) (by kernel_rfl) rfl rfl rfl hrun Q12 (fun _ => ?_)
      try simp only [Act.put, List.getElem_toArray, List.getElem_cons_zero, List.getElem_cons_succ, List.setIfInBounds_toArray, List.set_cons_zero, List.set_cons_succ]
      refine wpAnyL_tk 9 ?k24v rfl ?k24y ?k24r
      case k24y => (intro w hSw; (try dsimp only at hSw); go_simp; try with_reducible rfl)
      try simp only [Act.put, List.getElem_toArray, List.getElem_cons_zero, List.getElem_cons_succ, List.setIfInBounds_toArray, List.set_cons_zero, List.set_cons_succ]
      have y5 := j5 _ Q12
      have yf := jf _ Q12
      have yz := jz _ Q12
      refine wpAnyL_store rfl (by kernel_rfl) (by kernel_rfl) (fun KK hK => ?_)
      go_simp
      refine hK.out _ _ ?_
      clear hK KK hown hgrow hrun W12 Q12 Z12 y5 yf yz j5 jf jz XG HNW hT3
      go_wp2_with fail
      go_meet
      exact ⟨rfl, rfl, ⟨.slice ra rs.length rc, fz, fc, fhz, fhc, .slice vb (hs.length + 1) vcp, pc, st, .slice oa os.length oc, rs, hs ++ [⟨40, false, .slice (some ⟨v1.heap.size, 0, none⟩) nk nk, List.replicate nk 0⟩], os⟩, by show rs.length ≤ 8; rw [H1.out]; decide, by simp; omega, by show os.length ≤ 2; omega, X12.out⟩
      
    · have hBa : ∀ o, w0.heap.size ≤ (u1.alloc o).heap.size := fun o => (X1.out.below ((Below.refl _ _).alloc (Nat.le_refl _) o)).W.F.size
      have HCN : Hid (∀ j u, [Value.int .u64 9, .bool false, .slice none 0 0][j]? = some u → (u1.alloc (.cells #[.int .u64 9, .bool false, .slice none 0 0] 55)).cell? ((⟨u1.heap.size, 0, none⟩ : Addr).add j) = some u) := cells_newD u1 _ _
      have OA : Hid (∀ o, (u1.alloc o).ownsRow w0.heap.size 55 3 (.slice ha hs.length hcp) hs.length (hs.flatMap hdC)) := fun o => (X1.out.below ((Below.refl _ _).alloc (Nat.le_refl _) o)).W.H
      go_wp2_with (first | (at_builtin; refine wpList_append_own_at _ rfl _ _ 25 rfl w0.heap.size 55 iH _ 3 40 Tryz.underlying25 HIH.out.1 HIH.out.2.1 HIH.out.2.2.1 HIH.out.2.2.2 rfl (by decide) _ _ _ rfl (OA.out _) ⟨u1.heap.size, 0, none⟩ 1 1 [Value.int .u64 9, .bool false, .slice none 0 0] rfl rfl HCN.out ?c2 ?c3 ?c4 (hBa _) ?_))
      case c2 => simp [Value.oneCell']
      case c3 => unfold maxLen; omega
      case c4 => omega
      intro v' u12 hown hgrow _ _
      obtain ⟨vb, vcp, rfl⟩ := row_slD hown
      obtain ⟨ua, hua, ba⟩ : ∃ y, u1.alloc (.cells #[.int .u64 9, .bool false, .slice none 0 0] 55) = y ∧ Below u1.heap.size u1 y := ⟨_, rfl, (Below.refl _ _).alloc (Nat.le_refl _) _⟩
      rw [hua] at hgrow
      have XA := X1.out.below ba
      have W12 := XA.W.growH _ ⟨9, false, .slice none 0 0, []⟩ ⟨by unfold u64r; dsimp only; omega, Nat.zero_le _, fun y hy => absurd hy List.not_mem_nil⟩ ⟨rfl, .inl ⟨rfl, rfl⟩⟩ hgrow hown
      have Q12 := grown_obj XA.X hgrow (grown_ne XA.X XA.W.H (by decide))
      have Z12 := grown_obj XA.Z hgrow (grown_ne XA.Z XA.W.H (by decide))
      have X12 : Hid (DX w0 p ao n cap q r ⟨.slice ra rs.length rc, fz, fc, fhz, fhc, .slice vb (hs.length + 1) vcp, pc, st, .slice oa os.length oc, rs, hs ++ [⟨9, false, .slice none 0 0, []⟩], os⟩ (u12.setCell ⟨q, 5, none⟩ (.slice vb (hs.length + 1) vcp))) := DX.store W12 Q12 Z12 X1.out.wq X1.out.wr X1.out.ne 5 _ rfl
      have y5 := hq_cell Q12 5
      have yf := hq_free Q12
      have yz := (Array.getElem?_eq_some_iff.1 Q12).1
      clear hown hgrow ba hua XA W12 Q12 Z12 x0 x1 x2 x3 x4 x5 x6 x7 x8 xf xz X1
      go_wp2_with fail
      go_meet
      exact ⟨rfl, rfl, ⟨.slice ra rs.length rc, fz, fc, fhz, fhc, .slice vb (hs.length + 1) vcp, pc, st, .slice oa os.length oc, rs, hs ++ [⟨9, false, .slice none 0 0, []⟩], os⟩, by show rs.length ≤ 8; rw [H1.out]; decide, by simp; omega, by show os.length ≤ 2; omega, X12.out⟩
  case rest =>
  clear X1
  obtain ⟨rfl, rfl, m, h1, h2, h3, fx⟩ := hcut
  have X13 : Hid (DX w0 p ao n cap q r m wc) := fx
  clear fx
  generalize wc = u13 at X13 ⊢
  obtain ⟨ra, rc, hvR⟩ := row_slD X13.out.W.R
  obtain ⟨ha, hcp, hvH⟩ := row_slD X13.out.W.H
  obtain ⟨oa, oc, hvO⟩ := row_slD X13.out.W.O
  obtain ⟨vR, fz, fc, fhz, fhc, vH, pc, st, vO, rs, hs, os⟩ := m
  dsimp only at hvR hvH hvO h1 h2 h3
  subst hvR hvH hvO
  obtain ⟨⟨x0, x1, x2, x3, x4, x5, x6, x7, x8⟩, xf, xz⟩ := X13.out.cells
  dsimp only at x0 x1 x2 x3 x4 x5 x6 x7 x8
  obtain ⟨z0, z1, z2, z3, z4, z5, z6, z7, z8, zf, zz⟩ := z9 X13.out.Z
  have W14 : Hid (DW w0 p ao n cap ⟨.slice ra rs.length rc, fz, fc, fhz, fhc, .slice ha hs.length hcp, pc, st, .slice oa os.length oc, rs, hs, os⟩ _) := X13.out.W.put9 X13.out.wr X13.out.Z (.slice ra rs.length rc) (.bool fz) (.bool fc) (.bool fhz) (.bool fhc) (.slice ha hs.length hcp) (.int .i64 pc) (.int .i64 st) (.slice oa os.length oc)
  have hne := X13.out.ne
  have HF3 : Hid (rs.length ≤ 8 ∧ hs.length ≤ 4 ∧ os.length ≤ 2) := ⟨h1, h2, h3⟩
  clear X13 h1 h2 h3
  go_wp2
  refine bodyPost_ret (v := .agg #[.slice ra rs.length rc, .bool fz, .bool fc, .bool fhz, .bool fhc, .slice ha hs.length hcp, .int .i64 pc, .int .i64 st, .slice oa os.length oc]) (by simp [results, Tryz.results32, go_sem, z0, z1, z2, z3, z4, z5, z6, z7, z8]) rfl ⟨⟨.slice ra rs.length rc, fz, fc, fhz, fhc, .slice ha hs.length hcp, pc, st, .slice oa os.length oc, rs, hs, os⟩, rfl, HF3.out.1, HF3.out.2.1, HF3.out.2.2, W14.out⟩
end Go.Proofs.YtpnclceamkmklaaGreat
