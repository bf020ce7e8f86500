import Derived.Test.YtpnclceamkmklaaGreatDrawM0
import Derived.Test.YtpnclceamkmklaaGreatOfMachImpl
/- A drawn machine. -/
namespace Go.Proofs.YtpnclceamkmklaaGreat
open Go.RowKit

theorem dx_new (w : World) (p : Nat) (ao : Option Addr) (n cap : Nat) (hc : Cur w p ao n cap) : DX w p ao n cap (w.heap.size + 1) w.heap.size md0 ((w.alloc (.cells md0.a 28)).alloc (.cells md0.a 28)) := by
  have b : Below w.heap.size w ((w.alloc (.cells md0.a 28)).alloc (.cells md0.a 28)) := ((Below.refl _ _).alloc (Nat.le_refl _) _).alloc (by simp) _
  have e1 : (w.alloc (.cells md0.a 28)).heap.size = w.heap.size + 1 := by simp
  refine ⟨⟨.of_below b, hc.below b, ⟨rfl, .inl ⟨rfl, rfl⟩⟩, ⟨rfl, .inl ⟨rfl, rfl⟩⟩, ⟨rfl, .inl ⟨rfl, rfl⟩⟩, fun _ h => absurd h List.not_mem_nil, fun _ h => absurd h List.not_mem_nil, fun _ h => absurd h List.not_mem_nil, hc.lt⟩, ?_, ?_, Nat.le_succ _, Nat.le_refl _, by omega⟩
  · rw [← e1]; exact hq_new _ _
  · exact (Below.heap_alloc _ _ _ (by rw [e1]; omega)).trans (hq_new w _)

theorem hd_at : ∀ (hs : List HD) (k : Nat) (x : HD), hs[k]? = some x → (hs.flatMap hdC)[k * 3]? = some (.int .u64 x.base)
  | [], k, x, h => by simp at h
  | y :: l, 0, x, h => by
    have e : y = x := by simpa using h
    rw [e]; rfl
  | y :: l, k + 1, x, h => by
    rw [List.flatMap_cons, List.getElem?_append_right (by show 3 ≤ _; omega)]
    have := hd_at l k x (by simpa using h)
    rw [show (k + 1) * 3 - (hdC y).length = k * 3 by show (k + 1) * 3 - 3 = k * 3; omega]
    exact this
set_option maxRecDepth 20000 in
set_option maxHeartbeats 8000000 in
theorem l1DrawMach_any (p : Nat) (ao : Option Addr) (n cap : Nat) (w : World) (hc : Cur w p ao n cap) :
    Calls Tryz.prog 31 #[.pointer (some ⟨p, 0, none⟩)] w fun e w' => ∃ m : Md, e = .returned (.agg m.a) ∧ m.rs.length = 8 ∧ m.hs.length ≤ 3 ∧ m.os.length ≤ 1 ∧ DW w p ao n cap m w' := by
  have HC : Hid (Cur w p ao n cap) := hc
  obtain ⟨iH, gH, gH0, gH1, gH2⟩ := info_parts info_cH
  have HIH : Hid (Tryz.prog.info? 55 = some iH ∧ iH.zero = some (.agg #[.int .u64 0, .bool false, .slice none 0 0]) ∧ iH.size = 3 ∧ iH.bytes = 40) := ⟨gH, gH0, gH1, gH2⟩
  obtain ⟨iR, gR, gR0, gR1, gR2⟩ := info_parts info_cU
  have HIR : Hid (Tryz.prog.info? 53 = some iR ∧ iR.zero = some (.int .u64 0) ∧ iR.size = 1 ∧ iR.bytes = 8) := ⟨gR, gR0, gR1, gR2⟩
  obtain ⟨iO, gO, gO0, gO1, gO2⟩ := info_parts info_cO
  have HIO : Hid (Tryz.prog.info? 63 = some iO ∧ iO.zero = some (.agg #[.int .i64 0, .int .u64 0]) ∧ iO.size = 2 ∧ iO.bytes = 16) := ⟨gO, gO0, gO1, gO2⟩
  have lp := hc.lt
  clear gO gO0 gO1 gO2 hc gH gH0 gH1 gH2 gR gR0 gR1 gR2
  go_enter Tryz.func31, Tryz.ntmps31
  go_upto_region 2 with fail
  obtain ⟨u0, hu0, x0⟩ : ∃ y, (w.alloc (.cells md0.a 28)).alloc (.cells md0.a 28) = y ∧ DX w p ao n cap (w.heap.size + 1) w.heap.size md0 y := ⟨_, rfl, dx_new w p ao n cap HC.out⟩
  unfold Md.a md0 at hu0
  rw [hu0]
  obtain ⟨r, hr⟩ : ∃ y, w.heap.size = y := ⟨_, rfl⟩
  obtain ⟨q, hq⟩ : ∃ y, w.heap.size + 1 = y := ⟨_, rfl⟩
  rw [hq, hr] at x0
  rw [hq, hr]
  have X0 : Hid (DX w p ao n cap q r md0 u0) := x0
  have HQR : Hid (w.heap.size = r ∧ w.heap.size + 1 = q) := ⟨hr, hq⟩
  clear hu0 x0 hr hq HC
  go_wp2_with fail
  refine (l1Below_any p ao n cap 5 _ (by omega) X0.out.W.K).mono ?_
  rintro e u1 ⟨x, rfl, xl, xh, f, c⟩
  have X1 : Hid (DX w p ao n cap q r md0 u1) := X0.out.fw f c
  clear f c X0
  go_wp2_with fail
  refine (l1Once_any p ao n cap 8 _ (by omega) X1.out.W.K).mono ?_
  rintro e u2 ⟨z, rfl, f, c⟩
  have X2 : Hid (DX w p ao n cap q r md0 u2) := X1.out.fw f c
  clear f c X1
  go_upto_if 16 with fail
  go_cut [2, 3, 4] (fun s2 s3 s4 wx => s2 = .pointer (some ⟨r, 0, none⟩) ∧ s3 = .pointer (some ⟨q, 0, none⟩) ∧ (∃ bs, s4 = .int .u64 bs ∧ u64r bs) ∧ DX w p ao n cap q r md0 wx)
  case first =>
    cases z with
    | true =>
      go_wp2_with fail
      go_meet
      exact ⟨rfl, rfl, ⟨_, rfl, by unfold u64r; omega⟩, X2.out⟩
    | false =>
      go_wp2_with fail
      go_meet
      exact ⟨rfl, rfl, ⟨_, rfl, by unfold u64r; omega⟩, X2.out⟩
  case rest =>
  clear X2
  obtain ⟨rfl, rfl, ⟨bs, rfl, hbs⟩, fx⟩ := hcut
  have X3 : Hid (DX w p ao n cap q r md0 wc) := fx
  have HBS : Hid (u64r bs) := hbs
  clear fx hbs
  generalize wc = u3 at X3 ⊢
  go_wp2_with fail
  refine (l1Below_any p ao n cap 4 _ (by omega) X3.out.W.K).mono ?_
  rintro e u4 ⟨nn, rfl, n0, n1, f, c⟩
  have X4 : Hid (DX w p ao n cap q r md0 u4) := X3.out.fw f c
  clear f c X3
  go_wp2_with fail
  go_loopw [4, 6] (fun bv iv wr => ∃ (bs : Int) (m : Md), bv = .int .u64 bs ∧ u64r bs ∧ iv = .int .i64 (m.hs.length : Int) ∧ (m.hs.length : Int) ≤ nn ∧ (m.rs = [] ∧ m.os = []) ∧ DX w p ao n cap q r m wr) (fun _ iv _ => (nn - intOf iv).toNat)
  case atStart => exact ⟨bs, md0, rfl, HBS.out, rfl, by simpa [md0] using n0, ⟨rfl, rfl⟩, X4.out⟩
  case round =>
    clear X4 HBS
    obtain ⟨bs, m, rfl, hbs, rfl, hml, hmd, hx⟩ := hrel
    have HBS : Hid (u64r bs) := hbs
    have HMD : Hid (m.rs = [] ∧ m.os = []) := hmd
    have X5 : Hid (DX w p ao n cap q r m wr) := hx
    obtain ⟨k, hk⟩ : ∃ k : Int, (m.hs.length : Int) = k := ⟨_, rfl⟩
    have HK : Hid ((m.hs.length : Int) = k) := hk
    have k0 : 0 ≤ k := by omega
    rw [hk] at hml ⊢
    clear hbs hmd hx hk
    by_cases hlt : k < nn
    · go_wp2_with fail
      refine (l1Below_any p ao n cap 3 _ (by omega) X5.out.W.K).mono ?_
      rintro e u6 ⟨y, rfl, y0, y1, f, c⟩
      have X6 : Hid (DX w p ao n cap q r m u6) := X5.out.fw f c
      clear f c X5
      go_wp2_with fail
      refine (l1Below_any p ao n cap 40 _ (by omega) X6.out.W.K).mono ?_
      rintro e u7 ⟨d, rfl, d0, d1, f, c⟩
      have X7 : Hid (DX w p ao n cap q r m u7) := X6.out.fw f c
      clear f c X6
      go_wp2_with fail
      refine (l1Some_any p ao n cap (1 + d) _ (by omega) (by omega) X7.out.W.K).mono ?_
      rintro e u8 ⟨v, rfl, ds, hdl, hdr, hdo, f, c⟩
      have X8 : Hid (DX w p ao n cap q r m u8) := X7.out.fw f c
      obtain ⟨va, vc, rfl⟩ := row_slD hdo
      obtain ⟨wb, hwb⟩ : ∃ b, decide (0 < y) = b := ⟨_, rfl⟩
      have HD8 : Hid (u8.ownsRow u7.heap.size 5 1 (.slice va ds.length vc) ds.length (ds.map (.int .u8 ·))) := hdo
      have HDR : Hid (∀ x ∈ ds, 0 ≤ x ∧ x ≤ 255) := hdr
      have hdl2 : ds.length ≤ 100 := by omega
      have z7 := X7.out.W.F.size
      clear f c X7 hdo hdr
      go_upto_region 10 with fail
      obtain ⟨u9, hu9, x9, h9, d9⟩ : ∃ y, u8.alloc (.cells #[.int .u64 bs, .bool wb, .slice va ds.length vc] 55) = y ∧ DX w p ao n cap q r m y ∧ y.heap[u8.heap.size]? = some (.cells #[.int .u64 bs, .bool wb, .slice va ds.length vc] 55) ∧ y.ownsRow w.heap.size 5 1 (.slice va ds.length vc) ds.length (ds.map (.int .u8 ·)) := by
        have b : Below u8.heap.size u8 (u8.alloc (.cells #[.int .u64 bs, .bool wb, .slice va ds.length vc] 55)) := (Below.refl _ _).alloc (Nat.le_refl _) _
        refine ⟨_, rfl, X8.out.below b, hq_new _ _, ?_⟩
        have k := row_belowD HD8.out b
        refine ⟨k.1, ?_⟩
        rcases k.2 with h' | ⟨g, cap, cur, h', h1, h2⟩
        · exact .inl h'
        · exact .inr ⟨g, cap, cur, h', Nat.le_trans z7 h1, h2⟩
      rw [hu9]
      obtain ⟨hb, hhb⟩ : ∃ y, u8.heap.size = y := ⟨_, rfl⟩
      have hbw : w.heap.size ≤ hb := by have := X8.out.W.F.size; omega
      rw [hhb] at h9 ⊢
      have X9 : Hid (DX w p ao n cap q r m u9) := x9
      have H9 : Hid (u9.heap[hb]? = some (.cells #[.int .u64 bs, .bool wb, .slice va ds.length vc] 55)) := h9
      have D9 : Hid (u9.ownsRow w.heap.size 5 1 (.slice va ds.length vc) ds.length (ds.map (.int .u8 ·))) := d9
      have c0 := hq_cell h9 0
      have c1 := hq_cell h9 1
      have c2 := hq_cell h9 2
      simp only [List.getElem?_toArray, List.getElem?_cons_zero, List.getElem?_cons_succ] at c0 c1 c2
      have cz := (Array.getElem?_eq_some_iff.1 h9).1
      clear hu9 x9 h9 d9 hhb HD8 X8
      go_wp2_with fail
      refine (size_any bs wb va ds.length vc _ (by omega)).mono ?_
      rintro e u10 ⟨rfl, hb10⟩
      have X10 : Hid (DX w p ao n cap q r m u10) := X9.out.below hb10
      have H10 : Hid (u10.heap[hb]? = some (.cells #[.int .u64 bs, .bool wb, .slice va ds.length vc] 55)) := (hb10.block hb cz).trans H9.out
      have D10 : Hid (u10.ownsRow w.heap.size 5 1 (.slice va ds.length vc) ds.length (ds.map (.int .u8 ·))) := row_belowD D9.out hb10
      clear hb10 X9 H9 D9 c0 c1 c2 cz
      go_wp2_with fail
      refine (l1Below_any p ao n cap 9 _ (by omega) X10.out.W.K).mono ?_
      rintro e u11 ⟨g, rfl, g0, g1, f, c⟩
      have X11 : Hid (DX w p ao n cap q r m u11) := X10.out.fw f c
      have H11 : Hid (u11.heap[hb]? = some (.cells #[.int .u64 bs, .bool wb, .slice va ds.length vc] 55)) := hq_fw H10.out f (by omega)
      have D11 : Hid (u11.ownsRow w.heap.size 5 1 (.slice va ds.length vc) ds.length (ds.map (.int .u8 ·))) := row_fw D10.out f lp
      clear f c X10 H10 D10
      have c0 := hq_cell H11.out 0
      have c1 := hq_cell H11.out 1
      have c2 := hq_cell H11.out 2
      simp only [List.getElem?_toArray, List.getElem?_cons_zero, List.getElem?_cons_succ] at c0 c1 c2
      have cz := (Array.getElem?_eq_some_iff.1 H11.out).1
      obtain ⟨⟨_, _, _, _, _, x5, _, _, _⟩, xf, xz⟩ := X11.out.cells
      obtain ⟨ha, hcp, hvH⟩ := row_slD X11.out.W.H
      rw [hvH] at x5
      have HVH : Hid (m.vH = .slice ha m.hs.length hcp) := hvH
      clear hvH
      go_upto_region 11 with fail
      obtain ⟨b2, hb2⟩ : ∃ y, IntKind.u64.wrap (IntKind.u64.wrap (bs + (1 + d)) + g) = y := ⟨_, rfl⟩
      have HB2 : Hid (u64r b2) := (by rw [← hb2]; exact u64r_wrap _ : u64r b2)
      rw [hb2]
      clear hb2
      have hyn : m.hs.length ≤ 8 := by have := HK.out; omega
      have hBa : ∀ o, w.heap.size ≤ (u11.alloc o).heap.size := fun o => (X11.out.below ((Below.refl _ _).alloc (Nat.le_refl _) o)).W.F.size
      have HCN : Hid (∀ j u, [Value.int .u64 bs, .bool wb, .slice va ds.length vc][j]? = some u → (u11.alloc (.cells #[.int .u64 bs, .bool wb, .slice va ds.length vc] 55)).cell? ((⟨u11.heap.size, 0, none⟩ : Addr).add j) = some u) := cells_newD u11 _ _
      have OA : Hid (∀ o, (u11.alloc o).ownsRow w.heap.size 55 3 (.slice ha m.hs.length hcp) m.hs.length (m.hs.flatMap hdC)) := fun o => by
        have k := (X11.out.below ((Below.refl _ _).alloc (Nat.le_refl _) o)).W.H
        rw [HVH.out] at k
        exact k
      go_wp2_with (first | (at_builtin; refine wpList_append_own_at _ rfl _ _ 25 rfl w.heap.size 55 iH _ 3 40 Tryz.underlying25 HIH.out.1 HIH.out.2.1 HIH.out.2.2.1 HIH.out.2.2.2 rfl (by decide) _ _ _ rfl (OA.out _) ⟨u11.heap.size, 0, none⟩ 1 1 [Value.int .u64 bs, .bool wb, .slice va ds.length vc] rfl rfl HCN.out ?c2 ?c3 ?c4 (hBa _) ?_))
      case c2 => simp [Value.oneCell']
      case c3 => unfold maxLen; omega
      case c4 => omega
      intro v' u12 hown hgrow _ _
      obtain ⟨vb, vcp, rfl⟩ := row_slD hown
      obtain ⟨ua, hua, ba⟩ : ∃ y, u11.alloc (.cells #[.int .u64 bs, .bool wb, .slice va ds.length vc] 55) = y ∧ Below u11.heap.size u11 y := ⟨_, rfl, (Below.refl _ _).alloc (Nat.le_refl _) _⟩
      rw [hua] at hgrow
      rw [← HVH.out] at hgrow
      have XA := X11.out.below ba
      have W12 : DW w p ao n cap { m with vH := .slice vb (m.hs.length + 1) vcp, hs := m.hs ++ [⟨bs, wb, .slice va ds.length vc, ds⟩] } u12 := XA.W.growH _ ⟨bs, wb, .slice va ds.length vc, ds⟩ ⟨HBS.out, by show ds.length ≤ 4100; omega, HDR.out⟩ (row_belowD D11.out ba) hgrow hown
      have Q12 := grown_obj XA.X hgrow (grown_ne XA.X XA.W.H (by decide))
      have Z12 := grown_obj XA.Z hgrow (grown_ne XA.Z XA.W.H (by decide))
      have X12 : Hid (DX w p ao n cap q r { m with vH := .slice vb (m.hs.length + 1) vcp, hs := m.hs ++ [⟨bs, wb, .slice va ds.length vc, ds⟩] } (u12.setCell ⟨q, 5, none⟩ (.slice vb (m.hs.length + 1) vcp))) := DX.store W12 Q12 Z12 X11.out.wq X11.out.wr X11.out.ne 5 _ rfl
      have y5 := hq_cell Q12 5
      have yf := hq_free Q12
      have yz := (Array.getElem?_eq_some_iff.1 Q12).1
      clear hown hgrow ba hua XA W12 Q12 Z12 c0 c1 c2 cz x5 xf xz X11 H11 D11
      go_wp2_with fail
      go_roundw
      case rel => exact ⟨b2, { m with vH := .slice vb (m.hs.length + 1) vcp, hs := m.hs ++ [⟨bs, wb, .slice va ds.length vc, ds⟩] }, rfl, HB2.out, by have := HK.out; simp; omega, by have := HK.out; simp; omega, HMD.out, X12.out⟩
      case measure => simp [intOf]; omega
    · clear HBS
      go_wp2_with fail
      go_loopw [8] (fun iv wr => ∃ (m : Md), iv = .int .i64 (m.rs.length : Int) ∧ (m.rs.length : Int) ≤ 8 ∧ m.os = [] ∧ m.hs.length ≤ 3 ∧ DX w p ao n cap q r m wr) (fun iv _ => (8 - intOf iv).toNat)
      case atStart => exact ⟨m, by rw [HMD.out.1]; rfl, by rw [HMD.out.1]; simp, HMD.out.2, by have := HK.out; omega, X5.out⟩
      case round =>
        clear X5 HMD HK
        obtain ⟨m, rfl, hml, hmo, hmh, hx⟩ := hrel
        have X5 : Hid (DX w p ao n cap q r m wr) := hx
        have HMO : Hid (m.os = []) := hmo
        obtain ⟨k, hk⟩ : ∃ k : Int, (m.rs.length : Int) = k := ⟨_, rfl⟩
        have HK : Hid ((m.rs.length : Int) = k) := hk
        have k0 : 0 ≤ k := by omega
        rw [hk] at hml ⊢
        clear hmo hx hk
        by_cases hlt8 : k < 8
        · go_wp2_with fail
          refine (l1Word_any p ao n cap _ X5.out.W.K).mono ?_
          rintro e u6 ⟨x, rfl, hxr, f, c⟩
          have X6 : Hid (DX w p ao n cap q r m u6) := X5.out.fw f c
          have HXR : Hid (u64r x) := hxr
          clear f c X5 hxr
          obtain ⟨⟨x0, _, _, _, _, x5, _, _, _⟩, xf, xz⟩ := X6.out.cells
          obtain ⟨ha, hcp, hvH⟩ := row_slD X6.out.W.H
          rw [hvH] at x5
          have HVH : Hid (m.vH = .slice ha m.hs.length hcp) := hvH
          clear hvH
          go_upto_region 16 with fail
          go_cut [2, 3, 8, 9, 63] (fun s2 s3 s8 s9 s63 wx => s2 = .pointer (some ⟨r, 0, none⟩) ∧ s3 = .pointer (some ⟨q, 0, none⟩) ∧ s8 = .int .i64 k ∧ s9 = .int .u64 x ∧ (∃ zz : Bool, s63 = .bool zz ∧ (zz = true → k < (m.hs.length : Int))) ∧ DX w p ao n cap q r m wx)
          case first =>
            by_cases hh : k < (m.hs.length : Int)
            · have e1 : decide (k < (m.hs.length : Int)) = true := by simp [hh]
              go_wp2_with fail
              refine (l1Below_any p ao n cap 4 _ (by omega) X6.out.W.K).mono ?_
              rintro e u7 ⟨y, rfl, y0, y1, f, c⟩
              have X7 : Hid (DX w p ao n cap q r m u7) := X6.out.fw f c
              clear f c x0 x5 xf xz
              obtain ⟨zz, hzz⟩ : ∃ b, decide (0 < y) = b := ⟨_, rfl⟩
              go_wp2_with fail
              go_meet
              exact ⟨rfl, rfl, rfl, rfl, ⟨_, rfl, fun _ => hh⟩, X7.out⟩
            · have e1 : decide (k < (m.hs.length : Int)) = false := by simp [hh]
              go_wp2_with fail
              go_meet
              exact ⟨rfl, rfl, rfl, rfl, ⟨_, rfl, fun h => by cases h⟩, X6.out⟩
          case rest =>
          clear X6 x0 x5 xf xz
          obtain ⟨rfl, rfl, rfl, rfl, ⟨zz, rfl, hzz⟩, fx⟩ := hcut
          have X6 : Hid (DX w p ao n cap q r m wc) := fx
          clear fx
          generalize wc = u6 at X6 ⊢
          go_upto_if 63 with fail
          go_cut [2, 3, 8, 9] (fun s2 s3 s8 s9 wx => s2 = .pointer (some ⟨r, 0, none⟩) ∧ s3 = .pointer (some ⟨q, 0, none⟩) ∧ s8 = .int .i64 k ∧ (∃ bs, s9 = .int .u64 bs ∧ u64r bs) ∧ DX w p ao n cap q r m wx)
          case first =>
            cases zz with
            | false =>
              go_wp2_with fail
              go_meet
              exact ⟨rfl, rfl, rfl, ⟨_, rfl, HXR.out⟩, X6.out⟩
            | true =>
              have hh := hzz rfl
              clear hzz
              obtain ⟨kn, hkn⟩ := Int.eq_ofNat_of_zero_le k0
              subst hkn
              have hkl : kn < m.hs.length := by omega
              obtain ⟨gH, gc, hvH⟩ : ∃ g c, m.vH = .slice (some ⟨g, 0, none⟩) m.hs.length c := by
                obtain ⟨g, c, h⟩ := row_some X6.out.W.H (by omega)
                exact ⟨g, c, h⟩
              obtain ⟨x9, hx9⟩ : ∃ y : HD, m.hs[kn]? = some y := ⟨_, List.getElem?_eq_getElem hkl⟩
              have j5 : ∀ w', DX w p ao n cap q r m w' → w'.cell? ⟨q, 5, none⟩ = some (.slice (some ⟨gH, 0, none⟩) m.hs.length gc) := fun w' h => by rw [← hvH]; exact h.cells.1.2.2.2.2.2.1
              have j0 : ∀ w', DX w p ao n cap q r m w' → w'.cell? ⟨gH, kn * 3, none⟩ = some (.int .u64 x9.base) := fun w' h => by
                have hH := h.W.H
                rw [hvH] at hH
                rw [hH.cellAt (kn * 3) (by omega)]
                exact hd_at m.hs kn x9 hx9
              have j1 : ∀ w', DX w p ao n cap q r m w' → q < w'.heap.size := fun w' h => h.cells.2.2
              have j2 : ∀ w', DX w p ao n cap q r m w' → gH < w'.heap.size := fun w' h => by
                have hH := h.W.H
                rw [hvH] at hH
                exact (hH.lt gH rfl).2
              go_upto_region 17 with fail
              refine wp_region_held_drew (S := fun w' => DX w p ao n cap q r m w') (by kernel_rfl) (X6.out.below (Below.refl _ _).drew) (fun _ => ?_)
              refine wpAnyH_tk 0 ?k1v rfl ?k1y ?k1r
              case k1y => (intro w hSw; (try dsimp only at hSw); go_simp; try with_reducible rfl)
              try simp only [Act.put, List.getElem_toArray, List.getElem_cons_zero, List.setIfInBounds_toArray, List.set_cons_zero, List.set_cons_succ]
              refine wpAnyH_tk 1 ?k2v rfl ?k2y ?k2r
              case k2y => (intro w hSw; (try dsimp only at hSw); go_simp; try with_reducible rfl)
              try simp only [Act.put, List.getElem_toArray, List.getElem_cons_zero, List.getElem_cons_succ, List.setIfInBounds_toArray, List.set_cons_zero, List.set_cons_succ]
              refine wpAnyH_tk 2 ?k3v rfl ?k3y ?k3r
              case k3y => (intro w hSw; (try dsimp only at hSw); go_simp; try with_reducible rfl)
              try simp only [Act.put, List.getElem_toArray, List.getElem_cons_zero, List.getElem_cons_succ, List.setIfInBounds_toArray, List.set_cons_zero, List.set_cons_succ]
              refine wpAnyH_tk 3 ?k4v rfl ?k4y ?k4r
              case k4y => (intro w hSw; (try dsimp only at hSw); go_simp; try with_reducible rfl)
              try simp only [Act.put, List.getElem_toArray, List.getElem_cons_zero, List.getElem_cons_succ, List.setIfInBounds_toArray, List.set_cons_zero, List.set_cons_succ]
              refine wpAnyH_tk 4 ?k5v rfl ?k5y ?k5r
              case k5y => (intro w hSw; (try dsimp only at hSw); go_simp; try with_reducible rfl)
              try simp only [Act.put, List.getElem_toArray, List.getElem_cons_zero, List.getElem_cons_succ, List.setIfInBounds_toArray, List.set_cons_zero, List.set_cons_succ]
              refine wpAnyH_tk 5 ?k6v rfl ?k6y ?k6r
              case k6y => (intro w hSw; (try dsimp only at hSw); go_simp; try with_reducible rfl)
              try simp only [Act.put, List.getElem_toArray, List.getElem_cons_zero, List.getElem_cons_succ, List.setIfInBounds_toArray, List.set_cons_zero, List.set_cons_succ]
              refine wpAnyH_tk 6 ?k7v rfl ?k7y ?k7r
              case k7y => (intro w hSw; (try dsimp only at hSw); go_simp; try with_reducible rfl)
              try simp only [Act.put, List.getElem_toArray, List.getElem_cons_zero, List.getElem_cons_succ, List.setIfInBounds_toArray, List.set_cons_zero, List.set_cons_succ]
              refine wpAnyH_ready (rs := [7]) (by kernel_rfl) (by simp) ?_
              refine AllReadyH.cons rfl (fun KK hK => ?_) AllReadyH.nil
              go_simp
              refine (l1Below_any p ao n cap 12 _ (by omega) (X6.out.below (Below.refl _ _).drew).W.K).mono ?_
              rintro e u8 ⟨y, rfl, y0, y1, f, c⟩
              have X8 : DX w p ao n cap q r m u8 := (X6.out.below (Below.refl _ _).drew).fw f c
              go_wp2_with fail
              refine hK.out _ _ X8 (fun _ => ?_)
              clear hK KK f c
              refine wpAnyH_tk 8 ?k8v rfl ?k8y ?k8r
              case k8y => (intro w hSw; (try dsimp only at hSw); go_simp; try with_reducible rfl)
              try simp only [Act.put, List.getElem_toArray, List.getElem_cons_zero, List.getElem_cons_succ, List.setIfInBounds_toArray, List.set_cons_zero, List.set_cons_succ]
              refine wpAnyH_tk 9 ?k9v rfl ?k9y ?k9r
              case k9y => (intro w hSw; (try dsimp only at hSw); go_simp; try with_reducible rfl)
              try simp only [Act.put, List.getElem_toArray, List.getElem_cons_zero, List.getElem_cons_succ, List.setIfInBounds_toArray, List.set_cons_zero, List.set_cons_succ]
              refine wpAnyH_tk 10 ?k10v rfl ?k10y ?k10r
              case k10y => (intro w hSw; (try dsimp only at hSw); go_simp; try with_reducible rfl)
              try simp only [Act.put, List.getElem_toArray, List.getElem_cons_zero, List.getElem_cons_succ, List.setIfInBounds_toArray, List.set_cons_zero, List.set_cons_succ]
              refine wpAnyH_done (by kernel_rfl) ?_ _
              have XX8 : Hid (DX w p ao n cap q r m u8) := X8
              clear X8 j5 j0 j1 j2 X6
              go_wp2_with fail
              go_meet
              exact ⟨rfl, rfl, rfl, ⟨_, rfl, u64r_wrap _⟩, XX8.out⟩
          case rest =>
          clear X6 HXR hzz
          obtain ⟨rfl, rfl, rfl, ⟨x2, rfl, hx2⟩, fx⟩ := hcut
          have X11 : Hid (DX w p ao n cap q r m wc) := fx
          have HX2 : Hid (u64r x2) := hx2
          clear fx hx2
          generalize wc = u11 at X11 ⊢
          obtain ⟨⟨x0, _, _, _, _, _, _, _, _⟩, xf, xz⟩ := X11.out.cells
          obtain ⟨ra, rc, hvR⟩ := row_slD X11.out.W.R
          rw [hvR] at x0
          have HVR : Hid (m.vR = .slice ra m.rs.length rc) := hvR
          have hyn : m.rs.length ≤ 8 := by have := HK.out; omega
          have hBa : ∀ o, w.heap.size ≤ (u11.alloc o).heap.size := fun o => (X11.out.below ((Below.refl _ _).alloc (Nat.le_refl _) o)).W.F.size
          have HCN : Hid (∀ j u, [Value.int .u64 x2][j]? = some u → (u11.alloc (.cells #[.int .u64 x2] 53)).cell? ((⟨u11.heap.size, 0, none⟩ : Addr).add j) = some u) := cells_newD u11 _ _
          have OA : Hid (∀ o, (u11.alloc o).ownsRow w.heap.size 53 1 (.slice ra m.rs.length rc) m.rs.length (m.rs.map (.int .u64 ·))) := fun o => by
            have k := (X11.out.below ((Below.refl _ _).alloc (Nat.le_refl _) o)).W.R
            rw [hvR] at k
            exact k
          clear hvR
          go_wp2_with (first | (at_builtin; refine wpList_append_own_at _ rfl _ _ 24 rfl w.heap.size 53 iR _ 1 8 Tryz.underlying24 HIR.out.1 HIR.out.2.1 HIR.out.2.2.1 HIR.out.2.2.2 rfl (by decide) _ _ _ rfl (OA.out _) ⟨u11.heap.size, 0, none⟩ 1 1 [Value.int .u64 x2] rfl rfl HCN.out ?c2 ?c3 ?c4 (hBa _) ?_))
          case c2 => simp [Value.oneCell']
          case c3 => unfold maxLen; omega
          case c4 => omega
          intro v' u12 hown hgrow _ _
          obtain ⟨vb, vcp, rfl⟩ := row_slD hown
          obtain ⟨ua, hua, ba⟩ : ∃ y, u11.alloc (.cells #[.int .u64 x2] 53) = y ∧ Below u11.heap.size u11 y := ⟨_, rfl, (Below.refl _ _).alloc (Nat.le_refl _) _⟩
          rw [hua] at hgrow
          rw [← HVR.out] at hgrow
          have XA := X11.out.below ba
          have W12 : DW w p ao n cap { m with vR := .slice vb (m.rs.length + 1) vcp, rs := m.rs ++ [x2] } u12 := XA.W.growR _ x2 HX2.out hgrow hown
          have Q12 := grown_obj XA.X hgrow (grown_ne XA.X XA.W.R (by decide))
          have Z12 := grown_obj XA.Z hgrow (grown_ne XA.Z XA.W.R (by decide))
          have X12 : Hid (DX w p ao n cap q r { m with vR := .slice vb (m.rs.length + 1) vcp, rs := m.rs ++ [x2] } (u12.setCell ⟨q, 0, none⟩ (.slice vb (m.rs.length + 1) vcp))) := DX.store W12 Q12 Z12 X11.out.wq X11.out.wr X11.out.ne 0 _ rfl
          have y0 := hq_cell Q12 0
          have yf := hq_free Q12
          have yz := (Array.getElem?_eq_some_iff.1 Q12).1
          clear hown hgrow ba hua XA W12 Q12 Z12 x0 xf xz X11
          go_wp2_with fail
          go_roundw
          case rel => exact ⟨{ m with vR := .slice vb (m.rs.length + 1) vcp, rs := m.rs ++ [x2] }, by have := HK.out; simp; omega, by have := HK.out; simp; omega, HMO.out, hmh, X12.out⟩
          case measure => simp [intOf]; omega
        · have hk8 : Hid (m.rs.length = 8) := (by have := HK.out; omega : m.rs.length = 8)
          clear HK
          go_wp2_with fail
          refine (l1Once_any p ao n cap 2 _ (by omega) X5.out.W.K).mono ?_
          rintro e u6 ⟨b1, rfl, f, c⟩
          have X6 : Hid (DX w p ao n cap q r m u6) := X5.out.fw f c
          obtain ⟨⟨_, _, _, x3, _, _, _, _, _⟩, xf, xz⟩ := X6.out.cells
          clear f c X5
          go_upto_region 20 with fail
          obtain ⟨u7, hu7, x7⟩ : ∃ y, u6.setCell ⟨q, 3, none⟩ (.bool b1) = y ∧ DX w p ao n cap q r { m with hz := b1 } y := ⟨_, rfl, X6.out.set { m with hz := b1 } 3 _ rfl rfl rfl rfl rfl rfl rfl⟩
          rw [hu7]
          have X7 : Hid (DX w p ao n cap q r { m with hz := b1 } u7) := x7
          clear hu7 x7 X6 x3 xf xz
          go_wp2_with fail
          refine (l1Once_any p ao n cap 2 _ (by omega) X7.out.W.K).mono ?_
          rintro e u8 ⟨b2, rfl, f, c⟩
          have X8 : Hid (DX w p ao n cap q r { m with hz := b1 } u8) := X7.out.fw f c
          obtain ⟨⟨_, _, _, _, x4, _, _, _, _⟩, xf, xz⟩ := X8.out.cells
          clear f c X7
          go_upto_region 21 with fail
          obtain ⟨u9, hu9, x9⟩ : ∃ y, u8.setCell ⟨q, 4, none⟩ (.bool b2) = y ∧ DX w p ao n cap q r { m with hz := b1, hc := b2 } y := ⟨_, rfl, X8.out.set { m with hz := b1, hc := b2 } 4 _ rfl rfl rfl rfl rfl rfl rfl⟩
          rw [hu9]
          have X9 : Hid (DX w p ao n cap q r { m with hz := b1, hc := b2 } u9) := x9
          clear hu9 x9 X8 x4 xf xz
          go_cut [2, 3] (fun s2 s3 wx => s2 = .pointer (some ⟨r, 0, none⟩) ∧ s3 = .pointer (some ⟨q, 0, none⟩) ∧ ∃ b3, DX w p ao n cap q r { m with hz := b1, hc := b2, z := b3 } wx)
          case first =>
            obtain ⟨⟨_, x1, _, x3, _, _, _, _, _⟩, xf, xz⟩ := X9.out.cells
            cases b1 with
            | true =>
              go_wp2_with fail
              refine (l1Once_any p ao n cap 2 _ (by omega) X9.out.W.K).mono ?_
              rintro e u10 ⟨b3, rfl, f, c⟩
              have X10 : Hid (DX w p ao n cap q r { m with hz := true, hc := b2 } u10) := X9.out.fw f c
              clear f c x1 x3 xf xz
              obtain ⟨⟨_, x1, _, x3, _, _, _, _, _⟩, xf, xz⟩ := X10.out.cells
              go_wp2_with fail
              go_meet
              exact ⟨rfl, rfl, _, X10.out.set { m with hz := true, hc := b2, z := b3 } 1 _ rfl rfl rfl rfl rfl rfl rfl⟩
            | false =>
              go_wp2_with fail
              go_meet
              exact ⟨rfl, rfl, _, X9.out.set { m with hz := false, hc := b2, z := false } 1 _ rfl rfl rfl rfl rfl rfl rfl⟩
          case rest =>
          clear X9
          obtain ⟨rfl, rfl, b3, fx⟩ := hcut
          have X10 : Hid (DX w p ao n cap q r { m with hz := b1, hc := b2, z := b3 } wc) := fx
          clear fx
          generalize wc = u10 at X10 ⊢
          go_upto_region 22 with fail
          go_cut [2, 3] (fun s2 s3 wx => s2 = .pointer (some ⟨r, 0, none⟩) ∧ s3 = .pointer (some ⟨q, 0, none⟩) ∧ ∃ b4, DX w p ao n cap q r { m with hz := b1, hc := b2, z := b3, c := b4 } wx)
          case first =>
            obtain ⟨⟨_, _, x2, _, x4, _, _, _, _⟩, xf, xz⟩ := X10.out.cells
            cases b2 with
            | true =>
              go_wp2_with fail
              refine (l1Once_any p ao n cap 2 _ (by omega) X10.out.W.K).mono ?_
              rintro e u11 ⟨b4, rfl, f, c⟩
              have X11 : Hid (DX w p ao n cap q r { m with hz := b1, hc := true, z := b3 } u11) := X10.out.fw f c
              clear f c x2 x4 xf xz
              obtain ⟨⟨_, _, x2, _, x4, _, _, _, _⟩, xf, xz⟩ := X11.out.cells
              go_wp2_with fail
              go_meet
              exact ⟨rfl, rfl, _, X11.out.set { m with hz := b1, hc := true, z := b3, c := b4 } 2 _ rfl rfl rfl rfl rfl rfl rfl⟩
            | false =>
              go_wp2_with fail
              go_meet
              exact ⟨rfl, rfl, _, X10.out.set { m with hz := b1, hc := false, z := b3, c := false } 2 _ rfl rfl rfl rfl rfl rfl rfl⟩
          case rest =>
          clear X10
          obtain ⟨rfl, rfl, b4, fx⟩ := hcut
          obtain ⟨m2, hm2⟩ : ∃ y : Md, { m with hz := b1, hc := b2, z := b3, c := b4 } = y := ⟨_, rfl⟩
          have HM2 : Hid (m2.rs.length = 8 ∧ m2.hs.length ≤ 3 ∧ m2.os = []) := (by rw [← hm2]; exact ⟨hk8.out, hmh, HMO.out⟩ : m2.rs.length = 8 ∧ m2.hs.length ≤ 3 ∧ m2.os = [])
          rw [hm2] at fx
          have X11 : Hid (DX w p ao n cap q r m2 wc) := fx
          clear fx hm2 hk8 hmh HMO
          generalize wc = u11 at X11 ⊢
          go_wp2_with fail
          refine (l1Once_any p ao n cap 6 _ (by omega) X11.out.W.K).mono ?_
          rintro e u12 ⟨z6, rfl, f, c⟩
          have X12 : Hid (DX w p ao n cap q r m2 u12) := X11.out.fw f c
          clear f c X11
          go_upto_if 101 with fail
          go_cut [2, 3] (fun s2 s3 wx => s2 = .pointer (some ⟨r, 0, none⟩) ∧ s3 = .pointer (some ⟨q, 0, none⟩) ∧ ∃ m : Md, m.rs.length = 8 ∧ m.hs.length ≤ 3 ∧ m.os.length ≤ 1 ∧ DX w p ao n cap q r m wx)
          case first =>
            cases z6 with
            | false =>
              go_wp2_with fail
              go_meet
              exact ⟨rfl, rfl, m2, HM2.out.1, HM2.out.2.1, by rw [HM2.out.2.2]; simp, X12.out⟩
            | true =>
              obtain ⟨oa, oc, hvO⟩ := row_slD X12.out.W.O
              have HVO : Hid (m2.vO = .slice oa m2.os.length oc) := hvO
              have j8 : ∀ w' : World, w'.heap[q]? = some (.cells m2.a 28) → w'.cell? ⟨q, 8, none⟩ = some (.slice oa m2.os.length oc) := fun w' h => by rw [← hvO]; exact hq_cell h 8
              have jf : ∀ w' : World, w'.heap[q]? = some (.cells m2.a 28) → ∀ j, w'.frozen? ⟨q, j, none⟩ = false := fun w' h => hq_free h
              have jz : ∀ w' : World, w'.heap[q]? = some (.cells m2.a 28) → q < w'.heap.size := fun w' h => (Array.getElem?_eq_some_iff.1 h).1
              go_upto_region 24 with fail
              have XD : Hid (DX w p ao n cap q r m2 u12.drew) := X12.out.below (Below.refl _ _).drew
              have hT := XD.out.X
              refine wp_region_L (T := fun w' => w'.heap[q]? = some (.cells m2.a 28)) (s := 11) (by kernel_rfl) hT (fun _ => ?_)
              clear X12 hvO
              refine wpAnyL_tkT 0 ?k11v rfl ?k11y ?k11r
              case k11y => (intro w hSw; (try dsimp only at hSw); go_simp; try with_reducible rfl)
              try simp only [Act.put, List.getElem_toArray, List.getElem_cons_zero, List.setIfInBounds_toArray, List.set_cons_zero, List.set_cons_succ]
              refine wpAnyL_tkT 1 ?k12v rfl ?k12y ?k12r
              case k12y => (intro w hSw; (try dsimp only at hSw); go_simp; try with_reducible rfl)
              try simp only [Act.put, List.getElem_toArray, List.getElem_cons_zero, List.getElem_cons_succ, List.setIfInBounds_toArray, List.set_cons_zero, List.set_cons_succ]
              refine wpAnyL_tkT 2 ?k13v rfl ?k13y ?k13r
              case k13y => (intro w hSw; (try dsimp only at hSw); go_simp; try with_reducible rfl)
              try simp only [Act.put, List.getElem_toArray, List.getElem_cons_zero, List.getElem_cons_succ, List.setIfInBounds_toArray, List.set_cons_zero, List.set_cons_succ]
              refine wpAnyL_tkT 5 ?k14v rfl ?k14y ?k14r
              case k14y => (intro w hSw; (try dsimp only at hSw); go_simp; try with_reducible rfl)
              try simp only [Act.put, List.getElem_toArray, List.getElem_cons_zero, List.getElem_cons_succ, List.setIfInBounds_toArray, List.set_cons_zero, List.set_cons_succ]
              refine wpAnyL_call (i := 3) rfl (by kernel_rfl) (fun KK hK => ?_)
              go_simp
              refine (l1Below_any p ao n cap 3 _ (by omega) XD.out.W.K).mono ?_
              rintro e v1 ⟨y, rfl, y0, y1, f, c⟩
              have XE : Hid (DX w p ao n cap q r m2 v1) := XD.out.fw f c
              have hT1 := XE.out.X
              go_wp2_with fail
              refine hK.out _ _ hT1 (fun _ => ?_)
              clear hK KK f c XD hT
              refine wpAnyL_tkT 4 ?k15v rfl ?k15y ?k15r
              case k15y => (intro w hSw; (try dsimp only at hSw); go_simp; try with_reducible rfl)
              try simp only [Act.put, List.getElem_toArray, List.getElem_cons_zero, List.getElem_cons_succ, List.setIfInBounds_toArray, List.set_cons_zero, List.set_cons_succ]
              refine wpAnyL_call (i := 6) rfl (by kernel_rfl) (fun KK hK => ?_)
              go_simp
              refine (l1Word_any p ao n cap _ XE.out.W.K).mono ?_
              rintro e v2 ⟨x, rfl, hxr, f, c⟩
              have XF : Hid (DX w p ao n cap q r m2 v2) := XE.out.fw f c
              have hT2 := XF.out.X
              go_wp2_with fail
              refine hK.out _ _ hT2 (fun _ => ?_)
              clear hK KK f c XE hT1
              refine wpAnyL_tkT 7 ?k16v rfl ?k16y ?k16r
              case k16y => (intro w hSw; (try dsimp only at hSw); go_simp; try with_reducible rfl)
              try simp only [Act.put, List.getElem_toArray, List.getElem_cons_zero, List.getElem_cons_succ, List.setIfInBounds_toArray, List.set_cons_zero, List.set_cons_succ]
              refine wpAnyL_call (i := 8) rfl (by kernel_rfl) (fun KK hK => ?_)
              go_simp
              obtain ⟨kk, hkk⟩ : ∃ z, IntKind.i64.wrap (1 + y) = z := ⟨_, rfl⟩
              rw [hkk]
              clear hkk
              obtain ⟨v3, hv3, hb3, hnw⟩ : ∃ z, v2.alloc (.cells #[.int .i64 kk, .int .u64 x] 63) = z ∧ Below v2.heap.size v2 z ∧ (∀ j u, [Value.int .i64 kk, .int .u64 x][j]? = some u → z.cell? ((⟨v2.heap.size, 0, none⟩ : Addr).add j) = some u) := ⟨_, rfl, (Below.refl _ _).alloc (Nat.le_refl _) _, cells_newD v2 _ _⟩
              rw [hv3]
              have XG : Hid (DX w p ao n cap q r m2 v3) := XF.out.below hb3
              have HNW : Hid (∀ j u, [Value.int .i64 kk, .int .u64 x][j]? = some u → v3.cell? ((⟨v2.heap.size, 0, none⟩ : Addr).add j) = some u) := hnw
              have hT3 := XG.out.X
              refine hK.out _ _ hT3 (fun _ => ?_)
              clear hK KK hv3 hb3 hnw XF hT2
              try simp only [Act.put, List.getElem_toArray, List.getElem_cons_zero, List.getElem_cons_succ, List.setIfInBounds_toArray, List.set_cons_zero, List.set_cons_succ]
              have OH : Hid (v3.ownsRow w.heap.size 63 2 (.slice oa m2.os.length oc) m2.os.length (m2.os.flatMap obC)) := (by have k := XG.out.W.O; rw [HVO.out] at k; exact k : v3.ownsRow w.heap.size 63 2 (.slice oa m2.os.length oc) m2.os.length (m2.os.flatMap obC))
              have ol : m2.os.length ≤ 0 := by rw [HM2.out.2.2]; exact Nat.le_refl _
              obtain ⟨v', v4, hrun, hown, hgrow, _, _⟩ := run_append_own_at (P := Tryz.prog) v3 w.heap.size 26 26 63 iO _ 2 16 Tryz.underlying26 HIO.out.1 HIO.out.2.1 HIO.out.2.2.1 HIO.out.2.2.2 rfl (by decide) (.slice oa m2.os.length oc) m2.os.length (m2.os.flatMap obC) OH.out ⟨v2.heap.size, 0, none⟩ 1 1 [Value.int .i64 kk, .int .u64 x] rfl HNW.out (by simp [Value.oneCell']) (by unfold maxLen; omega) (by omega) XG.out.W.F.size
              obtain ⟨vb, vcp, rfl⟩ := row_slD hown
              rw [← HVO.out] at hgrow
              have W12 : DW w p ao n cap { m2 with vO := .slice vb (m2.os.length + 1) vcp, os := m2.os ++ [(kk, x)] } v4 := XG.out.W.growO _ (kk, x) hgrow hown
              have Q12 := grown_obj XG.out.X hgrow (grown_ne XG.out.X XG.out.W.O (by decide))
              have Z12 := grown_obj XG.out.Z hgrow (grown_ne XG.out.Z XG.out.W.O (by decide))
              have X12 : Hid (DX w p ao n cap q r { m2 with vO := .slice vb (m2.os.length + 1) vcp, os := m2.os ++ [(kk, x)] } (v4.setCell ⟨q, 8, none⟩ (.slice vb (m2.os.length + 1) vcp))) := DX.store W12 Q12 Z12 XG.out.wq XG.out.wr XG.out.ne 8 _ rfl
              refine wpAnyL_appendZ (.tmp 103) (.tmp 110) (i := 9) rfl (by kernel_rfl) (by kernel_rfl) rfl rfl rfl hrun Q12 (fun _ => ?_)
              try simp only [Act.put, List.getElem_toArray, List.getElem_cons_zero, List.getElem_cons_succ, List.setIfInBounds_toArray, List.set_cons_zero, List.set_cons_succ]
              refine wpAnyL_tk 10 ?k17v rfl ?k17y ?k17r
              case k17y => (intro w hSw; (try dsimp only at hSw); go_simp; try with_reducible rfl)
              try simp only [Act.put, List.getElem_toArray, List.getElem_cons_zero, List.getElem_cons_succ, List.setIfInBounds_toArray, List.set_cons_zero, List.set_cons_succ]
              have y8 := j8 _ Q12
              have yf := jf _ Q12
              have yz := jz _ Q12
              refine wpAnyL_store rfl (by kernel_rfl) (by kernel_rfl) (fun KK hK => ?_)
              go_simp
              refine hK.out _ _ ?_
              clear hK KK hown hgrow hrun W12 Q12 Z12 y8 yf yz j8 jf jz XG OH HNW hT3
              go_wp2_with fail
              go_meet
              exact ⟨rfl, rfl, { m2 with vO := .slice vb (m2.os.length + 1) vcp, os := m2.os ++ [(kk, x)] }, HM2.out.1, HM2.out.2.1, by rw [HM2.out.2.2]; simp, X12.out⟩
          case rest =>
          clear X12 HM2
          obtain ⟨rfl, rfl, m, h1, h2, h3, fx⟩ := hcut
          have X13 : Hid (DX w p ao n cap q r m wc) := fx
          clear fx
          generalize wc = u13 at X13 ⊢
          obtain ⟨ra, rc, hvR⟩ := row_slD X13.out.W.R
          obtain ⟨ha, hcp, hvH⟩ := row_slD X13.out.W.H
          obtain ⟨oa, oc, hvO⟩ := row_slD X13.out.W.O
          obtain ⟨vR, fz, fc, fhz, fhc, vH, pc, st, vO, rs, hs, os⟩ := m
          dsimp only at hvR hvH hvO h1 h2 h3
          subst hvR hvH hvO
          obtain ⟨⟨x0, x1, x2, x3, x4, x5, x6, x7, x8⟩, xf, xz⟩ := X13.out.cells
          dsimp only at x0 x1 x2 x3 x4 x5 x6 x7 x8
          obtain ⟨z0, z1, z2, z3, z4, z5, z6, z7, z8, zf, zz⟩ := z9 X13.out.Z
          have W14 : Hid (DW w p ao n cap ⟨.slice ra rs.length rc, fz, fc, fhz, fhc, .slice ha hs.length hcp, pc, st, .slice oa os.length oc, rs, hs, os⟩ _) := X13.out.W.put9 X13.out.wr X13.out.Z (.slice ra rs.length rc) (.bool fz) (.bool fc) (.bool fhz) (.bool fhc) (.slice ha hs.length hcp) (.int .i64 pc) (.int .i64 st) (.slice oa os.length oc)
          have hne := X13.out.ne
          have HF3 : Hid (rs.length = 8 ∧ hs.length ≤ 3 ∧ os.length ≤ 1) := ⟨h1, h2, h3⟩
          clear X13 h1 h2 h3
          go_wp2
          refine bodyPost_ret (v := .agg #[.slice ra rs.length rc, .bool fz, .bool fc, .bool fhz, .bool fhc, .slice ha hs.length hcp, .int .i64 pc, .int .i64 st, .slice oa os.length oc]) (by simp [results, Tryz.results31, go_sem, z0, z1, z2, z3, z4, z5, z6, z7, z8]) rfl ⟨⟨.slice ra rs.length rc, fz, fc, fhz, fhc, .slice ha hs.length hcp, pc, st, .slice oa os.length oc, rs, hs, os⟩, rfl, HF3.out.1, HF3.out.2.1, HF3.out.2.2, W14.out⟩
end Go.Proofs.YtpnclceamkmklaaGreat
