import Derived.Test.YtpnclceamkmklaaGreatDrawM3
/- RunMach's draw. -/
namespace Go.Proofs.YtpnclceamkmklaaGreat
open Go.RowKit

/-- The lists of a drawn machine, when the cursor is done with. -/
structure ML (B : Nat) (m : Md) (u : World) : Prop where
  R : u.ownsRow B 53 1 m.vR m.rs.length (m.rs.map (.int .u64 ·))
  H : u.ownsRow B 55 3 m.vH m.hs.length (m.hs.flatMap hdC)
  O : u.ownsRow B 63 2 m.vO m.os.length (m.os.flatMap obC)
  D : ∀ h ∈ m.hs, u.ownsRow B 5 1 h.v h.ds.length (h.ds.map (.int .u8 ·))
  rr : ∀ x ∈ m.rs, u64r x
  hr : ∀ h ∈ m.hs, u64r h.base ∧ h.ds.length ≤ 4100 ∧ ∀ x ∈ h.ds, 0 ≤ x ∧ x ≤ 255
theorem DW.ml {w : World} {p n cap : Nat} {ao : Option Addr} {m : Md} {u : World} (h : DW w p ao n cap m u) : ML w.heap.size m u := ⟨h.R, h.H, h.O, h.D, h.rr, h.hr⟩

theorem row_putlt {w : World} {B e s n r : Nat} {v : Value} {xs : List Value} (h : w.ownsRow B e s v n xs) (hr : r < B) (j : Nat) (u : Value) : (w.setCell ⟨r, j, none⟩ u).ownsRow B e s v n xs := row_put h (fun e => by have := (h.lt r e).1; omega) j u
theorem row_monoB {w : World} {B B' e s n : Nat} {v : Value} {xs : List Value} (h : w.ownsRow B e s v n xs) (hB : B' ≤ B) : w.ownsRow B' e s v n xs := by
  refine ⟨h.1, ?_⟩
  rcases h.2 with h' | ⟨g, cap, cur, h', h1, h2⟩
  · exact .inl h'
  · exact .inr ⟨g, cap, cur, h', Nat.le_trans hB h1, h2⟩
theorem ML.putlt {B r : Nat} {m : Md} {u : World} (h : ML B m u) (hr : r < B) (j : Nat) (v : Value) : ML B m (u.setCell ⟨r, j, none⟩ v) := ⟨row_putlt h.R hr j v, row_putlt h.H hr j v, row_putlt h.O hr j v, fun x hx => row_putlt (h.D x hx) hr j v, h.rr, h.hr⟩
theorem ML.mono {B B' : Nat} {m : Md} {u : World} (h : ML B m u) (hB : B' ≤ B) : ML B' m u := ⟨row_monoB h.R hB, row_monoB h.H hB, row_monoB h.O hB, fun x hx => row_monoB (h.D x hx) hB, h.rr, h.hr⟩
/-- What lies while RunMach's arguments are drawn. -/
structure DS (w1 : World) (p : Nat) (ao : Option Addr) (n cap : Nat) (m : Md) (v : Value) (ys : List IV) (r q : Nat) (u : World) : Prop where
  W : DW w1 p ao n cap m u
  P : u.ownsRow w1.heap.size 59 6 v ys.length (ic ys)
  Z : u.heap[r]? = some (.cells md0.a 28)
  Q : u.heap[q]? = some (.cells m.a 28)
theorem DS.fw {w1 u u' : World} {p n cap r q : Nat} {ao : Option Addr} {m : Md} {v : Value} {ys : List IV} (h : DS w1 p ao n cap m v ys r q u) (f : Fw p u u') (c : Cur u' p ao n cap) (hr : r < p) (hq : p < q) : DS w1 p ao n cap m v ys r q u' :=
  ⟨h.W.fw f c, row_fw h.P f h.W.pw, hq_fw h.Z f (by omega), hq_fw h.Q f (by omega)⟩
set_option maxRecDepth 20000 in
set_option maxHeartbeats 8000000 in
theorem DrawRunMach_any (ao : Option Addr) (n cap : Nat) (w : World) (hn : n ≤ 1048576) (hr : Bytes0 w w.heap.size ao n) :
    Calls Tryz.prog 4 #[.slice ao n cap] w fun e w' => ∃ (bP cP : Nat) (ys : List IV) (m : Md) (s : Int), e = .returned (.tuple #[.slice (some ⟨bP, 0, none⟩) ys.length cP, .agg m.a, .int .i64 s]) ∧ 1 ≤ ys.length ∧ ys.length ≤ 2100 ∧ w'.ownsRow w.heap.size 59 6 (.slice (some ⟨bP, 0, none⟩) ys.length cP) ys.length (ic ys) ∧ m.rs.length ≤ 8 ∧ m.hs.length ≤ 4 ∧ m.os.length ≤ 2 ∧ ML w.heap.size m w' ∧ Below w.heap.size w w' := by
  have HR : Hid (Bytes0 w w.heap.size ao n) := hr
  clear hr
  go_enter Tryz.func4, Tryz.ntmps4
  go_upto_region 1 with fail
  obtain ⟨u0, hu0, bu0, zu0⟩ : ∃ y, w.alloc (.cells #[.slice none 0 0, .bool false, .bool false, .bool false, .bool false, .slice none 0 0, .int .i64 0, .int .i64 0, .slice none 0 0] 28) = y ∧ Below w.heap.size w y ∧ y.heap[w.heap.size]? = some (.cells md0.a 28) := ⟨_, rfl, (Below.refl _ _).alloc (Nat.le_refl _) _, hq_new _ _⟩
  rw [hu0]
  obtain ⟨r, hrr⟩ : ∃ y, w.heap.size = y := ⟨_, rfl⟩
  have hrw : w.heap.size ≤ r := by omega
  rw [hrr] at zu0 ⊢
  have Z0 : Hid (u0.heap[r]? = some (.cells md0.a 28)) := zu0
  have B0 : Hid (Below w.heap.size w u0) := bu0
  have zr : r < u0.heap.size := (Array.getElem?_eq_some_iff.1 zu0).1
  have hb0 : Bytes0 u0 u0.heap.size ao n := by
    rcases HR.out with h | ⟨b, off, h1, h2, h3⟩
    · exact .inl h
    · exact .inr ⟨b, off, h1, Nat.lt_of_lt_of_le h2 bu0.size, fun i hi => by obtain ⟨v, q1, q2, q3⟩ := h3 i hi; exact ⟨v, q1, q2, (bu0.cell (p := ⟨b, off + i, none⟩) h2).trans q3⟩⟩
  have HB0 : Hid (Bytes0 u0 u0.heap.size ao n) := hb0
  clear hu0 bu0 zu0 hrr hb0
  go_wp2_with fail
  refine (l1New_any ao n cap u0 hn HB0.out).mono ?_
  rintro e u1 ⟨p, rfl, hp, b1, c1⟩
  have B1 : Hid (Below w.heap.size w u1) := B0.out.trans (b1.mono B0.out.size)
  have Z1 : Hid (u1.heap[r]? = some (.cells md0.a 28)) := (b1.block r zr).trans Z0.out
  have C1 : Hid (Cur u1 p ao n cap) := c1
  have rp : r < p := by omega
  have wp1 : w.heap.size ≤ u1.heap.size := B1.out.size
  clear b1 c1 Z0 B0 HB0
  go_wp2_with fail
  refine (l1AnyFlat_any p ao n cap u1 C1.out).mono ?_
  rintro e u2 ⟨v, ys, rfl, y1, y2, f2⟩
  obtain ⟨bP, cP, rfl⟩ := f2.nn (by omega)
  have F2 : Hid (FW u1 p ao n cap (.slice (some ⟨bP, 0, none⟩) ys.length cP) ys u2) := f2
  clear f2
  go_wp2_with fail
  refine (l1AnyMach_any p ao n cap u2 F2.out.K).mono ?_
  rintro e u3 ⟨m, rfl, h1, h2, h3, d3⟩
  have lp1 : p < u1.heap.size := C1.out.lt
  have D3 := d3.down F2.out.F lp1
  have P3 := row_fw F2.out.O d3.F lp1
  have Z2 := hq_fw Z1.out F2.out.F (by omega : p ≠ r)
  have Z3 := hq_fw Z2 d3.F (by omega : p ≠ r)
  obtain ⟨ra, rc, ha, hcp, oa, oc, hm⟩ := Md.form D3
  obtain ⟨vR, fz, fc, fhz, fhc, vH, pc, st, vO, rs, hs, os⟩ := m
  dsimp only at hm h1 h2 h3
  obtain ⟨rfl, rfl, rfl⟩ : vR = .slice ra rs.length rc ∧ vH = .slice ha hs.length hcp ∧ vO = .slice oa os.length oc := by
    injection hm with e1 _ _ _ _ e2 _ _ e3
    exact ⟨e1, e2, e3⟩
  have HF3 : Hid (rs.length ≤ 8 ∧ hs.length ≤ 4 ∧ os.length ≤ 2) := ⟨h1, h2, h3⟩
  have W3 : Hid (DW u1 p ao n cap ⟨.slice ra rs.length rc, fz, fc, fhz, fhc, .slice ha hs.length hcp, pc, st, .slice oa os.length oc, rs, hs, os⟩ u3) := D3
  have HP3 : Hid (u3.ownsRow u1.heap.size 59 6 (.slice (some ⟨bP, 0, none⟩) ys.length cP) ys.length (ic ys)) := P3
  have HZ3 : Hid (u3.heap[r]? = some (.cells md0.a 28)) := Z3
  clear D3 P3 Z2 Z3 hm h1 h2 h3 d3 F2 Z1 C1
  unfold Md.a
  dsimp only
  go_upto_region 4 with fail
  obtain ⟨u4, hu4, bu4, xu4⟩ : ∃ y, u3.alloc (.cells #[.slice ra rs.length rc, .bool fz, .bool fc, .bool fhz, .bool fhc, .slice ha hs.length hcp, .int .i64 pc, .int .i64 st, .slice oa os.length oc] 28) = y ∧ Below u3.heap.size u3 y ∧ y.heap[u3.heap.size]? = some (.cells #[.slice ra rs.length rc, .bool fz, .bool fc, .bool fhz, .bool fhc, .slice ha hs.length hcp, .int .i64 pc, .int .i64 st, .slice oa os.length oc] 28) := ⟨_, rfl, (Below.refl _ _).alloc (Nat.le_refl _) _, hq_new _ _⟩
  rw [hu4]
  obtain ⟨q, hq⟩ : ∃ y, u3.heap.size = y := ⟨_, rfl⟩
  have pq : p < q := by have := W3.out.F.size; omega
  rw [hq] at xu4 ⊢
  have S4 : Hid (DS u1 p ao n cap ⟨.slice ra rs.length rc, fz, fc, fhz, fhc, .slice ha hs.length hcp, pc, st, .slice oa os.length oc, rs, hs, os⟩ (.slice (some ⟨bP, 0, none⟩) ys.length cP) ys r q u4) := ⟨W3.out.below bu4, row_belowD HP3.out bu4, (bu4.block r (Array.getElem?_eq_some_iff.1 HZ3.out).1).trans HZ3.out, xu4⟩
  clear hu4 bu4 xu4 hq W3 HP3 HZ3
  go_wp2_with fail
  refine (l1Below_any p ao n cap 40 _ (by omega) S4.out.W.K).mono ?_
  rintro e u5 ⟨s5, rfl, s50, s51, f, c⟩
  have S5 : Hid (DS u1 p ao n cap ⟨.slice ra rs.length rc, fz, fc, fhz, fhc, .slice ha hs.length hcp, pc, st, .slice oa os.length oc, rs, hs, os⟩ (.slice (some ⟨bP, 0, none⟩) ys.length cP) ys r q u5) := S4.out.fw f c rp pq
  clear f c S4
  go_wp2_with fail
  refine (l1Below_any p ao n cap 40 _ (by omega) S5.out.W.K).mono ?_
  rintro e u6 ⟨k, rfl, k0, k1, f, c⟩
  have S6 : Hid (DS u1 p ao n cap ⟨.slice ra rs.length rc, fz, fc, fhz, fhc, .slice ha hs.length hcp, pc, st, .slice oa os.length oc, rs, hs, os⟩ (.slice (some ⟨bP, 0, none⟩) ys.length cP) ys r q u6) := S5.out.fw f c rp pq
  clear f c S5
  obtain ⟨zz, hzz⟩ : ∃ b : Bool, (k == 0) = b := ⟨_, rfl⟩
  go_upto_if 21 with fail
  go_cut [3, 5, 6, 7, 8, 9] (fun s3 s5 s6 s7 s8 s9 wx => s3 = .pointer (some ⟨r, 0, none⟩) ∧ s5 = .pointer (some ⟨p, 0, none⟩) ∧ s6 = .slice (some ⟨bP, 0, none⟩) ys.length cP ∧ s7 = .pointer (some ⟨q, 0, none⟩) ∧ s9 = .int .i64 k ∧ (∃ sv : Int, s8 = .int .i64 sv) ∧ DS u1 p ao n cap ⟨.slice ra rs.length rc, fz, fc, fhz, fhc, .slice ha hs.length hcp, pc, st, .slice oa os.length oc, rs, hs, os⟩ (.slice (some ⟨bP, 0, none⟩) ys.length cP) ys r q wx)
  case first =>
    cases zz with
    | true =>
      go_wp2_with fail
      refine (l1Below_any p ao n cap 2 _ (by omega) S6.out.W.K).mono ?_
      rintro e u7 ⟨y, rfl, y0, y1', f, c⟩
      have S7 : Hid (DS u1 p ao n cap ⟨.slice ra rs.length rc, fz, fc, fhz, fhc, .slice ha hs.length hcp, pc, st, .slice oa os.length oc, rs, hs, os⟩ (.slice (some ⟨bP, 0, none⟩) ys.length cP) ys r q u7) := S6.out.fw f c rp pq
      clear f c
      go_wp2_with fail
      go_meet
      exact ⟨rfl, rfl, rfl, rfl, rfl, ⟨_, rfl⟩, S7.out⟩
    | false =>
      go_wp2_with fail
      go_meet
      exact ⟨rfl, rfl, rfl, rfl, rfl, ⟨_, rfl⟩, S6.out⟩
  case rest =>
  clear S6 hzz
  obtain ⟨rfl, rfl, rfl, rfl, rfl, ⟨sv, rfl⟩, fx⟩ := hcut
  have S7 : Hid (DS u1 p ao n cap ⟨.slice ra rs.length rc, fz, fc, fhz, fhc, .slice ha hs.length hcp, pc, st, .slice oa os.length oc, rs, hs, os⟩ (.slice (some ⟨bP, 0, none⟩) ys.length cP) ys r q wc) := fx
  clear fx
  generalize wc = u7 at S7 ⊢
  obtain ⟨z1, hz1⟩ : ∃ b : Bool, (k == 1) = b := ⟨_, rfl⟩
  go_upto_if 26 with fail
  go_cut [3, 6, 7, 8] (fun s3 s6 s7 s8 wx => s3 = .pointer (some ⟨r, 0, none⟩) ∧ s6 = .slice (some ⟨bP, 0, none⟩) ys.length cP ∧ s7 = .pointer (some ⟨q, 0, none⟩) ∧ (∃ sv : Int, s8 = .int .i64 sv) ∧ DS u1 p ao n cap ⟨.slice ra rs.length rc, fz, fc, fhz, fhc, .slice ha hs.length hcp, pc, st, .slice oa os.length oc, rs, hs, os⟩ (.slice (some ⟨bP, 0, none⟩) ys.length cP) ys r q wx)
  case first =>
    cases z1 with
    | true =>
      go_wp2_with fail
      go_meet
      exact ⟨rfl, rfl, rfl, ⟨_, rfl⟩, S7.out⟩
    | false =>
      go_wp2_with fail
      go_meet
      exact ⟨rfl, rfl, rfl, ⟨_, rfl⟩, S7.out⟩
  case rest =>
  clear S7 hz1
  obtain ⟨rfl, rfl, rfl, ⟨sv, rfl⟩, fx⟩ := hcut
  have S8 : Hid (DS u1 p ao n cap ⟨.slice ra rs.length rc, fz, fc, fhz, fhc, .slice ha hs.length hcp, pc, st, .slice oa os.length oc, rs, hs, os⟩ (.slice (some ⟨bP, 0, none⟩) ys.length cP) ys r q wc) := fx
  clear fx
  generalize wc = u8 at S8 ⊢
  go_upto_region 10 with fail
  have SD : Hid (DS u1 p ao n cap ⟨.slice ra rs.length rc, fz, fc, fhz, fhc, .slice ha hs.length hcp, pc, st, .slice oa os.length oc, rs, hs, os⟩ (.slice (some ⟨bP, 0, none⟩) ys.length cP) ys r q u8.drew) := S8.out.fw (.of_below (Below.refl _ _).drew) (S8.out.W.K.below (Below.refl _ _).drew) rp pq
  have hT : u8.drew.heap[q]? = some (.cells #[.slice ra rs.length rc, .bool fz, .bool fc, .bool fhz, .bool fhc, .slice ha hs.length hcp, .int .i64 pc, .int .i64 st, .slice oa os.length oc] 28) := SD.out.Q
  have j : ∀ w' : World, w'.heap[q]? = some (.cells #[.slice ra rs.length rc, .bool fz, .bool fc, .bool fhz, .bool fhc, .slice ha hs.length hcp, .int .i64 pc, .int .i64 st, .slice oa os.length oc] 28) → w'.cell? ⟨q, 0, none⟩ = some (.slice ra rs.length rc) ∧ w'.cell? ⟨q, 1, none⟩ = some (.bool fz) ∧ w'.cell? ⟨q, 2, none⟩ = some (.bool fc) ∧ w'.cell? ⟨q, 3, none⟩ = some (.bool fhz) ∧ w'.cell? ⟨q, 4, none⟩ = some (.bool fhc) ∧ w'.cell? ⟨q, 5, none⟩ = some (.slice ha hs.length hcp) ∧ w'.cell? ⟨q, 6, none⟩ = some (.int .i64 pc) ∧ w'.cell? ⟨q, 7, none⟩ = some (.int .i64 st) ∧ w'.cell? ⟨q, 8, none⟩ = some (.slice oa os.length oc) := fun w' h => q9 h
  have j0 := fun w' h => (j w' h).1
  have j1 := fun w' h => (j w' h).2.1
  have j2 := fun w' h => (j w' h).2.2.1
  have j3 := fun w' h => (j w' h).2.2.2.1
  have j4 := fun w' h => (j w' h).2.2.2.2.1
  have j5 := fun w' h => (j w' h).2.2.2.2.2.1
  have j6 := fun w' h => (j w' h).2.2.2.2.2.2.1
  have j7 := fun w' h => (j w' h).2.2.2.2.2.2.2.1
  have j8 := fun w' h => (j w' h).2.2.2.2.2.2.2.2
  clear j
  refine wp_region_held_drew (S := fun w' => w'.heap[q]? = some (.cells #[.slice ra rs.length rc, .bool fz, .bool fc, .bool fhz, .bool fhc, .slice ha hs.length hcp, .int .i64 pc, .int .i64 st, .slice oa os.length oc] 28)) (by kernel_rfl) hT (fun _ => ?_)
  refine wpAnyH_tk 0 ?k1v rfl ?k1y ?k1r
  case k1y => (intro w hSw; (try dsimp only at hSw); go_simp; try with_reducible rfl)
  try simp only [Act.put, List.getElem_toArray, List.getElem_cons_zero, List.setIfInBounds_toArray, List.set_cons_zero, List.set_cons_succ]
  refine wpAnyH_tk 1 ?k2v rfl ?k2y ?k2r
  case k2y => (intro w hSw; (try dsimp only at hSw); go_simp; try with_reducible rfl)
  try simp only [Act.put, List.getElem_toArray, List.getElem_cons_zero, List.getElem_cons_succ, List.setIfInBounds_toArray, List.set_cons_zero, List.set_cons_succ]
  refine wpAnyH_tk 2 ?k3v rfl ?k3y ?k3r
  case k3y => (intro w hSw; (try dsimp only at hSw); go_simp; try with_reducible rfl)
  try simp only [Act.put, List.getElem_toArray, List.getElem_cons_zero, List.getElem_cons_succ, List.setIfInBounds_toArray, List.set_cons_zero, List.set_cons_succ]
  refine wpAnyH_tk 3 ?k4v rfl ?k4y ?k4r
  case k4y => (intro w hSw; (try dsimp only at hSw); go_simp; try with_reducible rfl)
  try simp only [Act.put, List.getElem_toArray, List.getElem_cons_zero, List.getElem_cons_succ, List.setIfInBounds_toArray, List.set_cons_zero, List.set_cons_succ]
  obtain ⟨z0, z1, z2, z3, z4, z5, z6, z7, z8, zf, zz⟩ := z9 SD.out.Z
  obtain ⟨ux, hux⟩ : ∃ y, u8.drew = y := ⟨_, rfl⟩
  rw [hux] at SD hT z0 z1 z2 z3 z4 z5 z6 z7 z8 zf zz ⊢
  have WX : Hid (DW u1 p ao n cap ⟨.slice ra rs.length rc, fz, fc, fhz, fhc, .slice ha hs.length hcp, pc, st, .slice oa os.length oc, rs, hs, os⟩ ux) := SD.out.W
  have hqr : q ≠ r := by omega
  refine wpAnyH_ready (rs := [4]) (by kernel_rfl) (by simp) ?_
  refine AllReadyH.cons rfl (fun KK hK => ?_) AllReadyH.nil
  go_simp
  have hr1 : r < u1.heap.size := by omega
  have bx0 : Below w.heap.size w ux := SD.out.W.F.below B1.out (by omega) wp1
  obtain ⟨uy, huy, hTy, hRy, My, Py, By⟩ : ∃ y, ((((((((ux.setCell ⟨r, 0, none⟩ (.slice ra rs.length rc)).setCell ⟨r, 1, none⟩ (.bool fz)).setCell ⟨r, 2, none⟩ (.bool fc)).setCell ⟨r, 3, none⟩ (.bool fhz)).setCell ⟨r, 4, none⟩ (.bool fhc)).setCell ⟨r, 5, none⟩ (.slice ha hs.length hcp)).setCell ⟨r, 6, none⟩ (.int .i64 pc)).setCell ⟨r, 7, none⟩ (.int .i64 st)).setCell ⟨r, 8, none⟩ (.slice oa os.length oc) = y ∧ y.heap[q]? = some (.cells #[.slice ra rs.length rc, .bool fz, .bool fc, .bool fhz, .bool fhc, .slice ha hs.length hcp, .int .i64 pc, .int .i64 st, .slice oa os.length oc] 28) ∧ y.heap[r]? = some (.cells #[.slice ra rs.length rc, .bool fz, .bool fc, .bool fhz, .bool fhc, .slice ha hs.length hcp, .int .i64 pc, .int .i64 st, .slice oa os.length oc] 28) ∧ ML u1.heap.size ⟨.slice ra rs.length rc, fz, fc, fhz, fhc, .slice ha hs.length hcp, pc, st, .slice oa os.length oc, rs, hs, os⟩ y ∧ y.ownsRow u1.heap.size 59 6 (.slice (some ⟨bP, 0, none⟩) ys.length cP) ys.length (ic ys) ∧ Below w.heap.size w y := by
    refine ⟨_, rfl, ?_, ?_, ?_, ?_, ?_⟩
    · iterate 9 refine hq_other ?_ hqr _ _
      exact hT
    · exact hq_set (hq_set (hq_set (hq_set (hq_set (hq_set (hq_set (hq_set (hq_set SD.out.Z 0 _) 1 _) 2 _) 3 _) 4 _) 5 _) 6 _) 7 _) 8 _
    · iterate 9 refine ML.putlt ?_ hr1 _ _
      exact SD.out.W.ml
    · iterate 9 refine row_putlt ?_ hr1 _ _
      exact SD.out.P
    · iterate 9 refine Below.setCell ?_ hrw _
      exact bx0
  rw [huy]
  have MY : Hid (ML u1.heap.size ⟨.slice ra rs.length rc, fz, fc, fhz, fhc, .slice ha hs.length hcp, pc, st, .slice oa os.length oc, rs, hs, os⟩ uy) := My
  have PY : Hid (uy.ownsRow u1.heap.size 59 6 (.slice (some ⟨bP, 0, none⟩) ys.length cP) ys.length (ic ys)) := Py
  have BY : Hid (Below w.heap.size w uy) := By
  refine hK.out _ _ hTy (fun _ => ?_)
  clear hK KK huy My Py By bx0 SD WX z0 z1 z2 z3 z4 z5 z6 z7 z8 zf zz hux hT S8
  try simp only [Act.put, List.getElem_toArray, List.getElem_cons_zero, List.getElem_cons_succ, List.setIfInBounds_toArray, List.set_cons_zero, List.set_cons_succ]
  refine wpAnyH_tk 5 ?k5v rfl ?k5y ?k5r
  case k5y => (intro w hSw; (try dsimp only at hSw); go_simp; try with_reducible rfl)
  try simp only [Act.put, List.getElem_toArray, List.getElem_cons_zero, List.getElem_cons_succ, List.setIfInBounds_toArray, List.set_cons_zero, List.set_cons_succ]
  refine wpAnyH_done (by kernel_rfl) ?_ _
  obtain ⟨r0, r1, r2, r3, r4, r5, r6, r7, r8⟩ := q9 hRy
  have rz := (Array.getElem?_eq_some_iff.1 hRy).1
  clear j0 j1 j2 j3 j4 j5 j6 j7 j8 hTy hRy
  go_wp2
  refine bodyPost_ret (v := .tuple #[(.slice (some ⟨bP, 0, none⟩) ys.length cP), .agg #[.slice ra rs.length rc, .bool fz, .bool fc, .bool fhz, .bool fhc, .slice ha hs.length hcp, .int .i64 pc, .int .i64 st, .slice oa os.length oc], .int .i64 sv]) (by simp [results, Tryz.results4, go_sem, r0, r1, r2, r3, r4, r5, r6, r7, r8]) rfl ⟨bP, cP, ys, ⟨.slice ra rs.length rc, fz, fc, fhz, fhc, .slice ha hs.length hcp, pc, st, .slice oa os.length oc, rs, hs, os⟩, sv, rfl, y1, y2, row_monoB PY.out wp1, HF3.out.1, HF3.out.2.1, HF3.out.2.2, MY.out.mono wp1, BY.out⟩
end Go.Proofs.YtpnclceamkmklaaGreat
