import Derived.Test.YtpnclceamkmklaaGreatDrawM2
import Derived.Test.YtpnclceamkmklaaGreatOfDrawAny
import Derived.Test.YtpnclceamkmklaaGreatOfMachImpl
/- Any drawn machine; RunMach's draw. -/
namespace Go.Proofs.YtpnclceamkmklaaGreat
open Go.RowKit

theorem Md.form {w0 : World} {p n cap : Nat} {ao : Option Addr} {m : Md} {u : World} (h : DW w0 p ao n cap m u) : ∃ (ra : Option Addr) (rc : Nat) (ha : Option Addr) (hcp : Nat) (oa : Option Addr) (oc : Nat), m = ⟨.slice ra m.rs.length rc, m.z, m.c, m.hz, m.hc, .slice ha m.hs.length hcp, m.pc, m.st, .slice oa m.os.length oc, m.rs, m.hs, m.os⟩ := by
  obtain ⟨ra, rc, hvR⟩ := row_slD h.R
  obtain ⟨ha, hcp, hvH⟩ := row_slD h.H
  obtain ⟨oa, oc, hvO⟩ := row_slD h.O
  refine ⟨ra, rc, ha, hcp, oa, oc, ?_⟩
  rw [← hvR, ← hvH, ← hvO]

theorem DW.down {w w1 u : World} {p n cap : Nat} {ao : Option Addr} {m : Md} (h : DW w1 p ao n cap m u) (f : Fw p w w1) (hp : p < w.heap.size) : DW w p ao n cap m u := by
  have k : ∀ {e s n' : Nat} {v : Value} {xs : List Value}, u.ownsRow w1.heap.size e s v n' xs → u.ownsRow w.heap.size e s v n' xs := fun h => by
    refine ⟨h.1, ?_⟩
    rcases h.2 with h' | ⟨g, cap, cur, h', h1, h2⟩
    · exact .inl h'
    · exact .inr ⟨g, cap, cur, h', Nat.le_trans f.size h1, h2⟩
  exact ⟨f.trans h.F, h.K, k h.R, k h.H, k h.O, fun x hx => k (h.D x hx), h.rr, h.hr, hp⟩
theorem q9 {u : World} {q : Nat} {v0 v1 v2 v3 v4 v5 v6 v7 v8 : Value} {t : TypeId} (h : u.heap[q]? = some (.cells #[v0, v1, v2, v3, v4, v5, v6, v7, v8] t)) : u.cell? ⟨q, 0, none⟩ = some v0 ∧ u.cell? ⟨q, 1, none⟩ = some v1 ∧ u.cell? ⟨q, 2, none⟩ = some v2 ∧ u.cell? ⟨q, 3, none⟩ = some v3 ∧ u.cell? ⟨q, 4, none⟩ = some v4 ∧ u.cell? ⟨q, 5, none⟩ = some v5 ∧ u.cell? ⟨q, 6, none⟩ = some v6 ∧ u.cell? ⟨q, 7, none⟩ = some v7 ∧ u.cell? ⟨q, 8, none⟩ = some v8 :=
  ⟨hq_cell h 0, hq_cell h 1, hq_cell h 2, hq_cell h 3, hq_cell h 4, hq_cell h 5, hq_cell h 6, hq_cell h 7, hq_cell h 8⟩
set_option maxRecDepth 20000 in
set_option maxHeartbeats 8000000 in
theorem l1AnyMach_any (p : Nat) (ao : Option Addr) (n cap : Nat) (w : World) (hc : Cur w p ao n cap) :
    Calls Tryz.prog 14 #[.pointer (some ⟨p, 0, none⟩)] w fun e w' => ∃ m : Md, e = .returned (.agg m.a) ∧ m.rs.length ≤ 8 ∧ m.hs.length ≤ 4 ∧ m.os.length ≤ 2 ∧ DW w p ao n cap m w' := by
  have HC : Hid (Cur w p ao n cap) := hc
  have lp := hc.lt
  clear hc
  go_enter Tryz.func14, Tryz.ntmps14
  go_wp2_with fail
  obtain ⟨u0, hu0, bu0, zu0⟩ : ∃ y, w.alloc (.cells #[.slice none 0 0, .bool false, .bool false, .bool false, .bool false, .slice none 0 0, .int .i64 0, .int .i64 0, .slice none 0 0] 28) = y ∧ Below w.heap.size w y ∧ y.heap[w.heap.size]? = some (.cells md0.a 28) := ⟨_, rfl, (Below.refl _ _).alloc (Nat.le_refl _) _, hq_new _ _⟩
  rw [hu0]
  obtain ⟨r, hr⟩ : ∃ y, w.heap.size = y := ⟨_, rfl⟩
  have hrw : w.heap.size ≤ r := by omega
  have hrp : p < r := by omega
  rw [hr] at zu0 ⊢
  have Z0 : Hid (u0.heap[r]? = some (.cells md0.a 28)) := zu0
  have C0 : Hid (Cur u0 p ao n cap) := HC.out.below bu0
  have F0 : Hid (Fw p w u0) := .of_below bu0
  clear hu0 bu0 zu0 hr HC
  refine (l1DrawMach_any p ao n cap u0 C0.out).mono ?_
  rintro e u1 ⟨m, rfl, h1, h2, h3, d1⟩
  have zr : r < u0.heap.size := (Array.getElem?_eq_some_iff.1 Z0.out).1
  have D1 := d1
  have Z1 : Hid (u1.heap[r]? = some (.cells md0.a 28)) := hq_fw Z0.out d1.F (by omega)
  obtain ⟨ra, rc, ha, hcp, oa, oc, hm⟩ := Md.form D1
  obtain ⟨vR, fz, fc, fhz, fhc, vH, pc, st, vO, rs, hs, os⟩ := m
  dsimp only at hm h1 h2 h3
  obtain ⟨rfl, rfl, rfl⟩ : vR = .slice ra rs.length rc ∧ vH = .slice ha hs.length hcp ∧ vO = .slice oa os.length oc := by
    injection hm with e1 _ _ _ _ e2 _ _ e3
    exact ⟨e1, e2, e3⟩
  have W1 : Hid (DW u0 p ao n cap ⟨.slice ra rs.length rc, fz, fc, fhz, fhc, .slice ha hs.length hcp, pc, st, .slice oa os.length oc, rs, hs, os⟩ u1) := D1
  have HL : Hid (rs.length = 8) := h1
  clear D1 d1 C0 hm h1 zr
  unfold Md.a
  dsimp only
  go_upto_region 2 with fail
  obtain ⟨u2, hu2, bu2, xu2⟩ : ∃ y, u1.alloc (.cells #[.slice ra rs.length rc, .bool fz, .bool fc, .bool fhz, .bool fhc, .slice ha hs.length hcp, .int .i64 pc, .int .i64 st, .slice oa os.length oc] 28) = y ∧ Below u1.heap.size u1 y ∧ y.heap[u1.heap.size]? = some (.cells #[.slice ra rs.length rc, .bool fz, .bool fc, .bool fhz, .bool fhc, .slice ha hs.length hcp, .int .i64 pc, .int .i64 st, .slice oa os.length oc] 28) := ⟨_, rfl, (Below.refl _ _).alloc (Nat.le_refl _) _, hq_new _ _⟩
  rw [hu2]
  obtain ⟨q, hq⟩ : ∃ y, u1.heap.size = y := ⟨_, rfl⟩
  have hqr : r < q := by have := (Array.getElem?_eq_some_iff.1 Z1.out).1; omega
  rw [hq] at xu2 ⊢
  have W2 : Hid (DW u0 p ao n cap ⟨.slice ra rs.length rc, fz, fc, fhz, fhc, .slice ha hs.length hcp, pc, st, .slice oa os.length oc, rs, hs, os⟩ u2) := W1.out.below bu2
  have Z2 : Hid (u2.heap[r]? = some (.cells md0.a 28)) := (bu2.block r (Array.getElem?_eq_some_iff.1 Z1.out).1).trans Z1.out
  have Q2 : Hid (u2.heap[q]? = some (.cells #[.slice ra rs.length rc, .bool fz, .bool fc, .bool fhz, .bool fhc, .slice ha hs.length hcp, .int .i64 pc, .int .i64 st, .slice oa os.length oc] 28)) := xu2
  clear hu2 bu2 xu2 hq W1 Z1
  go_wp2_with fail
  refine (l1Once_any p ao n cap 14 _ (by omega) W2.out.K).mono ?_
  rintro e u3 ⟨z, rfl, f, c⟩
  have W3 : Hid (DW u0 p ao n cap ⟨.slice ra rs.length rc, fz, fc, fhz, fhc, .slice ha hs.length hcp, pc, st, .slice oa os.length oc, rs, hs, os⟩ u3) := W2.out.fw f c
  have Z3 : Hid (u3.heap[r]? = some (.cells md0.a 28)) := hq_fw Z2.out f (by omega)
  have Q3 : Hid (u3.heap[q]? = some (.cells #[.slice ra rs.length rc, .bool fz, .bool fc, .bool fhz, .bool fhc, .slice ha hs.length hcp, .int .i64 pc, .int .i64 st, .slice oa os.length oc] 28)) := hq_fw Q2.out f (by omega)
  clear f c W2 Z2 Q2
  obtain ⟨x0, x1, x2, x3, x4, x5, x6, x7, x8⟩ := q9 Q3.out
  have xz := (Array.getElem?_eq_some_iff.1 Q3.out).1
  cases z with
  | true =>
    go_wp2_with fail
    refine (l1SpoilMach_any u0 p ao n cap ra rc fz fc fhz fhc ha hcp pc st oa oc rs hs os u3 W3.out HL.out h2 h3).mono ?_
    rintro e u4 ⟨m, rfl, h1, h2', h3', d4⟩
    have Z9 : Hid (u4.heap[r]? = some (.cells md0.a 28)) := hq_fw Z0.out d4.F (by omega)
    have D4 := d4.down F0.out lp
    obtain ⟨ra, rc, ha, hcp, oa, oc, hm⟩ := Md.form D4
    obtain ⟨vR, fz, fc, fhz, fhc, vH, pc, st, vO, rs, hs, os⟩ := m
    dsimp only at hm h1 h2' h3'
    obtain ⟨rfl, rfl, rfl⟩ : vR = .slice ra rs.length rc ∧ vH = .slice ha hs.length hcp ∧ vO = .slice oa os.length oc := by
      injection hm with e1 _ _ _ _ e2 _ _ e3
      exact ⟨e1, e2, e3⟩
    have W9 : Hid (DW w p ao n cap ⟨.slice ra rs.length rc, fz, fc, fhz, fhc, .slice ha hs.length hcp, pc, st, .slice oa os.length oc, rs, hs, os⟩ u4) := D4
    have HF3 : Hid (rs.length ≤ 8 ∧ hs.length ≤ 4 ∧ os.length ≤ 2) := ⟨h1, h2', h3'⟩
    clear D4 d4 hm h1 h2' h3' W3 Z3 Q3 x0 x1 x2 x3 x4 x5 x6 x7 x8 xz
    unfold Md.a
    dsimp only
    obtain ⟨z0, z1, z2, z3, z4, z5, z6, z7, z8, zf, zz⟩ := z9 Z9.out
    have W14 : Hid (DW w p ao n cap ⟨.slice ra rs.length rc, fz, fc, fhz, fhc, .slice ha hs.length hcp, pc, st, .slice oa os.length oc, rs, hs, os⟩ _) := W9.out.put9 hrw Z9.out (.slice ra rs.length rc) (.bool fz) (.bool fc) (.bool fhz) (.bool fhc) (.slice ha hs.length hcp) (.int .i64 pc) (.int .i64 st) (.slice oa os.length oc)
    clear W9 Z9
    go_wp2
    refine bodyPost_ret (v := .agg #[.slice ra rs.length rc, .bool fz, .bool fc, .bool fhz, .bool fhc, .slice ha hs.length hcp, .int .i64 pc, .int .i64 st, .slice oa os.length oc]) (by simp [results, Tryz.results14, go_sem, z0, z1, z2, z3, z4, z5, z6, z7, z8]) rfl ⟨⟨.slice ra rs.length rc, fz, fc, fhz, fhc, .slice ha hs.length hcp, pc, st, .slice oa os.length oc, rs, hs, os⟩, rfl, HF3.out.1, HF3.out.2.1, HF3.out.2.2, W14.out⟩
  | false =>
    have HF3 : Hid (rs.length ≤ 8 ∧ hs.length ≤ 4 ∧ os.length ≤ 2) := ⟨by rw [HL.out]; decide, by omega, by omega⟩
    have W9 : Hid (DW w p ao n cap ⟨.slice ra rs.length rc, fz, fc, fhz, fhc, .slice ha hs.length hcp, pc, st, .slice oa os.length oc, rs, hs, os⟩ u3) := W3.out.down F0.out lp
    have Z9 := Z3
    clear W3 Z3 Q3
    obtain ⟨z0, z1, z2, z3, z4, z5, z6, z7, z8, zf, zz⟩ := z9 Z9.out
    have W14 : Hid (DW w p ao n cap ⟨.slice ra rs.length rc, fz, fc, fhz, fhc, .slice ha hs.length hcp, pc, st, .slice oa os.length oc, rs, hs, os⟩ _) := W9.out.put9 hrw Z9.out (.slice ra rs.length rc) (.bool fz) (.bool fc) (.bool fhz) (.bool fhc) (.slice ha hs.length hcp) (.int .i64 pc) (.int .i64 st) (.slice oa os.length oc)
    clear W9 Z9
    go_wp2
    refine bodyPost_ret (v := .agg #[.slice ra rs.length rc, .bool fz, .bool fc, .bool fhz, .bool fhc, .slice ha hs.length hcp, .int .i64 pc, .int .i64 st, .slice oa os.length oc]) (by simp [results, Tryz.results14, go_sem, z0, z1, z2, z3, z4, z5, z6, z7, z8]) rfl ⟨⟨.slice ra rs.length rc, fz, fc, fhz, fhc, .slice ha hs.length hcp, pc, st, .slice oa os.length oc, rs, hs, os⟩, rfl, HF3.out.1, HF3.out.2.1, HF3.out.2.2, W14.out⟩
end Go.Proofs.YtpnclceamkmklaaGreat
