/- Blocks lowered: the program's word. -/
import Derived.Test.YtbnaegpjmiiihaaLowChoice
import Derived.Test.YtbnaegpjmiiihaaUnitFlat0
import Derived.Test.YtbnaegpjmiiihaaLowSpec2
namespace Go.Proofs.Ytbnaegpjmiiihaa
open Go.RowKit
theorem RepN.shp {L : Nat → SV} {w : World} {S : Nat → Prop} : ∀ (m : Nat) {v : Value} {i te : Nat}, RepN L m w S v i te → ∃ (ao : Option Addr) (k c : Nat), v = .slice ao k c
  | 0, _, _, _, h => ⟨_, _, _, h.2⟩
  | _ + 1, _, _, _, ⟨_, hr, _⟩ => row_slice hr.1
theorem tl11 (v : Value) (w : World) : (Instr.typeAssert (.iface 68 v) 66 68 true).run Try.prog w = .ok (.tuple #[v, .bool true]) w := by kernel_rfl
theorem tl21 (v : Value) (w : World) : (Instr.typeAssert (.iface 70 v) 66 68 true).run Try.prog w = .ok (.tuple #[.agg #[.int .i64 0, .int .i64 0, .int .i64 0, .int .i64 0, .int .i64 0, .int .i64 0, .int .i64 0], .bool false]) w := by kernel_rfl
theorem tl22 (v : Value) (w : World) : (Instr.typeAssert (.iface 70 v) 66 70 true).run Try.prog w = .ok (.tuple #[v, .bool true]) w := by kernel_rfl
theorem tl31 (v : Value) (w : World) : (Instr.typeAssert (.iface 73 v) 66 68 true).run Try.prog w = .ok (.tuple #[.agg #[.int .i64 0, .int .i64 0, .int .i64 0, .int .i64 0, .int .i64 0, .int .i64 0, .int .i64 0], .bool false]) w := by kernel_rfl
theorem tl32 (v : Value) (w : World) : (Instr.typeAssert (.iface 73 v) 66 70 true).run Try.prog w = .ok (.tuple #[.agg #[.int .i64 0, .int .i64 0, .slice none 0 0, .slice none 0 0], .bool false]) w := by kernel_rfl
theorem tl33 (v : Value) (w : World) : (Instr.typeAssert (.iface 73 v) 66 73 true).run Try.prog w = .ok (.tuple #[v, .bool true]) w := by kernel_rfl
theorem LP.below {w u : World} {lb : Nat} {v : Value} {xs : List NV} (h : LP w lb v xs) (b : Below w.heap.size w u) : LP u lb v xs :=
  ⟨(b.cell (p := ⟨lb, 0, none⟩) h.lt).trans h.C, Nat.lt_of_lt_of_le h.lt b.size, fun i => (b.frozen (p := ⟨lb, i, none⟩) h.lt).trans (h.F i), row_belowU h.O b⟩
theorem Stp.of_below {w u : World} {lb : Nat} {E : Nat → Prop} (v : Value) (b : Below w.heap.size w u) : Stp lb E w v u v := ⟨Lx.of_below b, .inl rfl⟩

set_option maxRecDepth 20000 in
set_option maxHeartbeats 32000000 in
theorem addL_go (w0 : World) (lb : Nat) (L : Nat → SV) (m i te : Nat) (depth : Int) (tv : Value) (S : Nat → Prop) (hlb : w0.heap.size ≤ lb)
    (hr : RepN L (m + 1) w0 S tv i te) (hit : i ≤ te) (hte : te ≤ 2000) (hck : (chk L 0 0 321 i te depth).1 = 0)
    (ih : ∀ i' te' d v, i < i' → i' ≤ te' → te' ≤ te → (chk L 0 0 321 i' te' d).1 = 0 → RepN L m w0 S v i' te' → AddL w0 lb L i' te' v) : AddL w0 lb L i te tv := by
  intro w v0 xs hb0 hP hsz
  obtain ⟨ns, hrow, hxl, hx⟩ := hr
  obtain ⟨aot, kt, ct, htv⟩ := row_slice hrow.1
  subst htv
  have HROW : Hid (RowS w0 S (.slice aot kt ct) ns) := hrow
  have HXL : Hid (ns.length = (tops L i te).length) := hxl
  have HX : Hid _ := hx
  have HCK : Hid ((chk L 0 0 321 i te depth).1 = 0) := hck
  have IH : Hid _ := ih
  have HB0 : Hid (Below lb w0 w) := hb0
  have P0 : Hid (LP w lb v0 xs) := hP
  obtain ⟨all, hall⟩ : ∃ x, lowB L xs.length i te = x := ⟨_, rfl⟩
  rw [hall] at hsz ⊢
  have HALL : Hid (lowB L xs.length i te = all) := hall
  have hkt : kt = ns.length := by
    rcases hrow.1.2 with ⟨e, e2⟩ | ⟨g, cap, cur, e, _⟩
    · have := (Value.slice.inj e).2.1; omega
    · exact (Value.slice.inj e).2.1
  have hk2 : kt ≤ 2000 := by rw [hkt, hxl]; exact Nat.le_trans (tops_len L _ i te (Nat.le_refl _)) (by omega)
  have HKT : Hid (kt = ns.length) := hkt
  clear hrow hxl hx hck ih hb0 hP hall hkt
  go_enter Try.func17, Try.ntmps17
  go_wp2
  go_loopw [11] (fun iv wr => ∃ (q p : Nat) (v : Value) (done : List NV), q ≤ kt ∧ i ≤ p ∧ p ≤ te ∧ iv = .int .i64 (q : Int) ∧ LP wr lb v (xs ++ done) ∧ Stp lb (fun _ => False) w v0 wr v ∧ done ++ lowB L (xs ++ done).length p te = all ∧ (tops L i te).drop q = tops L p te ∧ (chk L 0 0 321 p te depth).1 = 0) (fun iv _ => kt - (intOf iv).toNat)
  case atStart => exact ⟨0, i, v0, [], Nat.zero_le _, Nat.le_refl _, hit, rfl, by rw [List.append_nil]; exact P0.out, Stp.refl _ _ _ _, by rw [List.append_nil]; exact HALL.out, by simp, HCK.out⟩
  case round =>
    obtain ⟨q, p, v, done, hq, hip, hpt, rfl, hp, hs, hd, hdr, hc⟩ := hrel
    have P1 : Hid (LP wr lb v (xs ++ done)) := hp
    have S1 : Hid (Stp lb (fun _ => False) w v0 wr v) := hs
    have HD : Hid (done ++ lowB L (xs ++ done).length p te = all) := hd
    have HDR : Hid ((tops L i te).drop q = tops L p te) := hdr
    have HK : Hid ((chk L 0 0 321 p te depth).1 = 0) := hc
    have B1 : Hid (Below lb w0 wr) := hs.low HB0.out P0.out (fun _ _ h => h)
    have hln : (xs ++ done).length + (lowB L (xs ++ done).length p te).length ≤ 4000 := by
      have h := hsz
      rw [← hd] at h
      simp only [List.length_append] at h ⊢
      omega
    have HLN : Hid ((xs ++ done).length + (lowB L (xs ++ done).length p te).length ≤ 4000) := hln
    clear hp hs hd hdr hc hln
    by_cases hlt : p < te
    rotate_left
    · have hqn : q = kt := by
        have h := congrArg List.length HDR.out
        rw [List.length_drop, ← HXL.out, ← HKT.out, tops_end hlt] at h
        simp at h; omega
      have hqx' : ¬ (q : Int) < (kt : Int) := by omega
      have hdone : done = all := by have := HD.out; rw [lowB_end hlt, List.append_nil] at this; exact this
      subst hdone
      go_wp2
      go_end0
      exact ⟨rfl, v, P1.out, S1.out⟩
    have hqx : q < kt := by
      have h := congrArg List.length HDR.out
      rw [List.length_drop, ← HXL.out, ← HKT.out, tops_more hlt] at h
      simp at h; omega
    have hqx' : (q : Int) < (kt : Int) := by omega
    obtain ⟨gt, ctt, htt⟩ := row_some2 HROW.out.1 (by rw [← HKT.out]; omega)
    obtain ⟨rfl, hz, rfl⟩ := Value.slice.inj htt
    clear hz
    have HR2 : Hid (w0.ownsRow 0 66 1 (.slice (some ⟨gt, 0, none⟩) ns.length ct) ns.length ns) := (by have := HROW.out.1; rwa [HKT.out] at this : w0.ownsRow 0 66 1 (.slice (some ⟨gt, 0, none⟩) ns.length ct) ns.length ns)
    obtain ⟨x, hxq⟩ : ∃ x, ns[q]? = some x := ⟨ns[q]'(by rw [← HKT.out]; exact hqx), by simp [← HKT.out, hqx]⟩
    have hpq : (tops L i te)[q]? = some p := by
      have h := congrArg (fun l => l[0]?) HDR.out
      simp only [tops_more hlt, List.getElem?_drop, Nat.add_zero, List.getElem?_cons_zero] at h
      exact h
    have hdn : (tops L i te).drop (q + 1) = tops L (p + 1 + (L p).thn.toNat + (L p).els.toNat) te := by
      have h := congrArg (List.drop 1) HDR.out
      rw [List.drop_drop, tops_more hlt] at h
      simpa [Nat.add_comm] using h
    have lgt : gt < lb := by have := (HROW.out.1.lt gt rfl).2; omega
    have g0 : wr.cell? ⟨gt, q, none⟩ = some x := by
      rw [B1.out.cell (p := ⟨gt, q, none⟩) lgt, HR2.out.cellAt q (by rw [← HKT.out]; omega)]
      exact hxq
    obtain ⟨sok, hnt, k1', k2', k3'⟩ := chk_next HK.out hlt
    have HSOK : Hid (stOK (L p) (0 : Int) = true) := sok
    have HC1 : Hid _ := k1'
    have HC2 : Hid _ := k2'
    have HC3 : Hid _ := k3'
    have HDN : Hid _ := hdn
    have HNT : Hid (p + 1 + (L p).thn.toNat + (L p).els.toNat ≤ te) := hnt
    have hcase := HX.out q x p hxq hpq
    clear sok k1' k2' k3' hdn hnt hxq hpq htt HDR HK
    rcases hcase with ⟨k1, rfl⟩ | ⟨k2, v1, v2, rfl, r1, r2⟩ | ⟨k3, v1, rfl, r1⟩ | ⟨k4, rfl⟩
    · have K : Hid ((L p).k = 1) := k1
      clear k1
      have t1 := tl11
      go_upto_region 6 with fail
      clear t1 g0
      obtain ⟨u1, hu1, hb1, hc1⟩ : ∃ x, wr.alloc (.cells #[.int .i64 (p : Int), .int .i64 (L p).op, .int .i64 (L p).d, .int .i64 (L p).a, .int .i64 (L p).b, .int .i64 (L p).imm, .int .i64 (L p).h] 68) = x ∧ Below wr.heap.size wr x ∧ Cl x wr.heap.size [.int .i64 (p : Int), .int .i64 (L p).op, .int .i64 (L p).d, .int .i64 (L p).a, .int .i64 (L p).b, .int .i64 (L p).imm, .int .i64 (L p).h] := ⟨_, rfl, (Below.refl _ _).alloc (Nat.le_refl _) _, Cl.new⟩
      rw [hu1]
      have P2 : Hid (LP u1 lb v (xs ++ done)) := P1.out.below hb1
      have S2 : Hid (Stp lb (fun _ => False) w v0 u1 v) := S1.out.trans (Stp.of_below (E := fun _ => False) v hb1) (fun _ _ h => h)
      have zx := hc1.1
      have c1' : u1.cell? ⟨wr.heap.size, 1, none⟩ = some (.int .i64 (L p).op) := hc1.2 1 (by simp)
      have c2' : u1.cell? ⟨wr.heap.size, 2, none⟩ = some (.int .i64 (L p).d) := hc1.2 2 (by simp)
      have c3' : u1.cell? ⟨wr.heap.size, 3, none⟩ = some (.int .i64 (L p).a) := hc1.2 3 (by simp)
      have c4' : u1.cell? ⟨wr.heap.size, 4, none⟩ = some (.int .i64 (L p).b) := hc1.2 4 (by simp)
      have c5' : u1.cell? ⟨wr.heap.size, 5, none⟩ = some (.int .i64 (L p).imm) := hc1.2 5 (by simp)
      have c6' : u1.cell? ⟨wr.heap.size, 6, none⟩ = some (.int .i64 (L p).h) := hc1.2 6 (by simp)
      clear hu1 hb1 hc1 P1 S1
      go_wp2_with fail
      obtain ⟨y2, y3⟩ := st_flat HSOK.out (.inl K.out)
      have HE : p + 1 + (L p).thn.toNat + (L p).els.toNat = p + 1 := by rw [y2, y3]; rfl
      have hnode := lowB_1 (at' := (xs ++ done).length) hlt HNT.out K.out
      rw [HE] at hnode
      have hl2 := HLN.out
      rw [hnode, List.length_cons] at hl2
      refine (add_any lb v (xs ++ done) (insV0 (L p)) u1 P2.out (by omega)).mono ?_
      rintro e u2 ⟨rfl, v2, hp2, hs2⟩
      have P3 : Hid (LP u2 lb v2 (xs ++ (done ++ [insV0 (L p)]))) := (by rw [← List.append_assoc]; exact hp2 : LP u2 lb v2 (xs ++ (done ++ [insV0 (L p)])))
      have S3 : Hid (Stp lb (fun _ => False) w v0 u2 v2) := S2.out.trans hs2 (fun _ _ h => h)
      have HD2 : Hid (done ++ [insV0 (L p)] ++ lowB L (xs ++ (done ++ [insV0 (L p)])).length (p + 1) te = all) := (by
        rw [← HD.out, hnode, show (xs ++ (done ++ [insV0 (L p)])).length = (xs ++ done).length + 1 by simp; omega]; simp : done ++ [insV0 (L p)] ++ lowB L (xs ++ (done ++ [insV0 (L p)])).length (p + 1) te = all)
      have HD3 : Hid ((tops L i te).drop (q + 1) = tops L (p + 1) te) := (by have h := HDN.out; rw [HE] at h; exact h : (tops L i te).drop (q + 1) = tops L (p + 1) te)
      have HC4 : Hid ((chk L 0 0 321 (p + 1) te depth).1 = 0) := (by have h := HC3.out; rw [HE] at h; exact h : (chk L 0 0 321 (p + 1) te depth).1 = 0)
      clear hp2 hs2 c1' c2' c3' c4' c5' c6' y2 y3 HE hnode hl2 P2 S2
      go_wp2
      go_roundw
      case rel => exact ⟨q + 1, p + 1, v2, done ++ [insV0 (L p)], by omega, by omega, by omega, by go_num, P3.out, S3.out, HD2.out, HD3.out, HC4.out⟩
      case measure => simp [intOf]; omega
    · have K : Hid ((L p).k = 2) := k2
      clear k2
      obtain ⟨aoa, ka, ca, hva⟩ := RepN.shp m r1
      subst hva
      obtain ⟨aob, kb, cb, hvb⟩ := RepN.shp m r2
      subst hvb
      obtain ⟨a, ha⟩ : ∃ x : Nat, (L p).thn.toNat = x := ⟨_, rfl⟩
      obtain ⟨b, hb⟩ : ∃ x : Nat, (L p).els.toNat = x := ⟨_, rfl⟩
      have hnt : p + 1 + a + b ≤ te := by have := HNT.out; omega
      have HAB : Hid ((L p).thn.toNat = a ∧ (L p).els.toNat = b) := ⟨ha, hb⟩
      have H1 : Hid (AddL w0 lb L (p + 1) (p + 1 + a) (.slice aoa ka ca)) := IH.out (p + 1) (p + 1 + a) (depth + 1) _ (by omega) (by omega) (by omega) (by have h := HC1.out; rw [ha] at h; exact h) (by rw [← ha]; exact r1)
      have H2 : Hid (AddL w0 lb L (p + 1 + a) (p + 1 + a + b) (.slice aob kb cb)) := IH.out (p + 1 + a) (p + 1 + a + b) (depth + 1) _ (by omega) (by omega) (by omega) (by have h := HC2.out; rw [ha, hb] at h; exact h) (by rw [← ha, ← hb]; exact r2)
      clear r1 r2 ha hb
      have t1 := tl21
      have t2 := tl22
      go_upto_region 9 with fail
      clear t1 t2 g0
      obtain ⟨u1, hu1, hb1, hc1⟩ : ∃ x, wr.alloc (.cells #[.int .i64 (p : Int), .int .i64 (L p).cond, .slice aoa ka ca, .slice aob kb cb] 70) = x ∧ Below wr.heap.size wr x ∧ Cl x wr.heap.size [.int .i64 (p : Int), .int .i64 (L p).cond, .slice aoa ka ca, .slice aob kb cb] := ⟨_, rfl, (Below.refl _ _).alloc (Nat.le_refl _) _, Cl.new⟩
      rw [hu1]
      have P2 : Hid (LP u1 lb v (xs ++ done)) := P1.out.below hb1
      have S2 : Hid (Stp lb (fun _ => False) w v0 u1 v) := S1.out.trans (Stp.of_below (E := fun _ => False) v hb1) (fun _ _ h => h)
      have B2 : Hid (Below lb w0 u1) := S2.out.low HB0.out P0.out (fun _ _ h => h)
      have zx := hc1.1
      have c0' : u1.cell? ⟨wr.heap.size, 0, none⟩ = some (.int .i64 (p : Int)) := hc1.2 0 (by simp)
      have c1' : u1.cell? ⟨wr.heap.size, 1, none⟩ = some (.int .i64 (L p).cond) := hc1.2 1 (by simp)
      have c2' : u1.cell? ⟨wr.heap.size, 2, none⟩ = some (.slice aoa ka ca) := hc1.2 2 (by simp)
      have c3' : u1.cell? ⟨wr.heap.size, 3, none⟩ = some (.slice aob kb cb) := hc1.2 3 (by simp)
      clear hu1 hb1 hc1 P1 S1
      go_wp2_with fail
      obtain ⟨xL, hxL⟩ : ∃ y, lowB L ((xs ++ done).length + 1) (p + 1) (p + 1 + a) = y := ⟨_, rfl⟩
      obtain ⟨yL, hyL⟩ : ∃ y, lowB L ((xs ++ done).length + 2 + xL.length) (p + 1 + a) (p + 1 + a + b) = y := ⟨_, rfl⟩
      have hnode := lowB_2 (at' := (xs ++ done).length) hlt HNT.out K.out (x := xL) (y := yL) (by rw [HAB.out.1]; exact hxL) (by rw [HAB.out.1, HAB.out.2]; exact hyL)
      rw [HAB.out.1, HAB.out.2] at hnode
      have hl2 := HLN.out
      rw [hnode] at hl2
      simp only [List.length_append, List.length_cons] at hl2
      refine (addChoice_any w0 lb L p a b (p : Int) (L p).cond aoa ka ca aob kb cb H1.out H2.out u1 v (xs ++ done) xL yL B2.out P2.out hxL hyL (by simp only [List.length_append]; omega)).mono ?_
      rintro e u2 ⟨rfl, v2', hp2, hs2⟩
      have P3 : Hid (LP u2 lb v2' (xs ++ (done ++ (jmpV (notI (L p).cond) (((xs ++ done).length + 2 + xL.length : Nat) : Int) :: (xL ++ jmpV 29 (((xs ++ done).length + 2 + xL.length + yL.length : Nat) : Int) :: yL))))) := (by rw [← List.append_assoc]; exact hp2 : LP u2 lb v2' (xs ++ (done ++ (jmpV (notI (L p).cond) (((xs ++ done).length + 2 + xL.length : Nat) : Int) :: (xL ++ jmpV 29 (((xs ++ done).length + 2 + xL.length + yL.length : Nat) : Int) :: yL)))))
      have S3 : Hid (Stp lb (fun _ => False) w v0 u2 v2') := S2.out.trans hs2 (fun _ _ h => h)
      have HD2 : Hid (done ++ (jmpV (notI (L p).cond) (((xs ++ done).length + 2 + xL.length : Nat) : Int) :: (xL ++ jmpV 29 (((xs ++ done).length + 2 + xL.length + yL.length : Nat) : Int) :: yL)) ++ lowB L (xs ++ (done ++ (jmpV (notI (L p).cond) (((xs ++ done).length + 2 + xL.length : Nat) : Int) :: (xL ++ jmpV 29 (((xs ++ done).length + 2 + xL.length + yL.length : Nat) : Int) :: yL)))).length (p + 1 + a + b) te = all) := (by
        rw [← HD.out, hnode, show (xs ++ (done ++ (jmpV (notI (L p).cond) (((xs ++ done).length + 2 + xL.length : Nat) : Int) :: (xL ++ jmpV 29 (((xs ++ done).length + 2 + xL.length + yL.length : Nat) : Int) :: yL)))).length = (xs ++ done).length + 2 + xL.length + yL.length by simp; omega]; simp : done ++ (jmpV (notI (L p).cond) (((xs ++ done).length + 2 + xL.length : Nat) : Int) :: (xL ++ jmpV 29 (((xs ++ done).length + 2 + xL.length + yL.length : Nat) : Int) :: yL)) ++ lowB L (xs ++ (done ++ (jmpV (notI (L p).cond) (((xs ++ done).length + 2 + xL.length : Nat) : Int) :: (xL ++ jmpV 29 (((xs ++ done).length + 2 + xL.length + yL.length : Nat) : Int) :: yL)))).length (p + 1 + a + b) te = all)
      have HD3 : Hid ((tops L i te).drop (q + 1) = tops L (p + 1 + a + b) te) := (by have h := HDN.out; rw [HAB.out.1, HAB.out.2] at h; exact h : (tops L i te).drop (q + 1) = tops L (p + 1 + a + b) te)
      have HC4 : Hid ((chk L 0 0 321 (p + 1 + a + b) te depth).1 = 0) := (by have h := HC3.out; rw [HAB.out.1, HAB.out.2] at h; exact h : (chk L 0 0 321 (p + 1 + a + b) te depth).1 = 0)
      clear hp2 hs2 c0' c1' c2' c3' hnode hl2 P2 S2
      go_wp2
      go_roundw
      case rel => exact ⟨q + 1, p + 1 + a + b, v2', done ++ (jmpV (notI (L p).cond) (((xs ++ done).length + 2 + xL.length : Nat) : Int) :: (xL ++ jmpV 29 (((xs ++ done).length + 2 + xL.length + yL.length : Nat) : Int) :: yL)), by omega, by omega, by omega, by go_num, P3.out, S3.out, HD2.out, HD3.out, HC4.out⟩
      case measure => simp [intOf]; omega
    · have K : Hid ((L p).k = 3) := k3
      clear k3
      obtain ⟨aoa, ka, ca, hva⟩ := RepN.shp m r1
      subst hva
      obtain ⟨a, ha⟩ : ∃ x : Nat, (L p).thn.toNat = x := ⟨_, rfl⟩
      obtain ⟨b, hb⟩ : ∃ x : Nat, (L p).els.toNat = x := ⟨_, rfl⟩
      have hnt : p + 1 + a + b ≤ te := by have := HNT.out; omega
      have HAB : Hid ((L p).thn.toNat = a ∧ (L p).els.toNat = b) := ⟨ha, hb⟩
      have H1 : Hid (AddL w0 lb L (p + 1) (p + 1 + a) (.slice aoa ka ca)) := IH.out (p + 1) (p + 1 + a) (depth + 1) _ (by omega) (by omega) (by omega) (by have h := HC1.out; rw [ha] at h; exact h) (by rw [← ha]; exact r1)
      have eb0 : b = 0 := by have := (st_plain HSOK.out).2 K.out; omega
      clear r1 ha hb
      have t1 := tl31
      have t2 := tl32
      have t3 := tl33
      go_upto_region 12 with fail
      clear t1 t2 t3 g0
      obtain ⟨u1, hu1, hb1, hc1⟩ : ∃ x, wr.alloc (.cells #[.int .i64 (p : Int), .int .i64 (L p).cond, .slice aoa ka ca] 73) = x ∧ Below wr.heap.size wr x ∧ Cl x wr.heap.size [.int .i64 (p : Int), .int .i64 (L p).cond, .slice aoa ka ca] := ⟨_, rfl, (Below.refl _ _).alloc (Nat.le_refl _) _, Cl.new⟩
      rw [hu1]
      have P2 : Hid (LP u1 lb v (xs ++ done)) := P1.out.below hb1
      have S2 : Hid (Stp lb (fun _ => False) w v0 u1 v) := S1.out.trans (Stp.of_below (E := fun _ => False) v hb1) (fun _ _ h => h)
      have B2 : Hid (Below lb w0 u1) := S2.out.low HB0.out P0.out (fun _ _ h => h)
      have zx := hc1.1
      have c0' : u1.cell? ⟨wr.heap.size, 0, none⟩ = some (.int .i64 (p : Int)) := hc1.2 0 (by simp)
      have c1' : u1.cell? ⟨wr.heap.size, 1, none⟩ = some (.int .i64 (L p).cond) := hc1.2 1 (by simp)
      have c2' : u1.cell? ⟨wr.heap.size, 2, none⟩ = some (.slice aoa ka ca) := hc1.2 2 (by simp)
      clear hu1 hb1 hc1 P1 S1
      go_wp2_with fail
      obtain ⟨xL, hxL⟩ : ∃ y, lowB L ((xs ++ done).length + 1) (p + 1) (p + 1 + a) = y := ⟨_, rfl⟩
      have hnode := lowB_3 (at' := (xs ++ done).length) hlt HNT.out K.out (x := xL) (by rw [HAB.out.1]; exact hxL)
      rw [HAB.out.1, HAB.out.2] at hnode
      have hl2 := HLN.out
      rw [hnode] at hl2
      simp only [List.length_append, List.length_cons] at hl2
      refine (addLoop_any w0 lb L p a (p : Int) (L p).cond aoa ka ca H1.out u1 v (xs ++ done) xL B2.out P2.out hxL (by simp only [List.length_append]; omega)).mono ?_
      rintro e u2 ⟨rfl, v2', hp2, hs2⟩
      have P3 : Hid (LP u2 lb v2' (xs ++ (done ++ (jmpV (notI (L p).cond) (((xs ++ done).length + 2 + xL.length : Nat) : Int) :: (xL ++ [jmpV 29 ((xs ++ done).length : Int)]))))) := (by rw [← List.append_assoc]; exact hp2 : LP u2 lb v2' (xs ++ (done ++ (jmpV (notI (L p).cond) (((xs ++ done).length + 2 + xL.length : Nat) : Int) :: (xL ++ [jmpV 29 ((xs ++ done).length : Int)])))))
      have S3 : Hid (Stp lb (fun _ => False) w v0 u2 v2') := S2.out.trans hs2 (fun _ _ h => h)
      have HD2 : Hid (done ++ (jmpV (notI (L p).cond) (((xs ++ done).length + 2 + xL.length : Nat) : Int) :: (xL ++ [jmpV 29 ((xs ++ done).length : Int)])) ++ lowB L (xs ++ (done ++ (jmpV (notI (L p).cond) (((xs ++ done).length + 2 + xL.length : Nat) : Int) :: (xL ++ [jmpV 29 ((xs ++ done).length : Int)])))).length (p + 1 + a + b) te = all) := (by
        rw [← HD.out, hnode, show (xs ++ (done ++ (jmpV (notI (L p).cond) (((xs ++ done).length + 2 + xL.length : Nat) : Int) :: (xL ++ [jmpV 29 ((xs ++ done).length : Int)])))).length = (xs ++ done).length + 2 + xL.length by simp; omega]; simp : done ++ (jmpV (notI (L p).cond) (((xs ++ done).length + 2 + xL.length : Nat) : Int) :: (xL ++ [jmpV 29 ((xs ++ done).length : Int)])) ++ lowB L (xs ++ (done ++ (jmpV (notI (L p).cond) (((xs ++ done).length + 2 + xL.length : Nat) : Int) :: (xL ++ [jmpV 29 ((xs ++ done).length : Int)])))).length (p + 1 + a + b) te = all)
      have HD3 : Hid ((tops L i te).drop (q + 1) = tops L (p + 1 + a + b) te) := (by have h := HDN.out; rw [HAB.out.1, HAB.out.2] at h; exact h : (tops L i te).drop (q + 1) = tops L (p + 1 + a + b) te)
      have HC4 : Hid ((chk L 0 0 321 (p + 1 + a + b) te depth).1 = 0) := (by have h := HC3.out; rw [HAB.out.1, HAB.out.2] at h; exact h : (chk L 0 0 321 (p + 1 + a + b) te depth).1 = 0)
      clear hp2 hs2 c0' c1' c2'  hnode hl2 P2 S2
      go_wp2
      go_roundw
      case rel => exact ⟨q + 1, p + 1 + a + b, v2', done ++ (jmpV (notI (L p).cond) (((xs ++ done).length + 2 + xL.length : Nat) : Int) :: (xL ++ [jmpV 29 ((xs ++ done).length : Int)])), by omega, by omega, by omega, by go_num, P3.out, S3.out, HD2.out, HD3.out, HC4.out⟩
      case measure => simp [intOf]; omega
    · obtain ⟨x0, x1⟩ := st_call HSOK.out k4
      omega
end Go.Proofs.Ytbnaegpjmiiihaa
