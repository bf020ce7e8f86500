import Derived.Test.YtcgcldokompafaaGreatDoorCk5c
/- The model's check of an if or a while. -/
namespace Go.Proofs.YtcgcldokompafaaGreatDoor
open Go.RowKit Go.Deep
def stL (s : SV) : List Value := [.int .i64 s.k, .int .i64 s.op, .int .i64 s.d, .int .i64 s.a, .int .i64 s.b, .int .i64 s.imm, .int .i64 s.h, .int .i64 s.cond, .int .i64 s.thn, .int .i64 s.els, .int .i64 s.proc]
theorem SL.head {w : World} {s : SV} {xs : List SV} {v : Value} (h : SL w v (s :: xs)) : ∃ b off cap, v = .slice (some ⟨b, off, none⟩) (xs.length + 1) cap /\ xs.length + 1 <= cap /\ At w b off ((xs.length + 1) * 11) (stF (lst (s :: xs))) := by
 obtain ⟨ao, cap, h1, h2, h3⟩ := h
 rcases h3 with h3 | ⟨b, off, rfl, h3⟩
 ·simp at h3
 ·exact ⟨b, off, cap, h1, h2, h3⟩
theorem sl_cut {w : World} {b off cap : Nat} {L xs : List SV} {i m cp : Nat} {ao : Option Addr} (h : At w b off (L.length * 11) (stF (lst L))) (hx : (L.drop i).take xs.length = xs) (hc : L.length <= cap) (hi : i + xs.length <= L.length) (hao : ao = if cap = i then some ⟨b, off, none⟩ else some ⟨b, off + i * 11, none⟩) (hm : m = xs.length) (hcp : cp = cap - i) : SL w (.slice ao m cp) xs := by
 subst hm hcp
 refine ⟨ao, _, rfl, by omega, ?_⟩
 by_cases e : cap = i
 ·exact .inl (by omega)
 ·rw [if_neg e] at hao
  have := At.sub h i xs.length hi
  rw [hx] at this
  exact .inr ⟨b, _, hao, this⟩
structure YB (R : CR) (nH : Nat) (S : Nat -> HS) (V0 : Nat -> VV) (bA B ny : Nat) (err at' : Int) (ao : Option Addr) (m cap : Nat) (z c rounds : Int) (u : World) : Prop where
 Y : u.heap[ny]? = some (.cells #[.int .i64 err, .int .i64 at', .slice ao m cap, .int .i64 z, .int .i64 c, .int .i64 rounds] 53)
 ab : err = 0 -> ∃ (g cg : Nat) (V : Nat -> VV), (Value.slice ao m cap) = .slice (some ⟨g, 0, none⟩) 8 cg /\ (g = bA ∨ B <= g) /\ g ≠ ny /\ Arr u g (8 * 6) (vF V) /\ absOK nH S 8 V0 8 V z c = true /\ R = .ok ⟨V, z, c⟩ rounds
 bd : BadIs R err at'
theorem YB.below {R : CR} {nH : Nat} {S : Nat -> HS} {V0 : Nat -> VV} {bA B ny : Nat} {err at' : Int} {ao : Option Addr} {m cap : Nat} {z c rounds : Int} {u u' : World} (h : YB R nH S V0 bA B ny err at' ao m cap z c rounds u) (f : Below u.heap.size u u') : YB R nH S V0 bA B ny err at' ao m cap z c rounds u' :=
 ⟨hq_below h.Y f, fun e => by obtain ⟨g, cg, V, h1, h2, h3, h4, h5⟩ := h.ab e; exact ⟨g, cg, V, h1, h2, h3, h4.below f h4.lt, h5⟩, h.bd⟩
theorem YB.cells {R : CR} {nH : Nat} {S : Nat -> HS} {V0 : Nat -> VV} {bA B ny : Nat} {err at' : Int} {ao : Option Addr} {m cap : Nat} {z c rounds : Int} {u : World} (h : YB R nH S V0 bA B ny err at' ao m cap z c rounds u) : u.cell? ⟨ny, 0, none⟩ = some (.int .i64 err) /\ u.cell? ⟨ny, 1, none⟩ = some (.int .i64 at') /\ u.cell? ⟨ny, 2, none⟩ = some (.slice ao m cap) /\ u.cell? ⟨ny, 3, none⟩ = some (.int .i64 z) /\ u.cell? ⟨ny, 4, none⟩ = some (.int .i64 c) /\ u.cell? ⟨ny, 5, none⟩ = some (.int .i64 rounds) /\ (∀ i, u.frozen? ⟨ny, i, none⟩ = false) /\ ny < u.heap.size :=
 ⟨(hq_cell h.Y 0).trans rfl, (hq_cell h.Y 1).trans rfl, (hq_cell h.Y 2).trans rfl, (hq_cell h.Y 3).trans rfl, (hq_cell h.Y 4).trans rfl, (hq_cell h.Y 5).trans rfl, hq_free h.Y, hq_lt h.Y⟩
theorem yb_new {R : CR} {nH : Nat} {S : Nat -> HS} {V0 : Nat -> VV} {bA B : Nat} {err at' : Int} {ao : Option Addr} {m cap : Nat} {z c rounds : Int} {u : World} (h : err = 0 -> AbIn R rounds nH S V0 bA B u (.slice ao m cap) z c) (hd : BadIs R err at') : YB R nH S V0 bA B u.heap.size err at' ao m cap z c rounds (u.alloc (.cells #[.int .i64 err, .int .i64 at', .slice ao m cap, .int .i64 z, .int .i64 c, .int .i64 rounds] 53)) :=
 ⟨hq_new _ _, fun e => by
   obtain ⟨g, cg, V, h1, h2, h3, h4⟩ := h e
   exact ⟨g, cg, V, h1, h2, by have := h3.lt; omega, h3.below ((Below.refl _ _).alloc (Nat.le_refl _) _) h3.lt, h4⟩, hd⟩
theorem hq_set6 {u : World} {b t : Nat} {x0 x1 x2 x3 x4 x5 : Value} (h : u.heap[b]? = some (.cells #[x0, x1, x2, x3, x4, x5] t)) (a0 a1 a2 a3 a4 a5 : Value) : (set6 u b a0 a1 a2 a3 a4 a5).heap[b]? = some (.cells #[a0, a1, a2, a3, a4, a5] t) :=
 hq_set (hq_set (hq_set (hq_set (hq_set (hq_set h 0 a0) 1 a1) 2 a2) 3 a3) 4 a4) 5 a5
theorem st_at0 {w : World} {b off n : Nat} {s : SV} {xs : List SV} (h : At w b off ((n + 1) * 11) (stF (lst (s :: xs)))) : w.cell? ⟨b, off, none⟩ = some (.int .i64 s.k) /\ w.cell? ⟨b, off + 1, none⟩ = some (.int .i64 s.op) /\ w.cell? ⟨b, off + 2, none⟩ = some (.int .i64 s.d) /\ w.cell? ⟨b, off + 3, none⟩ = some (.int .i64 s.a) /\ w.cell? ⟨b, off + 4, none⟩ = some (.int .i64 s.b) /\ w.cell? ⟨b, off + 5, none⟩ = some (.int .i64 s.imm) /\ w.cell? ⟨b, off + 6, none⟩ = some (.int .i64 s.h) /\ w.cell? ⟨b, off + 7, none⟩ = some (.int .i64 s.cond) /\ w.cell? ⟨b, off + 8, none⟩ = some (.int .i64 s.thn) /\ w.cell? ⟨b, off + 9, none⟩ = some (.int .i64 s.els) /\ w.cell? ⟨b, off + 10, none⟩ = some (.int .i64 s.proc) :=
 ⟨h.cell (i := 0) (by omega), h.cell (i := 1) (by omega), h.cell (i := 2) (by omega), h.cell (i := 3) (by omega), h.cell (i := 4) (by omega), h.cell (i := 5) (by omega), h.cell (i := 6) (by omega), h.cell (i := 7) (by omega), h.cell (i := 8) (by omega), h.cell (i := 9) (by omega), h.cell (i := 10) (by omega)⟩
theorem stb {u : World} {sb : Nat} {s : SV} (h : u.heap[sb]? = some (.cells (stL s).toArray 60)) : u.cell? ⟨sb, 0, none⟩ = some (.int .i64 s.k) /\ u.cell? ⟨sb, 7, none⟩ = some (.int .i64 s.cond) /\ u.cell? ⟨sb, 8, none⟩ = some (.int .i64 s.thn) /\ u.cell? ⟨sb, 9, none⟩ = some (.int .i64 s.els) /\ sb < u.heap.size :=
 ⟨(hq_cell h 0).trans rfl, (hq_cell h 7).trans rfl, (hq_cell h 8).trans rfl, (hq_cell h 9).trans rfl, hq_lt h⟩
section
variable {G : SG} {s : SV} {x y : List SV} {here r r1 r2 : Int} {F B C : FS} {RR : CR}
theorem cmp_loop (i : cmpL G s x y here F r = RR) (h : s.k = 3) : loopF (fun B q => ckL G x (here + 1) B q) s.cond here 20 F r = RR := by
 rw [<- i, cmpL, if_pos h]
theorem cmp_flag (i : cmpL G s x y here F r = RR) (h : ¬ s.k = 3) {f : Int} (hf : cfl F s.cond = f) (h0 : ¬ f = 0) : RR = .bad f here := by
 rw [<- i, cmpL, if_neg h, if_pos (by omega), hf]
theorem cmp_badx (i : cmpL G s x y here F r = RR) (h : ¬ s.k = 3) (hf : cfl F s.cond = 0) {e a : Int} (hx : ckL G x (here + 1) F r = .bad e a) : RR = .bad e a := by
 rw [<- i, cmpL, if_neg h, if_neg (by omega), hx]
theorem cmp_bady (i : cmpL G s x y here F r = RR) (h : ¬ s.k = 3) (ht : s.thn = (x.length : Int)) (hf : cfl F s.cond = 0) {e a : Int} (hx : ckL G x (here + 1) F r = .ok B r1) (hy : ckL G y (here + 1 + (x.length : Int)) F r1 = .bad e a) : RR = .bad e a := by
 rw [<- i, cmpL, if_neg h, if_neg (by omega), hx]
 dsimp only
 rw [ht, hy]
theorem cmp_ok (i : cmpL G s x y here F r = RR) (h : ¬ s.k = 3) (ht : s.thn = (x.length : Int)) (hf : cfl F s.cond = 0) (hx : ckL G x (here + 1) F r = .ok B r1) (hy : ckL G y (here + 1 + (x.length : Int)) F r1 = .ok C r2) : RR = .ok (jF B C) r2 := by
 rw [<- i, cmpL, if_neg h, if_neg (by omega), hx]
 dsimp only
 rw [ht, hy]
end
set_option maxRecDepth 20000 in
set_option maxHeartbeats 16000000 in
theorem l5Compound_any (s : SV) (x y : List SV) (ht : s.thn = (x.length : Int)) (he : s.els = (y.length : Int)) (IHx : BC x) (IHy : BC y) (bH cH nH : Nat) (S : Nat -> HS) (bR cR : Nat) (V0 : Nat -> VV) (bA cA : Nat) (V : Nat -> VV) (z c here rounds : Int) (v : Value) (w : World) (lH : nH <= 1048576) (h1 : SigCp w bH nH S bR 8 V0) (h2 : Arr w bA (8 * 6) (vF V)) (h3 : absOK nH S 8 V0 8 V z c = true) (h4 : SL w v (s :: (x ++ y))) (hl : x.length + y.length <= 1048576) (r0 : 0 <= rounds) (r1 : rounds <= 1000) (a0 : 0 <= here) (a1 : here + 1 + (x.length : Int) + (y.length : Int) <= 2097152) :
  Calls Tryz.prog 45 #[.agg #[.slice (some ⟨bH, 0, none⟩) nH cH, .slice (some ⟨bR, 0, none⟩) 8 cR], v, .int .i64 here, .agg #[.slice (some ⟨bA, 0, none⟩) 8 cA, .int .i64 z, .int .i64 c], .int .i64 rounds] w (BlkR (cmpL ⟨nH, S, V0⟩ s x y here ⟨V, z, c⟩ rounds) nH S V0 bA w) := by
 obtain ⟨RR, hRR⟩ : ∃ rq, cmpL ⟨nH, S, V0⟩ s x y here ⟨V, z, c⟩ rounds = rq := ⟨_, rfl⟩
 rw [hRR]
 have INV : Hid (cmpL ⟨nH, S, V0⟩ s x y here ⟨V, z, c⟩ rounds = RR) := hRR
 clear hRR
 have N1 : Hid (bH < w.heap.size /\ bR < w.heap.size) := ⟨h1.h.lt, h1.r.lt⟩
 have LL : Hid (nH <= 1048576) := lH
 have HT : Hid (s.thn = (x.length : Int) /\ s.els = (y.length : Int)) := ⟨ht, he⟩
 have X0 : Hid (LX w bH cH nH S bR cR V0 bA w.heap.size (w.heap.size + 1) (w.heap.size + 1 + 1) bA cA V z c (((w.alloc (.cells #[.slice (some ⟨bH, 0, none⟩) nH cH, .slice (some ⟨bR, 0, none⟩) 8 cR] 37)).alloc (.cells #[.slice (some ⟨bA, 0, none⟩) 8 cA, .int .i64 z, .int .i64 c] 31)).alloc (.cells oz 53))) := lx_new w h1 h2 h3
 obtain ⟨b, off, cap, rfl, hcap, hat⟩ := h4.head
 rw [List.length_append] at hcap hat ⊢
 have HAT : Hid (At w b off ((x.length + y.length + 1) * 11) (stF (lst (s :: (x ++ y))))) := hat
 clear h1 h2 h3 lH h4 hat ht he
 go_enter Tryz.func45, Tryz.ntmps45
 go_upto_region 1 with fail
 unfold oz at X0
 obtain ⟨u, hu⟩ : ∃ y, ((w.alloc (.cells #[.slice (some ⟨bH, 0, none⟩) nH cH, .slice (some ⟨bR, 0, none⟩) 8 cR] 37)).alloc (.cells #[.slice (some ⟨bA, 0, none⟩) 8 cA, .int .i64 z, .int .i64 c] 31)).alloc (.cells #[.int .i64 0, .int .i64 0, .slice none 0 0, .int .i64 0, .int .i64 0, .int .i64 0] 53) = y := ⟨_, rfl⟩
 rw [hu] at X0 ⊢
 obtain ⟨bs, hbs⟩ : ∃ y, w.heap.size = y := ⟨_, rfl⟩
 obtain ⟨bh, hbh⟩ : ∃ y, w.heap.size + 1 = y := ⟨_, rfl⟩
 obtain ⟨br, hbr⟩ : ∃ y, w.heap.size + 1 + 1 = y := ⟨_, rfl⟩
 have X0 : Hid (LX w bH cH nH S bR cR V0 bA bs bh br bA cA V z c u) := by rw [<- hbs, <- hbh, <- hbr]; exact X0
 rw [hbr, hbh, hbs]
 have BO : Hid (w.heap.size = bs /\ bs < bh /\ bh < br) := ⟨hbs, by omega, by omega⟩
 clear hu hbs hbh hbr
 have AT0 := HAT.out.below X0.out.bel HAT.out.lt
 obtain ⟨k0, k1, k2, k3, k4, k5, k6, k7, k8, k9, k10⟩ := st_at0 AT0
 have kl := AT0.lt
 go_upto_region 2 with fail
 obtain ⟨u1, hu1, bu1⟩ : ∃ y, u.alloc (.cells (stL s).toArray 60) = y /\ Below u.heap.size u y := ⟨_, rfl, (Below.refl _ _).alloc (Nat.le_refl _) _⟩
 have q1 := hq_new u (.cells (stL s).toArray 60)
 rw [hu1] at q1
 unfold stL at hu1 q1
 rw [hu1]
 have X1 : Hid (LX w bH cH nH S bR cR V0 bA bs bh br bA cA V z c u1) := X0.out.below bu1
 obtain ⟨sb, hsb⟩ : ∃ y, u.heap.size = y := ⟨_, rfl⟩
 rw [hsb] at q1 ⊢
 have Q1 : Hid (u1.heap[sb]? = some (.cells (stL s).toArray 60)) := q1
 clear hu1 bu1 q1 hsb k0 k1 k2 k3 k4 k5 k6 k7 k8 k9 k10 kl AT0 X0
 obtain ⟨k0, k7, k8, k9, kl⟩ := stb Q1.out
 rw [HT.out.1] at k8
 rw [HT.out.2] at k9
 go_upto_region 3 with fail
 obtain ⟨tv, htv, HS⟩ : ∃ q, Value.slice (if cap = 1 then some ⟨b, off, none⟩ else some ⟨b, off + 11, none⟩) (1 + x.length - 1) (cap - 1) = q /\ Hid (SL u1 q x) := ⟨_, rfl, sl_cut (L := s :: (x ++ y)) (i := 1) (by rw [List.length_cons, List.length_append]; exact HAT.out.below X1.out.bel HAT.out.lt) (by simp) (by simp; omega) (by simp; omega) rfl (by omega) rfl⟩
 rw [htv]
 clear htv
 by_cases hk3 : s.k = 3
 ·obtain ⟨⟨s0, s1⟩, ⟨c0, c1, c2⟩, cl1, cl2⟩ := X1.out.cells
  go_wp2_with fail
  refine (l5Loop_any x IHx bH cH nH S bR cR V0 bA cA V z c s.cond here rounds tv u1 LL.out X1.out.sc X1.out.A X1.out.ok HS.out r0 r1 a0 (by omega)).mono ?_
  rintro e t ⟨err, at2, ao, m, cap2, z2, c2', rr, rfl, q0, q1, hbd, hab, hb⟩
  rw [cmp_loop INV.out hk3] at hbd hab
  have HBD : Hid (BadIs RR err at2) := hbd
  clear hbd
  have Y : Hid (LX w bH cH nH S bR cR V0 bA bs bh br bA cA V z c t) := X1.out.below hb
  have HAB : Hid (err = 0 -> AbIn RR rr nH S V0 bA w.heap.size (set6 t br (.int .i64 err) (.int .i64 at2) (.slice ao m cap2) (.int .i64 z2) (.int .i64 c2') (.int .i64 rr)) (.slice ao m cap2) z2 c2') := fun e => by
   obtain ⟨g, cg, U, h1, h2, h3, h4⟩ := hab e
   have := X1.out.bel.size
   have hne : g ≠ br := by
    rcases h2 with h2 | h2
    ·rw [h2]; exact X1.out.ne
    ·have := hq_lt X1.out.R; omega
   exact ⟨g, cg, U, h1, by omega, arr_set6 h3 hne _ _ _ _ _ _, h4⟩
  obtain ⟨y0, y1, y2, y3, y4, y5, yf, yl⟩ := Y.out.res
  clear hb hab s0 s1 c0 c1 c2 cl1 cl2 k0 k7 k8 k9 kl
  unfold outV
  go_wp2_with fail
  refine bodyPost_ret (v := outV err at2 (.slice ao m cap2) z2 c2' rr) (by simp [results, Tryz.results45, go_sem, outV, *]) rfl ⟨err, at2, ao, m, cap2, z2, c2', rr, rfl, q0, q1, HBD.out, HAB.out, ?_⟩
  exact below_set6 Y.out.bel (by have := BO.out; omega) _ _ _ _ _ _
 obtain ⟨_, ⟨c0, c1, c2⟩, cl1, cl2⟩ := X1.out.cells
 go_wp2_with fail
 refine (l5Flag_any _ _ _ V _ _ _ _).mono ?_
 rintro e u2 ⟨rfl, hb⟩
 obtain ⟨fr, hfr⟩ : ∃ x, cfl ⟨V, z, c⟩ s.cond = x := ⟨_, rfl⟩
 rw [hfr]
 have HFR : Hid (cfl ⟨V, z, c⟩ s.cond = fr) := hfr
 have HK3 : Hid (¬ s.k = 3) := hk3
 clear hfr
 have X2 : Hid (LX w bH cH nH S bR cR V0 bA bs bh br bA cA V z c u2) := X1.out.below hb
 have Q2 : Hid (u2.heap[sb]? = some (.cells (stL s).toArray 60)) := hq_below Q1.out hb
 have HS2 : Hid (SL u2 tv x) := HS.out.below hb
 clear hb X1 Q1 HS c0 c1 c2 cl1 cl2 k0 k7 k8 k9 kl
 by_cases hf : fr = 0
 rotate_left
 ·go_wp2_with fail
  refine (l5Bad_any _ _ _ _).mono ?_
  rintro e t ⟨rfl, hb⟩
  have Y : Hid (LX w bH cH nH S bR cR V0 bA bs bh br bA cA V z c t) := X2.out.below hb
  obtain ⟨y0, y1, y2, y3, y4, y5, yf, yl⟩ := Y.out.res
  unfold outV
  go_wp2_with fail
  refine bodyPost_ret (v := outV fr here (.slice none 0 0) 0 0 rounds) (by simp [results, Tryz.results45, go_sem, outV, *]) rfl ⟨fr, here, none, 0, 0, 0, 0, rounds, rfl, r0, r1, ⟨fun _ => cmp_flag INV.out HK3.out HFR.out hf, fun e => absurd e hf⟩, fun e => absurd e hf, ?_⟩
  exact below_set6 Y.out.bel (by have := BO.out; omega) _ _ _ _ _ _
 subst hf
 obtain ⟨⟨s0, s1⟩, ⟨c0, c1, c2⟩, cl1, cl2⟩ := X2.out.cells
 go_wp2_with fail
 refine (IHx bH cH nH S bR cR V0 bA cA V z c (here + 1) rounds tv u2 LL.out X2.out.sc X2.out.A X2.out.ok HS2.out r0 r1 (by omega) (by omega)).mono ?_
 rintro e u3 ⟨err, at2, ao, m, cap2, z2, c2', rr, rfl, q0, q1, hbd, hab, hb⟩
 obtain ⟨RX, hRX⟩ : ∃ q, ckL ⟨nH, S, V0⟩ x (here + 1) ⟨V, z, c⟩ rounds = q := ⟨_, rfl⟩
 rw [hRX] at hbd hab
 have HRX : Hid (ckL ⟨nH, S, V0⟩ x (here + 1) ⟨V, z, c⟩ rounds = RX) := hRX
 clear hRX
 have bn3 : Below u3.heap.size u3 (u3.alloc (.cells #[.int .i64 err, .int .i64 at2, .slice ao m cap2, .int .i64 z2, .int .i64 c2', .int .i64 rr] 53)) := (Below.refl _ _).alloc (Nat.le_refl _) _
 have yb3 := yb_new (at' := at2) (rounds := rr) hab hbd
 obtain ⟨u4, hu4⟩ : ∃ q, u3.alloc (.cells #[.int .i64 err, .int .i64 at2, .slice ao m cap2, .int .i64 z2, .int .i64 c2', .int .i64 rr] 53) = q := ⟨_, rfl⟩
 rw [hu4] at bn3 yb3
 have X4 : Hid (LX w bH cH nH S bR cR V0 bA bs bh br bA cA V z c u4) := (X2.out.below hb).below bn3
 have Q4 : Hid (u4.heap[sb]? = some (.cells (stL s).toArray 60)) := hq_below (hq_below Q2.out hb) bn3
 have YX : Hid (YB RX nH S V0 bA u2.heap.size u3.heap.size err at2 ao m cap2 z2 c2' rr u4) := yb3
 have LB : Hid (br < u2.heap.size /\ w.heap.size <= u2.heap.size) := ⟨hq_lt X2.out.R, X2.out.bel.size⟩
 have NX0 : u2.heap.size <= u3.heap.size := hb.size
 clear hb hab hbd yb3 bn3 X2 Q2 HS2 s0 s1 c0 c1 c2 cl1 cl2
 unfold outV
 go_upto_region 9 with fail
 obtain ⟨nx, hnx⟩ : ∃ q, u3.heap.size = q := ⟨_, rfl⟩
 rw [hnx] at YX NX0 ⊢
 have NX : Hid (u2.heap.size <= nx) := NX0
 clear hu4 hnx NX0
 obtain ⟨v0, v1, v2, v3, v4, v5, vf, vl⟩ := YX.out.cells
 by_cases hx0 : err = 0
 rotate_left
 ·obtain ⟨y0, y1, y2, y3, y4, y5, yf, yl⟩ := X4.out.res
  go_wp2_with fail
  refine bodyPost_ret (v := outV err at2 (.slice ao m cap2) z2 c2' rr) (by simp [results, Tryz.results45, go_sem, outV, *]) rfl ⟨err, at2, ao, m, cap2, z2, c2', rr, rfl, q0, q1, ⟨fun _ => cmp_badx INV.out HK3.out HFR.out (HRX.out.trans (YX.out.bd.1 hx0)), fun e => absurd e hx0⟩, fun e => absurd e hx0, ?_⟩
  exact below_set6 X4.out.bel (by have := BO.out; omega) _ _ _ _ _ _
 subst hx0
 go_upto_region 11 with fail
 clear v0 v1 v2 v3 v4 v5 vf vl
 obtain ⟨RY, hRY⟩ : ∃ q, ckL ⟨nH, S, V0⟩ y (here + 1 + (x.length : Int)) ⟨V, z, c⟩ rr = q := ⟨_, rfl⟩
 have HRY : Hid (ckL ⟨nH, S, V0⟩ y (here + 1 + (x.length : Int)) ⟨V, z, c⟩ rr = RY) := hRY
 clear hRY
 go_cut [10, 14, 15] (fun s10 s14 s15 wx => s10 = .pointer (some ⟨br, 0, none⟩) /\ s14 = .pointer (some ⟨nx, 0, none⟩) /\ ∃ (ny : Nat) (err3 at3 : Int) (ao3 : Option Addr) (m3 cap3 : Nat) (z3 c3 r3 : Int), s15 = .pointer (some ⟨ny, 0, none⟩) /\ nx < ny /\ 0 <= r3 /\ r3 <= 1000 /\ LX w bH cH nH S bR cR V0 bA bs bh br bA cA V z c wx /\ YB RX nH S V0 bA u2.heap.size nx 0 at2 ao m cap2 z2 c2' rr wx /\ YB RY nH S V0 bA u2.heap.size ny err3 at3 ao3 m3 cap3 z3 c3 r3 wx)
 case first =>
  have j0 : ∀ w', Below u4.heap.size u4 w' -> w'.cell? ⟨bs, 0, none⟩ = some (.slice (some ⟨bH, 0, none⟩) nH cH) := fun w' h => (X4.out.below h).cells.1.1
  have j1 : ∀ w', Below u4.heap.size u4 w' -> w'.cell? ⟨bs, 1, none⟩ = some (.slice (some ⟨bR, 0, none⟩) 8 cR) := fun w' h => (X4.out.below h).cells.1.2
  have j2 : ∀ w', Below u4.heap.size u4 w' -> w'.cell? ⟨bh, 0, none⟩ = some (.slice (some ⟨bA, 0, none⟩) 8 cA) := fun w' h => (X4.out.below h).cells.2.1.1
  have j3 : ∀ w', Below u4.heap.size u4 w' -> w'.cell? ⟨bh, 1, none⟩ = some (.int .i64 z) := fun w' h => (X4.out.below h).cells.2.1.2.1
  have j4 : ∀ w', Below u4.heap.size u4 w' -> w'.cell? ⟨bh, 2, none⟩ = some (.int .i64 c) := fun w' h => (X4.out.below h).cells.2.1.2.2
  have j5 : ∀ w', Below u4.heap.size u4 w' -> w'.cell? ⟨sb, 8, none⟩ = some (.int .i64 (x.length : Int)) := fun w' h => by rw [<- HT.out.1]; exact (stb (hq_below Q4.out h)).2.2.1
  have j6 : ∀ w', Below u4.heap.size u4 w' -> w'.cell? ⟨nx, 5, none⟩ = some (.int .i64 rr) := fun w' h => (YX.out.below h).cells.2.2.2.2.2.1
  have hw1 : IntKind.i64.wrap (1 + (x.length : Int)) = ((1 + x.length : Nat) : Int) := by rw [IntKind.wrap_i64] <;> omega
  have hw2 : IntKind.i64.wrap (here + 1) = here + 1 := by rw [IntKind.wrap_i64] <;> omega
  have hw3 : IntKind.i64.wrap (here + 1 + (x.length : Int)) = here + 1 + (x.length : Int) := by rw [IntKind.wrap_i64] <;> omega
  have hg1 : 1 + x.length <= x.length + y.length + 1 := by omega
  have hg2 : x.length + y.length + 1 <= cap := by omega
  refine wp_region_held_drew (S := fun w' => Below u4.heap.size u4 w') (by kernel_rfl) (Below.refl _ _).drew (fun _ => ?_)
  refine wpAnyH_ta 0 rfl ?_
  refine wpAnyH_ta 1 rfl ?_
  refine wpAnyH_ta 2 rfl ?_
  refine wpAnyH_ta 3 rfl ?_
  refine wpAnyH_ta 4 rfl ?_
  refine wpAnyH_tk 5 ?kav rfl ?kay ?kar
  case kay => (intro w hSw; (try dsimp only at hSw); go_simp; rw [if_pos (by omega)])
  try simp only [Act.put, List.getElem_toArray, List.getElem_cons_zero, List.getElem_cons_succ, List.setIfInBounds_toArray, List.set_cons_zero, List.set_cons_succ]
  refine wpAnyH_ta 6 rfl ?_
  refine wpAnyH_ta 7 rfl ?_
  refine wpAnyH_ta 8 rfl ?_
  refine wpAnyH_ta 9 rfl ?_
  refine wpAnyH_ta 10 rfl ?_
  refine wpAnyH_ta 11 rfl ?_
  refine wpAnyH_ta 12 rfl ?_
  refine wpAnyH_ta 13 rfl ?_
  obtain ⟨ev, hev, HE⟩ : ∃ q, Value.slice (if cap = (1 + (x.length : Int)).toNat then some ⟨b, off, none⟩ else some ⟨b, off + (1 + (x.length : Int)).toNat * 11, none⟩) (x.length + y.length + 1 - (1 + (x.length : Int)).toNat) (cap - (1 + (x.length : Int)).toNat) = q /\ Hid (SL u4 q y) := ⟨_, rfl, sl_cut (L := s :: (x ++ y)) (i := 1 + x.length) (by rw [List.length_cons, List.length_append]; exact HAT.out.below X4.out.bel HAT.out.lt) (by rw [Nat.add_comm]; simp) (by simp; omega) (by simp; omega) (by rw [show (1 + (x.length : Int)).toNat = 1 + x.length by omega]) (by omega) (by omega)⟩
  rw [hev]
  clear hev
  have hbd : Below u4.heap.size u4 u4.drew := (Below.refl _ _).drew
  generalize u4.drew = t0 at hbd ⊢
  have E2 : u2.heap.size <= u4.heap.size := by have := hq_lt YX.out.Y; have := NX.out; omega
  have EN : nx < u4.heap.size := hq_lt YX.out.Y
  refine wpAnyH_ready (rs := [14, 15]) (by kernel_rfl) (by simp) ?_
  refine AllReadyH.cons rfl (fun KK hK => ?_) (AllReadyH.cons rfl (fun KK hK => ?_) AllReadyH.nil)
  ·go_simp
   refine (IHy bH cH nH S bR cR V0 bA cA V z c (here + 1 + (x.length : Int)) rr ev t0 LL.out (X4.out.below hbd).sc (X4.out.below hbd).A X4.out.ok (HE.out.below hbd) q0 q1 (by omega) (by omega)).mono ?_
   rintro e t1 ⟨err3, at3, ao3, m3, cap3, z3, c3, r3, rfl, p0, p1, hbd3, hab, hb⟩
   rw [HRY.out] at hbd3 hab
   have hB1 : Below u4.heap.size u4 t1 := hbd.trans (hb.mono hbd.size)
   refine hK.out _ _ hB1 (fun _ => ?_)
   clear hK KK
   unfold outV
   try simp only [Act.put, List.getElem_toArray, List.getElem_cons_zero, List.getElem_cons_succ, List.setIfInBounds_toArray, List.set_cons_zero, List.set_cons_succ]
   refine wpAnyH_ready (rs := [15]) (by kernel_rfl) (by simp) ?_
   refine AllReadyH.cons rfl (fun KK hK => ?_) AllReadyH.nil
   go_simp
   refine hK.out _ _ (hB1.alloc hB1.size _) (fun _ => ?_)
   clear hK KK
   try simp only [Act.put, List.getElem_toArray, List.getElem_cons_zero, List.getElem_cons_succ, List.setIfInBounds_toArray, List.set_cons_zero, List.set_cons_succ]
   refine wpAnyH_ready (rs := [16]) (by kernel_rfl) (by simp) ?_
   refine AllReadyH.cons rfl (fun KK hK => ?_) AllReadyH.nil
   go_simp
   refine hK.out _ _ (hB1.alloc hB1.size _) (fun _ => ?_)
   clear hK KK
   refine wpAnyH_done (by kernel_rfl) ?_ _
   have bn : Below t1.heap.size t1 (t1.alloc (.cells #[.int .i64 err3, .int .i64 at3, .slice ao3 m3 cap3, .int .i64 z3, .int .i64 c3, .int .i64 r3] 53)) := (Below.refl _ _).alloc (Nat.le_refl _) _
   have hab' : err3 = 0 -> AbIn RY r3 nH S V0 bA u2.heap.size t1 (.slice ao3 m3 cap3) z3 c3 := fun e => by
    obtain ⟨g, cg, U, h1, h2, h3, h4⟩ := hab e
    exact ⟨g, cg, U, h1, by have := hbd.size; omega, h3, h4⟩
   have RES : Hid (LX w bH cH nH S bR cR V0 bA bs bh br bA cA V z c (t1.alloc (.cells #[.int .i64 err3, .int .i64 at3, .slice ao3 m3 cap3, .int .i64 z3, .int .i64 c3, .int .i64 r3] 53)) /\ YB RX nH S V0 bA u2.heap.size nx 0 at2 ao m cap2 z2 c2' rr (t1.alloc (.cells #[.int .i64 err3, .int .i64 at3, .slice ao3 m3 cap3, .int .i64 z3, .int .i64 c3, .int .i64 r3] 53)) /\ YB RY nH S V0 bA u2.heap.size t1.heap.size err3 at3 ao3 m3 cap3 z3 c3 r3 (t1.alloc (.cells #[.int .i64 err3, .int .i64 at3, .slice ao3 m3 cap3, .int .i64 z3, .int .i64 c3, .int .i64 r3] 53))) := ⟨(X4.out.below hB1).below bn, (YX.out.below hB1).below bn, yb_new hab' hbd3⟩
   have hn1 : nx < t1.heap.size := by have := hB1.size; omega
   clear hab hab' hbd3 hb hB1 bn j0 j1 j2 j3 j4 j5 j6
   go_wp2_with fail
   go_meet
   exact ⟨rfl, rfl, t1.heap.size, err3, at3, ao3, m3, cap3, z3, c3, r3, rfl, hn1, p0, p1, RES.out.1, RES.out.2.1, RES.out.2.2⟩
  ·go_simp
   obtain ⟨t1, ht1, bn, n1⟩ : ∃ q, t0.alloc (.cells #[.int .i64 0, .int .i64 0, .slice none 0 0, .int .i64 0, .int .i64 0, .int .i64 0] 53) = q /\ Below t0.heap.size t0 q /\ q.heap[t0.heap.size]? = some (.cells #[.int .i64 0, .int .i64 0, .slice none 0 0, .int .i64 0, .int .i64 0, .int .i64 0] 53) := ⟨_, rfl, (Below.refl _ _).alloc (Nat.le_refl _) _, hq_new _ _⟩
   rw [ht1]
   have hB1 : Below u4.heap.size u4 t1 := hbd.trans (bn.mono hbd.size)
   refine hK.out _ _ hB1 (fun _ => ?_)
   clear hK KK
   try simp only [Act.put, List.getElem_toArray, List.getElem_cons_zero, List.getElem_cons_succ, List.setIfInBounds_toArray, List.set_cons_zero, List.set_cons_succ]
   refine wpAnyH_ready (rs := [14]) (by kernel_rfl) (by simp) ?_
   refine AllReadyH.cons rfl (fun KK hK => ?_) AllReadyH.nil
   go_simp
   refine (IHy bH cH nH S bR cR V0 bA cA V z c (here + 1 + (x.length : Int)) rr ev t1 LL.out (X4.out.below hB1).sc (X4.out.below hB1).A X4.out.ok (HE.out.below hB1) q0 q1 (by omega) (by omega)).mono ?_
   rintro e t2 ⟨err3, at3, ao3, m3, cap3, z3, c3, r3, rfl, p0, p1, hbd3, hab, hb⟩
   rw [HRY.out] at hbd3 hab
   have hB2 : Below u4.heap.size u4 t2 := hB1.trans (hb.mono hB1.size)
   refine hK.out _ _ hB2 (fun _ => ?_)
   clear hK KK
   unfold outV
   try simp only [Act.put, List.getElem_toArray, List.getElem_cons_zero, List.getElem_cons_succ, List.setIfInBounds_toArray, List.set_cons_zero, List.set_cons_succ]
   have n2 := hq_below n1 hb
   have f0 := (hq_cell n2 0).trans rfl
   have f1 := (hq_cell n2 1).trans rfl
   have f2 := (hq_cell n2 2).trans rfl
   have f3 := (hq_cell n2 3).trans rfl
   have f4 := (hq_cell n2 4).trans rfl
   have f5 := (hq_cell n2 5).trans rfl
   have ff := hq_free n2
   have fl := hq_lt n2
   have hnA : bA ≠ t0.heap.size := by have := (X4.out.below hbd).A.lt; omega
   have hny : t0.heap.size < t1.heap.size := hq_lt n1
   have hnx : nx < t0.heap.size := by have := hbd.size; omega
   have hu4 : u4.heap.size <= t0.heap.size := hbd.size
   obtain ⟨ny, hnye⟩ : ∃ q, t0.heap.size = q := ⟨_, rfl⟩
   rw [hnye] at n2 f0 f1 f2 f3 f4 f5 ff fl hnA hny hnx hu4 ⊢
   have hab' : err3 = 0 -> AbIn RY r3 nH S V0 bA u2.heap.size t2 (.slice ao3 m3 cap3) z3 c3 := fun e => by
    obtain ⟨g, cg, U, h1, h2, h3, h4⟩ := hab e
    exact ⟨g, cg, U, h1, by omega, h3, h4⟩
   have hYB : YB RY nH S V0 bA u2.heap.size ny err3 at3 ao3 m3 cap3 z3 c3 r3 (set6 t2 ny (.int .i64 err3) (.int .i64 at3) (.slice ao3 m3 cap3) (.int .i64 z3) (.int .i64 c3) (.int .i64 r3)) := by
    refine ⟨hq_set6 n2 _ _ _ _ _ _, fun e => ?_, hbd3⟩
    obtain ⟨g, cg, U, h1, h2, h3, h4⟩ := hab e
    have hne : g ≠ ny := by omega
    exact ⟨g, cg, U, h1, by omega, hne, arr_set6 h3 hne _ _ _ _ _ _, h4⟩
   have bs6 : Below u4.heap.size u4 (set6 t2 ny (.int .i64 err3) (.int .i64 at3) (.slice ao3 m3 cap3) (.int .i64 z3) (.int .i64 c3) (.int .i64 r3)) := below_set6 hB2 hu4 _ _ _ _ _ _
   have RES : Hid (LX w bH cH nH S bR cR V0 bA bs bh br bA cA V z c (set6 t2 ny (.int .i64 err3) (.int .i64 at3) (.slice ao3 m3 cap3) (.int .i64 z3) (.int .i64 c3) (.int .i64 r3)) /\ YB RX nH S V0 bA u2.heap.size nx 0 at2 ao m cap2 z2 c2' rr (set6 t2 ny (.int .i64 err3) (.int .i64 at3) (.slice ao3 m3 cap3) (.int .i64 z3) (.int .i64 c3) (.int .i64 r3)) /\ YB RY nH S V0 bA u2.heap.size ny err3 at3 ao3 m3 cap3 z3 c3 r3 (set6 t2 ny (.int .i64 err3) (.int .i64 at3) (.slice ao3 m3 cap3) (.int .i64 z3) (.int .i64 c3) (.int .i64 r3))) := ⟨X4.out.below bs6, YX.out.below bs6, hYB⟩
   clear hab hab' hbd3 hb hYB n1 n2 ht1 bn hnye
   refine wpAnyH_ready (rs := [16]) (by kernel_rfl) (by simp) ?_
   refine AllReadyH.cons rfl (fun KK hK => ?_) AllReadyH.nil
   go_simp
   refine hK.out _ _ bs6 (fun _ => ?_)
   clear hK KK bs6 f0 f1 f2 f3 f4 f5 ff fl j0 j1 j2 j3 j4 j5 j6
   refine wpAnyH_done (by kernel_rfl) ?_ _
   go_wp2_with fail
   go_meet
   exact ⟨rfl, rfl, ny, err3, at3, ao3, m3, cap3, z3, c3, r3, rfl, hnx, p0, p1, RES.out.1, RES.out.2.1, RES.out.2.2⟩
 case rest =>
 obtain ⟨rfl, rfl, ny, err3, at3, ao3, m3, cap3, z3, c3, r3, rfl, hxy, p0, p1, l5, y5, y6⟩ := hcut
 have X5 : Hid (LX w bH cH nH S bR cR V0 bA bs bh br bA cA V z c wc) := l5
 have Y5 : Hid (YB RX nH S V0 bA u2.heap.size nx 0 at2 ao m cap2 z2 c2' rr wc) := y5
 have Y6 : Hid (YB RY nH S V0 bA u2.heap.size ny err3 at3 ao3 m3 cap3 z3 c3 r3 wc) := y6
 clear l5 y5 y6 X4 YX Q4
 generalize wc = u5 at X5 Y5 Y6 ⊢
 obtain ⟨v0, v1, v2, v3, v4, v5, vf, vl⟩ := Y6.out.cells
 obtain ⟨gx, cgx, Ux, hvx, nwx, _, Ax, okx, hRx⟩ := Y5.out.ab rfl
 have HX0 : Hid (ckL ⟨nH, S, V0⟩ x (here + 1) ⟨V, z, c⟩ rounds = .ok ⟨Ux, z2, c2'⟩ rr) := HRX.out.trans hRx
 clear hRx
 by_cases hy0 : err3 = 0
 rotate_left
 ·obtain ⟨y0, y1, y2, y3, y4, y5, yf, yl⟩ := X5.out.res
  go_wp2_with fail
  refine bodyPost_ret (v := outV err3 at3 (.slice ao3 m3 cap3) z3 c3 r3) (by simp [results, Tryz.results45, go_sem, outV, *]) rfl ⟨err3, at3, ao3, m3, cap3, z3, c3, r3, rfl, p0, p1, ⟨fun _ => cmp_bady INV.out HK3.out HT.out.1 HFR.out HX0.out (HRY.out.trans (Y6.out.bd.1 hy0)), fun e => absurd e hy0⟩, fun e => absurd e hy0, ?_⟩
  exact below_set6 X5.out.bel (by have := BO.out; omega) _ _ _ _ _ _
 subst hy0
 have HAT0 : Hid (at3 = 0) := Y6.out.bd.2 rfl
 obtain ⟨gy, cgy, Uy, hvy, nwy, _, Ay, oky, hRy⟩ := Y6.out.ab rfl
 have HY0 : Hid (ckL ⟨nH, S, V0⟩ y (here + 1 + (x.length : Int)) ⟨V, z, c⟩ rr = .ok ⟨Uy, z3, c3⟩ r3) := HRY.out.trans hRy
 clear hRy
 simp only [Value.slice.injEq] at hvx hvy
 obtain ⟨rfl, rfl, rfl⟩ := hvx
 obtain ⟨rfl, rfl, rfl⟩ := hvy
 obtain ⟨x0, x1, x2, x3, x4, x5, xf, xl⟩ := Y5.out.cells
 go_wp2_with fail
 refine (l5Join_any _ _ Ux _ _ _ _ Uy _ _ u5 Ax Ay).mono ?_
 rintro e u6 ⟨g4, cg4, rfl, ng4, A4, hb⟩
 have ok4 := FOk.join (G := ⟨nH, S, V0⟩) (F := ⟨Ux, z2, c2'⟩) (B := ⟨Uy, z3, c3⟩) okx oky
 have hC := cmp_ok INV.out HK3.out HT.out.1 HFR.out HX0.out HY0.out
 obtain ⟨J, hJ⟩ : ∃ x, jF ⟨Ux, z2, c2'⟩ ⟨Uy, z3, c3⟩ = x := ⟨_, rfl⟩
 rw [hJ] at A4 ok4 hC ⊢
 obtain ⟨U4, z4, c4⟩ := J
 have HC : Hid (RR = .ok ⟨U4, z4, c4⟩ r3) := hC
 clear hJ hC
 unfold FOk at ok4
 dsimp only at A4 ok4 ⊢
 have X6 : Hid (LX w bH cH nH S bR cR V0 bA bs bh br bA cA V z c u6) := X5.out.below hb
 have Y7 := Y6.out.below hb
 have A4 : Hid (Arr u6 g4 (8 * 6) (vF U4)) := A4
 have OK4 : Hid (absOK nH S 8 V0 8 U4 z4 c4 = true) := ok4
 have hny5 : ny < u5.heap.size := vl
 have hbr5 : br < u5.heap.size := hq_lt X5.out.R
 have hw5 : w.heap.size <= u5.heap.size := X5.out.bel.size
 have hbrny : br ≠ ny := by have := LB.out; have := NX.out; omega
 have hwny : w.heap.size <= ny := by have := LB.out; have := NX.out; omega
 clear hb ok4 Ax Ay okx oky nwx nwy x0 x1 x2 x3 x4 x5 xf xl v0 v1 v2 v3 v4 v5 vf vl X5 Y5 Y6
 obtain ⟨v0, v1, v2, v3, v4, v5, vf, vl⟩ := Y7.cells
 obtain ⟨y0, y1, y2, y3, y4, y5, yf, yl⟩ := X6.out.res
 clear Y7
 go_wp2_with fail
 refine bodyPost_ret (v := outV 0 at3 (.slice (some ⟨g4, 0, none⟩) 8 cg4) z4 c4 r3) (by simp [results, Tryz.results45, go_sem, outV, *]) rfl ⟨0, at3, _, _, _, z4, c4, r3, rfl, p0, p1, ⟨fun e => absurd rfl e, fun _ => HAT0.out⟩, fun _ => ⟨g4, cg4, U4, rfl, Or.inr (by omega), ?_, OK4.out, HC.out⟩, ?_⟩
 ·refine arr_set6 (((A4.out.other ?_ _).other ?_ _).other ?_ _) (by omega) _ _ _ _ _ _
  all_goals (show ny ≠ g4; omega)
 ·refine below_set6 ?_ (by have := BO.out; omega) _ _ _ _ _ _
  exact ((X6.out.bel.setCell (p := ⟨ny, 2, none⟩) hwny _).setCell (p := ⟨ny, 3, none⟩) hwny _).setCell (p := ⟨ny, 4, none⟩) hwny _
end Go.Proofs.YtcgcldokompafaaGreatDoor
