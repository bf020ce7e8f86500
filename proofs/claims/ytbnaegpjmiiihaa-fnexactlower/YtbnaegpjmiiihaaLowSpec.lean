/- Lists lowered: the model's word. -/
import Derived.Test.YtbnaegpjmiiihaaLowMath
namespace Go.Proofs.Ytbnaegpjmiiihaa
open Go.RowKit
theorem info_ins6 : (Try.prog.info? 36).map (fun i => (i.zero, i.size, i.bytes)) = some (some (.agg #[.int .i64 0, .int .i64 0, .int .i64 0, .int .i64 0, .int .i64 0, .int .i64 0]), 6, 48) := by kernel_rfl
theorem row_at6 {w : World} {base e n : Nat} {v : Value} {xs : List Value} (h : w.ownsRow base e 6 v n xs) (hv : v ≠ .slice none 0 0) : ∃ g c, v = .slice (some ⟨g, 0, none⟩) n c := by
  rcases h.2 with ⟨h', _⟩ | ⟨g, cap, cur, rfl, _⟩
  · exact absurd h' hv
  · exact ⟨_, _, rfl⟩
theorem row_news6 {w : World} {base e n g c : Nat} {xs : List Value} (h : w.ownsRow base e 6 (.slice (some ⟨g, 0, none⟩) n c) n xs) : ∀ j u, xs[j]? = some u → w.cell? ((⟨g, 0, none⟩ : Addr).add j) = some u := by
  intro j u hj
  have hl := (List.getElem?_eq_some_iff.1 hj).1
  have := h.cellAt j (by rw [← h.1]; exact hl)
  rw [show ((⟨g, 0, none⟩ : Addr).add j) = ⟨g, j, none⟩ by simp [Addr.add]; exact fun h => h.symm, this, hj]
theorem cells_new6 (w : World) (vs : Array Value) (t : TypeId) : ∀ j u, vs.toList[j]? = some u → (w.alloc (.cells vs t)).cell? ((⟨w.heap.size, 0, none⟩ : Addr).add j) = some u := by
  intro j u hj
  rw [show ((⟨w.heap.size, 0, none⟩ : Addr).add j) = ⟨w.heap.size, j, none⟩ by simp [Addr.add]; exact fun h => h.symm]
  simp at hj
  simp [go_sem, hj]
theorem row_grown6 {w w1 : World} {base e size n : Nat} {v : Value} {xs : List Value} {ob : Option Nat} (h : w.ownsRow base e size v n xs) (g : w.grownBy w1 ob) (hn : ∀ k, v.ownBlock = some k → ob ≠ some k) : w1.ownsRow base e size v n xs := by
  refine ⟨h.1, ?_⟩
  rcases h.2 with h' | ⟨b, cap, cur, rfl, h1, h2, h3⟩
  · exact .inl h'
  · have hg : b < w.heap.size := (Array.getElem?_eq_some_iff.1 h2).1
    exact .inr ⟨b, cap, cur, rfl, h1, (g.block b hg (fun e => hn b rfl e.symm)).trans h2, h3⟩
theorem gr_cl6 {w w' : World} {ob : Option Nat} {b : Nat} {vs : List Value} (g : w.grownBy w' ob) (h : Cl w b vs) (hn : ob ≠ some b) : Cl w' b vs :=
  ⟨Nat.lt_of_lt_of_le h.1 g.size, fun i hi => (World.cell?_of_block (a := ⟨b, i, none⟩) (g.block b h.1 (fun e => hn e.symm))).trans (h.2 i hi)⟩
set_option maxHeartbeats 400000 in
theorem l3Not_any (c : Int) (w : World) : Calls Try.prog 23 #[.int .i64 c] w fun e w' => e = .returned (.int .i64 (notI c)) ∧ w' = w := by
  go_enter Try.func23, Try.ntmps23
  go_wp2
  all_goals (go_ret; refine ⟨ret_int ?_, rfl⟩; simp_all [notI])
/-- l3Lower's contract over one range. -/
def LowC (L : Nat → SV) (b n : Nat) (i te : Nat) : Prop :=
  ∀ (at' off len cap' : Nat) (w : World), len = te - i → (0 < len → off = i * 11) → len ≤ cap' → (at' : Int) + (szTo L (fun _ => 0) te - szTo L (fun _ => 0) i) ≤ 4000 → Arr w b (n * 11) (stF L) → Calls Try.prog 14 #[.slice (some ⟨b, off, none⟩) len cap', .int .i64 (at' : Int)] w fun e w' => ∃ g c : Nat, e = .returned (.slice (some ⟨g, 0, none⟩) (lowB L at' i te).length c) ∧ w'.ownsRow w.heap.size 36 6 (.slice (some ⟨g, 0, none⟩) (lowB L at' i te).length c) (lowB L at' i te).length (ci (lowB L at' i te)) ∧ Below w.heap.size w w'

set_option maxRecDepth 20000 in
set_option maxHeartbeats 32000000 in
theorem l3Lower_go (L : Nat → SV) (b n i te : Nat) (depth : Int) (hit : i ≤ te) (hte : te ≤ n) (ln : n ≤ 2000) (hck : (chk L 0 0 321 i te depth).1 = 0)
    (hI : ∀ i' te' d, i ≤ i' → i' ≤ te' → te' ≤ te → te' - i' < te - i → (chk L 0 0 321 i' te' d).1 = 0 → LowC L b n i' te') : LowC L b n i te := by
  intro at' off len cap' w hlen hoff hcap hsz hA
  have hl1 : len ≤ te - i := by omega
  have hl2 : te - i ≤ len := by omega
  have HOFF : Hid (0 < len → off = i * 11) := hoff
  have HI : Hid _ := hI
  have HCK : Hid ((chk L 0 0 321 i te depth).1 = 0) := hck
  have HA : Hid (Arr w b (n * 11) (stF L)) := hA
  have lb := hA.lt
  have z0 : ∀ i : Nat, (0 : Int) ≤ (fun _ => 0 : Nat → Int) i := fun _ => Int.le_refl _
  obtain ⟨S, hS⟩ : ∃ x, szTo L (fun _ => 0) = x := ⟨_, rfl⟩
  have SM : Hid (∀ x y, x ≤ y → S x ≤ S y) := (fun x y h => by rw [← hS]; exact szTo_mono z0 h : ∀ x y, x ≤ y → S x ≤ S y)
  have SP : Hid (∀ x, 0 ≤ S x) := (fun x => by rw [← hS]; exact szTo_pos z0 x : ∀ x, 0 ≤ S x)
  have SW : Hid (∀ x, S (x + 1) = S x + wI (L x) (fun _ => 0)) := (fun x => by rw [← hS]; rfl : ∀ x, S (x + 1) = S x + wI (L x) (fun _ => 0))
  have SL : Hid (∀ a x y, x ≤ y → ((lowB L a x y).length : Int) ≤ S y - S x) := (fun a x y h => by rw [← hS]; exact lowB_len z0 _ a x y (Nat.le_refl _) h : ∀ a x y, x ≤ y → ((lowB L a x y).length : Int) ≤ S y - S x)
  rw [hS] at hsz
  have HS : Hid (szTo L (fun _ => 0) = S) := hS
  obtain ⟨all, hall⟩ : ∃ x, lowB L at' i te = x := ⟨_, rfl⟩
  rw [hall]
  have HALL : Hid (lowB L at' i te = all) := hall
  have hal : (all.length : Int) ≤ S te - S i := by rw [← hall]; exact SL.out at' i te hit
  have sp1 := SP.out i
  have sm1 := SM.out i te hit
  clear hlen hoff hI hck hA hS hall z0
  obtain ⟨iS, gS, gS0, gS1, gS2⟩ := info_parts info_ins6
  have HIS : Hid (_ ∧ _ ∧ _ ∧ _) := ⟨gS, gS0, gS1, gS2⟩
  clear gS gS0 gS1 gS2
  go_enter Try.func14, Try.ntmps14
  go_wp2_with fail
  obtain ⟨v0, hv0, hb1, ho1⟩ : ∃ x, w.alloc (.cells #[] 36) = x ∧ Below w.heap.size w x ∧ x.ownsRow w.heap.size 36 6 (.slice (some ⟨w.heap.size, 0, none⟩) 0 0) 0 [] := ⟨_, rfl, (Below.refl _ _).alloc (Nat.le_refl _) _, World.ownsRow_lit w #[] 0 (Nat.le_refl _) (by unfold maxLen; omega) rfl⟩
  rw [hv0]
  have B1 : Hid (Below w.heap.size w v0) := hb1
  have O1 : Hid (v0.ownsRow w.heap.size 36 6 (.slice (some ⟨w.heap.size, 0, none⟩) 0 0) 0 []) := ho1
  clear hv0 hb1 ho1
  go_loopw [5, 6] (fun ov iv wr => ∃ (j gg cc dl : Nat) (done : List NV), i + j ≤ te ∧ iv = .int .i64 (j : Int) ∧ ov = .slice (some ⟨gg, 0, none⟩) dl cc ∧ done.length = dl ∧ (dl : Int) ≤ S (i + j) - S i ∧ wr.ownsRow w.heap.size 36 6 (.slice (some ⟨gg, 0, none⟩) dl cc) dl (ci done) ∧ Below w.heap.size w wr ∧ done ++ lowB L (at' + dl) (i + j) te = all ∧ (chk L 0 0 321 (i + j) te depth).1 = 0) (fun _ iv _ => len - (intOf iv).toNat)
  case atStart => exact ⟨0, _, _, 0, [], by omega, rfl, rfl, rfl, by simp, O1.out, B1.out, by rw [Nat.add_zero, Nat.add_zero]; exact HALL.out, by rw [Nat.add_zero]; exact HCK.out⟩
  case round =>
    obtain ⟨j, gg, cc, dl, done, hj, rfl, rfl, hdl, hds, ho, hb, hd, hc⟩ := hrel
    have O2 : Hid (wr.ownsRow w.heap.size 36 6 (.slice (some ⟨gg, 0, none⟩) dl cc) dl (ci done)) := ho
    have B2 : Hid (Below w.heap.size w wr) := hb
    have HD : Hid (done ++ lowB L (at' + dl) (i + j) te = all) := hd
    have HK : Hid ((chk L 0 0 321 (i + j) te depth).1 = 0) := hc
    have HDL : Hid (done.length = dl) := hdl
    clear ho hb hd hc hdl B1 O1
    by_cases hlt : i + j < te
    rotate_left
    · have hlt' : ¬ (j : Int) < (len : Int) := by omega
      have hdone : done = all := by have := HD.out; rw [lowB_end hlt, List.append_nil] at this; exact this
      subst hdone
      go_wp2
      go_ret
      exact ⟨gg, cc, by rw [HDL.out]; rfl, by rw [HDL.out]; exact O2.out, B2.out⟩
    have hlt' : (j : Int) < (len : Int) := by omega
    have hof : off = i * 11 := HOFF.out (by omega)
    subst hof
    clear HOFF
    obtain ⟨p, hp⟩ : ∃ x, i + j = x := ⟨_, rfl⟩
    rw [hp] at hlt hds
    have HP : Hid (i + j = p) := hp
    have A2 : Hid (Arr wr b (n * 11) (stF L)) := HA.out.below B2.out lb
    obtain ⟨s0, s1, s2, s3, s4, s5, s6, s7, s8, s9, s10⟩ := st_at (n := n) A2.out p (by omega)
    rw [show p * 11 = i * 11 + j * 11 by omega] at s0 s1 s2 s3 s4 s5 s6 s7 s8 s9 s10
    rw [hp] at HD HK
    clear hp
    have hal2 : (dl : Int) + (lowB L (at' + dl) p te).length ≤ S te - S i := by
      have h := hal
      rw [← HD.out, List.length_append, HDL.out] at h
      omega
    have sm2 := SM.out p te (by omega)
    go_upto_region 5 with fail
    clear s0 s1 s2 s3 s4 s5 s6 s7 s8 s9 s10
    obtain ⟨u1, hu1, hb1, hc1⟩ : ∃ x, wr.alloc (.cells #[.int .i64 (L p).k, .int .i64 (L p).op, .int .i64 (L p).d, .int .i64 (L p).a, .int .i64 (L p).b, .int .i64 (L p).imm, .int .i64 (L p).h, .int .i64 (L p).cond, .int .i64 (L p).thn, .int .i64 (L p).els, .int .i64 (L p).proc] 38) = x ∧ Below wr.heap.size wr x ∧ Cl x wr.heap.size [.int .i64 (L p).k, .int .i64 (L p).op, .int .i64 (L p).d, .int .i64 (L p).a, .int .i64 (L p).b, .int .i64 (L p).imm, .int .i64 (L p).h, .int .i64 (L p).cond, .int .i64 (L p).thn, .int .i64 (L p).els, .int .i64 (L p).proc] := ⟨_, rfl, (Below.refl _ _).alloc (Nat.le_refl _) _, Cl.new⟩
    rw [hu1]
    have wz := B2.out.size
    obtain ⟨sb, hsb⟩ : ∃ x, wr.heap.size = x := ⟨_, rfl⟩
    rw [hsb] at hb1 hc1 wz ⊢
    have S1 : Hid (Cl u1 sb [.int .i64 (L p).k, .int .i64 (L p).op, .int .i64 (L p).d, .int .i64 (L p).a, .int .i64 (L p).b, .int .i64 (L p).imm, .int .i64 (L p).h, .int .i64 (L p).cond, .int .i64 (L p).thn, .int .i64 (L p).els, .int .i64 (L p).proc]) := hc1
    have B3 : Hid (Below w.heap.size w u1) := B2.out.trans (hb1.mono wz)
    have O3 : Hid (u1.ownsRow w.heap.size 36 6 (.slice (some ⟨gg, 0, none⟩) dl cc) dl (ci done)) := row_belowU O2.out (hsb ▸ hb1)
    have GL : gg < sb := hsb ▸ (O2.out.lt gg rfl).2
    have sl := hc1.1
    have HSB : Hid (sb = wr.heap.size) := hsb.symm
    clear hu1 hb1 hc1 O2 B2 hsb A2
    obtain ⟨sok, hnt, k1, k2, k3⟩ := chk_next HK.out hlt
    have HK1 : Hid _ := k1
    have HK2 : Hid _ := k2
    have HK3 : Hid _ := k3
    have HSOK : Hid (stOK (L p) (0 : Int) = true) := sok
    obtain ⟨tp, ep⟩ := st_pos sok
    clear k1 k2 k3 sok HK
    obtain ⟨a, ha⟩ : ∃ x : Nat, (L p).thn = (x : Int) := ⟨(L p).thn.toNat, by omega⟩
    obtain ⟨e', he'⟩ : ∃ x : Nat, (L p).els = (x : Int) := ⟨(L p).els.toNat, by omega⟩
    have HA' : Hid ((L p).thn = (a : Int) ∧ (L p).thn.toNat = a) := ⟨ha, by omega⟩
    have HB' : Hid ((L p).els = (e' : Int) ∧ (L p).els.toNat = e') := ⟨he', by omega⟩
    rw [HA'.out.2, HB'.out.2] at hnt
    have hij := HP.out
    obtain ⟨c0, c1, c2, c3, c4, c5, c6, c7, c8, c9, c10⟩ := st_cl S1.out
    rw [ha] at c8
    rw [he'] at c9
    have lz : a ≤ 2000 := by omega
    have lz2 : e' ≤ 2000 := by omega
    have ls := B3.out.size
    obtain ⟨he, hhe⟩ : ∃ y : Nat, at' + dl = y := ⟨_, rfl⟩
    have HHE : Hid (at' + dl = he) := hhe
    have fh : (at' : Int) + (dl : Int) = (he : Int) := by omega
    have heb : (he : Int) ≤ 4000 := by omega
    rw [hhe] at HD hal2
    clear ha he' tp ep hhe
    have sw := SW.out p
    have sq1 := SM.out (p + 1) (p + 1 + a) (by omega)
    have sq2 := SM.out (p + 1 + a) (p + 1 + a + e') (by omega)
    have sq3 := SM.out (p + 1 + a + e') te (by omega)
    go_upto_region 6 with fail
    go_cut [9] (fun av wx => wx = u1 ∧ ∃ oa ca : Nat, av = .slice (some ⟨b, oa, none⟩) a ca ∧ (0 < a → oa = (p + 1) * 11) ∧ a ≤ ca)
    case first =>
      go_wp2_with fail
      all_goals
        try (have hcj : cap' = j + 1 := by assumption
             subst hcj)
        go_meet
        exact ⟨rfl, _, _, rfl, by omega, by omega⟩
    case rest =>
    obtain ⟨hwx, oa, ca, rfl, oa1, oa2⟩ := hcut
    rw [hwx]
    clear hwx wc
    go_upto_region 7 with fail
    go_cut [10] (fun av wx => wx = u1 ∧ ∃ ob cb : Nat, av = .slice (some ⟨b, ob, none⟩) e' cb ∧ (0 < e' → ob = (p + 1 + a) * 11) ∧ e' ≤ cb)
    case first =>
      go_wp2_with fail
      all_goals
        try (have hcj : cap' = j + 1 + a := by assumption
             subst hcj)
        go_meet
        exact ⟨rfl, _, _, rfl, by omega, by omega⟩
    case rest =>
    obtain ⟨hwx, ob, cb, rfl, ob1, ob2⟩ := hcut
    rw [hwx]
    clear hwx wc
    have HKA : Hid ((chk L 0 0 321 (p + 1) (p + 1 + a) (depth + 1)).1 = 0) := (by have h := HK1.out; rw [HA'.out.2] at h; exact h : (chk L 0 0 321 (p + 1) (p + 1 + a) (depth + 1)).1 = 0)
    have HKB : Hid ((chk L 0 0 321 (p + 1 + a) (p + 1 + a + e') (depth + 1)).1 = 0) := (by have h := HK2.out; rw [HA'.out.2, HB'.out.2] at h; exact h : (chk L 0 0 321 (p + 1 + a) (p + 1 + a + e') (depth + 1)).1 = 0)
    have HKC : Hid ((chk L 0 0 321 (p + 1 + a + e') te depth).1 = 0) := (by have h := HK3.out; rw [HA'.out.2, HB'.out.2] at h; exact h : (chk L 0 0 321 (p + 1 + a + e') te depth).1 = 0)
    have HNT : Hid (p + 1 + (L p).thn.toNat + (L p).els.toNat ≤ te) := (by rw [HA'.out.2, HB'.out.2]; exact hnt : p + 1 + (L p).thn.toNat + (L p).els.toNat ≤ te)
    have AU : Hid (Arr u1 b (n * 11) (stF L)) := HA.out.below B3.out lb
    clear HK1 HK2 HK3
    rcases st_one HSOK.out with hk | hk | hk | hk
    · have e1 : ((L p).k == 1) = true := by simp [hk]
      obtain ⟨y2, y3⟩ := st_flat HSOK.out (.inl hk)
      have ea : a = 0 := by have := HA'.out.1; omega
      have ee : e' = 0 := by have := HB'.out.1; omega
      have hw : wI (L p) (fun _ => 0) = 1 := by unfold wI; rw [if_pos hk]
      have HD2 : Hid (done ++ [insV0 (L p)] ++ lowB L (he + 1) (p + 1) te = all) := (by
        rw [← HD.out, lowB_1 hlt HNT.out hk, y2, y3]; simp : done ++ [insV0 (L p)] ++ lowB L (he + 1) (p + 1) te = all)
      rw [ea, ee] at HKC
      clear hk y2 y3
      have SCa : Hid (Cl u1 sb [.int .i64 (L p).k, .int .i64 (L p).op, .int .i64 (L p).d, .int .i64 (L p).a, .int .i64 (L p).b, .int .i64 (L p).imm, .int .i64 (L p).h, .int .i64 (L p).cond, .int .i64 (L p).thn, .int .i64 (L p).els, .int .i64 (L p).proc]) := S1.out
      go_wp2_with (first | (at_builtin; refine wpList_append_own_at _ rfl _ _ 24 rfl w.heap.size 36 iS _ 6 48 Try.underlying24 HIS.out.1 HIS.out.2.1 HIS.out.2.2.1 HIS.out.2.2.2 rfl (by decide) (.slice (some ⟨gg, 0, none⟩) dl cc) dl (ci done) rfl (row_belowU O3.out ((Below.refl _ _).alloc (Nat.le_refl _) _)) ⟨u1.heap.size, 0, none⟩ 1 1 [.int .i64 (L p).op, .int .i64 (L p).d, .int .i64 (L p).a, .int .i64 (L p).b, .int .i64 (L p).imm, .int .i64 (L p).h] rfl rfl (cells_new6 _ _ _) (by rw [show ([.int .i64 (L p).op, .int .i64 (L p).d, .int .i64 (L p).a, .int .i64 (L p).b, .int .i64 (L p).imm, .int .i64 (L p).h] : List Value) = inL (insV0 (L p)) from rfl, ← ci_one]; exact ci_flat _) ?c3 ?c4 ?c5 ?_) | go_in)
      case c3 => unfold maxLen; omega
      case c4 => omega
      case c5 => simp; have := B3.out.size; omega
      intro vwk1 wk1 hown hgrow hnil hat
      have Bwk1 : Hid (Below w.heap.size w wk1) := (B3.out.alloc B3.out.size _).grown hgrow (by simp; have := B3.out.size; omega) (fun k hk => (O3.out.lt k hk).1)
      obtain ⟨gwk1, cwk1, rfl⟩ := row_at6 hown (by intro e; simp [e] at hnil)
      have hgwk1 : gwk1 = gg ∨ gwk1 = u1.heap.size + 1 := by simpa [Value.ownBlock] using hat
      obtain ⟨lwk1, hlwk1⟩ : ∃ y, (done ++ [(insV0 (L p))]) = y := ⟨_, rfl⟩
      have HLwk1 : Hid ((done ++ [(insV0 (L p))]) = lwk1) := hlwk1
      have Owk1 : Hid (wk1.ownsRow w.heap.size 36 6 (.slice (some ⟨gwk1, 0, none⟩) (dl + 1) cwk1) (dl + 1) (ci lwk1)) := (by rw [← hlwk1, ci_app, ci_one]; exact hown : wk1.ownsRow w.heap.size 36 6 (.slice (some ⟨gwk1, 0, none⟩) (dl + 1) cwk1) (dl + 1) (ci lwk1))
      clear hlwk1
      have SCwk1 : Hid (Cl wk1 sb [.int .i64 (L p).k, .int .i64 (L p).op, .int .i64 (L p).d, .int .i64 (L p).a, .int .i64 (L p).b, .int .i64 (L p).imm, .int .i64 (L p).h, .int .i64 (L p).cond, .int .i64 (L p).thn, .int .i64 (L p).els, .int .i64 (L p).proc]) := gr_cl6 hgrow (SCa.out.below ((Below.refl _ _).alloc (Nat.le_refl _) _)) (by simp [Value.ownBlock]; omega)
      have zwk1 := hgrow.size
      simp only [World.size_alloc] at zwk1
      have lwwk1 := Bwk1.out.size
      clear hown hgrow hnil hat B3 O3  SCa c0 c1 c2 c3 c4 c5 c6 c7 c8 c9 c10
      obtain ⟨c0, c1, c2, c3, c4, c5, c6, c7, c8, c9, c10⟩ := st_cl SCwk1.out
      rw [HA'.out.1, ea] at c8
      rw [HB'.out.1, ee] at c9
      have slz := SCwk1.out.1
      go_wp2
      go_roundw
      case rel =>
        have hpp := HP.out
        have h2 := HHE.out
        refine ⟨j + 1, gwk1, cwk1, dl + 1, lwk1, by omega, by have := ea; have := ee; go_num, rfl, by rw [← HLwk1.out, List.length_append, HDL.out]; rfl, ?_, Owk1.out, Bwk1.out, ?_, ?_⟩
        · rw [show i + (j + 1) = p + 1 by omega]; omega
        · rw [show i + (j + 1) = p + 1 by omega, show at' + (dl + 1) = he + 1 by omega, ← HLwk1.out]; exact HD2.out
        · rw [show i + (j + 1) = p + 1 by omega]; have h := HKC.out; simpa using h
      case measure => have hpp := HP.out; simp [intOf]; omega
    · have e1 : ((L p).k == 1) = false := by simp [hk]
      have e2 : ((L p).k == 2) = true := by simp [hk]
      have hw : wI (L p) (fun _ => 0) = 2 := by unfold wI; rw [if_neg (by omega), if_neg (by omega)]
      obtain ⟨xL, hxL⟩ : ∃ x, lowB L (he + 1) (p + 1) (p + 1 + a) = x := ⟨_, rfl⟩
      obtain ⟨lx, hlx⟩ : ∃ y, xL.length = y := ⟨_, rfl⟩
      have Hlx : Hid (xL.length = lx) := hlx
      obtain ⟨l1, hl1'⟩ : ∃ y : Int, (he : Int) + 2 + (lx : Int) = y := ⟨_, rfl⟩
      have HL1 : Hid ((he : Int) + 2 + (lx : Int) = l1) := hl1'
      obtain ⟨yL, hyL⟩ : ∃ x, lowB L (he + 2 + lx) (p + 1 + a) (p + 1 + a + e') = x := ⟨_, rfl⟩
      obtain ⟨ly, hly⟩ : ∃ y, yL.length = y := ⟨_, rfl⟩
      have Hly : Hid (yL.length = ly) := hly
      obtain ⟨l2, hl2'⟩ : ∃ y : Int, l1 + (ly : Int) = y := ⟨_, rfl⟩
      have HL2 : Hid (l1 + (ly : Int) = l2) := hl2'
      have slx : (lx : Int) ≤ S (p + 1 + a) - S (p + 1) := by rw [← hlx, ← hxL]; exact SL.out _ _ _ (by omega)
      have sly : (ly : Int) ≤ S (p + 1 + a + e') - S (p + 1 + a) := by rw [← hly, ← hyL]; exact SL.out _ _ _ (by omega)
      have HD2 : Hid (done ++ [jmpV (notI (L p).cond) l1] ++ xL ++ [jmpV 29 l2] ++ yL ++ lowB L (he + 2 + lx + ly) (p + 1 + a + e') te = all) := (by
        rw [← HD.out, lowB_2 hlt HNT.out hk (x := xL) (y := yL) (by rw [HA'.out.2]; exact hxL) (by rw [HA'.out.2, HB'.out.2, hlx]; exact hyL), HA'.out.2, HB'.out.2, hlx, hly, ← hl2', ← hl1']
        simp : done ++ [jmpV (notI (L p).cond) l1] ++ xL ++ [jmpV 29 l2] ++ yL ++ lowB L (he + 2 + lx + ly) (p + 1 + a + e') te = all)
      have HXL : Hid (lowB L (he + 1) (p + 1) (p + 1 + a) = xL) := hxL
      have HYL : Hid (lowB L (he + 2 + lx) (p + 1 + a) (p + 1 + a + e') = yL) := hyL
      clear hk hxL hlx hl1' hyL hly hl2'
      go_wp2_with fail
      have hc := HI.out (p + 1) (p + 1 + a) (depth + 1) (by omega) (by omega) (by omega) (by omega) HKA.out
      unfold LowC at hc
      have hc2 := hc (he + 1) oa a ca u1 (by omega) oa1 oa2 (by rw [HS.out]; omega) AU.out
      rw [HXL.out, Hlx.out] at hc2
      refine hc2.mono ?_
      rintro e u2 ⟨g2, cc2, rfl, ho2, hb2⟩
      have B4 : Hid (Below w.heap.size w u2) := B3.out.trans (hb2.mono ls)
      have O4 : Hid (u2.ownsRow w.heap.size 36 6 (.slice (some ⟨gg, 0, none⟩) dl cc) dl (ci done)) := row_belowU O3.out hb2
      have SCb : Hid (Cl u2 sb [.int .i64 (L p).k, .int .i64 (L p).op, .int .i64 (L p).d, .int .i64 (L p).a, .int .i64 (L p).b, .int .i64 (L p).imm, .int .i64 (L p).h, .int .i64 (L p).cond, .int .i64 (L p).thn, .int .i64 (L p).els, .int .i64 (L p).proc]) := S1.out.below hb2
      have NX0 : Hid (u2.ownsRow u1.heap.size 36 6 (.slice (some ⟨g2, 0, none⟩) lx cc2) lx (ci xL)) := ho2
      have AV : Hid (Arr u2 b (n * 11) (stF L)) := AU.out.below hb2 AU.out.lt
      have GA : u1.heap.size ≤ g2 := (ho2.lt g2 rfl).1
      have GA2 : g2 < u2.heap.size := (ho2.lt g2 rfl).2
      have z2 := hb2.size
      have ls2 := B4.out.size
      clear hc hc2 ho2 hb2 c0 c1 c2 c3 c4 c5 c6 c7 c8 c9 c10 O3 B3 S1 AU
      have f1 := HL1.out
      go_wp2_with fail
      have hc := HI.out (p + 1 + a) (p + 1 + a + e') (depth + 1) (by omega) (by omega) (by omega) (by omega) HKB.out
      unfold LowC at hc
      have hc2 := hc (he + 2 + lx) ob e' cb u2 (by omega) ob1 ob2 (by rw [HS.out]; omega) AV.out
      rw [HYL.out, Hly.out, show ((he + 2 + lx : Nat) : Int) = l1 by omega] at hc2
      refine hc2.mono ?_
      rintro e u3 ⟨g3, cc3, rfl, ho3, hb3⟩
      have B5 : Hid (Below w.heap.size w u3) := B4.out.trans (hb3.mono ls2)
      have O5 : Hid (u3.ownsRow w.heap.size 36 6 (.slice (some ⟨gg, 0, none⟩) dl cc) dl (ci done)) := row_belowU O4.out hb3
      have SCc : Hid (Cl u3 sb [.int .i64 (L p).k, .int .i64 (L p).op, .int .i64 (L p).d, .int .i64 (L p).a, .int .i64 (L p).b, .int .i64 (L p).imm, .int .i64 (L p).h, .int .i64 (L p).cond, .int .i64 (L p).thn, .int .i64 (L p).els, .int .i64 (L p).proc]) := SCb.out.below hb3
      have NX : Hid (u3.ownsRow u1.heap.size 36 6 (.slice (some ⟨g2, 0, none⟩) lx cc2) lx (ci xL)) := row_belowU NX0.out hb3
      have NY : Hid (u3.ownsRow u2.heap.size 36 6 (.slice (some ⟨g3, 0, none⟩) ly cc3) ly (ci yL)) := ho3
      have GB : u2.heap.size ≤ g3 := (ho3.lt g3 rfl).1
      have GB2 : g3 < u3.heap.size := (ho3.lt g3 rfl).2
      have z3 := hb3.size
      clear hc hc2 ho3 hb3 O4 B4 SCb NX0 AV
      obtain ⟨c0, c1, c2, c3, c4, c5, c6, c7, c8, c9, c10⟩ := st_cl SCc.out
      have sl3 := SCc.out.1
      have f2 := HL2.out
      go_wp2_with fail
      refine (l3Not_any _ _).mono ?_
      rintro e u3' ⟨rfl, hw'⟩
      rw [hw']
      clear hw'
      go_wp2_with (first | (at_builtin; refine wpList_append_own_at _ rfl _ _ 24 rfl w.heap.size 36 iS _ 6 48 Try.underlying24 HIS.out.1 HIS.out.2.1 HIS.out.2.2.1 HIS.out.2.2.2 rfl (by decide) (.slice (some ⟨gg, 0, none⟩) dl cc) dl (ci done) rfl (row_belowU O5.out ((Below.refl _ _).alloc (Nat.le_refl _) _)) ⟨u3.heap.size, 0, none⟩ 1 1 [.int .i64 (notI (L p).cond), .int .i64 0, .int .i64 0, .int .i64 0, .int .i64 l1, .int .i64 0] rfl rfl (cells_new6 _ _ _) (by rw [show ([.int .i64 (notI (L p).cond), .int .i64 0, .int .i64 0, .int .i64 0, .int .i64 l1, .int .i64 0] : List Value) = inL (jmpV (notI (L p).cond) l1) from rfl, ← ci_one]; exact ci_flat _) ?c3 ?c4 ?c5 ?_) | go_in)
      case c3 => unfold maxLen; omega
      case c4 => omega
      case c5 => simp; have := B5.out.size; omega
      intro vwc1 wc1 hown hgrow hnil hat
      have Bwc1 : Hid (Below w.heap.size w wc1) := (B5.out.alloc B5.out.size _).grown hgrow (by simp; have := B5.out.size; omega) (fun k hk => (O5.out.lt k hk).1)
      obtain ⟨gwc1, cwc1, rfl⟩ := row_at6 hown (by intro e; simp [e] at hnil)
      have hgwc1 : gwc1 = gg ∨ gwc1 = u3.heap.size + 1 := by simpa [Value.ownBlock] using hat
      obtain ⟨lwc1, hlwc1⟩ : ∃ y, (done ++ [(jmpV (notI (L p).cond) l1)]) = y := ⟨_, rfl⟩
      have HLwc1 : Hid ((done ++ [(jmpV (notI (L p).cond) l1)]) = lwc1) := hlwc1
      have Owc1 : Hid (wc1.ownsRow w.heap.size 36 6 (.slice (some ⟨gwc1, 0, none⟩) (dl + 1) cwc1) (dl + 1) (ci lwc1)) := (by rw [← hlwc1, ci_app, ci_one]; exact hown : wc1.ownsRow w.heap.size 36 6 (.slice (some ⟨gwc1, 0, none⟩) (dl + 1) cwc1) (dl + 1) (ci lwc1))
      clear hlwc1
      have NX_wc1 : Hid (wc1.ownsRow u1.heap.size 36 6 (.slice (some ⟨g2, 0, none⟩) lx cc2) lx (ci xL)) := (row_grown6 (row_belowU NX.out ((Below.refl _ _).alloc (Nat.le_refl _) _)) hgrow (by simp [Value.ownBlock]; omega) : wc1.ownsRow u1.heap.size 36 6 (.slice (some ⟨g2, 0, none⟩) lx cc2) lx (ci xL))
      have NY_wc1 : Hid (wc1.ownsRow u2.heap.size 36 6 (.slice (some ⟨g3, 0, none⟩) ly cc3) ly (ci yL)) := (row_grown6 (row_belowU NY.out ((Below.refl _ _).alloc (Nat.le_refl _) _)) hgrow (by simp [Value.ownBlock]; omega) : wc1.ownsRow u2.heap.size 36 6 (.slice (some ⟨g3, 0, none⟩) ly cc3) ly (ci yL))
      have SCwc1 : Hid (Cl wc1 sb [.int .i64 (L p).k, .int .i64 (L p).op, .int .i64 (L p).d, .int .i64 (L p).a, .int .i64 (L p).b, .int .i64 (L p).imm, .int .i64 (L p).h, .int .i64 (L p).cond, .int .i64 (L p).thn, .int .i64 (L p).els, .int .i64 (L p).proc]) := gr_cl6 hgrow (SCc.out.below ((Below.refl _ _).alloc (Nat.le_refl _) _)) (by simp [Value.ownBlock]; omega)
      have zwc1 := hgrow.size
      simp only [World.size_alloc] at zwc1
      have lwwc1 := Bwc1.out.size
      clear hown hgrow hnil hat B5 O5 NX NY SCc 
      go_wp2_with (first | (at_builtin; refine wpList_append_own_at _ rfl _ _ 24 rfl w.heap.size 36 iS _ 6 48 Try.underlying24 HIS.out.1 HIS.out.2.1 HIS.out.2.2.1 HIS.out.2.2.2 rfl (by decide) (.slice (some ⟨gwc1, 0, none⟩) (dl + 1) cwc1) (dl + 1) (ci lwc1) rfl Owc1.out ⟨g2, 0, none⟩ lx cc2 (ci xL) rfl (by rw [ci_len, Hlx.out]) (row_news6 NX_wc1.out) (ci_flat _) ?c3 ?c4 ?c5 ?_) | go_in)
      case c3 => unfold maxLen; omega
      case c4 => omega
      case c5 => exact Bwc1.out.size
      intro vwc2 wc2 hown hgrow hnil hat
      have Bwc2 : Hid (Below w.heap.size w wc2) := Bwc1.out.grown hgrow Bwc1.out.size (fun k hk => (Owc1.out.lt k hk).1)
      obtain ⟨gwc2, cwc2, rfl⟩ := row_at6 hown (by intro e; simp [e] at hnil)
      have hgwc2 : gwc2 = gwc1 ∨ gwc2 = wc1.heap.size := by simpa [Value.ownBlock] using hat
      obtain ⟨lwc2, hlwc2⟩ : ∃ y, (lwc1 ++ xL) = y := ⟨_, rfl⟩
      have HLwc2 : Hid ((lwc1 ++ xL) = lwc2) := hlwc2
      have Owc2 : Hid (wc2.ownsRow w.heap.size 36 6 (.slice (some ⟨gwc2, 0, none⟩) ((dl + 1) + lx) cwc2) ((dl + 1) + lx) (ci lwc2)) := (by rw [← hlwc2, ci_app]; exact hown : wc2.ownsRow w.heap.size 36 6 (.slice (some ⟨gwc2, 0, none⟩) ((dl + 1) + lx) cwc2) ((dl + 1) + lx) (ci lwc2))
      clear hlwc2
      have NX_wc2 : Hid (wc2.ownsRow u1.heap.size 36 6 (.slice (some ⟨g2, 0, none⟩) lx cc2) lx (ci xL)) := (row_grown6 NX_wc1.out hgrow (by simp [Value.ownBlock]; omega) : wc2.ownsRow u1.heap.size 36 6 (.slice (some ⟨g2, 0, none⟩) lx cc2) lx (ci xL))
      have NY_wc2 : Hid (wc2.ownsRow u2.heap.size 36 6 (.slice (some ⟨g3, 0, none⟩) ly cc3) ly (ci yL)) := (row_grown6 NY_wc1.out hgrow (by simp [Value.ownBlock]; omega) : wc2.ownsRow u2.heap.size 36 6 (.slice (some ⟨g3, 0, none⟩) ly cc3) ly (ci yL))
      have SCwc2 : Hid (Cl wc2 sb [.int .i64 (L p).k, .int .i64 (L p).op, .int .i64 (L p).d, .int .i64 (L p).a, .int .i64 (L p).b, .int .i64 (L p).imm, .int .i64 (L p).h, .int .i64 (L p).cond, .int .i64 (L p).thn, .int .i64 (L p).els, .int .i64 (L p).proc]) := gr_cl6 hgrow SCwc1.out (by simp [Value.ownBlock]; omega)
      have zwc2 := hgrow.size
      have lwwc2 := Bwc2.out.size
      clear hown hgrow hnil hat Bwc1 Owc1 NX_wc1 NY_wc1 SCwc1 
      go_wp2_with (first | (at_builtin; refine wpList_append_own_at _ rfl _ _ 24 rfl w.heap.size 36 iS _ 6 48 Try.underlying24 HIS.out.1 HIS.out.2.1 HIS.out.2.2.1 HIS.out.2.2.2 rfl (by decide) (.slice (some ⟨gwc2, 0, none⟩) ((dl + 1) + lx) cwc2) ((dl + 1) + lx) (ci lwc2) rfl (row_belowU Owc2.out ((Below.refl _ _).alloc (Nat.le_refl _) _)) ⟨wc2.heap.size, 0, none⟩ 1 1 [.int .i64 29, .int .i64 0, .int .i64 0, .int .i64 0, .int .i64 l2, .int .i64 0] rfl rfl (cells_new6 _ _ _) (by rw [show ([.int .i64 29, .int .i64 0, .int .i64 0, .int .i64 0, .int .i64 l2, .int .i64 0] : List Value) = inL (jmpV 29 l2) from rfl, ← ci_one]; exact ci_flat _) ?c3 ?c4 ?c5 ?_) | go_in)
      case c3 => unfold maxLen; omega
      case c4 => omega
      case c5 => simp; have := Bwc2.out.size; omega
      intro vwc3 wc3 hown hgrow hnil hat
      have Bwc3 : Hid (Below w.heap.size w wc3) := (Bwc2.out.alloc Bwc2.out.size _).grown hgrow (by simp; have := Bwc2.out.size; omega) (fun k hk => (Owc2.out.lt k hk).1)
      obtain ⟨gwc3, cwc3, rfl⟩ := row_at6 hown (by intro e; simp [e] at hnil)
      have hgwc3 : gwc3 = gwc2 ∨ gwc3 = wc2.heap.size + 1 := by simpa [Value.ownBlock] using hat
      obtain ⟨lwc3, hlwc3⟩ : ∃ y, (lwc2 ++ [(jmpV 29 l2)]) = y := ⟨_, rfl⟩
      have HLwc3 : Hid ((lwc2 ++ [(jmpV 29 l2)]) = lwc3) := hlwc3
      have Owc3 : Hid (wc3.ownsRow w.heap.size 36 6 (.slice (some ⟨gwc3, 0, none⟩) (((dl + 1) + lx) + 1) cwc3) (((dl + 1) + lx) + 1) (ci lwc3)) := (by rw [← hlwc3, ci_app, ci_one]; exact hown : wc3.ownsRow w.heap.size 36 6 (.slice (some ⟨gwc3, 0, none⟩) (((dl + 1) + lx) + 1) cwc3) (((dl + 1) + lx) + 1) (ci lwc3))
      clear hlwc3
      have NX_wc3 : Hid (wc3.ownsRow u1.heap.size 36 6 (.slice (some ⟨g2, 0, none⟩) lx cc2) lx (ci xL)) := (row_grown6 (row_belowU NX_wc2.out ((Below.refl _ _).alloc (Nat.le_refl _) _)) hgrow (by simp [Value.ownBlock]; omega) : wc3.ownsRow u1.heap.size 36 6 (.slice (some ⟨g2, 0, none⟩) lx cc2) lx (ci xL))
      have NY_wc3 : Hid (wc3.ownsRow u2.heap.size 36 6 (.slice (some ⟨g3, 0, none⟩) ly cc3) ly (ci yL)) := (row_grown6 (row_belowU NY_wc2.out ((Below.refl _ _).alloc (Nat.le_refl _) _)) hgrow (by simp [Value.ownBlock]; omega) : wc3.ownsRow u2.heap.size 36 6 (.slice (some ⟨g3, 0, none⟩) ly cc3) ly (ci yL))
      have SCwc3 : Hid (Cl wc3 sb [.int .i64 (L p).k, .int .i64 (L p).op, .int .i64 (L p).d, .int .i64 (L p).a, .int .i64 (L p).b, .int .i64 (L p).imm, .int .i64 (L p).h, .int .i64 (L p).cond, .int .i64 (L p).thn, .int .i64 (L p).els, .int .i64 (L p).proc]) := gr_cl6 hgrow (SCwc2.out.below ((Below.refl _ _).alloc (Nat.le_refl _) _)) (by simp [Value.ownBlock]; omega)
      have zwc3 := hgrow.size
      simp only [World.size_alloc] at zwc3
      have lwwc3 := Bwc3.out.size
      clear hown hgrow hnil hat Bwc2 Owc2 NX_wc2 NY_wc2 SCwc2 
      go_wp2_with (first | (at_builtin; refine wpList_append_own_at _ rfl _ _ 24 rfl w.heap.size 36 iS _ 6 48 Try.underlying24 HIS.out.1 HIS.out.2.1 HIS.out.2.2.1 HIS.out.2.2.2 rfl (by decide) (.slice (some ⟨gwc3, 0, none⟩) (((dl + 1) + lx) + 1) cwc3) (((dl + 1) + lx) + 1) (ci lwc3) rfl Owc3.out ⟨g3, 0, none⟩ ly cc3 (ci yL) rfl (by rw [ci_len, Hly.out]) (row_news6 NY_wc3.out) (ci_flat _) ?c3 ?c4 ?c5 ?_) | go_in)
      case c3 => unfold maxLen; omega
      case c4 => omega
      case c5 => exact Bwc3.out.size
      intro vwc4 wc4 hown hgrow hnil hat
      have Bwc4 : Hid (Below w.heap.size w wc4) := Bwc3.out.grown hgrow Bwc3.out.size (fun k hk => (Owc3.out.lt k hk).1)
      obtain ⟨gwc4, cwc4, rfl⟩ := row_at6 hown (by intro e; simp [e] at hnil)
      have hgwc4 : gwc4 = gwc3 ∨ gwc4 = wc3.heap.size := by simpa [Value.ownBlock] using hat
      obtain ⟨lwc4, hlwc4⟩ : ∃ y, (lwc3 ++ yL) = y := ⟨_, rfl⟩
      have HLwc4 : Hid ((lwc3 ++ yL) = lwc4) := hlwc4
      have Owc4 : Hid (wc4.ownsRow w.heap.size 36 6 (.slice (some ⟨gwc4, 0, none⟩) ((((dl + 1) + lx) + 1) + ly) cwc4) ((((dl + 1) + lx) + 1) + ly) (ci lwc4)) := (by rw [← hlwc4, ci_app]; exact hown : wc4.ownsRow w.heap.size 36 6 (.slice (some ⟨gwc4, 0, none⟩) ((((dl + 1) + lx) + 1) + ly) cwc4) ((((dl + 1) + lx) + 1) + ly) (ci lwc4))
      clear hlwc4
      have NX_wc4 : Hid (wc4.ownsRow u1.heap.size 36 6 (.slice (some ⟨g2, 0, none⟩) lx cc2) lx (ci xL)) := (row_grown6 NX_wc3.out hgrow (by simp [Value.ownBlock]; omega) : wc4.ownsRow u1.heap.size 36 6 (.slice (some ⟨g2, 0, none⟩) lx cc2) lx (ci xL))
      have NY_wc4 : Hid (wc4.ownsRow u2.heap.size 36 6 (.slice (some ⟨g3, 0, none⟩) ly cc3) ly (ci yL)) := (row_grown6 NY_wc3.out hgrow (by simp [Value.ownBlock]; omega) : wc4.ownsRow u2.heap.size 36 6 (.slice (some ⟨g3, 0, none⟩) ly cc3) ly (ci yL))
      have SCwc4 : Hid (Cl wc4 sb [.int .i64 (L p).k, .int .i64 (L p).op, .int .i64 (L p).d, .int .i64 (L p).a, .int .i64 (L p).b, .int .i64 (L p).imm, .int .i64 (L p).h, .int .i64 (L p).cond, .int .i64 (L p).thn, .int .i64 (L p).els, .int .i64 (L p).proc]) := gr_cl6 hgrow SCwc3.out (by simp [Value.ownBlock]; omega)
      have zwc4 := hgrow.size
      have lwwc4 := Bwc4.out.size
      clear hown hgrow hnil hat Bwc3 Owc3 NX_wc3 NY_wc3 SCwc3 
      clear c0 c1 c2 c3 c4 c5 c6 c7 c8 c9 c10
      obtain ⟨c0, c1, c2, c3, c4, c5, c6, c7, c8, c9, c10⟩ := st_cl SCwc4.out
      rw [HA'.out.1] at c8
      rw [HB'.out.1] at c9
      have slz := SCwc4.out.1
      go_wp2
      go_roundw
      case rel =>
        have hpp := HP.out
        have h2 := HHE.out
        refine ⟨j + 1 + a + e', gwc4, cwc4, dl + 1 + lx + 1 + ly, lwc4, by omega, by go_num, rfl, by rw [← HLwc4.out, ← HLwc3.out, ← HLwc2.out, ← HLwc1.out]; simp only [List.length_append, List.length_cons, List.length_nil]; rw [HDL.out, Hlx.out, Hly.out], ?_, Owc4.out, Bwc4.out, ?_, ?_⟩
        · rw [show i + (j + 1 + a + e') = p + 1 + a + e' by omega]; omega
        · rw [show i + (j + 1 + a + e') = p + 1 + a + e' by omega, show at' + (dl + 1 + lx + 1 + ly) = he + 2 + lx + ly by omega, ← HLwc4.out, ← HLwc3.out, ← HLwc2.out, ← HLwc1.out]; exact HD2.out
        · rw [show i + (j + 1 + a + e') = p + 1 + a + e' by omega]; exact HKC.out
      case measure => have hpp := HP.out; simp [intOf]; omega
    · have e1 : ((L p).k == 1) = false := by simp [hk]
      have e2 : ((L p).k == 2) = false := by simp [hk]
      have e3 : ((L p).k == 3) = true := by simp [hk]
      have ee : e' = 0 := by have := (st_plain HSOK.out).2 hk; have := HB'.out.1; omega
      have hw : wI (L p) (fun _ => 0) = 2 := by unfold wI; rw [if_neg (by omega), if_neg (by omega)]
      obtain ⟨xL, hxL⟩ : ∃ x, lowB L (he + 1) (p + 1) (p + 1 + a) = x := ⟨_, rfl⟩
      obtain ⟨lx, hlx⟩ : ∃ y, xL.length = y := ⟨_, rfl⟩
      have Hlx : Hid (xL.length = lx) := hlx
      obtain ⟨l1, hl1'⟩ : ∃ y : Int, (he : Int) + 2 + (lx : Int) = y := ⟨_, rfl⟩
      have HL1 : Hid ((he : Int) + 2 + (lx : Int) = l1) := hl1'
      have slx : (lx : Int) ≤ S (p + 1 + a) - S (p + 1) := by rw [← hlx, ← hxL]; exact SL.out _ _ _ (by omega)
      have HD2 : Hid (done ++ [jmpV (notI (L p).cond) l1] ++ xL ++ [jmpV 29 (he : Int)] ++ lowB L (he + 2 + lx) (p + 1 + a) te = all) := (by
        rw [← HD.out, lowB_3 hlt HNT.out hk (x := xL) (by rw [HA'.out.2]; exact hxL), HA'.out.2, HB'.out.2, ee, hlx, ← hl1', Nat.add_zero]
        simp : done ++ [jmpV (notI (L p).cond) l1] ++ xL ++ [jmpV 29 (he : Int)] ++ lowB L (he + 2 + lx) (p + 1 + a) te = all)
      have HXL : Hid (lowB L (he + 1) (p + 1) (p + 1 + a) = xL) := hxL
      clear hk hxL hlx hl1'
      go_wp2_with fail
      have hc := HI.out (p + 1) (p + 1 + a) (depth + 1) (by omega) (by omega) (by omega) (by omega) HKA.out
      unfold LowC at hc
      have hc2 := hc (he + 1) oa a ca u1 (by omega) oa1 oa2 (by rw [HS.out]; omega) AU.out
      rw [HXL.out, Hlx.out] at hc2
      refine hc2.mono ?_
      rintro e u2 ⟨g2, cc2, rfl, ho2, hb2⟩
      have B4 : Hid (Below w.heap.size w u2) := B3.out.trans (hb2.mono ls)
      have O4 : Hid (u2.ownsRow w.heap.size 36 6 (.slice (some ⟨gg, 0, none⟩) dl cc) dl (ci done)) := row_belowU O3.out hb2
      have SCb : Hid (Cl u2 sb [.int .i64 (L p).k, .int .i64 (L p).op, .int .i64 (L p).d, .int .i64 (L p).a, .int .i64 (L p).b, .int .i64 (L p).imm, .int .i64 (L p).h, .int .i64 (L p).cond, .int .i64 (L p).thn, .int .i64 (L p).els, .int .i64 (L p).proc]) := S1.out.below hb2
      have NX : Hid (u2.ownsRow u1.heap.size 36 6 (.slice (some ⟨g2, 0, none⟩) lx cc2) lx (ci xL)) := ho2
      have GA : u1.heap.size ≤ g2 := (ho2.lt g2 rfl).1
      have GA2 : g2 < u2.heap.size := (ho2.lt g2 rfl).2
      have z2 := hb2.size
      clear hc hc2 ho2 hb2 c0 c1 c2 c3 c4 c5 c6 c7 c8 c9 c10 O3 B3 S1 AU
      obtain ⟨c0, c1, c2, c3, c4, c5, c6, c7, c8, c9, c10⟩ := st_cl SCb.out
      have sl2 := SCb.out.1
      have f1 := HL1.out
      go_wp2_with fail
      refine (l3Not_any _ _).mono ?_
      rintro e u2' ⟨rfl, hw'⟩
      rw [hw']
      clear hw'
      go_wp2_with (first | (at_builtin; refine wpList_append_own_at _ rfl _ _ 24 rfl w.heap.size 36 iS _ 6 48 Try.underlying24 HIS.out.1 HIS.out.2.1 HIS.out.2.2.1 HIS.out.2.2.2 rfl (by decide) (.slice (some ⟨gg, 0, none⟩) dl cc) dl (ci done) rfl (row_belowU O4.out ((Below.refl _ _).alloc (Nat.le_refl _) _)) ⟨u2.heap.size, 0, none⟩ 1 1 [.int .i64 (notI (L p).cond), .int .i64 0, .int .i64 0, .int .i64 0, .int .i64 l1, .int .i64 0] rfl rfl (cells_new6 _ _ _) (by rw [show ([.int .i64 (notI (L p).cond), .int .i64 0, .int .i64 0, .int .i64 0, .int .i64 l1, .int .i64 0] : List Value) = inL (jmpV (notI (L p).cond) l1) from rfl, ← ci_one]; exact ci_flat _) ?c3 ?c4 ?c5 ?_) | go_in)
      case c3 => unfold maxLen; omega
      case c4 => omega
      case c5 => simp; have := B4.out.size; omega
      intro vwl1 wl1 hown hgrow hnil hat
      have Bwl1 : Hid (Below w.heap.size w wl1) := (B4.out.alloc B4.out.size _).grown hgrow (by simp; have := B4.out.size; omega) (fun k hk => (O4.out.lt k hk).1)
      obtain ⟨gwl1, cwl1, rfl⟩ := row_at6 hown (by intro e; simp [e] at hnil)
      have hgwl1 : gwl1 = gg ∨ gwl1 = u2.heap.size + 1 := by simpa [Value.ownBlock] using hat
      obtain ⟨lwl1, hlwl1⟩ : ∃ y, (done ++ [(jmpV (notI (L p).cond) l1)]) = y := ⟨_, rfl⟩
      have HLwl1 : Hid ((done ++ [(jmpV (notI (L p).cond) l1)]) = lwl1) := hlwl1
      have Owl1 : Hid (wl1.ownsRow w.heap.size 36 6 (.slice (some ⟨gwl1, 0, none⟩) (dl + 1) cwl1) (dl + 1) (ci lwl1)) := (by rw [← hlwl1, ci_app, ci_one]; exact hown : wl1.ownsRow w.heap.size 36 6 (.slice (some ⟨gwl1, 0, none⟩) (dl + 1) cwl1) (dl + 1) (ci lwl1))
      clear hlwl1
      have NX_wl1 : Hid (wl1.ownsRow u1.heap.size 36 6 (.slice (some ⟨g2, 0, none⟩) lx cc2) lx (ci xL)) := (row_grown6 (row_belowU NX.out ((Below.refl _ _).alloc (Nat.le_refl _) _)) hgrow (by simp [Value.ownBlock]; omega) : wl1.ownsRow u1.heap.size 36 6 (.slice (some ⟨g2, 0, none⟩) lx cc2) lx (ci xL))
      have SCwl1 : Hid (Cl wl1 sb [.int .i64 (L p).k, .int .i64 (L p).op, .int .i64 (L p).d, .int .i64 (L p).a, .int .i64 (L p).b, .int .i64 (L p).imm, .int .i64 (L p).h, .int .i64 (L p).cond, .int .i64 (L p).thn, .int .i64 (L p).els, .int .i64 (L p).proc]) := gr_cl6 hgrow (SCb.out.below ((Below.refl _ _).alloc (Nat.le_refl _) _)) (by simp [Value.ownBlock]; omega)
      have zwl1 := hgrow.size
      simp only [World.size_alloc] at zwl1
      have lwwl1 := Bwl1.out.size
      clear hown hgrow hnil hat B4 O4 NX SCb 
      go_wp2_with (first | (at_builtin; refine wpList_append_own_at _ rfl _ _ 24 rfl w.heap.size 36 iS _ 6 48 Try.underlying24 HIS.out.1 HIS.out.2.1 HIS.out.2.2.1 HIS.out.2.2.2 rfl (by decide) (.slice (some ⟨gwl1, 0, none⟩) (dl + 1) cwl1) (dl + 1) (ci lwl1) rfl Owl1.out ⟨g2, 0, none⟩ lx cc2 (ci xL) rfl (by rw [ci_len, Hlx.out]) (row_news6 NX_wl1.out) (ci_flat _) ?c3 ?c4 ?c5 ?_) | go_in)
      case c3 => unfold maxLen; omega
      case c4 => omega
      case c5 => exact Bwl1.out.size
      intro vwl2 wl2 hown hgrow hnil hat
      have Bwl2 : Hid (Below w.heap.size w wl2) := Bwl1.out.grown hgrow Bwl1.out.size (fun k hk => (Owl1.out.lt k hk).1)
      obtain ⟨gwl2, cwl2, rfl⟩ := row_at6 hown (by intro e; simp [e] at hnil)
      have hgwl2 : gwl2 = gwl1 ∨ gwl2 = wl1.heap.size := by simpa [Value.ownBlock] using hat
      obtain ⟨lwl2, hlwl2⟩ : ∃ y, (lwl1 ++ xL) = y := ⟨_, rfl⟩
      have HLwl2 : Hid ((lwl1 ++ xL) = lwl2) := hlwl2
      have Owl2 : Hid (wl2.ownsRow w.heap.size 36 6 (.slice (some ⟨gwl2, 0, none⟩) ((dl + 1) + lx) cwl2) ((dl + 1) + lx) (ci lwl2)) := (by rw [← hlwl2, ci_app]; exact hown : wl2.ownsRow w.heap.size 36 6 (.slice (some ⟨gwl2, 0, none⟩) ((dl + 1) + lx) cwl2) ((dl + 1) + lx) (ci lwl2))
      clear hlwl2
      have NX_wl2 : Hid (wl2.ownsRow u1.heap.size 36 6 (.slice (some ⟨g2, 0, none⟩) lx cc2) lx (ci xL)) := (row_grown6 NX_wl1.out hgrow (by simp [Value.ownBlock]; omega) : wl2.ownsRow u1.heap.size 36 6 (.slice (some ⟨g2, 0, none⟩) lx cc2) lx (ci xL))
      have SCwl2 : Hid (Cl wl2 sb [.int .i64 (L p).k, .int .i64 (L p).op, .int .i64 (L p).d, .int .i64 (L p).a, .int .i64 (L p).b, .int .i64 (L p).imm, .int .i64 (L p).h, .int .i64 (L p).cond, .int .i64 (L p).thn, .int .i64 (L p).els, .int .i64 (L p).proc]) := gr_cl6 hgrow SCwl1.out (by simp [Value.ownBlock]; omega)
      have zwl2 := hgrow.size
      have lwwl2 := Bwl2.out.size
      clear hown hgrow hnil hat Bwl1 Owl1 NX_wl1 SCwl1 
      go_wp2_with (first | (at_builtin; refine wpList_append_own_at _ rfl _ _ 24 rfl w.heap.size 36 iS _ 6 48 Try.underlying24 HIS.out.1 HIS.out.2.1 HIS.out.2.2.1 HIS.out.2.2.2 rfl (by decide) (.slice (some ⟨gwl2, 0, none⟩) ((dl + 1) + lx) cwl2) ((dl + 1) + lx) (ci lwl2) rfl (row_belowU Owl2.out ((Below.refl _ _).alloc (Nat.le_refl _) _)) ⟨wl2.heap.size, 0, none⟩ 1 1 [.int .i64 29, .int .i64 0, .int .i64 0, .int .i64 0, .int .i64 (he : Int), .int .i64 0] rfl rfl (cells_new6 _ _ _) (by rw [show ([.int .i64 29, .int .i64 0, .int .i64 0, .int .i64 0, .int .i64 (he : Int), .int .i64 0] : List Value) = inL (jmpV 29 (he : Int)) from rfl, ← ci_one]; exact ci_flat _) ?c3 ?c4 ?c5 ?_) | go_in)
      case c3 => unfold maxLen; omega
      case c4 => omega
      case c5 => simp; have := Bwl2.out.size; omega
      intro vwl3 wl3 hown hgrow hnil hat
      have Bwl3 : Hid (Below w.heap.size w wl3) := (Bwl2.out.alloc Bwl2.out.size _).grown hgrow (by simp; have := Bwl2.out.size; omega) (fun k hk => (Owl2.out.lt k hk).1)
      obtain ⟨gwl3, cwl3, rfl⟩ := row_at6 hown (by intro e; simp [e] at hnil)
      have hgwl3 : gwl3 = gwl2 ∨ gwl3 = wl2.heap.size + 1 := by simpa [Value.ownBlock] using hat
      obtain ⟨lwl3, hlwl3⟩ : ∃ y, (lwl2 ++ [(jmpV 29 (he : Int))]) = y := ⟨_, rfl⟩
      have HLwl3 : Hid ((lwl2 ++ [(jmpV 29 (he : Int))]) = lwl3) := hlwl3
      have Owl3 : Hid (wl3.ownsRow w.heap.size 36 6 (.slice (some ⟨gwl3, 0, none⟩) (((dl + 1) + lx) + 1) cwl3) (((dl + 1) + lx) + 1) (ci lwl3)) := (by rw [← hlwl3, ci_app, ci_one]; exact hown : wl3.ownsRow w.heap.size 36 6 (.slice (some ⟨gwl3, 0, none⟩) (((dl + 1) + lx) + 1) cwl3) (((dl + 1) + lx) + 1) (ci lwl3))
      clear hlwl3
      have NX_wl3 : Hid (wl3.ownsRow u1.heap.size 36 6 (.slice (some ⟨g2, 0, none⟩) lx cc2) lx (ci xL)) := (row_grown6 (row_belowU NX_wl2.out ((Below.refl _ _).alloc (Nat.le_refl _) _)) hgrow (by simp [Value.ownBlock]; omega) : wl3.ownsRow u1.heap.size 36 6 (.slice (some ⟨g2, 0, none⟩) lx cc2) lx (ci xL))
      have SCwl3 : Hid (Cl wl3 sb [.int .i64 (L p).k, .int .i64 (L p).op, .int .i64 (L p).d, .int .i64 (L p).a, .int .i64 (L p).b, .int .i64 (L p).imm, .int .i64 (L p).h, .int .i64 (L p).cond, .int .i64 (L p).thn, .int .i64 (L p).els, .int .i64 (L p).proc]) := gr_cl6 hgrow (SCwl2.out.below ((Below.refl _ _).alloc (Nat.le_refl _) _)) (by simp [Value.ownBlock]; omega)
      have zwl3 := hgrow.size
      simp only [World.size_alloc] at zwl3
      have lwwl3 := Bwl3.out.size
      clear hown hgrow hnil hat Bwl2 Owl2 NX_wl2 SCwl2 
      clear c0 c1 c2 c3 c4 c5 c6 c7 c8 c9 c10
      obtain ⟨c0, c1, c2, c3, c4, c5, c6, c7, c8, c9, c10⟩ := st_cl SCwl3.out
      rw [HA'.out.1] at c8
      rw [HB'.out.1, ee] at c9
      have slz := SCwl3.out.1
      go_wp2
      go_roundw
      case rel =>
        have hpp := HP.out
        have h2 := HHE.out
        refine ⟨j + 1 + a, gwl3, cwl3, dl + 1 + lx + 1, lwl3, by omega, by have := ee; go_num, rfl, by rw [← HLwl3.out, ← HLwl2.out, ← HLwl1.out]; simp only [List.length_append, List.length_cons, List.length_nil]; rw [HDL.out, Hlx.out], ?_, Owl3.out, Bwl3.out, ?_, ?_⟩
        · rw [show i + (j + 1 + a) = p + 1 + a by omega]; omega
        · rw [show i + (j + 1 + a) = p + 1 + a by omega, show at' + (dl + 1 + lx + 1) = he + 2 + lx by omega, ← HLwl3.out, ← HLwl2.out, ← HLwl1.out]; exact HD2.out
        · rw [show i + (j + 1 + a) = p + 1 + a by omega]; have h := HKC.out; rw [ee, Nat.add_zero] at h; exact h
      case measure => have hpp := HP.out; simp [intOf]; omega
    · obtain ⟨x0, x1⟩ := st_call HSOK.out hk
      omega
end Go.Proofs.Ytbnaegpjmiiihaa
