/- Units inlined: the program's word. -/
import Derived.Test.YthicfjjaehkcnaaAddBlock
import Derived.Test.YthicfjjaehkcnaaUnitCheck
namespace Go.Proofs.Ythicfjjaehkcnaa
open Go.RowKit
theorem addBlock_any (w0 : World) (B : Nat → List SV) (L : Nat → SV) (bb np cb : Nat) (bv : Nat → Value) (me deep : Int) (S : Nat → Prop) (hB : At w0 bb 0 np bv) : ∀ (m i te : Nat) (depth : Int) (tv : Value), RepN L m w0 S tv i te → i ≤ te → te ≤ 2000 → (chk L me (np : Int) deep i te depth).1 = 0 →
    (∀ p, i ≤ p → p < te → (L p).k = 4 → w0.ownsRow 0 62 11 (bv (L p).proc.toNat) (B (L p).proc.toNat).length (cs (B (L p).proc.toNat))) → AddC w0 B L bb np cb i te tv := by
  intro m
  induction m with
  | zero =>
    intro i te depth tv hr hit hte hck hV
    obtain ⟨h1, rfl⟩ := hr
    obtain rfl : i = te := by omega
    exact addBlock_go w0 B L bb np cb bv me deep 0 i i depth (.slice none 0 0) S ⟨[], ⟨World.ownsRow_nil _ _ _ _, fun b h => by cases h⟩, by rw [tops_end (by omega)]; rfl, fun k x p h => by simp at h⟩ hit hte hck hB hV (fun i' te' d v h1 h2 h3 => by omega)
  | succ m ih =>
    intro i te depth tv hr hit hte hck hV
    exact addBlock_go w0 B L bb np cb bv me deep m i te depth tv S hr hit hte hck hB hV (fun i' te' d v h1 h2 h3 h4 h5 => ih i' te' d v h5 h2 (by omega) h4 (fun p h6 h7 => hV p (by omega) (by omega)))
theorem info_stmtS : (Try.prog.info? 32).map (fun i => (i.zero, i.size, i.bytes)) = some (some (.slice none 0 0), 1, 24) := by kernel_rfl
/-- Where impl.Inline stands: what it looks at. -/
structure IP (w u : World) (ub g cz zb bb np : Nat) (Pv : Nat → PV) (vs : Nat → Value) : Prop where
  l0 : w.heap.size ≤ bb
  l1 : ub < bb
  l2 : g < bb
  l3 : zb < bb
  bel : Below w.heap.size w u
  U : Cl u ub [.int .i64 0, .int .i64 0, .int .i64 0, .slice (some ⟨g, 0, none⟩) np cz, .slice (some ⟨zb, 0, none⟩) np np]
  G : At u g 0 np vs
  Z : Arr u zb np (zF (pz Pv np np))
  R : ∀ i, i < np → RepN (Pv i).L ((Pv i).n + 1) u (fun b => b < bb) (vs i) 0 (Pv i).n
theorem IP.kept {w u v : World} {ub g cz zb bb np : Nat} {Pv : Nat → PV} {vs : Nat → Value} (p : IP w u ub g cz zb bb np Pv vs) (h : Below bb u v) : IP w v ub g cz zb bb np Pv vs :=
  ⟨p.l0, p.l1, p.l2, p.l3, p.bel.trans (h.mono p.l0), ⟨Nat.lt_of_lt_of_le p.U.1 h.size, fun i hi => (h.cell (p := ⟨ub, i, none⟩) p.l1).trans (p.U.2 i hi)⟩, p.G.below h p.l2, p.Z.below h p.l3, fun i hi => (p.R i hi).kept (fun _ h => h) (fun b hb _ => h.block b hb)⟩
/-- The bodies of the last k procedures that are not too long. -/
def BV (u : World) (bb np k : Nat) (Pv : Nat → PV) (bv : Nat → Value) : Prop :=
  Arr u bb np bv ∧ ∀ x, np - k ≤ x → x < np → Zd Pv np x < 2000 → u.ownsRow (bb + 1) 62 11 (bv x) (Bd Pv np x).length (cs (Bd Pv np x))
theorem BV.next {u v : World} {bb np k x : Nat} {Pv : Nat → PV} {bv : Nat → Value} {nv : Value} (h : BV u bb np k Pv bv) (hk : k < np) (hx : x = np - 1 - k) (hb : Below u.heap.size u v) (ho : Zd Pv np x < 2000 → v.ownsRow (bb + 1) 62 11 nv (Bd Pv np x).length (cs (Bd Pv np x))) :
    BV (v.setCell ⟨bb, x, none⟩ nv) bb np (k + 1) Pv (fun i => if i = x then nv else bv i) := by
  have hrow : ∀ {e n : Nat} {y : Value} {l : List Value}, v.ownsRow (bb + 1) e 11 y n l → (v.setCell ⟨bb, x, none⟩ nv).ownsRow (bb + 1) e 11 y n l := fun h => ownsRow_setCell_below h (by show bb < _; omega) _
  refine ⟨(h.1.below hb h.1.lt).setU x (by omega) nv, fun y h1 h2 h3 => ?_⟩
  by_cases e : y = x
  · subst e
    simp only [if_true]
    exact hrow (ho h3)
  · simp only [if_neg e]
    exact hrow (row_belowU (h.2 y (by omega) h2 h3) hb)
theorem BV.skip {u : World} {bb np k x : Nat} {Pv : Nat → PV} {bv : Nat → Value} (h : BV u bb np k Pv bv) (hx : x = np - 1 - k) (hz : ¬ Zd Pv np x < 2000) : BV u bb np (k + 1) Pv bv :=
  ⟨h.1, fun y h1 h2 h3 => by
    by_cases e : y = x
    · subst e; exact absurd h3 hz
    · exact h.2 y (by omega) h2 h3⟩

set_option maxRecDepth 20000 in
set_option maxHeartbeats 16000000 in
theorem implInline_any (bp np cap : Nat) (Pv : Nat → PV) (blk : Nat → Nat) (w : World) (ln : np ≤ 1048576) (lb : ∀ i, i < np → (Pv i).n ≤ 1048576) (h : PCp w bp np Pv blk) :
    Calls Try.prog 12 #[.slice (some ⟨bp, 0, none⟩) np cap] w fun e w' => ∃ v, e = .returned v ∧ w'.ownsRow w.heap.size 62 11 v (inlR Pv np).length (cs (inlR Pv np)) ∧ Below w.heap.size w w' := by
  have H : Hid (PCp w bp np Pv blk) := h
  have LB : Hid (∀ i, i < np → (Pv i).n ≤ 1048576) := lb
  clear h lb
  obtain ⟨out, hout⟩ : ∃ x, inlR Pv np = x := ⟨_, rfl⟩
  rw [hout]
  have HOUT : Hid (inlR Pv np = out) := hout
  clear hout
  go_enter Try.func12, Try.ntmps12
  go_wp2_with fail
  refine (checkUnit_any bp np cap Pv blk w ln LB.out H.out).mono ?_
  rintro e w1 ⟨aot, kt, ct, aoz, kz, cz', rfl, hb1, hok⟩
  obtain ⟨res, hres⟩ : ∃ x, unitR Pv np = x := ⟨_, rfl⟩
  rw [hres] at hok ⊢
  have HR : Hid (unitR Pv np = res) := hres
  have B1 : Hid (Below w.heap.size w w1) := hb1
  have OK : Hid (res.1 = 0 → UOK w w1 Pv np (.slice aot kt ct) (.slice aoz kz cz')) := hok
  clear hb1 hres hok
  obtain ⟨x, y, z⟩ := res
  have lw1 := B1.out.size
  by_cases hx : x = 0
  rotate_left
  · have ex : (x != 0) = true := by simp [hx]
    have ho : out = [] := by rw [← HOUT.out, inlR, if_pos (by rw [HR.out]; exact hx)]
    subst ho
    clear hx OK
    go_wp2
    go_ret
    refine ⟨.slice (some ⟨w1.heap.size + 1, 0, none⟩) 0 0, rfl, ?_, (B1.out.alloc lw1 _).alloc (by simp; omega) _⟩
    have h := World.ownsRow_lit (base := w.heap.size) (e := 62) (size := 11) (w1.alloc (.cells #[.int .i64 x, .int .i64 y, .int .i64 z, .slice aot kt ct, .slice aoz kz cz'] 50)) #[] 0 (by simp; omega) (by unfold maxLen; omega) rfl
    rw [World.size_alloc] at h
    exact h
  subst hx
  have GD : Hid (UGood Pv np) := unit_good (by rw [HR.out])
  have n1 : 1 ≤ np := GD.out.n1
  have n20 : np ≤ 20 := GD.out.n20
  have ho : out = Bd Pv np 0 := by rw [← HOUT.out, inlR, if_neg (by rw [HR.out]; simp)]
  subst ho
  obtain ⟨g, ct2, zb, ht, hzv, q1, q2, q3, hZ, vs, hG, hRp⟩ := OK.out rfl
  rw [ht, hzv]
  clear ht hzv OK
  have hy0 : y = 0 ∧ z = 0 := by
    have h := HR.out
    unfold unitR at h
    split at h
    · simp at h
    · split at h
      · next h1 => rw [h] at h1; simp at h1
      · split at h <;> simp at h <;> omega
  obtain ⟨rfl, rfl⟩ := hy0
  go_upto_region 4 with fail
  obtain ⟨u, hu, hbu, hcu⟩ : ∃ x, w1.alloc (.cells #[.int .i64 0, .int .i64 0, .int .i64 0, .slice (some ⟨g, 0, none⟩) np ct2, .slice (some ⟨zb, 0, none⟩) np np] 50) = x ∧ Below w1.heap.size w1 x ∧ Cl x w1.heap.size [.int .i64 0, .int .i64 0, .int .i64 0, .slice (some ⟨g, 0, none⟩) np ct2, .slice (some ⟨zb, 0, none⟩) np np] := ⟨_, rfl, (Below.refl _ _).alloc (Nat.le_refl _) _, Cl.new⟩
  rw [hu]
  have lgw : g < w1.heap.size := hG.1
  have lzw : zb < w1.heap.size := hZ.1
  have P0 : Hid (∀ v bb, u.heap.size ≤ bb → Below u.heap.size u v → IP w v w1.heap.size g ct2 zb bb np Pv vs) := fun v bb hbb hv => by
    have zu := hbu.size
    have zc := hcu.1
    exact ⟨by omega, by omega, by omega, by omega, (B1.out.trans (hbu.mono lw1)).trans (hv.mono (by omega)), hcu.below hv, (hG.below hbu lgw).below hv (by omega), (hZ.below hbu lzw).below hv (by omega), fun i hi => ((hRp i hi).below hbu).kept2 (fun b _ h => by omega) (fun b _ h => hv.block b h)⟩
  have zu := hbu.size
  have zc := hcu.1
  clear hu hbu hcu hG hZ hRp
  obtain ⟨iS, gS, gS0, gS1, gS2⟩ := info_parts info_stmtS
  have HIS : Hid (_ ∧ _ ∧ _ ∧ _) := ⟨gS, gS0, gS1, gS2⟩
  clear gS gS0 gS1 gS2
  go_wp2_with (first | (at_make; refine wpList_make_full _ rfl _ _ 54 rfl u.heap.size 32 iS _ 1 Try.underlying54 HIS.out.1 HIS.out.2.1 HIS.out.2.2.1 .i64 .i64 _ _ np rfl rfl ?c1 ?c2 ?c3 ?c4 ?c5 ?_) | go_in)
  case c1 => rfl
  case c2 => rfl
  case c3 => rw [HIS.out.2.2.2]; omega
  case c4 => unfold maxLen; omega
  case c5 => exact Nat.le_refl _
  intro w2 hown hgrow
  have hbel : Below u.heap.size u w2 := (Below.refl _ _).grown hgrow (Nat.le_refl _) (by intro k hk; cases hk)
  have harr : Arr w2 u.heap.size np (fun _ => .slice none 0 0) := by
    have := Arr.made (z := fun _ => .slice none 0 0) hown fun i hi => by rw [made_get _ _ _ (show i < np by omega)]; exact congrArg some (show (#[Value.slice none 0 0] : Array Value)[i % 1]! = _ by rw [Nat.mod_one]; rfl)
    rw [Nat.mul_one] at this
    exact this
  have P1 : Hid (IP w w2 w1.heap.size g ct2 zb u.heap.size np Pv vs) := P0.out w2 _ (Nat.le_refl _) hbel
  have V1 : Hid (BV w2 u.heap.size np 0 Pv (fun _ => .slice none 0 0)) := ⟨harr, fun x h1 h2 => by omega⟩
  clear hown hgrow hbel harr P0
  generalize w1.heap.size = ub at *
  generalize u.heap.size = bb at *
  go_wp2
  go_loopw [5] (fun iv wr => ∃ (k : Nat) (bv : Nat → Value), k ≤ np ∧ iv = .int .i64 ((np : Int) - 1 - (k : Int)) ∧ IP w wr ub g ct2 zb bb np Pv vs ∧ BV wr bb np k Pv bv) (fun iv _ => ((intOf iv) + 1).toNat)
  case atStart => exact ⟨0, _, Nat.zero_le _, by simp, P1.out, V1.out⟩
  case round =>
    obtain ⟨k, bv, hk, rfl, hp, hv⟩ := hrel
    have P2 : Hid (IP w wr ub g ct2 zb bb np Pv vs) := hp
    have V2 : Hid (BV wr bb np k Pv bv) := hv
    have lbb := hv.1.lt
    clear hp hv P1 V1
    by_cases hlt : k < np
    rotate_left
    · obtain rfl : k = np := by omega
      have hneg : ¬ ((k : Int) - 1 - (k : Int)) ≥ 0 := by omega
      have ho := V2.out.2 0 (by omega) (by omega) GD.out.z
      obtain ⟨aoo, ko, co, hvo⟩ := row_slice ho
      have c0 : wr.cell? ⟨bb, 0, none⟩ = some (.slice aoo ko co) := hvo ▸ V2.out.1.cell (i := 0) (by omega)
      have OO : Hid (wr.ownsRow w.heap.size 62 11 (.slice aoo ko co) (Bd Pv k 0).length (cs (Bd Pv k 0))) := (by rw [← hvo]; exact ho.mono (by have := P2.out.l0; omega) : wr.ownsRow w.heap.size 62 11 (.slice aoo ko co) (Bd Pv k 0).length (cs (Bd Pv k 0)))
      have hk0 : (0 : Int) < (k : Int) := by omega
      clear ho hvo
      go_wp2
      go_ret
      exact ⟨_, rfl, OO.out, P2.out.bel⟩
    obtain ⟨x, hx⟩ : ∃ x : Nat, x = np - 1 - k := ⟨_, rfl⟩
    have hxi : (np : Int) - 1 - (k : Int) = (x : Int) := by omega
    rw [hxi]
    have hxq : x < np := by omega
    have hxq' : (x : Int) < (np : Int) := by omega
    have hx0 : (x : Int) ≥ 0 := by omega
    have HXX : Hid (x = np - 1 - k) := hx
    have HXI : Hid ((np : Int) - 1 - (k : Int) = (x : Int)) := hxi
    clear hx hxi
    have y3 : wr.cell? ⟨ub, 3, none⟩ = some (.slice (some ⟨g, 0, none⟩) np ct2) := P2.out.U.2 3 (by simp)
    have y4 : wr.cell? ⟨ub, 4, none⟩ = some (.slice (some ⟨zb, 0, none⟩) np np) := P2.out.U.2 4 (by simp)
    have yl := P2.out.U.1
    obtain ⟨zx, hzx⟩ : ∃ y, Zd Pv np x = y := ⟨_, rfl⟩
    have HZX : Hid (Zd Pv np x = zx) := hzx
    have yz : wr.cell? ⟨zb, x, none⟩ = some (.int .i64 zx) := hzx ▸ P2.out.Z.cell hxq
    have yg : wr.cell? ⟨g, x, none⟩ = some (vs x) := by have := P2.out.G.cell hxq; rwa [Nat.zero_add] at this
    have lz := P2.out.Z.lt
    have lg := P2.out.G.lt
    clear hzx
    by_cases hz : zx < 2000
    rotate_left
    · have V3 : Hid (BV wr bb np (k + 1) Pv bv) := V2.out.skip HXX.out (by rw [HZX.out]; exact hz)
      have hz' : ¬ zx < 2000 := hz
      go_wp2
      go_roundw
      case rel => exact ⟨k + 1, bv, by omega, by have := HXI.out; rw [show (np : Int) - 1 - ((k + 1 : Nat) : Int) = (x : Int) - 1 by omega], P2.out, V3.out⟩
      case measure => simp [intOf]
    · have HZ : Hid (Zd Pv np x < 2000) := (by rw [HZX.out]; exact hz : Zd Pv np x < 2000)
      go_wp2_with fail
      obtain ⟨hn5, hck⟩ := GD.out.c x hxq
      have hc := addBlock_any wr (Bd Pv np) (Pv x).L bb np np bv (x : Int) 16 (fun b => b < bb) V2.out.1.at ((Pv x).n + 1) 0 (Pv x).n 0 (vs x) (P2.out.R x hxq) (Nat.zero_le _) (by omega) hck (fun p _ hp k4 => by
        obtain ⟨c1, c2, c3⟩ := GD.out.calls hxq hp k4
        exact (V2.out.2 _ (by have := HXX.out; omega) c2 (GD.out.small hxq HZ.out hp k4)).mono (Nat.zero_le _)) wr (.slice none 0 0) [] (Below.refl _ _) (World.ownsRow_nil _ _ _ _) (by
          have h := GD.out.part hxq HZ.out (Nat.zero_le (Pv x).n) (Nat.le_refl _)
          simp; omega)
      rw [List.nil_append, ← GD.out.body hxq] at hc
      refine hc.mono ?_
      rintro e w3 ⟨v3, rfl, ho3, hg3, _⟩
      have hb3 : Below wr.heap.size wr w3 := (Below.refl _ _).grown hg3 (Nat.le_refl _) (by intro k hk; cases hk)
      have V3 : Hid (BV (w3.setCell ⟨bb, x, none⟩ v3) bb np (k + 1) Pv (fun i => if i = x then v3 else bv i)) := V2.out.next hlt HXX.out hb3 (fun _ => ho3.mono (by omega))
      have P3 : Hid (IP w (w3.setCell ⟨bb, x, none⟩ v3) ub g ct2 zb bb np Pv vs) := P2.out.kept ((show Below bb wr w3 from hb3.mono (by omega)).setCell (p := ⟨bb, x, none⟩) (Nat.le_refl _) _)
      have cx : w3.cell? ⟨bb, x, none⟩ = some (bv x) := (hb3.cell (p := ⟨bb, x, none⟩) lbb).trans (V2.out.1.cell hxq)
      have fx : ∀ i, w3.frozen? ⟨bb, i, none⟩ = false := fun i => (hb3.frozen (p := ⟨bb, i, none⟩) lbb).trans (V2.out.1.free i)
      have lx : bb < w3.heap.size := Nat.lt_of_lt_of_le lbb hb3.size
      obtain ⟨ao3, k3, c3, rfl⟩ := row_slice ho3
      clear hc ho3 hg3 hb3 hn5 hck y3 y4 yl yz yg lz lg
      go_wp2
      go_roundw
      case rel => exact ⟨k + 1, _, by omega, by have := HXI.out; rw [show (np : Int) - 1 - ((k + 1 : Nat) : Int) = (x : Int) - 1 by omega], P3.out, V3.out⟩
      case measure => simp [intOf]
end Go.Proofs.Ythicfjjaehkcnaa
