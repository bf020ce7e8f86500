import Derived.Test.YtplnpgohdgialaaFu7d
/- Drawn procedures. -/
namespace Go.Proofs.Ytplnpgohdgialaa
open Go.RowKit Go.Deep
/-- Drawn procedures, in memory that is new since w. -/
def InR (w : World) (e : Ending) (w' : World) : Prop :=
  ∃ (g cg : Nat) (ps : List BD), e = .returned (.slice (some ⟨g, 0, none⟩) ps.length cg) ∧ 1 ≤ ps.length ∧ ps.length ≤ 100 ∧ w'.ownsRow w.heap.size 35 1 (.slice (some ⟨g, 0, none⟩) ps.length cg) ps.length (ps.map BD.v) ∧ PW w' w.heap.size 100000 ps ∧ Below w.heap.size w w'
theorem inR_of {w w1 w2 u : World} {p n cap g cg : Nat} {ao : Option Addr} {ps : List BD} (h : QX w2 p ao n cap g cg ps u) (hl1 : 1 ≤ ps.length) (hl2 : ps.length ≤ 100) (B1 : Below w.heap.size w w1) (lp : w.heap.size ≤ p) (F2 : Fw p w1 w2) : InR w (.returned (.slice (some ⟨g, 0, none⟩) ps.length cg)) u :=
  have hs : w.heap.size ≤ w2.heap.size := Nat.le_trans B1.size F2.size
  ⟨g, cg, ps, rfl, hl1, hl2, row_down h.row hs, fun b hb => ⟨row_down (h.pw b hb).1 hs, (h.pw b hb).2⟩, (F2.trans h.F).below B1 lp B1.size⟩

set_option maxHeartbeats 4000000 in
theorem drawInline_any (ao : Option Addr) (n cap : Nat) (w : World) (hn : n ≤ 1048576) (hr : Bytes0 w w.heap.size ao n) :
    Calls Try.prog 4 #[.slice ao n cap] w (InR w) := by
  have HR : Hid (Bytes0 w w.heap.size ao n) := hr
  clear hr
  go_enter Try.func4, Try.ntmps4
  go_wp2_with fail
  refine (l1New_any ao n cap w hn HR.out).mono ?_
  rintro e w1 ⟨p, rfl, lp, hb1, c1⟩
  have B1 : Hid (Below w.heap.size w w1) := hb1
  have K1 : Hid (Cur w1 p ao n cap) := c1
  clear hb1 c1
  go_wp2_with fail
  refine (l4DrawSig_any p ao n cap _ K1.out).mono ?_
  rintro e w2 ⟨bH, cH, nH, S, bR, cR, V0, rfl, n1, n4, sc, sok, lH, lR, f, c⟩
  have F2 : Hid (Fw p w1 w2) := f
  have K2 : Hid (Cur w2 p ao n cap) := c
  have SG : Hid (SigCp w2 bH nH S bR 8 V0 ∧ sigOK nH S 8 V0 = true ∧ bH ≠ p ∧ bR ≠ p) := ⟨sc, sok, by have := K1.out.lt; omega, by have := K1.out.lt; omega⟩
  clear f c sc sok lH lR n1 n4
  go_wp2_with fail
  refine (l5DrawProcs_any p ao n cap bH cH nH S bR cR V0 _ K2.out SG.out.1 SG.out.2.1 SG.out.2.2.1 SG.out.2.2.2).mono ?_
  rintro e w3 ⟨g, cg, ps, rfl, l1, l3, ro, pw, f, c⟩
  have Q3 : Hid (QX w2 p ao n cap g cg ps w3) := ⟨f, c, ro, fun b hb => ⟨(pw b hb).1, Nat.le_trans (pw b hb).2 (by omega)⟩, K2.out.lt⟩
  have HS3 : Hid (∀ b ∈ ps, b.xs.length ≤ 9330) := fun b hb => (pw b hb).2
  clear f c ro pw SG
  go_wp2_with fail
  refine (l1Once_any p ao n cap 12 _ (by omega) Q3.out.K).mono ?_
  rintro e w4 ⟨z, rfl, f, c⟩
  have Q4 : Hid (QX w2 p ao n cap g cg ps w4) := Q3.out.fw f c
  clear f c Q3
  cases z with
  | false =>
    go_wp2_with fail
    go_ret
    exact inR_of Q4.out l1 (by omega) B1.out lp F2.out
  | true =>
    go_wp2_with fail
    refine (l5SpoilProcs_any w2 p ao n cap g cg ps _ l1 l3 HS3.out Q4.out).mono ?_
    rintro e w5 ⟨g', cg', ps', rfl, l1', l2', q5⟩
    have Q5 : Hid (QX w2 p ao n cap g' cg' ps' w5) := q5
    clear q5
    go_wp2_with fail
    go_ret
    exact inR_of Q5.out l1' l2' B1.out lp F2.out
end Go.Proofs.Ytplnpgohdgialaa
/- Lists of statements compared; drawn procedures as the laws want them. -/
namespace Go.Proofs.Ytplnpgohdgialaa
open Go.RowKit Go.Deep

set_option maxRecDepth 20000 in
set_option maxHeartbeats 8000000 in
theorem lwStmts_same (b len cap b' cap' : Nat) (L : Nat → SV) (w : World) (hlen : len ≤ 1048576) (hat : Arr w b (len * 11) (stF L)) (hat' : Arr w b' (len * 11) (stF L)) :
    Calls Try.prog 8 #[.slice (some ⟨b, 0, none⟩) len cap, .slice (some ⟨b', 0, none⟩) len cap'] w fun e w' => e = .returned (.bool true) ∧ Below w.heap.size w w' := by
  have hb := hat.lt
  have hb' := hat'.lt
  have HA : Hid (Arr w b (len * 11) (stF L)) := hat
  have HA' : Hid (Arr w b' (len * 11) (stF L)) := hat'
  clear hat hat'
  go_enter Try.func8, Try.ntmps8
  go_wp2
  go_loopw [5] (fun i wr => ∃ k : Nat, k ≤ len ∧ i = .int .i64 k ∧ Below w.heap.size w wr) (fun i _ => len - (intOf i).toNat)
  case atStart => exact ⟨0, Nat.zero_le _, rfl, Below.refl _ _⟩
  case round =>
    obtain ⟨k, hk, rfl, hbr⟩ := hrel
    have HBR : Hid (Below w.heap.size w wr) := hbr
    by_cases hlt : k < len
    · have hlt' : (k : Int) < (len : Int) := by omega
      have g0 : wr.cell? ⟨b, k * 11, none⟩ = some (.int .i64 (L k).k) := (hbr.cell (p := ⟨b, k * 11, none⟩) hb).trans ((HA.out.cell (i := k * 11 + 0) (by omega)).trans (congrArg some (stF_at L k 0 (by omega))))
      have g1 : wr.cell? ⟨b, k * 11 + 1, none⟩ = some (.int .i64 (L k).op) := (hbr.cell (p := ⟨b, k * 11 + 1, none⟩) hb).trans ((HA.out.cell (i := k * 11 + 1) (by omega)).trans (congrArg some (stF_at L k 1 (by omega))))
      have g2 : wr.cell? ⟨b, k * 11 + 2, none⟩ = some (.int .i64 (L k).d) := (hbr.cell (p := ⟨b, k * 11 + 2, none⟩) hb).trans ((HA.out.cell (i := k * 11 + 2) (by omega)).trans (congrArg some (stF_at L k 2 (by omega))))
      have g3 : wr.cell? ⟨b, k * 11 + 3, none⟩ = some (.int .i64 (L k).a) := (hbr.cell (p := ⟨b, k * 11 + 3, none⟩) hb).trans ((HA.out.cell (i := k * 11 + 3) (by omega)).trans (congrArg some (stF_at L k 3 (by omega))))
      have g4 : wr.cell? ⟨b, k * 11 + 4, none⟩ = some (.int .i64 (L k).b) := (hbr.cell (p := ⟨b, k * 11 + 4, none⟩) hb).trans ((HA.out.cell (i := k * 11 + 4) (by omega)).trans (congrArg some (stF_at L k 4 (by omega))))
      have g5 : wr.cell? ⟨b, k * 11 + 5, none⟩ = some (.int .i64 (L k).imm) := (hbr.cell (p := ⟨b, k * 11 + 5, none⟩) hb).trans ((HA.out.cell (i := k * 11 + 5) (by omega)).trans (congrArg some (stF_at L k 5 (by omega))))
      have g6 : wr.cell? ⟨b, k * 11 + 6, none⟩ = some (.int .i64 (L k).h) := (hbr.cell (p := ⟨b, k * 11 + 6, none⟩) hb).trans ((HA.out.cell (i := k * 11 + 6) (by omega)).trans (congrArg some (stF_at L k 6 (by omega))))
      have g7 : wr.cell? ⟨b, k * 11 + 7, none⟩ = some (.int .i64 (L k).cond) := (hbr.cell (p := ⟨b, k * 11 + 7, none⟩) hb).trans ((HA.out.cell (i := k * 11 + 7) (by omega)).trans (congrArg some (stF_at L k 7 (by omega))))
      have g8 : wr.cell? ⟨b, k * 11 + 8, none⟩ = some (.int .i64 (L k).thn) := (hbr.cell (p := ⟨b, k * 11 + 8, none⟩) hb).trans ((HA.out.cell (i := k * 11 + 8) (by omega)).trans (congrArg some (stF_at L k 8 (by omega))))
      have g9 : wr.cell? ⟨b, k * 11 + 9, none⟩ = some (.int .i64 (L k).els) := (hbr.cell (p := ⟨b, k * 11 + 9, none⟩) hb).trans ((HA.out.cell (i := k * 11 + 9) (by omega)).trans (congrArg some (stF_at L k 9 (by omega))))
      have g10 : wr.cell? ⟨b, k * 11 + 10, none⟩ = some (.int .i64 (L k).proc) := (hbr.cell (p := ⟨b, k * 11 + 10, none⟩) hb).trans ((HA.out.cell (i := k * 11 + 10) (by omega)).trans (congrArg some (stF_at L k 10 (by omega))))
      have q0 : wr.cell? ⟨b', k * 11, none⟩ = some (.int .i64 (L k).k) := (hbr.cell (p := ⟨b', k * 11, none⟩) hb').trans ((HA'.out.cell (i := k * 11 + 0) (by omega)).trans (congrArg some (stF_at L k 0 (by omega))))
      have q1 : wr.cell? ⟨b', k * 11 + 1, none⟩ = some (.int .i64 (L k).op) := (hbr.cell (p := ⟨b', k * 11 + 1, none⟩) hb').trans ((HA'.out.cell (i := k * 11 + 1) (by omega)).trans (congrArg some (stF_at L k 1 (by omega))))
      have q2 : wr.cell? ⟨b', k * 11 + 2, none⟩ = some (.int .i64 (L k).d) := (hbr.cell (p := ⟨b', k * 11 + 2, none⟩) hb').trans ((HA'.out.cell (i := k * 11 + 2) (by omega)).trans (congrArg some (stF_at L k 2 (by omega))))
      have q3 : wr.cell? ⟨b', k * 11 + 3, none⟩ = some (.int .i64 (L k).a) := (hbr.cell (p := ⟨b', k * 11 + 3, none⟩) hb').trans ((HA'.out.cell (i := k * 11 + 3) (by omega)).trans (congrArg some (stF_at L k 3 (by omega))))
      have q4 : wr.cell? ⟨b', k * 11 + 4, none⟩ = some (.int .i64 (L k).b) := (hbr.cell (p := ⟨b', k * 11 + 4, none⟩) hb').trans ((HA'.out.cell (i := k * 11 + 4) (by omega)).trans (congrArg some (stF_at L k 4 (by omega))))
      have q5 : wr.cell? ⟨b', k * 11 + 5, none⟩ = some (.int .i64 (L k).imm) := (hbr.cell (p := ⟨b', k * 11 + 5, none⟩) hb').trans ((HA'.out.cell (i := k * 11 + 5) (by omega)).trans (congrArg some (stF_at L k 5 (by omega))))
      have q6 : wr.cell? ⟨b', k * 11 + 6, none⟩ = some (.int .i64 (L k).h) := (hbr.cell (p := ⟨b', k * 11 + 6, none⟩) hb').trans ((HA'.out.cell (i := k * 11 + 6) (by omega)).trans (congrArg some (stF_at L k 6 (by omega))))
      have q7 : wr.cell? ⟨b', k * 11 + 7, none⟩ = some (.int .i64 (L k).cond) := (hbr.cell (p := ⟨b', k * 11 + 7, none⟩) hb').trans ((HA'.out.cell (i := k * 11 + 7) (by omega)).trans (congrArg some (stF_at L k 7 (by omega))))
      have q8 : wr.cell? ⟨b', k * 11 + 8, none⟩ = some (.int .i64 (L k).thn) := (hbr.cell (p := ⟨b', k * 11 + 8, none⟩) hb').trans ((HA'.out.cell (i := k * 11 + 8) (by omega)).trans (congrArg some (stF_at L k 8 (by omega))))
      have q9 : wr.cell? ⟨b', k * 11 + 9, none⟩ = some (.int .i64 (L k).els) := (hbr.cell (p := ⟨b', k * 11 + 9, none⟩) hb').trans ((HA'.out.cell (i := k * 11 + 9) (by omega)).trans (congrArg some (stF_at L k 9 (by omega))))
      have q10 : wr.cell? ⟨b', k * 11 + 10, none⟩ = some (.int .i64 (L k).proc) := (hbr.cell (p := ⟨b', k * 11 + 10, none⟩) hb').trans ((HA'.out.cell (i := k * 11 + 10) (by omega)).trans (congrArg some (stF_at L k 10 (by omega))))
      go_wp2_with fail
      go_quiet (fail)
      clear g0 g1 g2 g3 g4 g5 g6 g7 g8 g9 g10 q0 q1 q2 q3 q4 q5 q6 q7 q8 q9 q10
      go_wp2
      go_roundw
      case rel => exact ⟨k + 1, by omega, by go_num, HBR.out.trans (below_drewN (Below.refl _ _) _)⟩
      case measure => simp [intOf]; omega
    · go_wp2
      go_ret
      exact ⟨rfl, hbr⟩
set_option maxHeartbeats 400000 in
theorem lwStmts_nil (ao ao' : Option Addr) (cap cap' : Nat) (w : World) :
    Calls Try.prog 8 #[.slice ao 0 cap, .slice ao' 0 cap'] w fun e w' => e = .returned (.bool true) ∧ Below w.heap.size w w' := by
  go_enter Try.func8, Try.ntmps8
  go_wp2
  refine wp_loop_rounds 1 ?_
  rw [rounds_succ]
  go_wp2
  go_ret
  exact ⟨rfl, Below.refl _ _⟩

def bd0 : BD := ⟨0, 0, []⟩
/-- Procedures as the mathematics has them. -/
def pvOf (ps : List BD) (i : Nat) : PV := ⟨(ps.getD i bd0).xs.length, fun j => (ps.getD i bd0).xs.getD j sv0, (ps.getD i bd0).c⟩
def blkOf (ps : List BD) (i : Nat) : Nat := (ps.getD i bd0).g
theorem row_arrS {w : World} {base e g c : Nat} {xs : List SV} (h : w.ownsRow base e 11 (.slice (some ⟨g, 0, none⟩) xs.length c) xs.length (cs xs)) : Arr w g (xs.length * 11) (stF (fun i => xs.getD i sv0)) :=
  ⟨(h.lt g rfl).2, fun i => h.frozenAt i, fun i hi => by rw [h.cellAt i (by omega)]; exact cs_get xs sv0 i hi⟩
theorem pcp_of {B g cg : Nat} {ps : List BD} {u : World} (h : u.ownsRow B 35 1 (.slice (some ⟨g, 0, none⟩) ps.length cg) ps.length (ps.map BD.v)) (hp : PW u B 100000 ps) : PCp u g ps.length (pvOf ps) (blkOf ps) ∧ ∀ i, i < ps.length → (pvOf ps i).n ≤ 1048576 := by
  have mem : ∀ i, i < ps.length → ps.getD i bd0 ∈ ps := fun i hi => by
    rw [List.getD_eq_getElem?_getD, List.getElem?_eq_getElem hi]
    exact List.getElem_mem hi
  refine ⟨⟨⟨(h.lt g rfl).2, fun i => h.frozenAt i, fun i hi => ?_⟩, fun i hi => row_arrS (hp _ (mem i hi)).1, fun i hi => row_cap (hp _ (mem i hi)).1⟩, fun i hi => Nat.le_trans (hp _ (mem i hi)).2 (by omega)⟩
  rw [h.cellAt i (by omega), List.getElem?_map, List.getElem?_eq_getElem hi]
  show some (BD.v ps[i]) = some (BD.v (ps.getD i bd0))
  rw [List.getD_eq_getElem?_getD, List.getElem?_eq_getElem hi]
  rfl
end Go.Proofs.Ytplnpgohdgialaa
