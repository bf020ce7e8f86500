import Derived.Test.YtcgcldokompafaaGreatDoorOfCkFacts
import Derived.Maps.Own
import Derived.Test.YtcgcldokompafaaGreatDoorOfTransAcc
import Derived.Deep.RegionHeld3
/- The heads that were seen: a map that says what came of a round. -/
namespace Go.Proofs.YtcgcldokompafaaGreatDoor
open Go.RowKit Go.ChangeMaps Go.MapKept
open Go.WideElems (Fit rg)
def eL (F : FS) (k : Int) : List Value := first 50 (fF F.V F.z F.c) ++ [.int .i64 k]
def rE : Value -> Option (DataW Unit × List MemPlace) := fun _ => some (.lit (.bool true), [])
def MapI (G : SG) (L : Nat -> SV) (u : World) (mb : Nat) (n : Int) : Prop :=
 ∃ es clock, u.heap[mb]? = some (.map es clock) /\ Fit Tryz.prog 198 rE es clock /\ (es.size : Int) <= n /\ ∀ x ∈ es.toList, ∃ (p : Nat) (F B : FS) (k : Int), x.key = .agg (kL p F).toArray /\ x.val = .agg (eL B k).toArray /\ Memo G L p F B k
theorem zero_end (w : World) : (zeroValue 200).run Tryz.prog w = .ok (.agg (eL zFS 0).toArray) w := by kernel_rfl
section
variable {G : SG} {L : Nat -> SV} {u u' : World} {mb p : Nat} {n k : Int} {F B : FS}
theorem MapI.made (w : World) (G : SG) (L : Nat -> SV) : MapI G L (w.alloc (.map #[] 0)) w.heap.size 0 :=
 ⟨#[], 0, (MapKept.heap_alloc w _).1, ⟨by simp, stamped_empty 0, by simp⟩, by simp, by simp⟩
theorem MapI.kept (h : MapI G L u mb n) (e : u'.heap[mb]? = u.heap[mb]?) : MapI G L u' mb n := by
 obtain ⟨es, clock, h1, h2⟩ := h
 exact ⟨es, clock, e.trans h1, h2⟩
theorem MapI.lt (h : MapI G L u mb n) : mb < u.heap.size := by
 obtain ⟨es, clock, h1, _⟩ := h
 exact (Array.getElem?_eq_some_iff.1 h1).1
theorem MapI.mono (h : MapI G L u mb n) {n' : Int} (hn : n <= n') : MapI G L u mb n' := by
 obtain ⟨es, clock, h1, h2, h3, h4⟩ := h
 exact ⟨es, clock, h1, h2, by omega, h4⟩
theorem key_of (hF : FGd G F) (hp : p <= 2000) : ∃ l, keyOf Tryz.prog 198 (.agg (kL p F).toArray) = some l := by
 obtain ⟨a, b, c⟩ := hF.1.rg
 exact key_head a b c (by unfold Rg; omega)
theorem MapI.put (h : MapI G L u mb n) (hn : n <= 1000) (hp : p <= 2000) (hm : Memo G L p F B k) : ∃ u', (Instr.mapUpdate 71 (.map (some mb)) (.agg (kL p F).toArray) (.agg (eL B k).toArray)).run Tryz.prog u = .ok () u' /\ MapI G L u' mb (n + 1) /\ Ft mb u u' := by
 obtain ⟨es, clock, h1, h2, h3, h4⟩ := h
 obtain ⟨kl, hk⟩ := key_of hm.1 hp
 obtain ⟨es', clock', hrun, F', hput, _, _, hmem⟩ := Maps.fit_store (R' := rE) keyK (t := 71) (e := 200) Tryz.underlying71 h1 h2 (by unfold maxLen; omega) (fun _ _ _ _ hz => hz) (val := .agg (eL B k).toArray) hk rfl
 refine ⟨_, hrun, ⟨es', clock', heap_setBlock_same h1 _, F', ?_, fun x hx => ?_⟩, ⟨rfl, rfl, rfl, by simp [setBlock], fun i _ hi => heap_setBlock_other h1 _ hi⟩⟩
 ·have e1 : es'.size = ((es'.toList.map (rg Tryz.prog 198 rE)).foldr DataW.insert []).length := by rw [length_sorted]; simp
  rw [e1, hput]
  unfold putKey
  rw [length_insert]
  have e2 := List.length_filter_le (notKey kl) ((es.toList.map (rg Tryz.prog 198 rE)).foldr DataW.insert [])
  rw [length_sorted] at e2
  simp at e2
  omega
 ·rcases hmem x hx with ⟨q1, _⟩ | ⟨q1, q2⟩
  ·exact h4 x q1
  ·exact ⟨p, F, B, k, q1, q2, hm⟩
end
theorem key_build (p : Int) (F : FS) (w : World) : (Instr.build 198 #[(0, .int .i64 p), (1, .agg (fA F))]).run Tryz.prog w = .ok (.agg (kL p F).toArray) w := by kernel_rfl
theorem end_build (F : FS) (k : Int) (w : World) : (Instr.build 200 #[(0, .agg (fA F)), (1, .int .i64 k)]).run Tryz.prog w = .ok (.agg (eL F k).toArray) w := by kernel_rfl
def LArr (u : World) (b : Nat) (l : List Value) : Prop := l.length = 51 /\ (∀ v ∈ l, v.oneCell' = true) /\ Arr u b 51 (fun i => l.getD i undef)
theorem kL_good (p : Int) (F : FS) : (kL p F).length = 51 /\ ∀ v ∈ kL p F, v.oneCell' = true := by
 refine ⟨rfl, fun v hv => ?_⟩
 rcases List.mem_cons.1 hv with rfl | hv
 ·rfl
 ·obtain ⟨j, _, rfl⟩ := first_mem hv; exact fF_one _ _ _ j
theorem eL_good (F : FS) (k : Int) : (eL F k).length = 51 /\ ∀ v ∈ eL F k, v.oneCell' = true := by
 refine ⟨rfl, fun v hv => ?_⟩
 rcases List.mem_append.1 hv with hv | hv
 ·obtain ⟨j, _, rfl⟩ := first_mem hv; exact fF_one _ _ _ j
 ·obtain rfl := List.mem_singleton.1 hv; rfl
theorem LArr.below {u u' : World} {b : Nat} {l : List Value} (h : LArr u b l) (f : Below u.heap.size u u') : LArr u' b l := ⟨h.1, h.2.1, h.2.2.below f h.2.2.lt⟩
theorem LArr.kc {u u' : World} {b m q : Nat} {l : List Value} (h : LArr u q l) (f : Kc b m u u') (n1 : q ≠ b) (n2 : q ≠ m) : LArr u' q l := ⟨h.1, h.2.1, Arr.blk h.2.2 (f.block q h.2.2.lt n1 n2)⟩
theorem LArr.ft {u u' : World} {q b : Nat} {l : List Value} (h : LArr u b l) (f : Ft q u u') (n1 : b ≠ q) : LArr u' b l := ⟨h.1, h.2.1, Arr.blk h.2.2 (f.block b h.2.2.lt n1)⟩
theorem LArr.new (w : World) {l : List Value} (h : l.length = 51 /\ ∀ v ∈ l, v.oneCell' = true) (t : TypeId) : LArr (w.alloc (.cells l.toArray t)) w.heap.size l := by
 refine ⟨h.1, h.2, by simp, fun i => hq_free (hq_new w _) i, fun i hi => ?_⟩
 have e : l[i]? = some (l.getD i undef) := by rw [List.getD_eq_getElem?_getD, List.getElem?_eq_getElem (by omega)]; rfl
 rw [hq_cell (hq_new w _) i]
 simpa using e
theorem LArr.range {u : World} {b : Nat} {l : List Value} (h : LArr u b l) : u.rangeAt b 0 l := fun j v hv => by
 have hj : j < 51 := by rw [<- h.1]; exact (List.getElem?_eq_some_iff.1 hv).1
 rw [Nat.zero_add, h.2.2.cell hj, List.getD_eq_getElem?_getD, hv]
 rfl
theorem LArr.facts {u : World} {b : Nat} {F : FS} {k : Int} (h : LArr u b (eL F k)) : FArr u b F := by
 refine ⟨h.2.2.lt, h.2.2.free, fun i hi => ?_⟩
 rw [h.2.2.cell (by omega)]
 congr 1
 have : (eL F k)[i]? = some (fF F.V F.z F.c i) := by
  unfold eL
  rw [List.getElem?_append_left (by rw [first_length]; exact hi)]
  simp [first, hi]
 rw [List.getD_eq_getElem?_getD, this]
 rfl
theorem LArr.count {u : World} {b : Nat} {F : FS} {k : Int} (h : LArr u b (eL F k)) : u.cell? ⟨b, 50, none⟩ = some (.int .i64 k) := h.2.2.cell (i := 50) (by omega)
theorem LArr.store {op : Oper} {a : Act} {w : World} {K : Act -> World -> Prop} {Q : Exit -> Act -> World -> Prop} (ty : TypeId) (x y : Operand) (ho : op.op = .store ty x y) (b : Nat) (l l0 : List Value) (hx : a.eval x = .pointer (some ⟨b, 0, none⟩)) (A : Array Value) (hA : A = l.toArray) (hy : a.eval y = .agg A) (hi : (Tryz.prog.info? ty).map (·.size) = some 51) (hl : l.length = 51 /\ ∀ v ∈ l, v.oneCell' = true) (ht : LArr w b l0)
  (h : ∀ w', LArr w' b l -> Ft b w w' -> w'.heap.size = w.heap.size -> K (a.put op.dst undef) w') : op.wp Tryz.prog a w K Q := by
 subst hA
 have e : (l.toArray).size = 51 := by simp [hl.1]
 refine wp_store_mid ty x y ho b 0 l.toArray hx hy (by rw [e]; exact ht.2.2.there) (by rw [e]; exact hi) (all_oneCell_toArray hl.2) (h _ ⟨hl.1, hl.2, ?_⟩ (Ft.setsC _ _ (Ft.refl _ _)) (size_setCells ..))
 refine (ht.2.2.setCells 0 l (by rw [hl.1]; omega)).congr (fun i hi => ?_)
 rw [if_pos (by omega)]
 rfl
theorem wpList_storeL {ops : Array Oper} {rest : List Oper} {op : Oper} {a : Act} {w : World} {Q : Exit -> Act -> World -> Prop} (hgd : op.guard = none) (ty : TypeId) (x y : Operand) (ho : op.op = .store ty x y) (b : Nat) (l l0 : List Value) (hx : a.eval x = .pointer (some ⟨b, 0, none⟩)) (A : Array Value) (hA : A = l.toArray) (hy : a.eval y = .agg A) (hi : (Tryz.prog.info? ty).map (·.size) = some 51) (hl : l.length = 51 /\ ∀ v ∈ l, v.oneCell' = true) (ht : LArr w b l0)
  (h : ∀ w', LArr w' b l -> Ft b w w' -> w'.heap.size = w.heap.size -> wpList Tryz.prog ops Q rest (a.put op.dst undef) w') : wpList Tryz.prog ops Q (op :: rest) a w :=
 wpList_plain hgd fun _ hK => LArr.store ty x y ho b l l0 hx A hA hy hi hl ht fun w' h1 h2 h3 => hK _ _ (h w' h1 h2 h3)
theorem head_info : (Tryz.prog.info? 198).map (·.size) = some 51 := by kernel_rfl
theorem end_info : (Tryz.prog.info? 200).map (·.size) = some 51 := by kernel_rfl
theorem exec_loadH {a : Act} {op : Oper} {w : World} (x : Operand) (ho : op.op = .load 198 x) (b : Nat) (hx : a.eval x = .pointer (some ⟨b, 0, none⟩)) (l : List Value) (A : Array Value) (hA : A = l.toArray) (hc : LArr w b l) : (execOp a.eval op).run Tryz.prog w = .ok (.value (.agg A)) w := by
 subst hA
 exact exec_load _ x ho b 0 hx (run_loadAt_mid w b 0 _ l _ hc.range Tryz.underlying198 rfl (by rw [hc.1]; exact head_info))
end Go.Proofs.YtcgcldokompafaaGreatDoor
/- A checker in memory. -/
namespace Go.Proofs.YtcgcldokompafaaGreatDoor
open Go.RowKit
def nxt (L : Nat -> SV) (i : Nat) : Nat := i + 1 + (L i).thn.toNat + (L i).els.toNat
def ckSt (G : SG) (L : Nat -> SV) (p : Nat) (F : FS) (r : Int) : CR :=
 if (L p).k = 1 then (if trFE G (L p) F ≠ 0 then .bad (trFE G (L p) F) (p : Int) else .ok (trFF G (L p) F) r)
 else cmpL G (L p) (seg L (p + 1) (p + 1 + (L p).thn.toNat)) (seg L (p + 1 + (L p).thn.toNat) (nxt L p)) (p : Int) F r
theorem ck_seg (G : SG) (L : Nat -> SV) {p te : Nat} (hlt : p < te) (hs : stOK (L p) 0 = true) (hn : nxt L p <= te) (F : FS) (r : Int) : ckL G (seg L p te) (p : Int) F r = match ckSt G L p F r with
  | .inl (e, a) => .bad e a
  | .inr (B, r') => ckL G (seg L (nxt L p) te) (nxt L p : Int) B r' := by
 unfold stOK at hs
 by_cases h1 : (L p).k = 1
 ·rw [if_pos h1] at hs
  simp only [Bool.and_eq_true, decide_eq_true_eq] at hs
  have e : nxt L p = p + 1 := by unfold nxt; omega
  rw [seg_more hlt, ckL_ins h1, ckSt, if_pos h1, e]
  by_cases h2 : trFE G (L p) F ≠ 0
  ·rw [if_pos h2, if_pos h2]
  ·rw [if_neg h2, if_neg h2]
   rfl
 ·have ht : 0 <= (L p).thn /\ 0 <= (L p).els := by
   rw [if_neg h1] at hs
   split at hs
   ·simp only [decide_eq_true_eq] at hs; omega
   split at hs
   ·simp only [decide_eq_true_eq] at hs; omega
   split at hs
   ·simp only [decide_eq_true_eq] at hs; omega
   ·cases hs
  have e : seg L p te = L p :: (seg L (p + 1) (p + 1 + (L p).thn.toNat) ++ seg L (p + 1 + (L p).thn.toNat) (nxt L p) ++ seg L (nxt L p) te) := by
   rw [seg_more hlt, <- seg_app (by omega) (by unfold nxt; omega), <- seg_app (by unfold nxt; omega) hn]
  rw [e, ckL_node h1 (by rw [seg_len]; omega) (by rw [seg_len]; unfold nxt; omega), ckSt, if_neg h1]
  cases cmpL G (L p) (seg L (p + 1) (p + 1 + (L p).thn.toNat)) (seg L (p + 1 + (L p).thn.toNat) (nxt L p)) (p : Int) F r with
  | inl q => obtain ⟨e, a⟩ := q; rfl
  | inr q =>
   obtain ⟨B, r'⟩ := q
   dsimp only
   rw [show (p : Int) + 1 + (L p).thn + (L p).els = (nxt L p : Int) by unfold nxt; omega]
structure CS (G : SG) (L : Nat -> SV) (w0 : World) (bC mb bH cH : Nat) (d : Int) (u : World) (r : Int) : Prop where
 B : Below w0.heap.size w0 u
 C : u.heap[bC]? = some (.cells #[.slice (some ⟨bH, 0, none⟩) G.nH cH, .int .i64 r, .map (some mb)] 73)
 M : MapI G L u mb (r - d)
 H : Arr u bH (G.nH * 3) (hsF G.S)
 d0 : 0 <= d
 r0 : 0 <= r
 r1 : r <= 1000
 c1 : w0.heap.size <= bC
 c2 : w0.heap.size <= mb
 ne : bC ≠ mb
 hb : bH < w0.heap.size
section
variable {G : SG} {L : Nat -> SV} {w0 : World} {bC mb bH cH : Nat} {d : Int} {u u' : World} {r : Int}
theorem CS.lt (h : CS G L w0 bC mb bH cH d u r) : bC < u.heap.size := (Array.getElem?_eq_some_iff.1 h.C).1
theorem CS.below (h : CS G L w0 bC mb bH cH d u r) (f : Below u.heap.size u u') : CS G L w0 bC mb bH cH d u' r :=
 ⟨h.B.trans (f.mono h.B.size), (f.block bC h.lt).trans h.C, h.M.kept (f.block mb h.M.lt), h.H.below f h.H.lt, h.d0, h.r0, h.r1, h.c1, h.c2, h.ne, h.hb⟩
theorem CS.ft {q : Nat} (h : CS G L w0 bC mb bH cH d u r) (f : Ft q u u') (h1 : q ≠ bC) (h2 : q ≠ mb) (h3 : w0.heap.size <= q) : CS G L w0 bC mb bH cH d u' r :=
 ⟨h.B.trans ⟨f.os, f.tape, f.output, f.size, fun k hk => f.block k (by have := h.B.size; omega) (by omega)⟩, (f.block bC h.lt (Ne.symm h1)).trans h.C, h.M.kept (f.block mb h.M.lt (Ne.symm h2)), Arr.blk h.H (f.block bH h.H.lt (by have := h.hb; omega)), h.d0, h.r0, h.r1, h.c1, h.c2, h.ne, h.hb⟩
theorem CS.cells (h : CS G L w0 bC mb bH cH d u r) : u.cell? ⟨bC, 0, none⟩ = some (.slice (some ⟨bH, 0, none⟩) G.nH cH) /\ u.cell? ⟨bC, 1, none⟩ = some (.int .i64 r) /\ u.cell? ⟨bC, 2, none⟩ = some (.map (some mb)) /\ bC < u.heap.size /\ ∀ i, u.frozen? ⟨bC, i, none⟩ = false :=
 ⟨(hq_cell h.C 0).trans rfl, (hq_cell h.C 1).trans rfl, (hq_cell h.C 2).trans rfl, h.lt, hq_free h.C⟩
theorem CS.count (h : CS G L w0 bC mb bH cH d u r) {r' : Int} (h0 : r <= r') (h1 : r' <= 1000) : CS G L w0 bC mb bH cH d (u.setCell ⟨bC, 1, none⟩ (.int .i64 r')) r' := by
 have f : Ft bC u (u.setCell ⟨bC, 1, none⟩ (.int .i64 r')) := (Ft.refl _ _).set _ _
 exact ⟨h.B.trans ⟨f.os, f.tape, f.output, f.size, fun k hk => f.block k (by have := h.B.size; omega) (by have := h.c1; omega)⟩, hq_set h.C 1 _, (h.M.kept (f.block mb h.M.lt (Ne.symm h.ne))).mono (by omega), Arr.blk h.H (f.block bH h.H.lt (by have := h.hb; have := h.c1; omega)), h.d0, by have := h.r0; omega, h1, h.c1, h.c2, h.ne, h.hb⟩
theorem CS.begin (h : CS G L w0 bC mb bH cH d u r) (h1 : r < 1000) : CS G L w0 bC mb bH cH (d + 1) (u.setCell ⟨bC, 1, none⟩ (.int .i64 (r + 1))) (r + 1) := by
 have f : Ft bC u (u.setCell ⟨bC, 1, none⟩ (.int .i64 (r + 1))) := (Ft.refl _ _).set _ _
 have d0 := h.d0
 have r0 := h.r0
 exact ⟨h.B.trans ⟨f.os, f.tape, f.output, f.size, fun k hk => f.block k (by have := h.B.size; omega) (by have := h.c1; omega)⟩, hq_set h.C 1 _, (h.M.kept (f.block mb h.M.lt (Ne.symm h.ne))).mono (by omega), Arr.blk h.H (f.block bH h.H.lt (by have := h.hb; have := h.c1; omega)), by omega, by omega, by omega, h.c1, h.c2, h.ne, h.hb⟩
end
def AnsC (G : SG) (L : Nat -> SV) (w0 : World) (bC mb bH cH : Nat) (d : Int) (R : CR) (u : World) (e : Ending) (u' : World) : Prop :=
 Kc bC mb u u' /\ ((∃ B r', R = .ok B r' /\ FGd G B /\ e = .returned (.tuple #[.agg (fA B), .nilIface]) /\ CS G L w0 bC mb bH cH d u' r') ∨ ∃ err at' v, R = .bad err at' /\ ErrIs v err at' /\ e = .returned (.tuple #[.agg (fA zFS), v]))
def BlkC (G : SG) (L : Nat -> SV) (w0 : World) (bC mb bH cH i te : Nat) (tv : Value) : Prop :=
 ∀ (d : Int) (u : World) (F : FS) (FA : Array Value) (r : Int), FA = fA F -> CS G L w0 bC mb bH cH d u r -> FGd G F -> Calls Tryz.prog 27 #[.pointer (some ⟨bC, 0, none⟩), tv, .agg FA] u (AnsC G L w0 bC mb bH cH d (ckL G (seg L i te) (i : Int) F r) u)
def StC (G : SG) (L : Nat -> SV) (w0 : World) (bC mb bH cH p : Nat) (x : Value) : Prop :=
 ∀ (d : Int) (u : World) (F : FS) (FA : Array Value) (r : Int), FA = fA F -> CS G L w0 bC mb bH cH d u r -> FGd G F -> Calls Tryz.prog 52 #[.pointer (some ⟨bC, 0, none⟩), x, .agg FA] u (AnsC G L w0 bC mb bH cH d (ckSt G L p F r) u)
theorem after_F {G : SG} {F : FS} {FA : Array Value} (hF : FA = fA F) {s : SV} (hs : stOK s 0 = true) (hk : s.k = 1) (hok : FOk G F) (bH cH : Nat) (w : World) (hh : Arr w bH (G.nH * 3) (hsF G.S)) :
  Calls Tryz.prog 80 #[.agg FA, .agg #[.int .i64 s.op, .int .i64 s.d, .int .i64 s.a, .int .i64 s.b, .int .i64 s.imm, .int .i64 s.h], .slice (some ⟨bH, 0, none⟩) G.nH cH] w fun e w' => ∃ B : FS, e = .returned (.tuple #[.agg (fA B), .int .i64 (trFE G s F)]) /\ (trFE G s F = 0 -> B = trFF G s F) /\ Below w.heap.size w w' := by
 unfold stOK at hs
 rw [if_pos hk] at hs
 simp only [Bool.and_eq_true, decide_eq_true_eq] at hs
 have o28 : s.op <= 28 := by omega
 obtain ⟨o1, d0, d7, ra0, ra7, rb0, rb7, h0, h7, n0, n1, n2⟩ := ins_nats hs.1 o28
 obtain ⟨_, h8, hg⟩ := good_regs hok
 have e0 : trFE G s F = refI s.op (opF s.op F.z F.c) (secB F.V s.op F.z F.c s.a.toNat s.b.toNat) (accI s.op s.imm s.h (opA F.V s.op s.a.toNat) (opB F.V s.op s.b.toNat) (F.V s.d.toNat) (G.S s.h.toNat)) := by
  unfold trFE trE
  rw [if_pos ⟨hok, hs.1, o28⟩]
 have h := after_all F.V F.z F.c FA hF s.op s.imm s.d.toNat s.a.toNat s.b.toNat s.h.toNat (by omega) (by omega) (by omega) o1 o28 n0 n1 n2 bH cH G.nH G.S (by omega) hg w hh
 rw [show ((s.d.toNat : Nat) : Int) = s.d by omega, show ((s.a.toNat : Nat) : Int) = s.a by omega, show ((s.b.toNat : Nat) : Int) = s.b by omega, show ((s.h.toNat : Nat) : Int) = s.h by omega] at h
 refine h.mono ?_
 rintro e w' ⟨rfl, hb⟩
 obtain ⟨W, zz, cc, h1, h2⟩ := aft_parts F.V F.z F.c s.d.toNat (trR s.op s.imm (opA F.V s.op s.a.toNat) (opB F.V s.op s.b.toNat) (secB F.V s.op F.z F.c s.a.toNat s.b.toNat) (opF s.op F.z F.c) (G.S s.h.toNat)) (refI s.op (opF s.op F.z F.c) (secB F.V s.op F.z F.c s.a.toNat s.b.toNat) (accI s.op s.imm s.h (opA F.V s.op s.a.toNat) (opB F.V s.op s.b.toNat) (F.V s.d.toNat) (G.S s.h.toNat))) (wrB s.op) (fgB s.op) (secB F.V s.op F.z F.c s.a.toNat s.b.toNat)
 refine ⟨⟨W, zz, cc⟩, by rw [h1, e0]; rfl, fun e => ?_, hb⟩
 obtain ⟨q1, q2, q3⟩ := h2 (e0.symm.trans e)
 unfold trFF
 rw [q1, q2, q3]
 rfl
theorem loc3 (u : World) {F : FS} {FA : Array Value} (hF : FA = fA F) (o : Obj) : ∃ y, ((u.alloc (.cells FA 78)).alloc (.cells (facA (fun _ => zV) 0 0) 78)).alloc o = y /\ Below u.heap.size u y /\ FArr y u.heap.size F /\ FArr y (u.heap.size + 1) zFS /\ y.heap[u.heap.size + 1 + 1]? = some o := by
 have n0 := FArr.new u hF
 have b0 := (Below.refl u.heap.size u).alloc (Nat.le_refl _) (.cells FA 78)
 generalize hx : u.alloc (.cells FA 78) = x at *
 have s0 : x.heap.size = u.heap.size + 1 := by rw [<- hx]; simp
 have n1 := FArr.new x (FA := facA (fun _ => zV) 0 0) (F := zFS) rfl
 have b1 := (Below.refl x.heap.size x).alloc (Nat.le_refl _) (.cells (facA (fun _ => zV) 0 0) 78)
 generalize hy : x.alloc (.cells (facA (fun _ => zV) 0 0) 78) = y at *
 have s1 : y.heap.size = u.heap.size + 1 + 1 := by rw [<- hy]; simp [s0]
 have n2 := hq_new y o
 have b2 := (Below.refl y.heap.size y).alloc (Nat.le_refl _) o
 rw [s0] at n1
 rw [s1] at n2
 exact ⟨_, rfl, (b0.trans (b1.mono (by omega))).trans (b2.mono (by omega)), (n0.below b1).below b2, n1.below b2, n2⟩
theorem locx (u : World) {F : FS} {FA : Array Value} (hF : FA = fA F) (o : Obj) : ∃ y, ((u.alloc o).alloc (.cells FA 78)).alloc (.cells (facA (fun _ => zV) 0 0) 78) = y /\ Below u.heap.size u y /\ y.heap[u.heap.size]? = some o /\ FArr y (u.heap.size + 1) F /\ FArr y (u.heap.size + 1 + 1) zFS := by
 have n0 := hq_new u o
 have b0 := (Below.refl u.heap.size u).alloc (Nat.le_refl _) o
 generalize hx : u.alloc o = x at *
 have s0 : x.heap.size = u.heap.size + 1 := by rw [<- hx]; simp
 have n1 := FArr.new x hF
 have b1 := (Below.refl x.heap.size x).alloc (Nat.le_refl _) (.cells FA 78)
 generalize hy : x.alloc (.cells FA 78) = y at *
 have s1 : y.heap.size = u.heap.size + 1 + 1 := by rw [<- hy]; simp [s0]
 have n2 := FArr.new y (FA := facA (fun _ => zV) 0 0) (F := zFS) rfl
 have b2 := (Below.refl y.heap.size y).alloc (Nat.le_refl _) (.cells (facA (fun _ => zV) 0 0) 78)
 rw [s0] at n1
 rw [s1] at n2
 have hl : u.heap.size < x.heap.size := by omega
 exact ⟨_, rfl, (b0.trans (b1.mono (by omega))).trans (b2.mono (by omega)), (b2.block _ (by omega)).trans ((b1.block _ hl).trans n0), n1.below b2, n2⟩
theorem FArr.fresh (u : World) : FArr (u.alloc (.cells (facA (fun _ => zV) 0 0) 78)) u.heap.size zFS := FArr.new u rfl
end Go.Proofs.YtcgcldokompafaaGreatDoor
