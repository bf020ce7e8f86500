import Derived.Test.YtcgcldokompafaaGreatDoorCkBlk
import Derived.Maps.Keyed
import Derived.DeepKeys4
import Derived.Deep.Cut
import Derived.Deep.DeepCutAuto
/- Facts compared, and as part of a map's key. -/
namespace Go.Proofs.YtcgcldokompafaaGreatDoor
open Go.RowKit
theorem ck_laid : laidOutB Tryz.prog = true := by kernel_rfl
theorem keyK : Maps.Keyed Tryz.prog 198 :=
 Maps.Keyed.of_law (deep_law_laid ck_laid (m := 5) (by omega) (of_decide_eq_true (by kernel_rfl)) (by kernel_rfl) (by kernel_rfl))
theorem keyR : Maps.Keyed Tryz.prog 76 :=
 Maps.Keyed.of_law (deep_law_laid ck_laid (m := 3) (by omega) (of_decide_eq_true (by kernel_rfl)) (by kernel_rfl) (by kernel_rfl))
theorem c_int : Tryz.prog.cellsOf 2 = 1 := by kernel_rfl
theorem c_bool : Tryz.prog.cellsOf 4 = 1 := by kernel_rfl
theorem c_val : Tryz.prog.cellsOf 75 = 6 := by kernel_rfl
theorem c_regs : Tryz.prog.cellsOf 76 = 48 := by kernel_rfl
theorem c_facts : Tryz.prog.cellsOf 78 = 50 := by kernel_rfl
theorem c_head : Tryz.prog.cellsOf 198 = 51 := by kernel_rfl
def Rg (x : Int) : Prop := -9000000000000000000 <= x /\ x <= 9000000000000000000
theorem wf64 {x : Int} (h : Rg x) : (Lit.int .i64 x).wf = true := by
 unfold Rg at h
 have e1 : IntKind.i64.min = -9223372036854775808 := by kernel_rfl
 have e2 : IntKind.i64.max = 9223372036854775807 := by kernel_rfl
 unfold Lit.wf
 dsimp only
 rw [e1, e2, Bool.and_eq_true, decide_eq_true_eq, decide_eq_true_eq]
 omega
theorem lits_int {d : Nat} {x : Int} (h : Rg x) : ∃ l, Tryz.prog.keyLits (d + 1) 2 [.int .i64 x] = some l := by
 refine ⟨[.int .i64 x], ?_⟩
 unfold Program.keyLits
 rw [Tryz.underlying2]
 simp [wf64 h]
theorem lits_bool {d : Nat} {x : Bool} : ∃ l, Tryz.prog.keyLits (d + 1) 4 [.bool x] = some l := by
 refine ⟨[.bool x], ?_⟩
 unfold Program.keyLits
 rw [Tryz.underlying4]
def VRg (v : VV) : Prop := Rg v.k /\ Rg v.m /\ Rg v.h /\ Rg v.lo /\ Rg v.hi
theorem VRg.of {v : VV} {n : Nat} (h : GV v n) (hn : n <= 8) : VRg v := by
 unfold VRg Rg
 rcases h with h | h <;> omega
theorem lits_val {d : Nat} {v : VV} (h : VRg v) : ∃ l, Tryz.prog.keyLits (d + 2) 75 [.int .i64 v.k, .bool v.s, .int .i64 v.m, .int .i64 v.h, .int .i64 v.lo, .int .i64 v.hi] = some l := by
 obtain ⟨h0, h2, h3, h4, h5⟩ := h
 obtain ⟨l0, e0⟩ := lits_int (d := d) h0
 obtain ⟨l1, e1⟩ := lits_bool (d := d) (x := v.s)
 obtain ⟨l2, e2⟩ := lits_int (d := d) h2
 obtain ⟨l3, e3⟩ := lits_int (d := d) h3
 obtain ⟨l4, e4⟩ := lits_int (d := d) h4
 obtain ⟨l5, e5⟩ := lits_int (d := d) h5
 refine ⟨[l0, l1, l2, l3, l4, l5].flatten, ?_⟩
 unfold Program.keyLits
 rw [Tryz.underlying75]
 simp [c_val, c_int, c_bool, e0, e1, e2, e3, e4, e5]
theorem first_part (V : Nat -> VV) (i : Nat) (hi : i < 8) : ((first 48 (vF V)).drop (i * 6)).take 6 = [.int .i64 (V i).k, .bool (V i).s, .int .i64 (V i).m, .int .i64 (V i).h, .int .i64 (V i).lo, .int .i64 (V i).hi] := by
 have hx : i = 0 ∨ i = 1 ∨ i = 2 ∨ i = 3 ∨ i = 4 ∨ i = 5 ∨ i = 6 ∨ i = 7 := by omega
 rcases hx with rfl | rfl | rfl | rfl | rfl | rfl | rfl | rfl <;> rfl
theorem mapM_some {α β : Type} {f : α -> Option β} : ∀ l : List α, (∀ x ∈ l, ∃ y, f x = some y) -> ∃ ys, l.mapM f = some ys
 | [], _ => ⟨[], by simp⟩
 | a :: l, h => by
  obtain ⟨y, hy⟩ := h a (by simp)
  obtain ⟨ys, hys⟩ := mapM_some l (fun x hx => h x (by simp [hx]))
  exact ⟨y :: ys, by simp [List.mapM_cons, hy, hys]⟩
theorem lits_regs {d : Nat} {V : Nat -> VV} (h : ∀ i, i < 8 -> VRg (V i)) : ∃ l, Tryz.prog.keyLits (d + 3) 76 (first 48 (vF V)) = some l := by
 obtain ⟨ys, hys⟩ := mapM_some (f := fun i => Tryz.prog.keyLits (d + 2) 75 (((first 48 (vF V)).drop (i * 6)).take 6)) (List.range 8) (fun i hi => by
   have hi := List.mem_range.1 hi
   try dsimp only
   rw [first_part V i hi]
   exact lits_val (h i hi))
 refine ⟨ys.flatten, ?_⟩
 unfold Program.keyLits
 rw [Tryz.underlying76]
 simp only [c_regs, c_val, first_length, if_true]
 rw [hys]
 rfl
theorem first_regs (V : Nat -> VV) (z c : Int) : ((first 50 (fF V z c)).drop 0).take 48 = first 48 (vF V) := by rfl
theorem lits_facts {d : Nat} {F : FS} (h : ∀ i, i < 8 -> VRg (F.V i)) (hz : Rg F.z) (hc : Rg F.c) : ∃ l, Tryz.prog.keyLits (d + 4) 78 (first 50 (fF F.V F.z F.c)) = some l := by
 obtain ⟨l0, e0⟩ := lits_regs (d := d) h
 obtain ⟨l1, e1⟩ := lits_int (d := d + 2) hz
 obtain ⟨l2, e2⟩ := lits_int (d := d + 2) hc
 refine ⟨[l0, l1, l2].flatten, ?_⟩
 unfold Program.keyLits
 rw [Tryz.underlying78]
 have q0 : ((first 50 (fF F.V F.z F.c)).drop 0).take 48 = first 48 (vF F.V) := first_regs _ _ _
 have q1 : ((first 50 (fF F.V F.z F.c)).drop 48).take 1 = [.int .i64 F.z] := rfl
 have q2 : ((first 50 (fF F.V F.z F.c)).drop 49).take 1 = [.int .i64 F.c] := rfl
 simp only [c_facts, c_regs, c_int, first_length, List.mapM_cons, List.mapM_nil, q0, q1, q2, e0, e1, e2]
 rw [if_pos ⟨trivial, by simp⟩]
 rfl
def kL (p : Int) (F : FS) : List Value := .int .i64 p :: first 50 (fF F.V F.z F.c)
theorem lits_head {d : Nat} {p : Int} {F : FS} (h : ∀ i, i < 8 -> VRg (F.V i)) (hz : Rg F.z) (hc : Rg F.c) (hp : Rg p) : ∃ l, Tryz.prog.keyLits (d + 5) 198 (kL p F) = some l := by
 obtain ⟨l0, e0⟩ := lits_int (d := d + 3) hp
 obtain ⟨l1, e1⟩ := lits_facts (d := d) h hz hc
 refine ⟨[l0, l1].flatten, ?_⟩
 unfold Program.keyLits
 rw [Tryz.underlying198]
 have q0 : ((kL p F).drop 0).take 1 = [.int .i64 p] := rfl
 have q1 : ((kL p F).drop 1).take 50 = first 50 (fF F.V F.z F.c) := rfl
 have q2 : (kL p F).length = 51 := rfl
 simp only [c_facts, c_head, c_int, q2, List.mapM_cons, List.mapM_nil, q0, q1, e0, e1]
 rw [if_pos ⟨trivial, by simp⟩]
 rfl
theorem types_many : ∃ d, Tryz.prog.types.size + 1 = d + 5 := ⟨Tryz.prog.types.size - 4, by have : 4 <= Tryz.prog.types.size := of_decide_eq_true (by kernel_rfl); omega⟩
theorem key_regs {V : Nat -> VV} (h : ∀ i, i < 8 -> VRg (V i)) : ∃ l, keyOf Tryz.prog 76 (.agg (first 48 (vF V)).toArray) = some l := by
 obtain ⟨d, hd⟩ := types_many
 obtain ⟨l, e⟩ := lits_regs (d := d + 2) h
 refine ⟨.string (keyBytes l), ?_⟩
 unfold keyOf
 rw [Tryz.underlying76]
 dsimp only
 rw [if_pos, hd]
 ·show Option.map _ (Tryz.prog.keyLits (d + 5) 76 (first 48 (vF V))) = _
  rw [show d + 5 = d + 2 + 3 from rfl, e]
  rfl
 ·rw [Bool.and_eq_true]
  exact ⟨by kernel_rfl, by simp only [Value.formed, Tryz.underlying76]; rw [c_regs]; rfl⟩
theorem key_head {p : Int} {F : FS} (h : ∀ i, i < 8 -> VRg (F.V i)) (hz : Rg F.z) (hc : Rg F.c) (hp : Rg p) : ∃ l, keyOf Tryz.prog 198 (.agg (kL p F).toArray) = some l := by
 obtain ⟨d, hd⟩ := types_many
 obtain ⟨l, e⟩ := lits_head (d := d) h hz hc hp
 refine ⟨.string (keyBytes l), ?_⟩
 unfold keyOf
 rw [Tryz.underlying198]
 dsimp only
 rw [if_pos, hd]
 ·show Option.map _ (Tryz.prog.keyLits (d + 5) 198 (kL p F)) = _
  rw [e]
  rfl
 ·rw [Bool.and_eq_true]
  exact ⟨by kernel_rfl, by simp only [Value.formed, Tryz.underlying198]; rw [c_head]; rfl⟩
theorem FOk.rg {G : SG} {F : FS} (h : FOk G F) : (∀ i, i < 8 -> VRg (F.V i)) /\ Rg F.z /\ Rg F.c := by
 obtain ⟨q1, _, q3, q4, q5⟩ := abs_iff.1 h
 exact ⟨fun i hi => VRg.of (q3 i hi) (sig_le8 q1), by unfold Rg; omega, by unfold Rg; omega⟩
theorem first_inj {n : Nat} {f g : Nat -> Value} (h : first n f = first n g) : ∀ i, i < n -> f i = g i := fun i hi => by
 have e := congrArg (fun l => l[i]?) h
 simpa [first, hi] using e
theorem vF_inj {V U : Nat -> VV} (h : ∀ i, i < 48 -> vF V i = vF U i) : ∀ i, i < 8 -> V i = U i := fun i hi => by
 have e0 := h (i * 6 + 0) (by omega)
 have e1 := h (i * 6 + 1) (by omega)
 have e2 := h (i * 6 + 2) (by omega)
 have e3 := h (i * 6 + 3) (by omega)
 have e4 := h (i * 6 + 4) (by omega)
 have e5 := h (i * 6 + 5) (by omega)
 rw [vF_at V i _ (by omega), vF_at U i _ (by omega)] at e0 e1 e2 e3 e4 e5
 generalize V i = x at *
 generalize U i = y at *
 obtain ⟨a0, a1, a2, a3, a4, a5⟩ := x
 obtain ⟨b0, b1, b2, b3, b4, b5⟩ := y
 have f0 : a0 = b0 := by injection e0
 have f1 : a1 = b1 := by injection e1
 have f2 : a2 = b2 := by injection e2
 have f3 : a3 = b3 := by injection e3
 have f4 : a4 = b4 := by injection e4
 have f5 : a5 = b5 := by injection e5
 rw [f0, f1, f2, f3, f4, f5]
theorem kL_inj {p q : Int} {F B : FS} (h : (kL p F).toArray = (kL q B).toArray) : p = q /\ sameP F B := by
 have h := congrArg Array.toList h
 simp only [kL, List.cons.injEq, Value.int.injEq, true_and] at h
 have e := first_inj h.2
 refine ⟨h.1, ?_, ?_, vF_inj fun i hi => ?_⟩
 ·have := e 48 (by omega); simpa [fF] using this
 ·have := e 49 (by omega); simpa [fF] using this
 ·have := e i (by omega)
  simpa [fF, hi] using this
theorem regs_eql {V U : Nat -> VV} (h : ∀ i, i < 8 -> VRg (V i)) (k : ∀ i, i < 8 -> VRg (U i)) (w : World) : ∃ r : Bool, (Op.equal 76 (.agg (first 48 (vF V)).toArray) (.agg (first 48 (vF U)).toArray)).run Tryz.prog w = .ok r w /\ (r = true ↔ ∀ i, i < 8 -> V i = U i) := by
 obtain ⟨lx, ex⟩ := key_regs h
 obtain ⟨ly, ey⟩ := key_regs k
 obtain ⟨r, h1, h2⟩ := run_equal_deep (P := Tryz.prog) w (m := 3) (by omega) (k := 76) (by kernel_rfl) (by kernel_rfl) ex ey
 refine ⟨r, h1, h2.trans ⟨fun e => ?_, fun e => ?_⟩⟩
 ·rw [e] at ex
  have := keyR.inj ex ey
  have := congrArg Array.toList (Value.agg.inj this)
  exact vF_inj (first_inj (by simpa using this))
 ·have : first 48 (vF V) = first 48 (vF U) := by
   unfold first
   apply List.map_congr_left
   intro i hi
   have hi := List.mem_range.1 hi
   unfold vF
   rw [e (i / 6) (by omega)]
  rw [this, ey] at ex
  exact (Option.some.inj ex).symm
end Go.Proofs.YtcgcldokompafaaGreatDoor
/- What is known joined, compared, looked at: the program's word. -/
namespace Go.Proofs.YtcgcldokompafaaGreatDoor
open Go.RowKit Go.Deep
set_option maxHeartbeats 4000000 in
theorem refCond_any (F : FS) (FA : Array Value) (hF : FA = fA F) (cond : Int) (c1 : 1 <= cond) (c4 : cond <= 4) (w : World) : Calls Tryz.prog 105 #[.agg FA, .int .i64 cond] w fun e w' => e = .returned (.int .i64 (cfl F cond)) /\ Below w.heap.size w w' := by
 obtain ⟨res, hres⟩ : ∃ x, cfl F cond = x := ⟨_, rfl⟩
 rw [hres]
 have HR : Hid (cfl F cond = res) := hres
 have HF : Hid (FA = fA F) := hF
 clear hres hF
 go_enter Tryz.func105, Tryz.ntmps105
 go_upto_region 1 with fail
 obtain ⟨u, hu, fu, bu⟩ : ∃ y, w.alloc (.cells FA 78) = y /\ FArr y w.heap.size F /\ Below w.heap.size w y := ⟨_, rfl, FArr.new w HF.out, (Below.refl _ _).alloc (Nat.le_refl _) _⟩
 rw [hu]
 obtain ⟨k48, k49, kl⟩ := fu.zc
 have BU : Hid (Below w.heap.size w u) := bu
 clear hu fu bu
 have hx : cond = 1 ∨ cond = 2 ∨ cond = 3 ∨ cond = 4 := by omega
 clear c1 c4
 rcases hx with rfl | rfl | rfl | rfl
 all_goals go_wp2
 all_goals (go_ret; refine ⟨ret_int ?_, BU.out⟩; rw [<- HR.out]; simp_all [cfl])
set_option maxHeartbeats 4000000 in
theorem joinFlags_any (a b : Int) (a0 : 0 <= a) (a2 : a <= 2) (b0 : 0 <= b) (b2 : b <= 2) (w : World) : Calls Tryz.prog 125 #[.int .i64 a, .int .i64 b] w fun e w' => e = .returned (.int .i64 (jfl a b)) /\ w' = w := by
 have ha : a = 0 ∨ a = 1 ∨ a = 2 := by omega
 have hb : b = 0 ∨ b = 1 ∨ b = 2 := by omega
 clear a0 a2 b0 b2
 rcases ha with rfl | rfl | rfl <;> rcases hb with rfl | rfl | rfl
 all_goals go_enter Tryz.func125, Tryz.ntmps125
 all_goals go_wp2
 all_goals (go_ret; exact ⟨ret_int (by decide), rfl⟩)
theorem Arr.updF {u v : World} {b : Nat} {V : Nat -> VV} {z c : Int} (p : Arr u b 50 (fF V z c)) {di : Nat} (hd : di < 8) (r : VV) (hv : v = (((((u.setCell ⟨b, di * 6, none⟩ (.int .i64 r.k)).setCell ⟨b, di * 6 + 1, none⟩ (.bool r.s)).setCell ⟨b, di * 6 + 2, none⟩ (.int .i64 r.m)).setCell ⟨b, di * 6 + 3, none⟩ (.int .i64 r.h)).setCell ⟨b, di * 6 + 4, none⟩ (.int .i64 r.lo)).setCell ⟨b, di * 6 + 5, none⟩ (.int .i64 r.hi)) : Arr v b 50 (fF (updV V di r) z c) := by
 subst hv
 refine (Arr.set1 (Arr.set1 (Arr.set1 (Arr.set1 (Arr.set1 (Arr.set1 p (di * 6) (by omega) _) (di * 6 + 1) (by omega) _) (di * 6 + 2) (by omega) _) (di * 6 + 3) (by omega) _) (di * 6 + 4) (by omega) _) (di * 6 + 5) (by omega) _).congr (fun i hi => ?_)
 by_cases h48 : i < 48
 ·have hx := Nat.div_add_mod i 6
  have hm : i % 6 < 6 := Nat.mod_lt _ (by decide)
  simp only [fF, if_pos h48, vF, updV]
  generalize i / 6 = kk at *
  generalize i % 6 = jj at *
  by_cases hk : kk = di
  ·subst hk
   rw [if_pos rfl]
   match jj, hm with
   | 0, _ => rw [if_neg (by omega), if_neg (by omega), if_neg (by omega), if_neg (by omega), if_neg (by omega), if_pos (by omega)]; rfl
   | 1, _ => rw [if_neg (by omega), if_neg (by omega), if_neg (by omega), if_neg (by omega), if_pos (by omega)]; rfl
   | 2, _ => rw [if_neg (by omega), if_neg (by omega), if_neg (by omega), if_pos (by omega)]; rfl
   | 3, _ => rw [if_neg (by omega), if_neg (by omega), if_pos (by omega)]; rfl
   | 4, _ => rw [if_neg (by omega), if_pos (by omega)]; rfl
   | 5, _ => rw [if_pos (by omega)]; rfl
  ·rw [if_neg hk]
   iterate 6 rw [if_neg (by omega)]
 ·iterate 6 rw [if_neg (by omega)]
  simp only [fF, if_neg h48]
theorem Arr.updFz {u : World} {b : Nat} {V : Nat -> VV} {z c : Int} (p : Arr u b 50 (fF V z c)) (x : Int) : Arr (u.setCell ⟨b, 48, none⟩ (.int .i64 x)) b 50 (fF V x c) := by
 refine (Arr.set1 p 48 (by omega) _).congr (fun i hi => ?_)
 by_cases h : i = 48
 ·subst h; rfl
 ·rw [if_neg h]; unfold fF; simp only [h, if_false]
theorem Arr.updFc {u : World} {b : Nat} {V : Nat -> VV} {z c : Int} (p : Arr u b 50 (fF V z c)) (x : Int) : Arr (u.setCell ⟨b, 49, none⟩ (.int .i64 x)) b 50 (fF V z x) := by
 refine (Arr.set1 p 49 (by omega) _).congr (fun i hi => ?_)
 by_cases h : i = 49
 ·subst h; rfl
 ·rw [if_neg h]
  unfold fF
  by_cases h2 : i < 48
  ·simp [h2]
  ·simp [show i = 48 by omega]
theorem facA_congr {V U : Nat -> VV} {z c : Int} (h : ∀ i, i < 8 -> V i = U i) : facA V z c = facA U z c := by
 unfold facA first
 congr 1
 apply List.map_congr_left
 intro i hi
 unfold fF vF
 split
 ·rw [h (i / 6) (by omega)]
 ·rfl
def mixV (F G : FS) (k i : Nat) : VV := if i < k then joinV (F.V i) (G.V i) else F.V i
theorem mix_next (F G : FS) (k : Nat) : updV (mixV F G k) k (joinV (F.V k) (G.V k)) = mixV F G (k + 1) := by
 funext i
 unfold updV mixV
 by_cases h : i = k
 ·subst h; simp
 ·by_cases h2 : i < k
  ·simp [h, h2, show i < k + 1 by omega]
  ·simp [h, h2, show ¬ i < k + 1 by omega]
theorem mix_at (F G : FS) (k : Nat) : mixV F G k k = F.V k := by simp [mixV]
structure JnP (w u : World) (F G : FS) (V : Nat -> VV) (z c : Int) : Prop where
 bel : Below w.heap.size w u
 f : Arr u w.heap.size 50 (fF V z c)
 g : FArr u (w.heap.size + 1) G
 r : FArr u (w.heap.size + 1 + 1) zFS
theorem JnP.below {w u v : World} {F G : FS} {V : Nat -> VV} {z c : Int} (p : JnP w u F G V z c) (h : Below u.heap.size u v) : JnP w v F G V z c := ⟨p.bel.trans (h.mono p.bel.size), p.f.below h p.f.lt, p.g.below h, p.r.below h⟩
theorem val_cells6 {u : World} {b : Nat} {V : Nat -> VV} {z c : Int} (h : Arr u b 50 (fF V z c)) {k : Nat} (hk : k < 8) : u.cell? ⟨b, k * 6, none⟩ = some (.int .i64 (V k).k) /\ u.cell? ⟨b, k * 6 + 1, none⟩ = some (.bool (V k).s) /\ u.cell? ⟨b, k * 6 + 2, none⟩ = some (.int .i64 (V k).m) /\ u.cell? ⟨b, k * 6 + 3, none⟩ = some (.int .i64 (V k).h) /\ u.cell? ⟨b, k * 6 + 4, none⟩ = some (.int .i64 (V k).lo) /\ u.cell? ⟨b, k * 6 + 5, none⟩ = some (.int .i64 (V k).hi) :=
 ⟨(h.cell (i := k * 6 + 0) (by omega)).trans (congrArg some (fF_val V z c k 0 hk (by omega))), (h.cell (i := k * 6 + 1) (by omega)).trans (congrArg some (fF_val V z c k 1 hk (by omega))), (h.cell (i := k * 6 + 2) (by omega)).trans (congrArg some (fF_val V z c k 2 hk (by omega))), (h.cell (i := k * 6 + 3) (by omega)).trans (congrArg some (fF_val V z c k 3 hk (by omega))), (h.cell (i := k * 6 + 4) (by omega)).trans (congrArg some (fF_val V z c k 4 hk (by omega))), (h.cell (i := k * 6 + 5) (by omega)).trans (congrArg some (fF_val V z c k 5 hk (by omega)))⟩

set_option maxRecDepth 20000 in
set_option maxHeartbeats 8000000 in
theorem factsJoin_any (F G : FS) (FA GA : Array Value) (hF : FA = fA F) (hG : GA = fA G) (z0 : 0 <= F.z) (z2 : F.z <= 2) (c0 : 0 <= F.c) (c2 : F.c <= 2) (y0 : 0 <= G.z) (y2 : G.z <= 2) (d0 : 0 <= G.c) (d2 : G.c <= 2) (w : World) : Calls Tryz.prog 106 #[.agg FA, .agg GA] w fun e w' => e = .returned (.agg (fA (jF F G))) /\ Below w.heap.size w w' := by
 obtain ⟨JA, hJA⟩ : ∃ x, fA (jF F G) = x := ⟨_, rfl⟩
 rw [hJA]
 have HJ : Hid (fA (jF F G) = JA) := hJA
 have HF : Hid (FA = fA F) := hF
 have HG : Hid (GA = fA G) := hG
 have HZ : Hid ((0 <= F.z /\ F.z <= 2) /\ (0 <= F.c /\ F.c <= 2) /\ (0 <= G.z /\ G.z <= 2) /\ 0 <= G.c /\ G.c <= 2) := ⟨⟨z0, z2⟩, ⟨c0, c2⟩, ⟨y0, y2⟩, d0, d2⟩
 clear hJA hF hG z0 z2 c0 c2 y0 y2 d0 d2
 go_enter Tryz.func106, Tryz.ntmps106
 go_upto_region 1 with fail
 rw [zero_fac]
 obtain ⟨u, hu, pu⟩ : ∃ y, ((w.alloc (.cells FA 78)).alloc (.cells GA 78)).alloc (.cells (facA (fun _ => zV) 0 0) 78) = y /\ JnP w y F G (mixV F G 0) F.z F.c := by
  have n0 := FArr.new w HF.out
  have b0 := (Below.refl w.heap.size w).alloc (Nat.le_refl _) (.cells FA 78)
  generalize hx : w.alloc (.cells FA 78) = x at *
  have s0 : x.heap.size = w.heap.size + 1 := by rw [<- hx]; simp
  have n1 := FArr.new x HG.out
  have b1 := (Below.refl x.heap.size x).alloc (Nat.le_refl _) (.cells GA 78)
  generalize hy : x.alloc (.cells GA 78) = y at *
  have s1 : y.heap.size = w.heap.size + 1 + 1 := by rw [<- hy]; simp [s0]
  have n2 := FArr.new y (FA := facA (fun _ => zV) 0 0) (F := zFS) rfl
  have b2 := (Below.refl y.heap.size y).alloc (Nat.le_refl _) (.cells (facA (fun _ => zV) 0 0) 78)
  rw [s0] at n1
  rw [s1] at n2
  have e : mixV F G 0 = F.V := by funext i; simp [mixV]
  refine ⟨_, rfl, (b0.trans (b1.mono (by omega))).trans (b2.mono (by omega)), ?_, n1.below b2, n2⟩
  rw [e]
  exact (n0.below b1).below b2
 rw [hu]
 have P0 : Hid (JnP w u F G (mixV F G 0) F.z F.c) := pu
 clear hu pu HF HG
 go_wp2_with fail
 go_loopw [6] (fun iv wr => ∃ k : Nat, iv = .int .i64 k /\ k <= 8 /\ JnP w wr F G (mixV F G k) F.z F.c) (fun iv _ => 8 - (intOf iv).toNat)
 case atStart => exact ⟨0, rfl, by omega, P0.out⟩
 case round =>
  obtain ⟨k, rfl, hk, hp⟩ := hrel
  have P1 : Hid (JnP w wr F G (mixV F G k) F.z F.c) := hp
  clear hp P0
  by_cases hlt : k < 8
  ·have hlt' : (k : Int) < 8 := by omega
   go_upto_region 4 with fail
   have t0 : ∀ w', Below wr.heap.size wr w' -> w'.cell? ⟨w.heap.size, k * 6, none⟩ = some (.int .i64 (F.V k).k) := fun w' h => by have := (val_cells6 (P1.out.below h).f hlt).1; rwa [mix_at] at this
   have t1 : ∀ w', Below wr.heap.size wr w' -> w'.cell? ⟨w.heap.size, k * 6 + 1, none⟩ = some (.bool (F.V k).s) := fun w' h => by have := (val_cells6 (P1.out.below h).f hlt).2.1; rwa [mix_at] at this
   have t2 : ∀ w', Below wr.heap.size wr w' -> w'.cell? ⟨w.heap.size, k * 6 + 2, none⟩ = some (.int .i64 (F.V k).m) := fun w' h => by have := (val_cells6 (P1.out.below h).f hlt).2.2.1; rwa [mix_at] at this
   have t3 : ∀ w', Below wr.heap.size wr w' -> w'.cell? ⟨w.heap.size, k * 6 + 3, none⟩ = some (.int .i64 (F.V k).h) := fun w' h => by have := (val_cells6 (P1.out.below h).f hlt).2.2.2.1; rwa [mix_at] at this
   have t4 : ∀ w', Below wr.heap.size wr w' -> w'.cell? ⟨w.heap.size, k * 6 + 4, none⟩ = some (.int .i64 (F.V k).lo) := fun w' h => by have := (val_cells6 (P1.out.below h).f hlt).2.2.2.2.1; rwa [mix_at] at this
   have t5 : ∀ w', Below wr.heap.size wr w' -> w'.cell? ⟨w.heap.size, k * 6 + 5, none⟩ = some (.int .i64 (F.V k).hi) := fun w' h => by have := (val_cells6 (P1.out.below h).f hlt).2.2.2.2.2; rwa [mix_at] at this
   have q0 : ∀ w', Below wr.heap.size wr w' -> w'.cell? ⟨w.heap.size + 1, k * 6, none⟩ = some (.int .i64 (G.V k).k) := fun w' h => (val_cells6 (P1.out.below h).g hlt).1
   have q1 : ∀ w', Below wr.heap.size wr w' -> w'.cell? ⟨w.heap.size + 1, k * 6 + 1, none⟩ = some (.bool (G.V k).s) := fun w' h => (val_cells6 (P1.out.below h).g hlt).2.1
   have q2 : ∀ w', Below wr.heap.size wr w' -> w'.cell? ⟨w.heap.size + 1, k * 6 + 2, none⟩ = some (.int .i64 (G.V k).m) := fun w' h => (val_cells6 (P1.out.below h).g hlt).2.2.1
   have q3 : ∀ w', Below wr.heap.size wr w' -> w'.cell? ⟨w.heap.size + 1, k * 6 + 3, none⟩ = some (.int .i64 (G.V k).h) := fun w' h => (val_cells6 (P1.out.below h).g hlt).2.2.2.1
   have q4 : ∀ w', Below wr.heap.size wr w' -> w'.cell? ⟨w.heap.size + 1, k * 6 + 4, none⟩ = some (.int .i64 (G.V k).lo) := fun w' h => (val_cells6 (P1.out.below h).g hlt).2.2.2.2.1
   have q5 : ∀ w', Below wr.heap.size wr w' -> w'.cell? ⟨w.heap.size + 1, k * 6 + 5, none⟩ = some (.int .i64 (G.V k).hi) := fun w' h => (val_cells6 (P1.out.below h).g hlt).2.2.2.2.2
   refine wp_region_L (T := fun w' => Below wr.heap.size wr w') (s := 12) (by kernel_rfl) (Below.refl _ _).drew (fun hHeld => ?_)
   refine wpAnyL_ta 0 rfl ?_
   refine wpAnyL_ta 1 rfl ?_
   refine wpAnyL_ta 2 rfl ?_
   refine wpAnyL_ta 3 rfl ?_
   refine wpAnyL_ta 4 rfl ?_
   refine wpAnyL_ta 5 rfl ?_
   refine wpAnyL_ta 6 rfl ?_
   refine wpAnyL_ta 7 rfl ?_
   refine wpAnyL_ta 8 rfl ?_
   refine wpAnyL_taT 10 rfl ?_
   refine wpAnyL_call (i := 9) rfl (by kernel_rfl) (fun KK hK => ?_)
   go_simp
   refine (implJoin_any _ _ _ _ _ _ _ _ _ _ _ _ _).mono ?_
   rintro e u4 ⟨rfl, hb⟩
   have b4 : Below wr.heap.size wr u4 := (Below.refl wr.heap.size wr).drew.trans hb
   clear hb
   obtain ⟨R, hR⟩ : ∃ x, joinV (F.V k) (G.V k) = x := ⟨_, rfl⟩
   have hR' : joinV ⟨(F.V k).k, (F.V k).s, (F.V k).m, (F.V k).h, (F.V k).lo, (F.V k).hi⟩ ⟨(G.V k).k, (G.V k).s, (G.V k).m, (G.V k).h, (G.V k).lo, (G.V k).hi⟩ = R := hR
   rw [hR']
   have HR : Hid (joinV (F.V k) (G.V k) = R) := hR
   clear hR hR'
   simp only [VV.v]
   go_wp2_with fail
   refine hK.out _ _ b4 (fun hHeld4 => ?_)
   clear hK KK
   try simp only [Act.put, List.getElem_toArray, List.getElem_cons_zero, List.getElem_cons_succ, List.setIfInBounds_toArray, List.set_cons_zero, List.set_cons_succ]
   refine wpAnyL_ta 11 rfl ?_
   have P4 : Hid (JnP w u4 F G (mixV F G k) F.z F.c) := P1.out.below b4
   clear t0 t1 t2 t3 t4 t5 q0 q1 q2 q3 q4 q5 P1
   obtain ⟨f0, f1, f2, f3, f4, f5⟩ := val_cells6 P4.out.f hlt
   have ff := P4.out.f.free
   have fl' := P4.out.f.lt
   refine wpAnyL_store rfl (by kernel_rfl) (by kernel_rfl) (fun KK hK => ?_)
   go_simp
   refine hK.out _ _ ?_
   clear hK KK f0 f1 f2 f3 f4 f5 ff fl' hHeld hHeld4 b4
   obtain ⟨u5, hu5⟩ : ∃ v, v = (((((u4.setCell ⟨w.heap.size, k * 6, none⟩ (.int .i64 R.k)).setCell ⟨w.heap.size, k * 6 + 1, none⟩ (.bool R.s)).setCell ⟨w.heap.size, k * 6 + 2, none⟩ (.int .i64 R.m)).setCell ⟨w.heap.size, k * 6 + 3, none⟩ (.int .i64 R.h)).setCell ⟨w.heap.size, k * 6 + 4, none⟩ (.int .i64 R.lo)).setCell ⟨w.heap.size, k * 6 + 5, none⟩ (.int .i64 R.hi) := ⟨_, rfl⟩
   rw [<- hu5]
   have P5 : Hid (JnP w u5 F G (mixV F G (k + 1)) F.z F.c) := by
    rw [<- mix_next, HR.out]
    have hb : Ft w.heap.size u4 u5 := by
     rw [hu5]
     exact (((((((Ft.refl _ _).set _ _).set _ _).set _ _).set _ _).set _ _).set _ _)
    exact ⟨P4.out.bel.trans ⟨hb.os, hb.tape, hb.output, hb.size, fun k hk => hb.block k (by have := P4.out.bel.size; omega) (by omega)⟩, P4.out.f.updF hlt R hu5, P4.out.g.ft hb (by omega), P4.out.r.ft hb (by omega)⟩
   clear hu5 P4
   go_wp2
   go_roundw
   case rel => exact ⟨k + 1, by go_num, by omega, P5.out⟩
   case measure => simp [intOf]; omega
  ·have hk8 : k = 8 := by omega
   subst hk8
   have JX : Hid (JA = fA ⟨mixV F G 8, jfl F.z G.z, jfl F.c G.c⟩) := by
    rw [<- HJ.out]
    exact facA_congr (fun i hi => by simp [mixV, hi, jF])
   obtain ⟨jz, hjz⟩ : ∃ x, jfl F.z G.z = x := ⟨_, rfl⟩
   obtain ⟨jc, hjc⟩ : ∃ x, jfl F.c G.c = x := ⟨_, rfl⟩
   rw [hjz, hjc] at JX
   obtain ⟨f48, f49, fl⟩ := FArr.zc (F := ⟨mixV F G 8, F.z, F.c⟩) P1.out.f
   obtain ⟨g48, g49, gl⟩ := P1.out.g.zc
   have ff := P1.out.f.free
   dsimp only at f48 f49
   go_wp2_with fail
   refine (joinFlags_any _ _ HZ.out.1.1 HZ.out.1.2 HZ.out.2.2.1.1 HZ.out.2.2.1.2 _).mono ?_
   rintro e w' ⟨rfl, hw⟩
   rw [hw, hjz]
   clear hw hjz
   go_upto_region 7 with fail
   obtain ⟨u2, hu2, p2⟩ : ∃ y, wr.setCell ⟨w.heap.size, 48, none⟩ (.int .i64 jz) = y /\ JnP w y F G (mixV F G 8) jz F.c :=
    ⟨_, rfl, P1.out.bel.setCell (p := ⟨w.heap.size, 48, none⟩) (Nat.le_refl _) _, P1.out.f.updFz _, Arr.other P1.out.g (by show w.heap.size ≠ w.heap.size + 1; omega) _, Arr.other P1.out.r (by show w.heap.size ≠ w.heap.size + 1 + 1; omega) _⟩
   rw [hu2]
   have P2 : Hid (JnP w u2 F G (mixV F G 8) jz F.c) := p2
   clear hu2 p2 f48 f49 fl g48 g49 gl ff P1
   obtain ⟨f48, f49, fl⟩ := FArr.zc (F := ⟨mixV F G 8, jz, F.c⟩) P2.out.f
   obtain ⟨g48, g49, gl⟩ := P2.out.g.zc
   have ff := P2.out.f.free
   dsimp only at f48 f49
   go_wp2_with fail
   refine (joinFlags_any _ _ HZ.out.2.1.1 HZ.out.2.1.2 HZ.out.2.2.2.1 HZ.out.2.2.2.2 _).mono ?_
   rintro e w' ⟨rfl, hw⟩
   rw [hw, hjc]
   clear hw hjc
   go_upto_region 8 with fail
   obtain ⟨u3, hu3, p3⟩ : ∃ y, u2.setCell ⟨w.heap.size, 49, none⟩ (.int .i64 jc) = y /\ JnP w y F G (mixV F G 8) jz jc :=
    ⟨_, rfl, P2.out.bel.setCell (p := ⟨w.heap.size, 49, none⟩) (Nat.le_refl _) _, P2.out.f.updFc _, Arr.other P2.out.g (by show w.heap.size ≠ w.heap.size + 1; omega) _, Arr.other P2.out.r (by show w.heap.size ≠ w.heap.size + 1 + 1; omega) _⟩
   rw [hu3]
   have P3 : Hid (JnP w u3 F G (mixV F G 8) jz jc) := p3
   clear hu3 p3 f48 f49 fl g48 g49 gl ff P2
   go_wp2_with (first | (refine wpList_loadF rfl (.tmp 2) rfl w.heap.size rfl ⟨mixV F G 8, jz, jc⟩ JA JX.out P3.out.f ?_) | (refine wpList_storeF rfl (.tmp 4) (.tmp 34) rfl (w.heap.size + 1 + 1) ⟨mixV F G 8, jz, jc⟩ zFS rfl JA JX.out rfl P3.out.r ?_; intro w' hA hb hz))
   have HA : Hid (FArr w' (w.heap.size + 1 + 1) ⟨mixV F G 8, jz, jc⟩) := hA
   have HB : Hid (Below w.heap.size w w') := P3.out.bel.trans ⟨hb.os, hb.tape, hb.output, hb.size, fun k hk => hb.block k (by have := P3.out.bel.size; omega) (by omega)⟩
   clear hA hb hz
   go_wp2
   exact bodyPost_ret (v := .agg JA) (results_cell1 rfl _ _ (w.heap.size + 1 + 1) _ rfl (HA.out.var JX.out)) rfl ⟨rfl, HB.out⟩
theorem wp_of_exec {op : Oper} {a : Act} {w : World} {v : Value} {K : Act -> World -> Prop} {Q : Exit -> Act -> World -> Prop} (h : (execOp a.eval op).run Tryz.prog w = .ok (.value v) w) (hk : K (a.put op.dst v) w) : op.wp Tryz.prog a w K Q := by
 unfold Oper.wp
 rw [h]
 exact hk
def FsR (F G : FS) (w : World) (e : Ending) (w' : World) : Prop := ∃ r : Bool, e = .returned (.bool r) /\ (r = true -> sameP F G) /\ (r = false -> ¬ sameP F G) /\ Below w.heap.size w w'
theorem regs_loadF {u : World} {b : Nat} {F : FS} (h : FArr u b F) : (Instr.loadAt 76 (.pointer (some ⟨b, 0, none⟩))).run Tryz.prog u = .ok (.agg (first 48 (vF F.V)).toArray) u :=
 run_loadAt_mid u b 0 _ (first 48 (vF F.V)) _ (fun j v hv => by obtain ⟨hm, rfl⟩ := first_get hv; rw [Nat.zero_add, Arr.cell h (i := j) (by omega)]; simp [fF, hm]) Tryz.underlying76 rfl (by rw [first_length]; exact row48_info)
set_option maxRecDepth 20000 in
set_option maxHeartbeats 8000000 in
theorem factsSame_any (F G : FS) (FA GA : Array Value) (hF : FA = fA F) (hG : GA = fA G) (g1 : ∀ i, i < 8 -> VRg (F.V i)) (g2 : ∀ i, i < 8 -> VRg (G.V i)) (w : World) : Calls Tryz.prog 108 #[.agg FA, .agg GA] w (FsR F G w) := by
 have HF : Hid (FA = fA F) := hF
 have HG : Hid (GA = fA G) := hG
 have HE : Hid _ := fun w => regs_eql g1 g2 w
 clear hF hG g1 g2
 go_enter Tryz.func108, Tryz.ntmps108
 go_upto_region 1 with fail
 obtain ⟨u, hu, bu, pf, pg⟩ : ∃ y, (w.alloc (.cells FA 78)).alloc (.cells GA 78) = y /\ Below w.heap.size w y /\ FArr y w.heap.size F /\ FArr y (w.heap.size + 1) G := by
  have n0 := FArr.new w HF.out
  have b0 := (Below.refl w.heap.size w).alloc (Nat.le_refl _) (.cells FA 78)
  generalize hx : w.alloc (.cells FA 78) = x at *
  have s0 : x.heap.size = w.heap.size + 1 := by rw [<- hx]; simp
  have n1 := FArr.new x HG.out
  have b1 := (Below.refl x.heap.size x).alloc (Nat.le_refl _) (.cells GA 78)
  rw [s0] at n1
  exact ⟨_, rfl, b0.trans (b1.mono (by omega)), n0.below b1, n1⟩
 rw [hu]
 have BU : Hid (Below w.heap.size w u) := bu
 have PF : Hid (FArr u w.heap.size F) := pf
 have PG : Hid (FArr u (w.heap.size + 1) G) := pg
 clear hu bu pf pg HF HG
 obtain ⟨r, hr, hri⟩ := HE.out u
 have HRI : Hid (r = true ↔ ∀ i, i < 8 -> F.V i = G.V i) := hri
 have l1 := regs_loadF PF.out
 have l2 := regs_loadF PG.out
 obtain ⟨XA, hXA⟩ : ∃ x, (first 48 (vF F.V)).toArray = x := ⟨_, rfl⟩
 obtain ⟨YA, hYA⟩ : ∃ x, (first 48 (vF G.V)).toArray = x := ⟨_, rfl⟩
 rw [hXA] at hr l1
 rw [hYA] at hr l2
 obtain ⟨f48, f49, fl⟩ := PF.out.zc
 obtain ⟨g48, g49, gl⟩ := PG.out.zc
 clear hri hXA hYA HE
 have hr' : (Op.equalIn 10000 76 (.agg XA) (.agg YA)).run Tryz.prog u = .ok r u := hr
 clear hr
 cases r with
 | false =>
  go_wp2_with (first | (refine wpList_plain rfl fun K hK => wp_of_exec (exec_load _ (.tmp 5) rfl w.heap.size 0 rfl l1) ?_; refine hK _ _ ?_; clear hK) | (refine wpList_plain rfl fun K hK => wp_of_exec (exec_load _ (.tmp 7) rfl (w.heap.size + 1) 0 rfl l2) ?_; refine hK _ _ ?_; clear hK))
  go_ret
  exact ⟨false, rfl, fun h => absurd h (by decide), fun _ h => absurd (HRI.out.2 h.2.2) (by decide), BU.out⟩
 | true =>
  by_cases ez : F.z = G.z
  rotate_left
  ·have e0 : (F.z == G.z) = false := by simpa using ez
   have NE : Hid (¬ F.z = G.z) := ez
   clear ez
   go_wp2_with (first | (refine wpList_plain rfl fun K hK => wp_of_exec (exec_load _ (.tmp 5) rfl w.heap.size 0 rfl l1) ?_; refine hK _ _ ?_; clear hK) | (refine wpList_plain rfl fun K hK => wp_of_exec (exec_load _ (.tmp 7) rfl (w.heap.size + 1) 0 rfl l2) ?_; refine hK _ _ ?_; clear hK))
   go_ret
   exact ⟨false, rfl, fun h => absurd h (by decide), fun _ h => NE.out h.1, BU.out⟩
  have e0 : (F.z == G.z) = true := by simpa using ez
  by_cases ec : F.c = G.c
  rotate_left
  ·have e1 : (F.c == G.c) = false := by simpa using ec
   have NE : Hid (¬ F.c = G.c) := ec
   clear ez ec
   go_wp2_with (first | (refine wpList_plain rfl fun K hK => wp_of_exec (exec_load _ (.tmp 5) rfl w.heap.size 0 rfl l1) ?_; refine hK _ _ ?_; clear hK) | (refine wpList_plain rfl fun K hK => wp_of_exec (exec_load _ (.tmp 7) rfl (w.heap.size + 1) 0 rfl l2) ?_; refine hK _ _ ?_; clear hK))
   go_ret
   exact ⟨false, rfl, fun h => absurd h (by decide), fun _ h => NE.out h.2.1, BU.out⟩
  have e1 : (F.c == G.c) = true := by simpa using ec
  have EE : Hid (F.z = G.z /\ F.c = G.c) := ⟨ez, ec⟩
  clear ez ec
  go_wp2_with (first | (refine wpList_plain rfl fun K hK => wp_of_exec (exec_load _ (.tmp 5) rfl w.heap.size 0 rfl l1) ?_; refine hK _ _ ?_; clear hK) | (refine wpList_plain rfl fun K hK => wp_of_exec (exec_load _ (.tmp 7) rfl (w.heap.size + 1) 0 rfl l2) ?_; refine hK _ _ ?_; clear hK))
  go_ret
  exact ⟨true, rfl, fun _ => ⟨EE.out.1, EE.out.2, HRI.out.1 (by first | rfl | trivial)⟩, fun h => absurd h (by decide), BU.out⟩
end Go.Proofs.YtcgcldokompafaaGreatDoor
