import Derived.OrdersHeld
import Derived.Deep.RegionHeld
import Derived.WalkKit
import Derived.Maps.RangeWalk
import Derived.Test.YtjnooklalbcamaaOfFill
import Derived.Test.YtjnooklalbcamaaOfValGood
import Derived.Test.YtjnooklalbcamaaRows
import Derived.Deep.RegionHeld3
import Derived.Deep.Cut
import Derived.Deep.DeepCutAuto
import Derived.WalkSpells
import Derived.WalkLawsBesides
import Derived.Test.YtjnooklalbcamaaOfOpenVals
/- A region that draws its order, holds calls and ends in one store s: what is known of the world is known till s comes up; s waits for whatever is taken first. Imports nothing of the program. -/
namespace Go.Proofs.Ytjnooklalbcamaa
open Go

section
variable {P : Program} {ops : Array Oper} {Q : Exit → Act → World → Prop} {md : Region.Mode} {T : World → Prop} {s : Nat}

/-- Whatever order is picked from here on, and T holds behind every operation but s. -/
def wpAnyL (P : Program) (md : Region.Mode) (ops : Array Oper) (Q : Exit → Act → World → Prop) (T : World → Prop) (s : Nat) : Nat → Array Bool → Act → World → Prop
  | 0, listed, a, w => Region.ready md ops listed = [] ∧ Q .normal a w
  | fuel + 1, listed, a, w =>
    (Region.ready md ops listed = [] → Q .normal a w) ∧
    ∀ i ∈ Region.ready md ops listed, wpOp P ops Q i (fun a' w' => (i ≠ s → T w') ∧ wpAnyL P md ops Q T s fuel (listed.setIfInBounds i true) a' w') a w

theorem wpAny_of_L : ∀ (fuel : Nat) (listed : Array Bool) (a : Act) (w : World), wpAnyL P md ops Q T s fuel listed a w → wpAny P md ops Q fuel listed a w
  | 0, _, _, _, h => h
  | fuel + 1, _, _, _, h => ⟨h.1, fun i hi => wpOp_mono (fun a' w' h' => wpAny_of_L fuel _ a' w' h'.2) (h.2 i hi)⟩

/-- s waits for i. -/
def waits (md : Region.Mode) (ops : Array Oper) (s i : Nat) : Bool := match ops[s]? with
  | some o => o.after.any fun e => Region.binds md e && e.on == i
  | none => false
theorem waits_spec {o : Oper} {i : Nat} (h : waits md ops s i = true) (ho : ops[s]? = some o) : ∃ e ∈ o.after, Region.binds md e = true ∧ e.on = i := by
  unfold waits at h
  rw [ho] at h
  simp only [Array.any_eq_true] at h
  obtain ⟨k, hk, hb⟩ := h
  simp only [Bool.and_eq_true, beq_iff_eq] at hb
  exact ⟨_, Array.getElem_mem hk, hb⟩

/-- Of two operations that may both come up neither waits for the other. -/
theorem ready_free {i j : Nat} {oj : Oper} {listed : Array Bool} (hr : i ∈ Region.ready md ops listed) (hj : j ∈ Region.ready md ops listed) (hoj : ops[j]? = some oj) : ∀ e ∈ oj.after, Region.binds md e = true → e.on ≠ i := by
  intro e he hb heq
  obtain ⟨_, o, ho, all⟩ := mem_ready.1 hj
  have hoo : o = oj := by rw [hoj] at ho; exact (Option.some.inj ho).symm
  subst hoo
  have on := all e he hb
  have off := (mem_ready.1 hr).1
  rw [heq] at on
  by_cases hlt : i < listed.size
  · simp [hlt] at on off
    rw [off] at on
    cases on
  · simp [Array.getElem?_eq_none (Nat.le_of_not_lt hlt)] at on
/-- What stands in i's way when 'listed' is what has come up. -/
def Clear (md : Region.Mode) (ops : Array Oper) (i : Nat) (oi : Oper) (listed : Array Bool) : Prop :=
  ∀ j oj, ops[j]? = some oj → j ≠ i → listed.getD j true = false → (∀ e ∈ oj.after, Region.binds md e = true → e.on ≠ i) → oi.apart ops oj = true
theorem Clear.more {i j : Nat} {oi : Oper} {listed : Array Bool} (h : Clear md ops i oi listed) (hj : j ∈ Region.ready md ops listed) : Clear md ops i oi (listed.setIfInBounds j true) := by
  intro k ok hk hki hun
  refine h k ok hk hki ?_
  by_cases hjk : j = k
  · subst hjk; exact (mem_ready.1 hj).1
  · rwa [getD_set_ne true hjk] at hun
theorem wpAnyL_first {i : Nat} {oi : Oper} {v : Value} (hi : ops[i]? = some oi) (hsel : ∀ (j : Nat) (o : Oper) cs b, ops[j]? = some o → o.op ≠ .select cs b)
    (hQ : ∀ c a w, Q (.panic c) (a.put oi.dst v) w → Q (.panic c) a w) (hws : waits md ops s i = true) :
    ∀ (fuel : Nat) (listed : Array Bool) (a : Act) (w : World), Clear md ops i oi listed → i ∈ Region.ready md ops listed → YieldsIf P ops T oi v a → T w →
      wpAnyL P md ops Q T s fuel (listed.setIfInBounds i true) (a.put oi.dst v) w → wpAnyL P md ops Q T s (fuel + 1) listed a w := by
  intro fuel
  induction fuel with
  | zero =>
    intro listed a w _ hr hy hT H
    constructor
    · intro none; rw [none] at hr; cases hr
    · intro j hj
      by_cases hji : j = i
      · subst hji; exact hy.wpOp hi hT ⟨fun _ => hT, H⟩
      · exact absurd (ready_mono hj hji) (by rw [H.1]; simp)
  | succ n ih =>
    intro listed a w hcl hr hy hT H
    constructor
    · intro none; rw [none] at hr; cases hr
    · intro j hj
      by_cases hji : j = i
      · subst hji; exact hy.wpOp hi hT ⟨fun _ => hT, H⟩
      · obtain ⟨un, oj, hoj, _⟩ := mem_ready.1 hj
        have nw := ready_free hr hj hoj
        have js : j ≠ s := by
          intro e; subst e
          obtain ⟨e, he, hb, hon⟩ := waits_spec hws hoj
          exact nw e he hb hon
        have step := wpOp_putIf hoj (hcl j oj hoj hji un nw) (fun cs b => hsel i oi cs b hi) (fun cs b => hsel j oj cs b hoj) hQ hy (H.2 j (ready_mono hj hji))
        refine wpOp_mono (fun a' w' ⟨y', t', k'⟩ => ⟨t', ih _ a' w' (hcl.more hj) (ready_mono hr (Ne.symm hji)) y' (t' js) ?_⟩) step
        rw [Array.setIfInBounds_comm _ _ hji]
        exact k'

/-- Take number i first. -/
theorem wpAnyL_take {i : Nat} {oi : Oper} {v : Value} {fuel : Nat} {listed : Array Bool} {a : Act} {w : World} (hi : ops[i]? = some oi)
    (hs : Region.noSelect ops = true) (hf : Region.free md ops listed i = true) (hr : (Region.ready md ops listed).contains i = true) (hws : waits md ops s i = true)
    (hQ : ∀ c a w, Q (.panic c) (a.put oi.dst v) w → Q (.panic c) a w) (hy : YieldsIf P ops T oi v a) (hS : T w)
    (h : wpAnyL P md ops Q T s fuel (listed.setIfInBounds i true) (a.put oi.dst v) w) : wpAnyL P md ops Q T s (fuel + 1) listed a w :=
  wpAnyL_first hi (Region.noSelect_spec hs) hQ hws fuel listed a w (Region.free_spec hi hf) (by simpa using hr) hy hS h
theorem wpAnyL_tk (i : Nat) (v : Value) {oi : Oper} {fuel : Nat} {listed : Array Bool} {a : Act} {w : World} (hi : ops[i]? = some oi) (hy : ∀ w, T w → (execOp a.eval oi).run P w = .ok (.value v) w)
    (h : wpAnyL P md ops Q T s fuel (listed.setIfInBounds i true) (a.put oi.dst v) w)
    (hw : Region.wanted oi (yielded ops a.tmps) = true := by kernel_rfl) (hs : Region.noSelect ops = true := by kernel_rfl) (hf : Region.free md ops listed i = true := by kernel_rfl) (hr : (Region.ready md ops listed).contains i = true := by kernel_rfl) (hws : waits md ops s i = true := by kernel_rfl)
    (hQ : ∀ c a w, Q (.panic c) (a.put oi.dst v) w → Q (.panic c) a w := by exact fun _ _ _ h => h) (hS : T w := by assumption) : wpAnyL P md ops Q T s (fuel + 1) listed a w :=
  wpAnyL_take hi hs hf hr hws hQ (Or.inl ⟨hw, hy⟩) hS h
theorem wpAnyH_tk (i : Nat) (v : Value) {oi : Oper} {fuel : Nat} {listed : Array Bool} {a : Act} {w : World} (hi : ops[i]? = some oi) (hy : ∀ w, T w → (execOp a.eval oi).run P w = .ok (.value v) w)
    (h : wpAnyH P md ops Q T fuel (listed.setIfInBounds i true) (a.put oi.dst v) w)
    (hw : Region.wanted oi (yielded ops a.tmps) = true := by kernel_rfl) (hs : Region.noSelect ops = true := by kernel_rfl) (hf : Region.free md ops listed i = true := by kernel_rfl) (hr : (Region.ready md ops listed).contains i = true := by kernel_rfl)
    (hQ : ∀ c a w, Q (.panic c) (a.put oi.dst v) w → Q (.panic c) a w := by exact fun _ _ _ h => h) (hS : T w := by assumption) : wpAnyH P md ops Q T (fuel + 1) listed a w :=
  wpAnyH_take hi hs hf hr hQ (Or.inl ⟨hw, hy⟩) hS h
theorem wpAnyH_sk (i : Nat) {oi : Oper} {fuel : Nat} {listed : Array Bool} {a : Act} {w : World} (hi : ops[i]? = some oi)
    (h : wpAnyH P md ops Q T fuel (listed.setIfInBounds i true) (a.put oi.dst undef) w)
    (hw : Region.wanted oi (yielded ops a.tmps) = false := by kernel_rfl) (hs : Region.noSelect ops = true := by kernel_rfl) (hf : Region.free md ops listed i = true := by kernel_rfl) (hr : (Region.ready md ops listed).contains i = true := by kernel_rfl)
    (hQ : ∀ c a w, Q (.panic c) (a.put oi.dst undef) w → Q (.panic c) a w := by exact fun _ _ _ h => h) (hS : T w := by assumption) : wpAnyH P md ops Q T (fuel + 1) listed a w :=
  wpAnyH_take hi hs hf hr hQ (Or.inr ⟨hw, rfl⟩) hS h
/-- One operation alone may come up: a call. -/
theorem wpAnyL_call {i : Nat} {oi : Oper} {fuel : Nat} {listed : Array Bool} {a : Act} {w : World} (hi : ops[i]? = some oi) (hr : Region.ready md ops listed = [i])
    (h : ∀ K' : Act → World → Prop, Shut (∀ a w, T w → (T w → wpAnyL P md ops Q T s fuel (listed.setIfInBounds i true) a w) → K' a w) → if Region.wanted oi (yielded ops a.tmps) = true then Oper.wp P oi a w K' Q else K' (a.put oi.dst undef) w) :
    wpAnyL P md ops Q T s (fuel + 1) listed a w :=
  ⟨fun h0 => (by rw [hr] at h0; cases h0), fun j hj => by
    rw [hr] at hj
    obtain rfl : j = i := by simpa using hj
    exact wpOp_step hi fun K' hK => h K' fun a w hS hW => hK a w ⟨fun _ => hS, hW hS⟩⟩
/-- The last one: the store s itself. -/
theorem wpAnyL_store {oi : Oper} {fuel : Nat} {listed : Array Bool} {a : Act} {w : World} (hi : ops[s]? = some oi) (hr : Region.ready md ops listed = [s]) (hd : Region.ready md ops (listed.setIfInBounds s true) = [])
    (h : ∀ K' : Act → World → Prop, Shut (∀ a w, Q .normal a w → K' a w) → if Region.wanted oi (yielded ops a.tmps) = true then Oper.wp P oi a w K' Q else K' (a.put oi.dst undef) w) :
    wpAnyL P md ops Q T s (fuel + 1) listed a w :=
  ⟨fun h0 => (by rw [hr] at h0; cases h0), fun j hj => by
    rw [hr] at hj
    obtain rfl : j = s := by simpa using hj
    refine wpOp_step hi fun K' hK => h K' fun a w hq => hK a w ⟨fun h => absurd rfl h, ?_⟩
    cases fuel with
    | zero => exact ⟨hd, hq⟩
    | succ n => exact ⟨fun _ => hq, fun i hi => by rw [hd] at hi; cases hi⟩⟩
theorem wp_region_L {id : Nat} {a : Act} {w : World} (hm : P.follows .mixedOrders = true) (hS : T w.drew)
    (h : T w.drew → wpAnyL P .any ops Q T s ops.size (Array.replicate ops.size false) a w.drew) : (Code.region id ops true).wp P Q a w :=
  wp_region_any hm (wpAny_of_L _ _ _ _ (h hS))
end
end Go.Proofs.Ytjnooklalbcamaa
/- A Val in a block of its own. -/
namespace Go.Proofs.Ytjnooklalbcamaa
open Go.RowKit
/-- A Val in a block of its own. -/
def Vb (w : World) (b : Nat) (x : VV) : Prop := Arr w b 6 (vC x)
theorem Vb.new (w : World) (x : VV) : Vb (w.alloc (.cells #[.int .i64 x.k, .bool x.s, .int .i64 x.m, .int .i64 x.h, .int .i64 x.lo, .int .i64 x.hi] 24)) w.heap.size x := by
  refine ⟨by simp, fun i => by simp [go_sem], fun i hi => ?_⟩
  match i, hi with
  | 0, _ => simp [go_sem, vC]
  | 1, _ => simp [go_sem, vC]
  | 2, _ => simp [go_sem, vC]
  | 3, _ => simp [go_sem, vC]
  | 4, _ => simp [go_sem, vC]
  | 5, _ => simp [go_sem, vC]
theorem Vb.cells {w : World} {b : Nat} {x : VV} (h : Vb w b x) : w.cell? ⟨b, 0, none⟩ = some (.int .i64 x.k) ∧ w.cell? ⟨b, 1, none⟩ = some (.bool x.s) ∧ w.cell? ⟨b, 2, none⟩ = some (.int .i64 x.m) ∧ w.cell? ⟨b, 3, none⟩ = some (.int .i64 x.h) ∧ w.cell? ⟨b, 4, none⟩ = some (.int .i64 x.lo) ∧ w.cell? ⟨b, 5, none⟩ = some (.int .i64 x.hi) :=
  ⟨h.cell (i := 0) (by omega), h.cell (i := 1) (by omega), h.cell (i := 2) (by omega), h.cell (i := 3) (by omega), h.cell (i := 4) (by omega), h.cell (i := 5) (by omega)⟩
theorem Arr.set1 {w : World} {b n : Nat} {f : Nat → Value} (h : Arr w b n f) (o : Nat) (ho : o < n) (v : Value) : Arr (w.setCell ⟨b, o, none⟩ v) b n (fun i => if i = o then v else f i) := by
  have := h.setCells o [v] (by simp; omega)
  refine Arr.congr (f := fun i => if o ≤ i ∧ i < o + [v].length then [v].getD (i - o) undef else f i) this fun i _ => ?_
  by_cases e : i = o
  · subst e; simp
  · rw [if_neg (by simp; omega), if_neg e]
theorem vC_cases {y : VV} {f : Nat → Value} (h0 : f 0 = .int .i64 y.k) (h1 : f 1 = .bool y.s) (h2 : f 2 = .int .i64 y.m) (h3 : f 3 = .int .i64 y.h) (h4 : f 4 = .int .i64 y.lo) (h5 : f 5 = .int .i64 y.hi) : ∀ i, i < 6 → f i = vC y i := by
  intro i hi
  match i, hi with
  | 0, _ => exact h0
  | 1, _ => exact h1
  | 2, _ => exact h2
  | 3, _ => exact h3
  | 4, _ => exact h4
  | 5, _ => exact h5
def zV : VV := ⟨0, false, 0, 0, 0, 0⟩
/-- A whole Val put into a block. -/
def putV (w : World) (b : Nat) (x : VV) : World := (((((w.setCell ⟨b, 0, none⟩ (.int .i64 x.k)).setCell ⟨b, 1, none⟩ (.bool x.s)).setCell ⟨b, 2, none⟩ (.int .i64 x.m)).setCell ⟨b, 3, none⟩ (.int .i64 x.h)).setCell ⟨b, 4, none⟩ (.int .i64 x.lo)).setCell ⟨b, 5, none⟩ (.int .i64 x.hi)
theorem vb_put {w : World} {b : Nat} {y : VV} (h : Vb w b y) (x : VV) : Vb (putV w b x) b x :=
  (Arr.set1 (Arr.set1 (Arr.set1 (Arr.set1 (Arr.set1 (Arr.set1 h 0 (by omega) _) 1 (by omega) _) 2 (by omega) _) 3 (by omega) _) 4 (by omega) _) 5 (by omega) _).congr (vC_cases rfl rfl rfl rfl rfl rfl)
theorem vb_off {w : World} {b q : Nat} {y : VV} (h : Vb w b y) (x : VV) (hn : q ≠ b) : Vb (putV w q x) b y := by
  unfold putV
  exact (((((Arr.other h hn _).other hn _).other hn _).other hn _).other hn _).other hn _
theorem below_putV {B : Nat} {w u : World} {q : Nat} (h : Below B w u) (hq : B ≤ q) (x : VV) : Below B w (putV u q x) := by
  unfold putV
  exact (((((h.setCell hq _).setCell hq _).setCell hq _).setCell hq _).setCell hq _).setCell hq _
end Go.Proofs.Ytjnooklalbcamaa
/- Lists of Vals and heaplets' signatures that are written through with numbers, and read back. -/
namespace Go.Proofs.Ytjnooklalbcamaa
open Go.RowKit
/-- Nothing but the blocks of S has changed; there may be new ones. -/
structure Fv (S : Nat → Prop) (w w' : World) : Prop where
  os : w'.os = w.os
  tape : w'.tape = w.tape
  output : w'.output = w.output
  size : w.heap.size ≤ w'.heap.size
  block : ∀ k, k < w.heap.size → ¬ S k → w'.heap[k]? = w.heap[k]?
theorem Fv.refl (S : Nat → Prop) (w : World) : Fv S w w := ⟨rfl, rfl, rfl, Nat.le_refl _, fun _ _ _ => rfl⟩
theorem Fv.trans {S : Nat → Prop} {a b c : World} (h : Fv S a b) (k : Fv S b c) : Fv S a c :=
  ⟨k.os.trans h.os, k.tape.trans h.tape, k.output.trans h.output, Nat.le_trans h.size k.size, fun i hi hn => (k.block i (Nat.lt_of_lt_of_le hi h.size) hn).trans (h.block i hi hn)⟩
theorem Fv.mono {S T : Nat → Prop} {a b : World} (h : Fv S a b) (hs : ∀ k, S k → T k) : Fv T a b := ⟨h.os, h.tape, h.output, h.size, fun i hi hn => h.block i hi fun q => hn (hs i q)⟩
theorem Fv.set {S : Nat → Prop} {a b : World} (h : Fv S a b) {k : Nat} (hk : S k) (o : Nat) (v : Value) : Fv S a (b.setCell ⟨k, o, none⟩ v) :=
  ⟨h.os, h.tape, h.output, by simpa using h.size, fun i hi hn => by
    have hne : i ≠ k := fun q => hn (by rw [q]; exact hk)
    rw [heap_setCell_other _ _ _ _ hne]
    exact h.block i hi hn⟩
theorem Fv.of_below {S : Nat → Prop} {w w' : World} (h : Below w.heap.size w w') : Fv S w w' := ⟨h.os, h.tape, h.output, h.size, fun k hk _ => h.block k hk⟩
theorem Fv.cell {S : Nat → Prop} {w w' : World} (h : Fv S w w') {b o : Nat} (hb : b < w.heap.size) (hn : ¬ S b) : w'.cell? ⟨b, o, none⟩ = w.cell? ⟨b, o, none⟩ := World.cell?_of_block (a := ⟨b, o, none⟩) (h.block b hb hn)
theorem Fv.frozen {S : Nat → Prop} {w w' : World} (h : Fv S w w') {b o : Nat} (hb : b < w.heap.size) (hn : ¬ S b) : w'.frozen? ⟨b, o, none⟩ = w.frozen? ⟨b, o, none⟩ := World.frozen?_of_block (a := ⟨b, o, none⟩) (h.block b hb hn)
theorem Fv.arr {S : Nat → Prop} {w w' : World} (h : Fv S w w') {b n : Nat} {f : Nat → Value} (ha : Arr w b n f) (hn : ¬ S b) : Arr w' b n f :=
  ⟨Nat.lt_of_lt_of_le ha.1 h.size, fun i => (h.frozen ha.1 hn).trans (ha.2.1 i), fun i hi => (h.cell ha.1 hn).trans (ha.2.2 i hi)⟩
theorem Fv.cl {S : Nat → Prop} {w w' : World} (h : Fv S w w') {b : Nat} {vs : List Value} (ha : Cl w b vs) (hn : ¬ S b) : Cl w' b vs :=
  ⟨Nat.lt_of_lt_of_le ha.1 h.size, fun i hi => (h.cell ha.1 hn).trans (ha.2 i hi)⟩
theorem Fv.below {S : Nat → Prop} {B : Nat} {w0 w w' : World} (h : Fv S w w') (hb : Below B w0 w) (hs : ∀ k, S k → B ≤ k) (hB : B ≤ w.heap.size) : Below B w0 w' :=
  hb.trans ⟨h.os, h.tape, h.output, h.size, fun k hk => h.block k (by omega) (fun q => by have := hs k q; omega)⟩

/-- The Val with which number e of a list is marked. -/
def mV (k : Int) (e : Nat) : VV := ⟨k + 6 * e, (k + 6 * e + 1) % 3 == 0, k + 6 * e + 1 + 1, k + 6 * e + 1 + 1 + 1, k + 6 * e + 1 + 1 + 1 + 1, k + 6 * e + 1 + 1 + 1 + 1 + 1⟩

set_option maxHeartbeats 800000 in
theorem markVals_at (b n cap : Nat) (f : Nat → Value) (k : Int) (w : World) (hn : n ≤ 1048576) (k0 : 0 ≤ k) (k1 : k ≤ 1125899906842624) (h : Arr w b (n * 6) f) :
    Calls Try.prog 86 #[.slice (some ⟨b, 0, none⟩) n cap, .int .i64 k] w fun e w' => e = .returned (.int .i64 (k + 6 * n)) ∧ Fv (fun q => n ≠ 0 ∧ q = b) w w' ∧ Arr w' b (n * 6) (vF (mV k)) := by
  have HA : Hid (Arr w b (n * 6) f) := h
  clear h
  go_enter Try.func86, Try.ntmps86
  go_wp2
  go_loopw [1, 5] (fun kv i wr => ∃ q : Nat, q ≤ n ∧ i = .int .i64 q ∧ kv = .int .i64 (k + 6 * q) ∧ Fv (fun q => n ≠ 0 ∧ q = b) w wr ∧ Arr wr b (n * 6) (upTo (vF (mV k)) f (q * 6))) (fun _ i _ => n - (intOf i).toNat)
  case atStart => exact ⟨0, Nat.zero_le _, rfl, by simp, Fv.refl _ _, HA.out.congr fun i _ => by rw [Nat.zero_mul]; exact (upTo_zero _ _ _).symm⟩
  case round =>
    obtain ⟨q, hq, rfl, rfl, hf, ha⟩ := hrel
    by_cases hlt : q < n
    · have hlt' : (q : Int) < n := by omega
      have g0 := ha.cell (i := q * 6) (by omega)
      have g1 := ha.cell (i := q * 6 + 1) (by omega)
      have g2 := ha.cell (i := q * 6 + 2) (by omega)
      have g3 := ha.cell (i := q * 6 + 3) (by omega)
      have g4 := ha.cell (i := q * 6 + 4) (by omega)
      have g5 := ha.cell (i := q * 6 + 5) (by omega)
      have gf := ha.free
      have hb := ha.lt
      have HF : Hid (Fv (fun q => n ≠ 0 ∧ q = b) w wr) := hf
      have HR : Hid (Arr wr b (n * 6) (upTo (vF (mV k)) f (q * 6))) := ha
      clear hf ha
      go_wp2
      go_roundw
      case rel =>
        have hs : n ≠ 0 ∧ b = b := ⟨by omega, rfl⟩
        refine ⟨q + 1, by omega, by go_num, by simp; omega, (((((HF.out.set hs _ _).set hs _ _).set hs _ _).set hs _ _).set hs _ _).set hs _ _, ?_⟩
        have := HR.out.fill (vs := [.int .i64 (mV k q).k, .bool (mV k q).s, .int .i64 (mV k q).m, .int .i64 (mV k q).h, .int .i64 (mV k q).lo, .int .i64 (mV k q).hi]) (by simp; omega) (fun j hj => by
          have hj2 : j = 0 ∨ j = 1 ∨ j = 2 ∨ j = 3 ∨ j = 4 ∨ j = 5 := by simp at hj; omega
          rcases hj2 with rfl | rfl | rfl | rfl | rfl | rfl <;> rw [vF_at _ _ _ (by omega)] <;> rfl)
        rw [show (q + 1) * 6 = q * 6 + 6 by omega]
        simpa [World.setCells, mV] using this
      case measure => simp [intOf]; omega
    · obtain rfl : q = n := by omega
      have HF : Hid (Fv (fun x => q ≠ 0 ∧ x = b) w wr) := hf
      have HR : Hid (Arr wr b (q * 6) (upTo (vF (mV k)) f (q * 6))) := ha
      clear hf ha
      go_wp2
      go_ret
      exact ⟨rfl, HF.out, HR.out.filled⟩
set_option maxHeartbeats 800000 in
theorem markHS_at (b n cap : Nat) (f : Nat → Value) (k : Int) (w : World) (hn : n ≤ 1048576) (k0 : 0 ≤ k) (k1 : k ≤ 1125899906842624) (h : Arr w b (n * 3) f) :
    Calls Try.prog 85 #[.slice (some ⟨b, 0, none⟩) n cap, .int .i64 k] w fun e w' => e = .returned (.int .i64 (k + 3 * n)) ∧ Fv (fun q => n ≠ 0 ∧ q = b) w w' := by
  have HA : Hid (Arr w b (n * 3) f) := h
  clear h
  go_enter Try.func85, Try.ntmps85
  go_wp2
  go_loopw [1, 5] (fun kv i wr => ∃ q : Nat, q ≤ n ∧ i = .int .i64 q ∧ kv = .int .i64 (k + 3 * q) ∧ Fv (fun q => n ≠ 0 ∧ q = b) w wr ∧ ∃ g, Arr wr b (n * 3) g) (fun _ i _ => n - (intOf i).toNat)
  case atStart => exact ⟨0, Nat.zero_le _, rfl, by simp, Fv.refl _ _, f, HA.out⟩
  case round =>
    obtain ⟨q, hq, rfl, rfl, hf, g, ha⟩ := hrel
    by_cases hlt : q < n
    · have hlt' : (q : Int) < n := by omega
      have g0 := ha.cell (i := q * 3) (by omega)
      have g1 := ha.cell (i := q * 3 + 1) (by omega)
      have g2 := ha.cell (i := q * 3 + 2) (by omega)
      have gf := ha.free
      have hb := ha.lt
      have HF : Hid (Fv (fun q => n ≠ 0 ∧ q = b) w wr) := hf
      have HR : Hid (Arr wr b (n * 3) g) := ha
      clear hf ha
      go_wp2
      go_roundw
      case rel =>
        have hs : n ≠ 0 ∧ b = b := ⟨by omega, rfl⟩
        exact ⟨q + 1, by omega, by go_num, by simp; omega, ((HF.out.set hs _ _).set hs _ _).set hs _ _, _, Arr.set1 (Arr.set1 (Arr.set1 HR.out (q * 3) (by omega) _) (q * 3 + 1) (by omega) _) (q * 3 + 2) (by omega) _⟩
      case measure => simp [intOf]; omega
    · obtain rfl : q = n := by omega
      have HF : Hid (Fv (fun x => q ≠ 0 ∧ x = b) w wr) := hf
      clear hf ha
      go_wp2
      go_ret
      exact ⟨rfl, HF.out⟩
set_option maxHeartbeats 800000 in
theorem heldVals_at (b off n cap : Nat) (k : Int) (w : World) (hn : n ≤ 1048576) (k0 : 0 ≤ k) (k1 : k ≤ 1125899906842624) (h : At w b off (n * 6) (vF (mV k))) :
    Calls Try.prog 124 #[.slice (some ⟨b, off, none⟩) n cap, .int .i64 k] w fun e w' => e = .returned (.int .i64 (k + 6 * n)) ∧ w' = w := by
  have HA : Hid (At w b off (n * 6) (vF (mV k))) := h
  have hb := h.lt
  clear h
  go_enter Try.func124, Try.ntmps124
  go_wp2
  go_loopw [1, 5] (fun kv i wr => ∃ q : Nat, q ≤ n ∧ i = .int .i64 q ∧ kv = .int .i64 (k + 6 * q) ∧ wr = w) (fun _ i _ => n - (intOf i).toNat)
  case atStart => exact ⟨0, Nat.zero_le _, rfl, by simp, rfl⟩
  case round =>
    obtain ⟨q, hq, rfl, rfl, rfl⟩ := hrel
    by_cases hlt : q < n
    · have hlt' : (q : Int) < n := by omega
      have cl : ∀ j, j < 6 → wr.cell? ⟨b, off + (q * 6 + j), none⟩ = some (vC (mV k q) j) := fun j hj => by rw [HA.out.cell (i := q * 6 + j) (by omega), vF_at _ _ _ hj]
      have g0 : wr.cell? ⟨b, off + q * 6, none⟩ = some (.int .i64 (k + 6 * q)) := cl 0 (by omega)
      have g1 : wr.cell? ⟨b, off + q * 6 + 1, none⟩ = some (.bool ((k + 6 * q + 1) % 3 == 0)) := cl 1 (by omega)
      have g2 : wr.cell? ⟨b, off + q * 6 + 2, none⟩ = some (.int .i64 (k + 6 * q + 1 + 1)) := cl 2 (by omega)
      have g3 : wr.cell? ⟨b, off + q * 6 + 3, none⟩ = some (.int .i64 (k + 6 * q + 1 + 1 + 1)) := cl 3 (by omega)
      have g4 : wr.cell? ⟨b, off + q * 6 + 4, none⟩ = some (.int .i64 (k + 6 * q + 1 + 1 + 1 + 1)) := cl 4 (by omega)
      have g5 : wr.cell? ⟨b, off + q * 6 + 5, none⟩ = some (.int .i64 (k + 6 * q + 1 + 1 + 1 + 1 + 1)) := cl 5 (by omega)
      clear cl
      go_wp2
      go_roundw
      case rel => exact ⟨q + 1, by omega, by go_num, by simp; omega, by first | rfl | trivial⟩
      case measure => simp [intOf]; omega
    · obtain rfl : q = n := by omega
      go_wp2
      go_ret
      exact ⟨rfl, rfl⟩
set_option maxHeartbeats 400000 in
theorem markVals_nil (ao : Option Addr) (cap : Nat) (k : Int) (w : World) :
    Calls Try.prog 86 #[.slice ao 0 cap, .int .i64 k] w fun e w' => e = .returned (.int .i64 k) ∧ w' = w := by
  go_enter Try.func86, Try.ntmps86
  go_wp2
  go_loopw [1, 5] (fun kv i wr => i = .int .i64 0 ∧ kv = .int .i64 k ∧ wr = w) (fun _ _ _ => 0)
  case atStart => exact ⟨rfl, rfl, rfl⟩
  case round =>
    obtain ⟨rfl, rfl, rfl⟩ := hrel
    go_wp2
    go_ret
    exact ⟨rfl, rfl⟩
set_option maxHeartbeats 400000 in
theorem heldVals_nil (ao : Option Addr) (cap : Nat) (k : Int) (w : World) :
    Calls Try.prog 124 #[.slice ao 0 cap, .int .i64 k] w fun e w' => e = .returned (.int .i64 k) ∧ w' = w := by
  go_enter Try.func124, Try.ntmps124
  go_wp2
  go_loopw [1, 5] (fun kv i wr => i = .int .i64 0 ∧ kv = .int .i64 k ∧ wr = w) (fun _ _ _ => 0)
  case atStart => exact ⟨rfl, rfl, rfl⟩
  case round =>
    obtain ⟨rfl, rfl, rfl⟩ := hrel
    go_wp2
    go_ret
    exact ⟨rfl, rfl⟩
end Go.Proofs.Ytjnooklalbcamaa
/- Powers and bits: the model's loops, and the library's count of bits. -/
namespace Go.Proofs.Ytjnooklalbcamaa
open Go.RowKit

/-- The number of bits of x. -/
def bitsN (x : Nat) : Nat := if x = 0 then 0 else Nat.log2 x + 1
theorem bitsN_half {x : Nat} (h : 0 < x) : bitsN x = bitsN (x / 2) + 1 := by
  unfold bitsN
  rw [if_neg (by omega), Nat.log2_def]
  by_cases h2 : 2 ≤ x
  · rw [if_pos h2, if_neg (by omega)]
  · rw [if_neg h2, if_pos (by omega)]
theorem bitsN_shift (k : Nat) : ∀ x, 2 ^ k ≤ x → bitsN x = bitsN (x / 2 ^ k) + k := by
  induction k with
  | zero => intro x _; simp
  | succ k ih =>
    intro x hx
    have h0 : 0 < x := Nat.lt_of_lt_of_le (Nat.two_pow_pos _) hx
    have h1 : 2 ^ k ≤ x / 2 := by rw [Nat.le_div_iff_mul_le (by decide)]; rw [Nat.pow_succ] at hx; exact hx
    rw [bitsN_half h0, ih _ h1, Nat.div_div_eq_div_mul, Nat.pow_succ, Nat.mul_comm 2 (2 ^ k)]
    omega
theorem bitsN_le {x : Nat} (h : x < 18446744073709551616) : bitsN x ≤ 64 := by
  unfold bitsN
  by_cases h0 : x = 0
  · simp [h0]
  · rw [if_neg h0]
    have := (Nat.log2_lt h0 (k := 64)).2 (by simpa using h)
    omega

set_option maxHeartbeats 400000 in
theorem l1Pow_any (n : Nat) (w : World) (hn : n ≤ 63) :
    Calls Try.prog 113 #[.int .i64 n] w fun e w' => e = .returned (.int .u64 ((2 ^ n : Nat) : Int)) ∧ w' = w := by
  go_enter Try.func113, Try.ntmps113
  go_wp2
  go_loop [3, 4] (fun x i => ∃ k : Nat, k ≤ n ∧ i = .int .i64 k ∧ x = .int .u64 ((2 ^ k : Nat) : Int)) (fun _ i => n - (intOf i).toNat)
  case atStart => exact ⟨0, Nat.zero_le _, rfl, rfl⟩
  case round =>
    obtain ⟨k, hk, rfl, rfl⟩ := hrel
    by_cases hlt : k < n
    · have hp : 2 ^ k ≤ 2 ^ 62 := Nat.pow_le_pow_right (by decide) (by omega)
      have hs : 2 ^ (k + 1) = 2 * 2 ^ k := by rw [Nat.pow_succ, Nat.mul_comm]
      have HS : Hid (2 ^ (k + 1) = 2 * 2 ^ k) := hs
      clear hs
      generalize 2 ^ k = y at *
      go_wp2
      go_round
      case rel =>
        refine ⟨k + 1, by omega, by go_num, ?_⟩
        rw [HS.out]
        go_num
      case measure => simp [intOf]; omega
    · go_wp2
      go_ret
      obtain rfl : k = n := by omega
      exact ⟨rfl, rfl⟩

end Go.Proofs.Ytjnooklalbcamaa
/- What is known behind an instruction: the mathematics. -/
namespace Go.Proofs.Ytjnooklalbcamaa
open Go.RowKit

/-- A number's Val, with no bound where the bound is too large or none. -/
def numV (s : Bool) (m : Int) : VV := ⟨0, s, if m < 0 ∨ 1099511627776 < m then -1 else m, 0, 0, 0⟩
def maxV (v : VV) : Int := if v.k = 1 then -1 else v.m
def sumP (p q : VV) : VV :=
  if p.k = 1 ∧ 0 ≤ maxV q ∧ q.s = false ∧ p.hi + q.m ≤ 1099511627776 then { p with hi := p.hi + q.m }
  else if 0 ≤ maxV p ∧ 0 ≤ maxV q then numV (p.s || q.s) (p.m + q.m) else numV (p.s || q.s) (-1)
/-- A sum. -/
def sumV (a b : VV) : VV := if b.k = 1 then sumP b a else sumP a b
def timesI (a b : Int) : Int := if a = 0 ∨ b = 0 then 0 else if 1099511627776 / a < b then 1099511627777 else a * b
def onesI (x : Int) : Int := ((2 ^ bitsN x.toNat : Nat) : Int) - 1
def leastI (a b : Int) : Int := if a < 0 ∨ (0 ≤ b ∧ b < a) then b else a
def bigI (a b : Int) : Int := if a > b then a else b
/-- Within what a valid Val has. -/
structure Bd (v : VV) : Prop where
  m0 : -1 ≤ v.m
  m1 : v.m ≤ 1099511627776
  l0 : -1099511627776 ≤ v.lo
  l1 : v.lo ≤ 1099511627776
  h0 : -1099511627776 ≤ v.hi
  h1 : v.hi ≤ 1099511627776
  k : v.k = 0 ∨ v.k = 1
def resV (op imm : Int) (a b : VV) (s : Bool) : VV :=
  if op = 1 then a
  else if op = 2 then numV false imm
  else if op = 3 ∨ op = 14 then sumV a b
  else if op = 5 then (if 0 ≤ maxV a ∧ 0 ≤ maxV b then numV s (timesI a.m b.m) else numV s (-1))
  else if op = 6 then numV s (leastI (maxV a) (maxV b))
  else if op = 7 ∨ op = 8 then (if 0 ≤ maxV a ∧ 0 ≤ maxV b then numV s (onesI (bigI a.m b.m)) else numV s (-1))
  else if op = 9 then numV s (maxV a)
  else if op = 10 then (if a.k = 1 ∧ -1099511627776 ≤ a.lo + imm ∧ a.hi + imm ≤ 1099511627776 then { a with lo := a.lo + imm, hi := a.hi + imm } else if 0 ≤ maxV a ∧ 0 ≤ imm then numV s (a.m + imm) else numV s (-1))
  else if op = 11 then numV s (leastI imm (maxV a))
  else if op = 12 then (if maxV a = 0 then numV s 0 else if 0 < maxV a ∧ imm ≤ 40 then numV s (timesI a.m ((2 ^ imm.toNat : Nat) : Int)) else numV s (-1))
  else if op = 13 then (if 0 ≤ maxV a then numV s (a.m / ((2 ^ imm.toNat : Nat) : Int)) else if 24 ≤ imm then numV s (((2 ^ (64 - imm).toNat : Nat) : Int) - 1) else numV s (-1))
  else if op = 15 then (if 0 ≤ maxV a ∧ 0 ≤ maxV b then numV s (a.m + b.m + 1) else numV s (-1))
  else numV s (-1)
end Go.Proofs.Ytjnooklalbcamaa
