import Derived.Test.YtcgcldokompafaaGreatDoorOfCkHq
import Derived.Test.YtcgcldokompafaaGreatDoorCkMath2
import Derived.Test.YtcgcldokompafaaGreatDoorTransAft
/- Facts in memory; what stays. -/
namespace Go.Proofs.YtcgcldokompafaaGreatDoor
open Go.RowKit
def fA (F : FS) : Array Value := facA F.V F.z F.c
def FArr (u : World) (b : Nat) (F : FS) : Prop := Arr u b 50 (fF F.V F.z F.c)
def zFS : FS := ⟨fun _ => zV, 0, 0⟩
theorem FArr.new (w : World) {FA : Array Value} {F : FS} (h : FA = fA F) : FArr (w.alloc (.cells FA 78)) w.heap.size F := by
 subst h
 exact Arr.newFirst w 50 _ _
theorem FArr.below {u u' : World} {b : Nat} {F : FS} (h : FArr u b F) (f : Below u.heap.size u u') : FArr u' b F := Arr.below h f h.lt
theorem Arr.blk {u u' : World} {b n : Nat} {f : Nat -> Value} (h : Arr u b n f) (e : u'.heap[b]? = u.heap[b]?) : Arr u' b n f := by
 have hb : b < u'.heap.size := by
  have h1 := h.lt
  rw [Array.getElem?_eq_getElem h1] at e
  exact (Array.getElem?_eq_some_iff.1 e).1
 exact ⟨hb, fun i => (World.frozen?_of_block (a := ⟨b, i, none⟩) e).trans (h.free i), fun i hi => (World.cell?_of_block (a := ⟨b, i, none⟩) e).trans (h.cell hi)⟩
theorem FArr.ft {u u' : World} {b q : Nat} {F : FS} (h : FArr u b F) (f : Ft q u u') (hn : b ≠ q) : FArr u' b F := Arr.blk h (f.block b (Arr.lt h) hn)
theorem FArr.zc {u : World} {b : Nat} {F : FS} (h : FArr u b F) : u.cell? ⟨b, 48, none⟩ = some (.int .i64 F.z) /\ u.cell? ⟨b, 49, none⟩ = some (.int .i64 F.c) /\ b < u.heap.size := ⟨Arr.cell h (i := 48) (by omega), Arr.cell h (i := 49) (by omega), Arr.lt h⟩
theorem Ft.setsC {q : Nat} {w : World} : ∀ (vs : List Value) (o : Nat) {u : World}, Ft q w u -> Ft q w (u.setCells q o vs)
 | [], _, _, h => h
 | v :: vs, o, _, h => Ft.setsC vs (o + 1) (Ft.set h o v)
theorem wp_storeF {op : Oper} {a : Act} {w : World} {K : Act -> World -> Prop} {Q : Exit -> Act -> World -> Prop} (x y : Operand) (ho : op.op = .store 78 x y) (b : Nat) (F F0 : FS) (hx : a.eval x = .pointer (some ⟨b, 0, none⟩)) (FA : Array Value) (hF : FA = fA F) (hy : a.eval y = .agg FA) (ht : FArr w b F0)
  (h : ∀ w', FArr w' b F -> Ft b w w' -> w'.heap.size = w.heap.size -> K (a.put op.dst undef) w') : op.wp Tryz.prog a w K Q :=
 wpL_store_facts x y ho b F.V F0.V F.z F.c F0.z F0.c hx FA hF hy ht fun w' hA _ e => h w' hA (by rw [e]; exact Ft.setsC _ _ (Ft.refl _ _)) (by rw [e]; exact size_setCells ..)
theorem wpList_storeF {ops : Array Oper} {rest : List Oper} {op : Oper} {a : Act} {w : World} {Q : Exit -> Act -> World -> Prop} (hgd : op.guard = none) (x y : Operand) (ho : op.op = .store 78 x y) (b : Nat) (F F0 : FS) (hx : a.eval x = .pointer (some ⟨b, 0, none⟩)) (FA : Array Value) (hF : FA = fA F) (hy : a.eval y = .agg FA) (ht : FArr w b F0)
  (h : ∀ w', FArr w' b F -> Ft b w w' -> w'.heap.size = w.heap.size -> wpList Tryz.prog ops Q rest (a.put op.dst undef) w') : wpList Tryz.prog ops Q (op :: rest) a w :=
 wpList_plain hgd fun _ hK => wp_storeF x y ho b F F0 hx FA hF hy ht fun w' h1 h2 h3 => hK _ _ (h w' h1 h2 h3)
theorem wpList_loadF {ops : Array Oper} {rest : List Oper} {op : Oper} {a : Act} {w : World} {Q : Exit -> Act -> World -> Prop} (hgd : op.guard = none) (x : Operand) (ho : op.op = .load 78 x) (b : Nat) (hx : a.eval x = .pointer (some ⟨b, 0, none⟩)) (F : FS) (FA : Array Value) (hF : FA = fA F) (hc : FArr w b F)
  (h : wpList Tryz.prog ops Q rest (a.put op.dst (.agg FA)) w) : wpList Tryz.prog ops Q (op :: rest) a w := wpList_load_facts hgd x ho b hx F.V F.z F.c FA hF hc h
theorem exec_loadF {a : Act} {op : Oper} {w : World} (x : Operand) (ho : op.op = .load 78 x) (b : Nat) (hx : a.eval x = .pointer (some ⟨b, 0, none⟩)) (F : FS) (FA : Array Value) (hF : FA = fA F) (hc : FArr w b F) : (execOp a.eval op).run Tryz.prog w = .ok (.value (.agg FA)) w := by
 subst hF
 exact exec_load _ x ho b 0 hx (facts_load hc)
theorem exec_zero {a : Act} {op : Oper} {w : World} (ho : op.op = .build 78 #[]) (FA : Array Value) (hF : FA = fA zFS) : (execOp a.eval op).run Tryz.prog w = .ok (.value (.agg FA)) w := by
 subst hF
 unfold fA zFS
 dsimp only
 exact exec_build (vs := #[]) _ _ ho (by simp) (facts_zero w)
theorem FArr.var {u : World} {b : Nat} {F : FS} (h : FArr u b F) {FA : Array Value} (hF : FA = fA F) : (loadVar 78 ⟨b, 0, none⟩).run Tryz.prog u = .ok (.agg FA) u := by
 subst hF
 exact facts_var h
structure Kc (b m : Nat) (w w' : World) : Prop where
 os : w'.os = w.os
 tape : w'.tape = w.tape
 output : w'.output = w.output
 size : w.heap.size <= w'.heap.size
 block : ∀ k, k < w.heap.size -> k ≠ b -> k ≠ m -> w'.heap[k]? = w.heap[k]?
theorem Kc.refl (b m : Nat) (w : World) : Kc b m w w := ⟨rfl, rfl, rfl, Nat.le_refl _, fun _ _ _ _ => rfl⟩
theorem Kc.trans {b m : Nat} {u v w : World} (h : Kc b m u v) (k : Kc b m v w) : Kc b m u w :=
 ⟨k.os.trans h.os, k.tape.trans h.tape, k.output.trans h.output, Nat.le_trans h.size k.size, fun i hi n1 n2 => (k.block i (Nat.lt_of_lt_of_le hi h.size) n1 n2).trans (h.block i hi n1 n2)⟩
theorem Kc.of_below {b m : Nat} {w w' : World} (h : Below w.heap.size w w') : Kc b m w w' := ⟨h.os, h.tape, h.output, h.size, fun k hk _ _ => h.block k hk⟩
theorem Kc.ft {b m q : Nat} {u w w' : World} (h : Kc b m u w) (f : Ft q w w') (hq : u.heap.size <= q ∨ q = b ∨ q = m) : Kc b m u w' :=
 ⟨f.os.trans h.os, f.tape.trans h.tape, f.output.trans h.output, Nat.le_trans h.size f.size, fun k hk n1 n2 => (f.block k (Nat.lt_of_lt_of_le hk h.size) (by omega)).trans (h.block k hk n1 n2)⟩
theorem Kc.belowB {b m B : Nat} {w0 w w' : World} (h : Kc b m w w') (hb : Below B w0 w) (hs : B <= w.heap.size) (h1 : B <= b) (h2 : B <= m) : Below B w0 w' :=
 hb.trans ⟨h.os, h.tape, h.output, h.size, fun k hk => h.block k (by omega) (by omega) (by omega)⟩
theorem FArr.kc {u u' : World} {b m q : Nat} {F : FS} (h : FArr u q F) (f : Kc b m u u') (n1 : q ≠ b) (n2 : q ≠ m) : FArr u' q F := Arr.blk h (f.block q (Arr.lt h) n1 n2)
structure ErrC (P : Value -> Int -> Int -> Prop) : Prop where
 flaw : ∀ e a : Int, P (.iface 85 (.agg #[.int .i64 e, .int .i64 a])) e a
 within : ∀ (p : Int) {v : Value} {e a : Int}, P v e a -> P (.iface 192 (.agg #[.int .i64 p, v])) e a
def ErrIs (v : Value) (e a : Int) : Prop := ∀ P, ErrC P -> P v e a
theorem ErrIs.flaw (e a : Int) : ErrIs (.iface 85 (.agg #[.int .i64 e, .int .i64 a])) e a := fun _ c => c.flaw e a
theorem ErrIs.within (p : Int) {v : Value} {e a : Int} (h : ErrIs v e a) : ErrIs (.iface 192 (.agg #[.int .i64 p, v])) e a := fun P c => c.within p (h P c)
theorem ErrIs.inv {v : Value} {e a : Int} (h : ErrIs v e a) : v = .iface 85 (.agg #[.int .i64 e, .int .i64 a]) ∨ ∃ p x, v = .iface 192 (.agg #[.int .i64 p, x]) /\ ErrIs x e a :=
 (h (fun v e a => ErrIs v e a /\ (v = .iface 85 (.agg #[.int .i64 e, .int .i64 a]) ∨ ∃ p x, v = .iface 192 (.agg #[.int .i64 p, x]) /\ ErrIs x e a)) ⟨fun e a => ⟨.flaw e a, .inl rfl⟩, fun p _ _ _ h => ⟨.within p h.1, .inr ⟨p, _, rfl, h.1⟩⟩⟩).2
theorem ErrIs.shp {v : Value} {e a : Int} (h : ErrIs v e a) : ∃ t x, v = .iface t x := by
 rcases h.inv with rfl | ⟨p, x, rfl, _⟩ <;> exact ⟨_, _, rfl⟩
end Go.Proofs.YtcgcldokompafaaGreatDoor
