import Derived.Test.YtpnclceamkmklaaGreatOfDrawAny
import Derived.Test.YtpnclceamkmklaaGreatCopyMach
/- A machine while it is drawn. -/
namespace Go.Proofs.YtpnclceamkmklaaGreat
open Go.RowKit

theorem wpAnyL_appendZ {P : Program} {md : Region.Mode} {ops : Array Oper} {Q : Exit → Act → World → Prop} {T : World → Prop} {s' fuel i : Nat} {listed : Array Bool} {a : Act} {w w' : World} {o : Oper} (s x : Operand) {t : TypeId} {v u v' : Value} (ho : ops[i]? = some o) (hr : Region.ready md ops listed = [i]) (hw : Region.wanted o (yielded ops a.tmps) = true)
    (hop : o.op = .call { callee := .builtin .append, args := #[s, x], argTypes := #[t, t] }) (hs : a.eval s = v) (hx : a.eval x = u) (hrun : (Builtin.append_ #[t, t] o.type #[v, u]).run P w = .ok v' w') (hT : T w') (h : T w' → wpAnyL P md ops Q T s' fuel (listed.setIfInBounds i true) (a.put o.dst v') w') : wpAnyL P md ops Q T s' (fuel + 1) listed a w :=
  wpAnyL_call ho hr (fun K' hK => by
    rw [if_pos hw]
    unfold Oper.wp execOp
    simp only [hop, resolve, invoke, builtin, Sem.run_bind, Sem.run_pure, Result.andThen_ok, List.map_toArray, List.map_cons, List.map_nil, hs, hx, hrun]
    exact hK _ _ hT h)
/-- A drawn heaplet. -/
structure HD where
  base : Int
  wr : Bool
  v : Value
  ds : List Int
def hdC (h : HD) : List Value := [.int .u64 h.base, .bool h.wr, h.v]
def obC (o : Int × Int) : List Value := [.int .i64 o.1, .int .u64 o.2]
def u64r (x : Int) : Prop := 0 ≤ x ∧ x ≤ 18446744073709551615
theorem u64r_wrap (x : Int) : u64r (IntKind.u64.wrap x) := by
  unfold u64r
  rw [IntKind.wrap_u64]
  omega
/-- What a machine's variable holds, and the lists behind it. -/
structure Md where
  vR : Value
  z : Bool
  c : Bool
  hz : Bool
  hc : Bool
  vH : Value
  pc : Int
  st : Int
  vO : Value
  rs : List Int
  hs : List HD
  os : List (Int × Int)
def md0 : Md := ⟨.slice none 0 0, false, false, false, false, .slice none 0 0, 0, 0, .slice none 0 0, [], [], []⟩
def Md.a (m : Md) : Array Value := #[m.vR, .bool m.z, .bool m.c, .bool m.hz, .bool m.hc, m.vH, .int .i64 m.pc, .int .i64 m.st, m.vO]
/-- The lists of a machine that is being drawn. -/
structure DW (w : World) (p : Nat) (ao : Option Addr) (n cap : Nat) (m : Md) (u : World) : Prop where
  F : Fw p w u
  K : Cur u p ao n cap
  R : u.ownsRow w.heap.size 53 1 m.vR m.rs.length (m.rs.map (.int .u64 ·))
  H : u.ownsRow w.heap.size 55 3 m.vH m.hs.length (m.hs.flatMap hdC)
  O : u.ownsRow w.heap.size 63 2 m.vO m.os.length (m.os.flatMap obC)
  D : ∀ h ∈ m.hs, u.ownsRow w.heap.size 5 1 h.v h.ds.length (h.ds.map (.int .u8 ·))
  rr : ∀ x ∈ m.rs, u64r x
  hr : ∀ h ∈ m.hs, u64r h.base ∧ h.ds.length ≤ 4100 ∧ ∀ x ∈ h.ds, 0 ≤ x ∧ x ≤ 255
  pw : p < w.heap.size
theorem DW.fw {w u u' : World} {p n cap : Nat} {ao : Option Addr} {m : Md} (h : DW w p ao n cap m u) (f : Fw p u u') (c : Cur u' p ao n cap) : DW w p ao n cap m u' :=
  ⟨h.F.trans f, c, row_fw h.R f h.pw, row_fw h.H f h.pw, row_fw h.O f h.pw, fun x hx => row_fw (h.D x hx) f h.pw, h.rr, h.hr, h.pw⟩
theorem DW.below {w u u' : World} {p n cap : Nat} {ao : Option Addr} {m : Md} (h : DW w p ao n cap m u) (f : Below u.heap.size u u') : DW w p ao n cap m u' := h.fw (.of_below f) (h.K.below f)
theorem DW.put {w u : World} {p n cap q : Nat} {ao : Option Addr} {m : Md} (h : DW w p ao n cap m u) (hq : w.heap.size ≤ q) {cs : Array Value} (hx : u.heap[q]? = some (.cells cs 28)) (j : Nat) (v : Value) : DW w p ao n cap m (u.setCell ⟨q, j, none⟩ v) := by
  have ne : ∀ {e s n' : Nat} {v' : Value} {xs : List Value}, u.ownsRow w.heap.size e s v' n' xs → 28 ≠ e → v'.ownBlock ≠ some q := fun h2 he e1 => by
    rcases h2.2 with ⟨h', _⟩ | ⟨g, cap, cur, h', _, h4, _⟩
    · rw [h'] at e1; cases e1
    · rw [h'] at e1
      have e2 : g = q := Option.some.inj e1
      subst e2
      rw [hx] at h4
      exact he (Obj.cells.inj (Option.some.inj h4)).2.1
  exact ⟨h.F.put hq _ _, h.K.put (by have := h.pw; omega) _ _, row_put h.R (ne h.R (by decide)) _ _, row_put h.H (ne h.H (by decide)) _ _, row_put h.O (ne h.O (by decide)) _ _, fun x hx => row_put (h.D x hx) (ne (h.D x hx) (by decide)) _ _, h.rr, h.hr, h.pw⟩
/-- The same with its variable in block q, and the answer's in block r. -/
structure DX (w : World) (p : Nat) (ao : Option Addr) (n cap : Nat) (q r : Nat) (m : Md) (u : World) : Prop where
  W : DW w p ao n cap m u
  X : u.heap[q]? = some (.cells m.a 28)
  Z : u.heap[r]? = some (.cells md0.a 28)
  wq : w.heap.size ≤ q
  wr : w.heap.size ≤ r
  ne : q ≠ r
theorem hq_fw {p q : Nat} {u u' : World} {o : Obj} (h : u.heap[q]? = some o) (f : Fw p u u') (hp : p ≠ q) : u'.heap[q]? = some o := (f.block q (Array.getElem?_eq_some_iff.1 h).1 (fun e => hp e.symm)).trans h
theorem DX.fw {w u u' : World} {p n cap q r : Nat} {ao : Option Addr} {m : Md} (h : DX w p ao n cap q r m u) (f : Fw p u u') (c : Cur u' p ao n cap) : DX w p ao n cap q r m u' :=
  ⟨h.W.fw f c, hq_fw h.X f (by have := h.W.pw; have := h.wq; omega), hq_fw h.Z f (by have := h.W.pw; have := h.wr; omega), h.wq, h.wr, h.ne⟩
theorem DX.below {w u u' : World} {p n cap q r : Nat} {ao : Option Addr} {m : Md} (h : DX w p ao n cap q r m u) (f : Below u.heap.size u u') : DX w p ao n cap q r m u' := h.fw (.of_below f) (h.W.K.below f)
/-- A field of the variable is written. -/
theorem DX.set {w u : World} {p n cap q r : Nat} {ao : Option Addr} {m : Md} (h : DX w p ao n cap q r m u) (m' : Md) (j : Nat) (v : Value) (hv : m.a.setIfInBounds j v = m'.a) (e1 : m'.vR = m.vR) (e2 : m'.vH = m.vH) (e3 : m'.vO = m.vO) (e4 : m'.rs = m.rs) (e5 : m'.hs = m.hs) (e6 : m'.os = m.os) : DX w p ao n cap q r m' (u.setCell ⟨q, j, none⟩ v) := by
  have k := h.W.put h.wq h.X j v
  refine ⟨⟨k.F, k.K, by rw [e1, e4]; exact k.R, by rw [e2, e5]; exact k.H, by rw [e3, e6]; exact k.O, by rw [e5]; exact k.D, by rw [e4]; exact k.rr, by rw [e5]; exact k.hr, k.pw⟩, ?_, ?_, h.wq, h.wr, h.ne⟩
  · rw [← hv]; exact hq_set h.X j v
  · exact hq_other h.Z (fun e => h.ne e.symm) j v
/-- The lists have grown; the variable has not been written yet. -/
theorem DX.store {w u : World} {p n cap q r : Nat} {ao : Option Addr} {m' : Md} {cs : Array Value} (h : DW w p ao n cap m' u) (X : u.heap[q]? = some (.cells cs 28)) (Z : u.heap[r]? = some (.cells md0.a 28)) (wq : w.heap.size ≤ q) (wr : w.heap.size ≤ r) (ne : q ≠ r) (j : Nat) (v : Value) (hv : cs.setIfInBounds j v = m'.a) : DX w p ao n cap q r m' (u.setCell ⟨q, j, none⟩ v) :=
  ⟨h.put wq X j v, by rw [← hv]; exact hq_set X j v, hq_other Z (fun e => ne e.symm) j v, wq, wr, ne⟩
theorem grown_obj {u u' : World} {row : Option Nat} {q : Nat} {o : Obj} (h : u.heap[q]? = some o) (hg : u.grownBy u' row) (hn : row ≠ some q) : u'.heap[q]? = some o := (hg.block q (Array.getElem?_eq_some_iff.1 h).1 (fun e => hn e.symm)).trans h
theorem grown_ne {w u : World} {q e s n' : Nat} {v' : Value} {xs : List Value} {cs : Array Value} (hx : u.heap[q]? = some (.cells cs 28)) (h2 : u.ownsRow w.heap.size e s v' n' xs) (he : 28 ≠ e) : v'.ownBlock ≠ some q := fun e1 => by
  rcases h2.2 with ⟨h', _⟩ | ⟨g, cap, cur, h', _, h4, _⟩
  · rw [h'] at e1; cases e1
  · rw [h'] at e1
    have e2 : g = q := Option.some.inj e1
    subst e2
    rw [hx] at h4
    exact he (Obj.cells.inj (Option.some.inj h4)).2.1
theorem DW.growR {w u u' : World} {p n cap : Nat} {ao : Option Addr} {m : Md} (h : DW w p ao n cap m u) (v' : Value) (x : Int) (hx : u64r x) (hg : u.grownBy u' m.vR.ownBlock) (ho : u'.ownsRow w.heap.size 53 1 v' (m.rs.length + 1) (m.rs.map (.int .u64 ·) ++ [.int .u64 x])) : DW w p ao n cap { m with vR := v', rs := m.rs ++ [x] } u' := by
  refine ⟨h.F.grown hg (fun k hk => (h.R.lt k hk).1), h.K.grown hg (fun k hk => by have := (h.R.lt k hk).1; have := h.pw; omega), ?_, h.H.kept hg (rows_apart h.H h.R (by decide)), h.O.kept hg (rows_apart h.O h.R (by decide)), fun y hy => (h.D y hy).kept hg (rows_apart (h.D y hy) h.R (by decide)), fun y hy => ?_, h.hr, h.pw⟩
  · show u'.ownsRow _ _ _ v' (m.rs ++ [x]).length ((m.rs ++ [x]).map _)
    rw [List.length_append, List.map_append]; exact ho
  · rcases List.mem_append.1 hy with hy | hy
    · exact h.rr y hy
    · have e : y = x := by simpa using hy
      rw [e]; exact hx
theorem DW.growH {w u u' : World} {p n cap : Nat} {ao : Option Addr} {m : Md} (h : DW w p ao n cap m u) (v' : Value) (x : HD) (hx : u64r x.base ∧ x.ds.length ≤ 4100 ∧ ∀ y ∈ x.ds, 0 ≤ y ∧ y ≤ 255) (hd : u.ownsRow w.heap.size 5 1 x.v x.ds.length (x.ds.map (.int .u8 ·))) (hg : u.grownBy u' m.vH.ownBlock) (ho : u'.ownsRow w.heap.size 55 3 v' (m.hs.length + 1) (m.hs.flatMap hdC ++ hdC x)) : DW w p ao n cap { m with vH := v', hs := m.hs ++ [x] } u' := by
  refine ⟨h.F.grown hg (fun k hk => (h.H.lt k hk).1), h.K.grown hg (fun k hk => by have := (h.H.lt k hk).1; have := h.pw; omega), h.R.kept hg (rows_apart h.R h.H (by decide)), ?_, h.O.kept hg (rows_apart h.O h.H (by decide)), fun y hy => ?_, h.rr, fun y hy => ?_, h.pw⟩
  · show u'.ownsRow _ _ _ v' (m.hs ++ [x]).length ((m.hs ++ [x]).flatMap _)
    rw [List.length_append, List.flatMap_append]
    simpa using ho
  · rcases List.mem_append.1 hy with hy | hy
    · exact (h.D y hy).kept hg (rows_apart (h.D y hy) h.H (by decide))
    · have e : y = x := by simpa using hy
      rw [e]; exact hd.kept hg (rows_apart hd h.H (by decide))
  · rcases List.mem_append.1 hy with hy | hy
    · exact h.hr y hy
    · have e : y = x := by simpa using hy
      rw [e]; exact hx
theorem DW.growO {w u u' : World} {p n cap : Nat} {ao : Option Addr} {m : Md} (h : DW w p ao n cap m u) (v' : Value) (x : Int × Int) (hg : u.grownBy u' m.vO.ownBlock) (ho : u'.ownsRow w.heap.size 63 2 v' (m.os.length + 1) (m.os.flatMap obC ++ obC x)) : DW w p ao n cap { m with vO := v', os := m.os ++ [x] } u' := by
  refine ⟨h.F.grown hg (fun k hk => (h.O.lt k hk).1), h.K.grown hg (fun k hk => by have := (h.O.lt k hk).1; have := h.pw; omega), h.R.kept hg (rows_apart h.R h.O (by decide)), h.H.kept hg (rows_apart h.H h.O (by decide)), ?_, fun y hy => (h.D y hy).kept hg (rows_apart (h.D y hy) h.O (by decide)), h.rr, h.hr, h.pw⟩
  show u'.ownsRow _ _ _ v' (m.os ++ [x]).length ((m.os ++ [x]).flatMap _)
  rw [List.length_append, List.flatMap_append]
  simpa using ho
theorem z9 {u : World} {r : Nat} (h : u.heap[r]? = some (.cells md0.a 28)) : u.cell? ⟨r, 0, none⟩ = some (.slice none 0 0) ∧ u.cell? ⟨r, 1, none⟩ = some (.bool false) ∧ u.cell? ⟨r, 2, none⟩ = some (.bool false) ∧ u.cell? ⟨r, 3, none⟩ = some (.bool false) ∧ u.cell? ⟨r, 4, none⟩ = some (.bool false) ∧ u.cell? ⟨r, 5, none⟩ = some (.slice none 0 0) ∧ u.cell? ⟨r, 6, none⟩ = some (.int .i64 0) ∧ u.cell? ⟨r, 7, none⟩ = some (.int .i64 0) ∧ u.cell? ⟨r, 8, none⟩ = some (.slice none 0 0) ∧ (∀ j, u.frozen? ⟨r, j, none⟩ = false) ∧ r < u.heap.size :=
  ⟨hq_cell h 0, hq_cell h 1, hq_cell h 2, hq_cell h 3, hq_cell h 4, hq_cell h 5, hq_cell h 6, hq_cell h 7, hq_cell h 8, hq_free h, (Array.getElem?_eq_some_iff.1 h).1⟩
theorem DW.put9 {w u : World} {p n cap q : Nat} {ao : Option Addr} {m : Md} (h : DW w p ao n cap m u) (hq : w.heap.size ≤ q) {cs : Array Value} (hx : u.heap[q]? = some (.cells cs 28)) (v0 v1 v2 v3 v4 v5 v6 v7 v8 : Value) : DW w p ao n cap m (((((((((u.setCell ⟨q, 0, none⟩ v0).setCell ⟨q, 1, none⟩ v1).setCell ⟨q, 2, none⟩ v2).setCell ⟨q, 3, none⟩ v3).setCell ⟨q, 4, none⟩ v4).setCell ⟨q, 5, none⟩ v5).setCell ⟨q, 6, none⟩ v6).setCell ⟨q, 7, none⟩ v7).setCell ⟨q, 8, none⟩ v8) := by
  have x0 := hq_set hx 0 v0
  have x1 := hq_set x0 1 v1
  have x2 := hq_set x1 2 v2
  have x3 := hq_set x2 3 v3
  have x4 := hq_set x3 4 v4
  have x5 := hq_set x4 5 v5
  have x6 := hq_set x5 6 v6
  have x7 := hq_set x6 7 v7
  exact ((((((((h.put hq hx 0 v0).put hq x0 1 v1).put hq x1 2 v2).put hq x2 3 v3).put hq x3 4 v4).put hq x4 5 v5).put hq x5 6 v6).put hq x6 7 v7).put hq x7 8 v8
theorem DX.cells {w u : World} {p n cap q r : Nat} {ao : Option Addr} {m : Md} (h : DX w p ao n cap q r m u) : (u.cell? ⟨q, 0, none⟩ = some m.vR ∧ u.cell? ⟨q, 1, none⟩ = some (.bool m.z) ∧ u.cell? ⟨q, 2, none⟩ = some (.bool m.c) ∧ u.cell? ⟨q, 3, none⟩ = some (.bool m.hz) ∧ u.cell? ⟨q, 4, none⟩ = some (.bool m.hc) ∧ u.cell? ⟨q, 5, none⟩ = some m.vH ∧ u.cell? ⟨q, 6, none⟩ = some (.int .i64 m.pc) ∧ u.cell? ⟨q, 7, none⟩ = some (.int .i64 m.st) ∧ u.cell? ⟨q, 8, none⟩ = some m.vO) ∧ (∀ j, u.frozen? ⟨q, j, none⟩ = false) ∧ q < u.heap.size :=
  ⟨⟨hq_cell h.X 0, hq_cell h.X 1, hq_cell h.X 2, hq_cell h.X 3, hq_cell h.X 4, hq_cell h.X 5, hq_cell h.X 6, hq_cell h.X 7, hq_cell h.X 8⟩, hq_free h.X, (Array.getElem?_eq_some_iff.1 h.X).1⟩

set_option maxRecDepth 20000 in
set_option maxHeartbeats 2000000 in
theorem l1Word_any (p : Nat) (ao : Option Addr) (n cap : Nat) (w : World) (hc : Cur w p ao n cap) :
    Calls Tryz.prog 50 #[.pointer (some ⟨p, 0, none⟩)] w fun e w' => ∃ x : Int, e = .returned (.int .u64 x) ∧ u64r x ∧ Fw p w w' ∧ Cur w' p ao n cap := by
  have HC : Hid (Cur w p ao n cap) := hc
  clear hc
  go_enter Tryz.func50, Tryz.ntmps50
  go_wp2_with fail
  refine (l1Below_any p ao n cap 6 _ (by omega) HC.out).mono ?_
  rintro e w1 ⟨k, rfl, k0, k1, f, c⟩
  have F1 : Hid (Fw p w w1) := f
  have C1 : Hid (Cur w1 p ao n cap) := c
  clear f c
  go_wp2_with fail
  refine (l1Below_any p ao n cap 300 _ (by omega) C1.out).mono ?_
  rintro e w2 ⟨x, rfl, x0, x1, f, c⟩
  have F2 : Hid (Fw p w w2) := F1.out.trans f
  have C2 : Hid (Cur w2 p ao n cap) := c
  clear f c
  by_cases h0 : k = 0
  · have e0 : (k == 0) = true := by rw [beq_iff_eq]; exact h0
    go_wp2_with fail
    go_ret
    exact ⟨_, rfl, ⟨by omega, by omega⟩, F2.out, C2.out⟩
  · have e0 : (k == 0) = false := by rw [beq_eq_false_iff_ne]; exact h0
    by_cases h1 : k = 1
    · have e1 : (k == 1) = true := by rw [beq_iff_eq]; exact h1
      go_wp2_with fail
      go_ret
      exact ⟨_, rfl, ⟨by omega, by omega⟩, F2.out, C2.out⟩
    · have e1 : (k == 1) = false := by rw [beq_eq_false_iff_ne]; exact h1
      go_wp2_with fail
      go_ret
      exact ⟨_, rfl, ⟨by omega, by omega⟩, F2.out, C2.out⟩
set_option maxRecDepth 20000 in
set_option maxHeartbeats 2000000 in
theorem l1Some_any (p : Nat) (ao : Option Addr) (n cap : Nat) (m : Int) (w : World) (m0 : 0 ≤ m) (m1 : m ≤ 4096) (hc : Cur w p ao n cap) :
    Calls Tryz.prog 49 #[.pointer (some ⟨p, 0, none⟩), .int .i64 m] w fun e w' => ∃ (v : Value), e = .returned v ∧ ∃ ds : List Int, (ds.length : Int) = m ∧ (∀ x ∈ ds, 0 ≤ x ∧ x ≤ 255) ∧ w'.ownsRow w.heap.size 5 1 v ds.length (ds.map (.int .u8 ·)) ∧ Fw p w w' ∧ Cur w' p ao n cap := by
  have lp := hc.lt
  have HC : Hid (Cur w p ao n cap) := hc
  obtain ⟨iS, hi, hz0, hz1, hz2⟩ := info_parts info_cB
  have HIS : Hid (Tryz.prog.info? 5 = some iS ∧ iS.zero = some (.int .u8 0) ∧ iS.size = 1 ∧ iS.bytes = 1) := ⟨hi, hz0, hz1, hz2⟩
  clear hc hi hz0 hz1 hz2
  go_enter Tryz.func49, Tryz.ntmps49
  go_wp2_with fail
  have f0 : Fw p w (w.alloc (.cells #[] 5)) := .of_below ((Below.refl _ _).alloc (Nat.le_refl _) _)
  have c0 : Cur (w.alloc (.cells #[] 5)) p ao n cap := HC.out.below ((Below.refl _ _).alloc (Nat.le_refl _) _)
  have o0 : (w.alloc (.cells #[] 5)).ownsRow w.heap.size 5 1 (.slice (some ⟨w.heap.size, 0, none⟩) 0 0) 0 [] := World.ownsRow_lit w #[] 0 (Nat.le_refl _) (by unfold maxLen; omega) rfl
  go_loopw [5, 6] (fun ov iv wr => ∃ (ds : List Int), iv = .int .i64 (ds.length : Int) ∧ (ds.length : Int) ≤ m ∧ (∀ x ∈ ds, 0 ≤ x ∧ x ≤ 255) ∧ wr.ownsRow w.heap.size 5 1 ov ds.length (ds.map (.int .u8 ·)) ∧ Fw p w wr ∧ Cur wr p ao n cap) (fun _ iv _ => (m - intOf iv).toNat)
  case atStart => exact ⟨[], rfl, by simpa using m0, fun _ h => absurd h List.not_mem_nil, o0, f0, c0⟩
  case round =>
    clear f0 c0 o0 HC
    obtain ⟨ds, hiv, hyl, hds, ho, hf, hcu⟩ := hrel
    subst hiv
    obtain ⟨k, hk⟩ : ∃ k : Int, (ds.length : Int) = k := ⟨_, rfl⟩
    have HK : Hid ((ds.length : Int) = k) := hk
    have k0 : 0 ≤ k := by omega
    rw [hk] at hyl ⊢
    obtain ⟨oa, oc, hov⟩ := row_slD ho
    subst hov
    have HO : Hid (wr.ownsRow w.heap.size 5 1 (.slice oa ds.length oc) ds.length (ds.map (.int .u8 ·))) := ho
    have HF : Hid (Fw p w wr) := hf
    have HU : Hid (Cur wr p ao n cap) := hcu
    have HD : Hid (∀ x ∈ ds, 0 ≤ x ∧ x ≤ 255) := hds
    clear hk ho hf hcu hds
    by_cases hlt : k < m
    · go_wp2_with fail
      refine (l1Byte_any p ao n cap wr HU.out).mono ?_
      rintro e w2 ⟨x, rfl, x0, x1, f, c⟩
      have F2 : Hid (Fw p w w2) := HF.out.trans f
      have C2 : Hid (Cur w2 p ao n cap) := c
      have O2 : Hid (w2.ownsRow w.heap.size 5 1 (.slice oa ds.length oc) ds.length (ds.map (.int .u8 ·))) := row_fw HO.out f lp
      have hBa : ∀ o, w.heap.size ≤ (w2.alloc o).heap.size := fun o => Nat.le_trans F2.out.size (by simp)
      have HCN : Hid (∀ j u, [Value.int .u8 x][j]? = some u → (w2.alloc (.cells #[.int .u8 x] 5)).cell? ((⟨w2.heap.size, 0, none⟩ : Addr).add j) = some u) := cells_newD w2 _ _
      have OA : Hid (∀ o, (w2.alloc o).ownsRow w.heap.size 5 1 (.slice oa ds.length oc) ds.length (ds.map (.int .u8 ·))) := fun o => row_belowD O2.out ((Below.refl _ _).alloc (Nat.le_refl _) _)
      have hyn : ds.length ≤ 4096 := by have := HK.out; omega
      clear f c
      go_wp2_with (first | (at_builtin; refine wpList_append_own_at _ rfl _ _ 22 rfl w.heap.size 5 iS _ 1 1 Tryz.underlying22 HIS.out.1 HIS.out.2.1 HIS.out.2.2.1 HIS.out.2.2.2 rfl (by decide) _ _ _ rfl (OA.out _) ⟨w2.heap.size, 0, none⟩ 1 1 [Value.int .u8 x] rfl rfl HCN.out ?c2 ?c3 ?c4 (hBa _) ?_))
      case c2 => simp [Value.oneCell']
      case c3 => unfold maxLen; omega
      case c4 => omega
      intro v' w3 hown hgrow _ _
      have ba : Below w2.heap.size w2 (w2.alloc (.cells #[.int .u8 x] 5)) := (Below.refl _ _).alloc (Nat.le_refl _) _
      have F3 : Hid (Fw p w w3) := (F2.out.trans (.of_below ba)).grown hgrow (fun j hj => (O2.out.lt j hj).1)
      have C3 : Hid (Cur w3 p ao n cap) := (C2.out.below ba).grown hgrow (fun j hj => by have := (O2.out.lt j hj).1; omega)
      have O3 : Hid (w3.ownsRow w.heap.size 5 1 v' (ds ++ [x]).length ((ds ++ [x]).map (.int .u8 ·))) := (by rw [List.length_append, List.map_append]; exact hown : w3.ownsRow w.heap.size 5 1 v' (ds ++ [x]).length ((ds ++ [x]).map (.int .u8 ·)))
      clear hown hgrow ba
      go_wp2_with fail
      go_roundw
      case rel => exact ⟨ds ++ [x], by have := HK.out; simp; omega, by have := HK.out; simp; omega, fun y hy => by
        rcases List.mem_append.1 hy with hy | hy
        · exact HD.out y hy
        · have e : y = x := by simpa using hy
          rw [e]; exact ⟨x0, x1⟩, O3.out, F3.out, C3.out⟩
      case measure => simp [intOf]; omega
    · go_wp2_with fail
      go_ret
      exact ⟨_, rfl, ds, by have := HK.out; omega, HD.out, HO.out, HF.out, HU.out⟩
end Go.Proofs.YtpnclceamkmklaaGreat
