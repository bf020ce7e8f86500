import Derived.Test.YtcgcldokompafaaGreatDoorCkBlk
import Derived.Deep.Cut
import Derived.Deep.DeepCutAuto
import Derived.LaidEql
import Derived.Stop.Asserts
import Derived.RowKitTokens
/- errors.As at a chain of errors. -/
namespace Go.Proofs.YtcgcldokompafaaGreatDoor
open Go.RowKit Go.Deep Go.Extern.Stop Go.Stop Go.Extern
theorem as_nil (t : Value) (w : World) : Calls Tryz.prog 29 #[.nilIface, t] w fun e w' => e = .returned (.bool false) /\ w' = w := by
 go_enter Tryz.func29, Tryz.ntmps29
 go_wp2
 go_ret
 exact ⟨rfl, rfl⟩
theorem rl_valT (t : Addr) (w : World) : (ReflectliteValue.unpack (.iface 87 (.pointer (some t)))).run Tryz.prog w = .ok (.agg #[.pointer (some ⟨1, 87, none⟩), .pointer (some ⟨w.heap.size, 0, none⟩), .int .u64 150]) (w.alloc (.cells #[.pointer (some t)] 87)) := by kernel_rfl
theorem rl_typeT (a : Addr) (w : World) : (ReflectliteValue.methodAny (ReflectliteValue.valueError "reflectlite.Value.Type" 0) (fun t _ _ _ => ReflectliteType.toType t) #[.agg #[.pointer (some ⟨1, 87, none⟩), .pointer (some a), .int .u64 150]]).run Tryz.prog w = .ok (.iface 165 (.agg #[.pointer (some ⟨1, 87, none⟩)])) w := by kernel_rfl
theorem rl_mKind (h : Value) (w : World) : (Go.method 338 165 (.agg #[h]) "Kind").run Tryz.prog w = .ok (145, h) w := by kernel_rfl
theorem rl_kindT (w : World) : ((ReflectliteType.abiMethod fun t => Functor.map (fun a : Nat => Value.int IntKind.u8 (a : Int)) (Rtype.kind t)) #[.pointer (some ⟨1, 87, none⟩)]).run Tryz.prog w = .ok (.int .u8 22) w := by kernel_rfl
theorem rl_kindF (w : World) : ((ReflectliteType.abiMethod fun t => Functor.map (fun a : Nat => Value.int IntKind.u8 (a : Int)) (Rtype.kind t)) #[.pointer (some ⟨1, 85, none⟩)]).run Tryz.prog w = .ok (.int .u8 25) w := by kernel_rfl
theorem rl_partsT (a : Addr) (w : World) : (ReflectliteValue.parts (.agg #[.pointer (some ⟨1, 87, none⟩), .pointer (some a), .int .u64 150])).run Tryz.prog w = .ok (some (87, a, 150)) w := by kernel_rfl
theorem rl_one (v : Value) (h1 : Value -> Sem Value) (h2 : Array Value -> Sem Value) : @ReflectliteValue.method.match_2 (fun _ => Sem Value) #[v] h1 h2 = h1 v := rfl
theorem rl_isNil (a p : Addr) (W : World) (ha : W.cell? a = some (.pointer (some p))) : (ReflectliteValue.method (ReflectliteValue.valueError "reflectlite.Value.IsNil" 0) ReflectliteValue.isNil #[.agg #[.pointer (some ⟨1, 87, none⟩), .pointer (some a), .int .u64 150]]).run Tryz.prog W = .ok (.bool false) W := by
 delta ReflectliteValue.method
 rw [rl_one]
 simp only [Sem.run_bind, rl_partsT, Result.andThen]
 simp [ReflectliteValue.isNil, loadVar, isAgg, underlying, Tryz.underlying87, ha, Result.andThen]
theorem rl_mElem (h : Value) (w : World) : (Go.method 338 165 (.agg #[h]) "Elem").run Tryz.prog w = .ok (158, .agg #[h]) w := by kernel_rfl
theorem rl_mImpl (h : Value) (w : World) : (Go.method 338 165 (.agg #[h]) "Implements").run Tryz.prog w = .ok (159, .agg #[h]) w := by kernel_rfl
theorem rl_mAss (h : Value) (w : World) : (Go.method 338 165 (.agg #[h]) "AssignableTo").run Tryz.prog w = .ok (156, .agg #[h]) w := by kernel_rfl
theorem rl_elemT (w : World) : (ReflectliteType.method ReflectliteType.elem #[.agg #[.pointer (some ⟨1, 87, none⟩)]]).run Tryz.prog w = .ok (.iface 165 (.agg #[.pointer (some ⟨1, 85, none⟩)])) w := by kernel_rfl
theorem rl_impl (w : World) : (ReflectliteType.relation "Implements" ReflectliteType.implements_ #[.agg #[.pointer (some ⟨1, 85, none⟩)], .iface 165 (.agg #[.pointer (some ⟨1, 80, none⟩)])]).run Tryz.prog w = .ok (.bool true) w := by kernel_rfl
theorem rl_typF (v : Value) (w : World) : (ReflectliteType.typeOf #[.iface 85 v]).run Tryz.prog w = .ok (.iface 165 (.agg #[.pointer (some ⟨1, 85, none⟩)])) w := by kernel_rfl
theorem rl_typW (v : Value) (w : World) : (ReflectliteType.typeOf #[.iface 192 v]).run Tryz.prog w = .ok (.iface 165 (.agg #[.pointer (some ⟨1, 192, none⟩)])) w := by kernel_rfl
theorem rl_assF (w : World) : (ReflectliteType.relation "AssignableTo" ReflectliteType.assignableTo #[.agg #[.pointer (some ⟨1, 85, none⟩)], .iface 165 (.agg #[.pointer (some ⟨1, 85, none⟩)])]).run Tryz.prog w = .ok (.bool true) w := by kernel_rfl
theorem rl_assW (w : World) : (ReflectliteType.relation "AssignableTo" ReflectliteType.assignableTo #[.agg #[.pointer (some ⟨1, 192, none⟩)], .iface 165 (.agg #[.pointer (some ⟨1, 85, none⟩)])]).run Tryz.prog w = .ok (.bool false) w := by kernel_rfl
theorem rl_valF (e a : Int) (w : World) : (ReflectliteValue.unpack (.iface 85 (.agg #[.int .i64 e, .int .i64 a]))).run Tryz.prog w = .ok (.agg #[.pointer (some ⟨1, 85, none⟩), .pointer (some ⟨w.heap.size, 0, none⟩), .int .u64 153]) (w.alloc (.cells #[.int .i64 e, .int .i64 a] 85)) := by kernel_rfl
theorem rl_elemOf (w : World) : (Rtype.elem? 87).run Tryz.prog w = .ok (some 85) w := by kernel_rfl
theorem rl_mk (p : Addr) (w : World) : (ReflectliteValue.mk 85 p ReflectliteValue.flagAddr).run Tryz.prog w = .ok (.agg #[.pointer (some ⟨1, 85, none⟩), .pointer (some p), .int .u64 409]) w := by kernel_rfl
theorem rl_elemV (a p : Addr) (W : World) (ha : W.cell? a = some (.pointer (some p))) : (ReflectliteValue.method (ReflectliteValue.valueError "reflectlite.Value.Elem" 0) ReflectliteValue.elem #[.agg #[.pointer (some ⟨1, 87, none⟩), .pointer (some a), .int .u64 150]]).run Tryz.prog W = .ok (.agg #[.pointer (some ⟨1, 85, none⟩), .pointer (some p), .int .u64 409]) W := by
 delta ReflectliteValue.method
 rw [rl_one]
 simp only [Sem.run_bind, rl_partsT, Result.andThen]
 simp [ReflectliteValue.elem, loadVar, isAgg, underlying, Tryz.underlying87, ha, Result.andThen, rl_elemOf, rl_mk]
theorem rl_two (v x : Value) (h1 : Value -> Value -> Sem Value) (h2 : Array Value -> Sem Value) : @ReflectliteValue.set.match_3 (fun _ => Sem Value) #[v, x] h1 h2 = h1 v x := rfl
theorem rl_partsA (a : Addr) (w : World) : (ReflectliteValue.parts (.agg #[.pointer (some ⟨1, 85, none⟩), .pointer (some a), .int .u64 409])).run Tryz.prog w = .ok (some (85, a, 409)) w := by kernel_rfl
theorem rl_partsF (a : Addr) (w : World) : (ReflectliteValue.parts (.agg #[.pointer (some ⟨1, 85, none⟩), .pointer (some a), .int .u64 153])).run Tryz.prog w = .ok (some (85, a, 153)) w := by kernel_rfl
theorem rl_direct (w : World) : (Rtype.directlyAssignable 85 85).run Tryz.prog w = .ok true w := by kernel_rfl
theorem flaw_info : (Tryz.prog.info? 85).map (·.size) = some 2 := by kernel_rfl
theorem rl_set (t q : Nat) (e a : Int) (x y : Value) (W : World) (hb : W.heap[q]? = some (.cells #[.int .i64 e, .int .i64 a] 85)) (ht : W.heap[t]? = some (.cells #[x, y] 85)) :
  (ReflectliteValue.set #[.agg #[.pointer (some ⟨1, 85, none⟩), .pointer (some ⟨t, 0, none⟩), .int .u64 409], .agg #[.pointer (some ⟨1, 85, none⟩), .pointer (some ⟨q, 0, none⟩), .int .u64 153]]).run Tryz.prog W
   = .ok (.tuple #[]) ((W.setCell ⟨t, 0, none⟩ (.int .i64 e)).setCell ⟨t, 1, none⟩ (.int .i64 a)) := by
 have hl : (loadVar 85 ⟨q, 0, none⟩).run Tryz.prog W = .ok (.agg #[.int .i64 e, .int .i64 a]) W :=
  run_loadVar_mid W q 0 _ [.int .i64 e, .int .i64 a] _ (fun j v hv => by rw [Nat.zero_add, hq_cell hb j]; simpa using hv) Tryz.underlying85 rfl flaw_info
 have hs : (storeVar 85 ⟨t, 0, none⟩ (.agg #[.int .i64 e, .int .i64 a])).run Tryz.prog W = .ok () ((W.setCell ⟨t, 0, none⟩ (.int .i64 e)).setCell ⟨t, 1, none⟩ (.int .i64 a)) :=
  run_storeVar_mid W t 0 _ #[.int .i64 e, .int .i64 a] (fun j hj => by
    rw [Nat.zero_add, hq_cell ht j]
    refine ⟨?_, hq_free ht j⟩
    have : j < 2 := hj
    match j, this with
    | 0, _ => rfl
    | 1, _ => rfl) flaw_info (by simp [Value.oneCell'])
 delta ReflectliteValue.set
 rw [rl_two]
 simp only [Sem.run_bind, rl_partsA, rl_partsF, Result.andThen]
 simp [ReflectliteValue.flagAddr, hl, Result.andThen, rl_direct, hs]
end Go.Proofs.YtcgcldokompafaaGreatDoor
/- errors.As at a chain of errors: the walk. -/
namespace Go.Proofs.YtcgcldokompafaaGreatDoor
open Go.RowKit Go.Deep Go.Extern.Stop Go.Stop Go.Extern
theorem ta_asW (v : Value) (w : World) : (Instr.typeAssert (.iface 192 v) 80 170 true).run Tryz.prog w = .ok (.tuple #[.nilIface, .bool false]) w := run_typeAssert_lacksB Tryz.underlying170 (by kernel_rfl) (by kernel_rfl) v 80 w
theorem ta_unW (v : Value) (w : World) : (Instr.typeAssert (.iface 192 v) 80 173 true).run Tryz.prog w = .ok (.tuple #[.iface 192 v, .bool true]) w := by kernel_rfl
theorem rl_mUnw (x : Array Value) (w : World) : (Go.method 338 192 (.agg x) "Unwrap").run Tryz.prog w = .ok (168, .agg x) w := by kernel_rfl
theorem unwrap_any (p : Int) (t : TypeId) (x : Value) (w : World) : Calls Tryz.prog 168 #[.agg #[.int .i64 p, .iface t x]] w fun e w' => e = .returned (.iface t x) /\ Below w.heap.size w w' := by
 go_enter Tryz.func168, Tryz.ntmps168
 go_wp2
 go_ret
 exact ⟨rfl, (Below.refl _ _).alloc (Nat.le_refl _) _⟩
theorem size_unwrap (t : TypeId) (p v : Value) : SizeOf.sizeOf v < SizeOf.sizeOf (Value.iface t (.agg #[p, v])) := by
 have : SizeOf.sizeOf v < SizeOf.sizeOf (#[p, v] : Array Value) := Array.sizeOf_lt_of_mem (by simp)
 simp only [Value.iface.sizeOf_spec, Value.agg.sizeOf_spec]
 omega
set_option maxRecDepth 20000 in
set_option maxHeartbeats 8000000 in
theorem as_any (e0 a0 : Int) (v : Value) (hv : ErrIs v e0 a0) (b q : Nat) (x y : Value) (w : World) (hq : w.cell? ⟨q, 0, none⟩ = some (.pointer (some ⟨b, 0, none⟩))) (hb : w.heap[b]? = some (.cells #[x, y] 85)) (hql : q < w.heap.size) :
  Calls Tryz.prog 56 #[v, .iface 87 (.pointer (some ⟨b, 0, none⟩)), .agg #[.pointer (some ⟨1, 87, none⟩), .pointer (some ⟨q, 0, none⟩), .int .u64 150], .iface 165 (.agg #[.pointer (some ⟨1, 85, none⟩)])] w fun e w' => e = .returned (.bool true) /\ Ft b w w' /\ w'.heap[b]? = some (.cells #[.int .i64 e0, .int .i64 a0] 85) := by
 have h53 := @run_callFunc_extern Tryz.prog 53 _ (fun args => ReflectliteValue.unpack (args.getD 0 (.tuple #[]))) Tryz.func53 (by kernel_rfl) (by kernel_rfl) (by kernel_rfl) (by kernel_rfl)
 have h156 := @run_callFunc_extern Tryz.prog 156 _ (ReflectliteType.relation "AssignableTo" ReflectliteType.assignableTo) Tryz.func156 (by kernel_rfl) (by kernel_rfl) (by kernel_rfl) (by kernel_rfl)
 have h83 := @run_callFunc_extern Tryz.prog 83 _ ReflectliteType.typeOf Tryz.func83 (by kernel_rfl) (by kernel_rfl) (by kernel_rfl) (by kernel_rfl)
 have h84 := @run_callFunc_extern Tryz.prog 84 _ (ReflectliteValue.method (ReflectliteValue.valueError "reflectlite.Value.Elem" 0) ReflectliteValue.elem) Tryz.func84 (by kernel_rfl) (by kernel_rfl) (by kernel_rfl) (by kernel_rfl)
 have h85 := @run_callFunc_extern Tryz.prog 85 _ ReflectliteValue.set Tryz.func85 (by kernel_rfl) (by kernel_rfl) (by kernel_rfl) (by kernel_rfl)
 have tF := rl_typF
 have tW := rl_typW
 have mA := rl_mAss
 have aF := rl_assF
 have aW := rl_assW
 have vF := rl_valF
 have HV : Hid (ErrIs v e0 a0) := hv
 have HQ : Hid (w.cell? ⟨q, 0, none⟩ = some (.pointer (some ⟨b, 0, none⟩))) := hq
 have HB : Hid (w.heap[b]? = some (.cells #[x, y] 85)) := hb
 have hbl : b < w.heap.size := (Array.getElem?_eq_some_iff.1 hb).1
 clear hv hq hb
 go_enter Tryz.func56, Tryz.ntmps56
 go_wp2_with fail
 obtain ⟨u, hu, bu, x0, x1, x2⟩ : ∃ z, w.alloc (.cells #[.pointer (some ⟨1, 87, none⟩), .pointer (some ⟨q, 0, none⟩), .int .u64 150] 124) = z /\ Below w.heap.size w z /\ z.cell? ⟨w.heap.size, 0, none⟩ = some (.pointer (some ⟨1, 87, none⟩)) /\ z.cell? ⟨w.heap.size, 1, none⟩ = some (.pointer (some ⟨q, 0, none⟩)) /\ z.cell? ⟨w.heap.size, 2, none⟩ = some (.int .u64 150) := ⟨_, rfl, (Below.refl _ _).alloc (Nat.le_refl _) _, (hq_cell (hq_new w _) 0).trans rfl, (hq_cell (hq_new w _) 1).trans rfl, (hq_cell (hq_new w _) 2).trans rfl⟩
 rw [hu]
 have ul : w.heap.size < u.heap.size := by rw [<- hu]; simp
 have BU : Hid (Below w.heap.size w u) := bu
 have X : Hid (u.cell? ⟨w.heap.size, 0, none⟩ = some (.pointer (some ⟨1, 87, none⟩)) /\ u.cell? ⟨w.heap.size, 1, none⟩ = some (.pointer (some ⟨q, 0, none⟩)) /\ u.cell? ⟨w.heap.size, 2, none⟩ = some (.int .u64 150)) := ⟨x0, x1, x2⟩
 have HB1 : Hid (u.heap[b]? = some (.cells #[x, y] 85)) := (bu.block b hbl).trans HB.out
 have HQ1 : Hid (u.cell? ⟨q, 0, none⟩ = some (.pointer (some ⟨b, 0, none⟩))) := (bu.cell (p := ⟨q, 0, none⟩) hql).trans HQ.out
 clear hu bu x0 x1 x2 HB HQ
 go_loopw [0] (fun s0 wx => ∃ vv, s0 = vv /\ ErrIs vv e0 a0 /\ Below u.heap.size u wx) (fun s0 _ => SizeOf.sizeOf s0)
 case atStart => exact ⟨v, rfl, HV.out, Below.refl _ _⟩
 case round =>
  obtain ⟨vv, rfl, hv, hb⟩ := hrel
  have B2 : Hid (Below u.heap.size u wr) := hb
  have hvi := hv.inv
  clear hv
  rcases hvi with rfl | ⟨p, v', rfl, hv⟩
  ·
   have x0 := (hb.cell (p := ⟨w.heap.size, 0, none⟩) ul).trans X.out.1
   have x1 := (hb.cell (p := ⟨w.heap.size, 1, none⟩) ul).trans X.out.2.1
   have x2 := (hb.cell (p := ⟨w.heap.size, 2, none⟩) ul).trans X.out.2.2
   have ul2 : w.heap.size < wr.heap.size := Nat.lt_of_lt_of_le ul hb.size
   have el := rl_elemV ⟨q, 0, none⟩ ⟨b, 0, none⟩ wr ((hb.cell (p := ⟨q, 0, none⟩) (Nat.lt_trans hql ul)).trans HQ1.out)
   have hbw : wr.heap[b]? = some (.cells #[x, y] 85) := (hb.block b (Nat.lt_trans hbl ul)).trans HB1.out
   have st := rl_set b wr.heap.size e0 a0 x y (wr.alloc (.cells #[.int .i64 e0, .int .i64 a0] 85)) (hq_new _ _) ((Below.heap_alloc _ _ _ (by have := (Array.getElem?_eq_some_iff.1 hbw).1; omega)).trans hbw)
   have HBW : Hid (wr.heap[b]? = some (.cells #[x, y] 85)) := hbw
   clear hb hbw
   go_wp2
   go_ret
   obtain ⟨t, ht, bt⟩ : ∃ z, wr.alloc (.cells #[.int .i64 e0, .int .i64 a0] 85) = z /\ Below wr.heap.size wr z := ⟨_, rfl, (Below.refl _ _).alloc (Nat.le_refl _) _⟩
   rw [ht]
   have hbt : t.heap[b]? = some (.cells #[x, y] 85) := (bt.block b (Array.getElem?_eq_some_iff.1 HBW.out).1).trans HBW.out
   refine ⟨rfl, ((Ft.of_below ((BU.out.trans (B2.out.mono (by omega))).trans (bt.mono (by omega)))).set _ _).set _ _, hq_set (hq_set hbt 0 _) 1 _⟩
  ·
   have HV2 : Hid (ErrIs v' e0 a0) := hv
   have t1 := ta_asW
   have t2 := ta_unW
   have mU := rl_mUnw
   have hsz := size_unwrap 192 (.int .i64 p) v'
   obtain ⟨tt, xx, rfl⟩ := hv.shp
   clear hb hv
   go_wp2_with fail
   refine (unwrap_any p tt xx _).mono ?_
   rintro e u2 ⟨rfl, hb⟩
   have B3 : Hid (Below u.heap.size u u2) := B2.out.trans (hb.mono B2.out.size)
   clear hb t1 t2 mU
   go_wp2_with fail
   go_roundw
   case rel => exact ⟨_, rfl, HV2.out, B3.out⟩
   case measure => exact hsz
set_option maxRecDepth 20000 in
set_option maxHeartbeats 8000000 in
theorem errorsAs_any (e0 a0 : Int) (v : Value) (hv : ErrIs v e0 a0) (b : Nat) (x y : Value) (w : World) (hb : w.heap[b]? = some (.cells #[x, y] 85)) (hg : w.cell? ⟨0, 0, none⟩ = some (.iface 165 (.agg #[.pointer (some ⟨1, 80, none⟩)]))) (h0 : 0 < w.heap.size) :
  Calls Tryz.prog 29 #[v, .iface 87 (.pointer (some ⟨b, 0, none⟩))] w fun e w' => e = .returned (.bool true) /\ Ft b w w' /\ w'.heap[b]? = some (.cells #[.int .i64 e0, .int .i64 a0] 85) := by
 have h53 := @run_callFunc_extern Tryz.prog 53 _ (fun args => ReflectliteValue.unpack (args.getD 0 (.tuple #[]))) Tryz.func53 (by kernel_rfl) (by kernel_rfl) (by kernel_rfl) (by kernel_rfl)
 have h54 := @run_callFunc_extern Tryz.prog 54 _ (ReflectliteValue.methodAny (ReflectliteValue.valueError "reflectlite.Value.Type" 0) (fun t _ _ _ => ReflectliteType.toType t)) Tryz.func54 (by kernel_rfl) (by kernel_rfl) (by kernel_rfl) (by kernel_rfl)
 have h55 := @run_callFunc_extern Tryz.prog 55 _ (ReflectliteValue.method (ReflectliteValue.valueError "reflectlite.Value.IsNil" 0) ReflectliteValue.isNil) Tryz.func55 (by kernel_rfl) (by kernel_rfl) (by kernel_rfl) (by kernel_rfl)
 have h145 := @run_callFunc_extern Tryz.prog 145 _ (ReflectliteType.abiMethod fun t => do pure (.int .u8 (<- Rtype.kind t))) Tryz.func145 (by kernel_rfl) (by kernel_rfl) (by kernel_rfl) (by kernel_rfl)
 have h158 := @run_callFunc_extern Tryz.prog 158 _ (ReflectliteType.method ReflectliteType.elem) Tryz.func158 (by kernel_rfl) (by kernel_rfl) (by kernel_rfl) (by kernel_rfl)
 have h159 := @run_callFunc_extern Tryz.prog 159 _ (ReflectliteType.relation "Implements" ReflectliteType.implements_) Tryz.func159 (by kernel_rfl) (by kernel_rfl) (by kernel_rfl) (by kernel_rfl)
 have vT := rl_valT
 have tT := rl_typeT
 have mK := rl_mKind
 have mE := rl_mElem
 have mI := rl_mImpl
 have kT := rl_kindT
 have kF := rl_kindF
 have eT := rl_elemT
 have iF := rl_impl
 have HV : Hid (ErrIs v e0 a0) := hv
 have HB : Hid (w.heap[b]? = some (.cells #[x, y] 85)) := hb
 have HG : Hid (w.cell? ⟨0, 0, none⟩ = some (.iface 165 (.agg #[.pointer (some ⟨1, 80, none⟩)]))) := hg
 have hbl : b < w.heap.size := (Array.getElem?_eq_some_iff.1 hb).1
 obtain ⟨tt, xx, rfl⟩ := hv.shp
 clear hv hb hg
 go_enter Tryz.func29, Tryz.ntmps29
 go_upto_region 6 with fail
 obtain ⟨u, hu, bu, x0, x1, x2, q0, ul⟩ : ∃ z, (w.alloc (.cells #[.pointer (some ⟨b, 0, none⟩)] 87)).alloc (.cells #[.pointer (some ⟨1, 87, none⟩), .pointer (some ⟨w.heap.size, 0, none⟩), .int .u64 150] 124) = z /\ Below w.heap.size w z /\ z.cell? ⟨w.heap.size + 1, 0, none⟩ = some (.pointer (some ⟨1, 87, none⟩)) /\ z.cell? ⟨w.heap.size + 1, 1, none⟩ = some (.pointer (some ⟨w.heap.size, 0, none⟩)) /\ z.cell? ⟨w.heap.size + 1, 2, none⟩ = some (.int .u64 150) /\ z.cell? ⟨w.heap.size, 0, none⟩ = some (.pointer (some ⟨b, 0, none⟩)) /\ w.heap.size + 1 < z.heap.size := by
  have n0 := hq_new w (.cells #[.pointer (some ⟨b, 0, none⟩)] 87)
  have b0 := (Below.refl w.heap.size w).alloc (Nat.le_refl _) (.cells #[.pointer (some ⟨b, 0, none⟩)] 87)
  generalize hx : w.alloc (.cells #[.pointer (some ⟨b, 0, none⟩)] 87) = z at *
  have s0 : z.heap.size = w.heap.size + 1 := by rw [<- hx]; simp
  have n1 := hq_new z (.cells #[.pointer (some ⟨1, 87, none⟩), .pointer (some ⟨w.heap.size, 0, none⟩), .int .u64 150] 124)
  have b1 := (Below.refl z.heap.size z).alloc (Nat.le_refl _) (.cells #[.pointer (some ⟨1, 87, none⟩), .pointer (some ⟨w.heap.size, 0, none⟩), .int .u64 150] 124)
  rw [s0] at n1
  exact ⟨_, rfl, b0.trans (b1.mono (by omega)), (hq_cell n1 0).trans rfl, (hq_cell n1 1).trans rfl, (hq_cell n1 2).trans rfl, (b1.cell (p := ⟨w.heap.size, 0, none⟩) (show w.heap.size < z.heap.size by omega)).trans ((hq_cell n0 0).trans rfl), by simp [s0]⟩
 rw [hu]
 have n8 := rl_isNil ⟨w.heap.size, 0, none⟩ ⟨b, 0, none⟩ u q0
 have g0 : u.cell? ⟨0, 0, none⟩ = some (.iface 165 (.agg #[.pointer (some ⟨1, 80, none⟩)])) := (bu.cell (p := ⟨0, 0, none⟩) h0).trans HG.out
 have h0' : 0 < u.heap.size := by omega
 have BU : Hid (Below w.heap.size w u) := bu
 have HB1 : Hid (u.heap[b]? = some (.cells #[x, y] 85)) := (bu.block b hbl).trans HB.out
 have Q0 : Hid (u.cell? ⟨w.heap.size, 0, none⟩ = some (.pointer (some ⟨b, 0, none⟩))) := q0
 clear hu bu q0
 go_wp2_with fail
 refine (as_any e0 a0 _ HV.out b w.heap.size x y u Q0.out HB1.out (by omega)).mono ?_
 rintro e u2 ⟨rfl, hf, hbb⟩
 have FF : Hid (Ft b u u2 /\ u2.heap[b]? = some (.cells #[.int .i64 e0, .int .i64 a0] 85)) := ⟨hf, hbb⟩
 clear hf hbb n8 g0 x0 x1 x2
 go_wp2
 go_ret
 exact ⟨rfl, (Ft.of_below BU.out).trans FF.out.1, FF.out.2⟩
end Go.Proofs.YtcgcldokompafaaGreatDoor
