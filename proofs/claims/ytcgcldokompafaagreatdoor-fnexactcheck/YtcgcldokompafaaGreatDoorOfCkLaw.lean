import Derived.Test.YtcgcldokompafaaGreatDoorCkTr
import Derived.Test.YtcgcldokompafaaGreatDoorCkTrS
import Derived.Test.YtcgcldokompafaaGreatDoorOfCkTrM
import Derived.Test.YtcgcldokompafaaGreatDoorOfTransSpS
import Derived.Test.YtcgcldokompafaaGreatDoorCk5e
import Derived.Test.YtcgcldokompafaaGreatDoorCkWalk
import Derived.Test.YtcgcldokompafaaGreatDoorOfOpenProc
import Derived.Test.YtcgcldokompafaaGreatDoorOfAbsWalks
import Derived.Test.YtcgcldokompafaaGreatDoorOfCl
import Derived.Test.YtcgcldokompafaaGreatDoorCards
import Derived.Test.YtcgcldokompafaaGreatDoorTie
import Derived.OpenShut
import Derived.ChangeOld
import Derived.Below
import Derived.LaidLaws
import Derived.LaidHandle
import Derived.SevenTiedAt
import Derived.Stop.Joined
/- Transfer, the model's word: what it answers, whatever it is asked. -/
namespace Go.Proofs.YtcgcldokompafaaGreatDoor
open Go.RowKit
set_option maxHeartbeats 4000000 in
theorem tr_spec : TrSpec := by
 intro bH cH nH S bR cR V0 bA cA V z c op d ra rb imm h w lH h1 h2 hok
 by_cases hv : absOK nH S 8 V0 8 V z c = true /\ implIns op d ra rb imm h = true /\ op <= 28
 rotate_left
 ·refine (specTransfer_no bH cH nH S bR cR 8 V0 bA cA 8 V z c op d ra rb imm h w lH (by omega) (by omega) h1 h2 hv).mono ?_
  rintro e w' ⟨rfl, hb⟩
  have e11 : trE nH S 8 V0 8 V z c op d ra rb imm h = 11 := by unfold trE; rw [if_neg hv]
  rw [e11]
  exact ⟨Or.inl ⟨by decide, rfl⟩, hb⟩
 obtain ⟨_, hik, o28⟩ := hv
 obtain ⟨o1, d0, d7, ra0, ra7, rb0, rb7, h0, h7, n0, n1, n2⟩ := ins_nats hik o28
 obtain ⟨di, rfl⟩ : ∃ k : Nat, d = (k : Int) := ⟨d.toNat, by omega⟩
 obtain ⟨ia, rfl⟩ : ∃ k : Nat, ra = (k : Int) := ⟨ra.toNat, by omega⟩
 obtain ⟨ib, rfl⟩ : ∃ k : Nat, rb = (k : Int) := ⟨rb.toNat, by omega⟩
 obtain ⟨q, rfl⟩ : ∃ k : Nat, h = (k : Int) := ⟨h.toNat, by omega⟩
 by_cases o21 : 21 <= op
 ·exact specTk_M bH cH nH S bR cR 8 V0 bA cA V z c op imm di ia ib q (by omega) (by omega) (by omega) w lH (by omega) h1 h2 hok hik o21 o28 n0 n1
 by_cases os : op = 19 ∨ op = 20
 ·exact specTk_S bH cH nH S bR cR 8 V0 bA cA V z c op imm di ia ib q (by omega) (by omega) (by omega) w lH (by omega) h1 h2 hok hik os
 ·exact specTk_R bH cH nH S bR cR 8 V0 bA cA V z c op imm di ia ib q (by omega) (by omega) (by omega) w lH (by omega) h1 h2 hok hik o1 (by omega) n0 n1 n2
end Go.Proofs.YtcgcldokompafaaGreatDoor
/- FnExactCheck: its row, its card. -/
namespace Go.Proofs.YtcgcldokompafaaGreatDoor
open Go.ChangeShapes Go.WideShapes Go.ChangeAt Go.RowKit Go.Deep
theorem ck_own : ownKnob Tryz.prog.godebug = none := by kernel_rfl
theorem ck_et : Tryz.prog.globalNamed "errors.errorType" = some 0 := by kernel_rfl
theorem ck_rt : (Tryz.prog.cutTypes.find? (·.1 == "internal/reflectlite.rtype")).map (·.2) = some 165 := by kernel_rfl
theorem ck_oneRow : ((List.range 238).filter fun t => Tryz.prog.rowNamed t [101, 114, 114, 111, 114]) = [80] := by kernel_rfl
theorem ck_size : Tryz.prog.types.size = 238 := by kernel_rfl
theorem handle_of_laid {W : World} (h : laidMetH Tryz.prog Rows.fnExactCheckRow.laid W) : W.cell? ⟨0, 0, none⟩ = some (.iface 165 (.agg #[.pointer (some ⟨1, 80, none⟩)])) := by
 have h' : laidMet Tryz.prog [] W /\ handlesMet Tryz.prog Rows.fnExactCheckRow.laid W := h
 obtain ⟨name, u, ty, e1, e2, e3, e4, e5⟩ := h'.2 _ (List.mem_singleton.2 rfl)
 have en : name = [101, 114, 114, 111, 114] := (Option.some.inj e1).symm
 subst en
 obtain rfl := Option.some.inj (ck_rt.symm.trans e2)
 have hm : ty ∈ (List.range 238).filter fun t => Tryz.prog.rowNamed t [101, 114, 114, 111, 114] := List.mem_filter.2 ⟨List.mem_range.2 (by rw [<- ck_size]; exact e3), e4⟩
 rw [ck_oneRow] at hm
 obtain rfl := List.mem_singleton.1 hm
 have hh : typeHandle Tryz.prog 80 = .pointer (some ⟨1, 80, none⟩) := by kernel_rfl
 rw [hh] at e5
 simpa using World.var?_cell ck_et e5 0
def laidOf (w0 : World) : World :=
 { w0 with heap := w0.heap.modify 0 fun
     | .cells _ t frozen => .cells #[.iface 165 (.agg #[.pointer (some ⟨1, 80, none⟩)])] t frozen
     | o => o }
theorem laidWorld_met (os : Os) (args : Array Value) : laidMetH Tryz.prog Rows.fnExactCheckRow.laid ((laidOf (World.holding Tryz.prog os ⟨#[], #[], []⟩)).forCall (fun _ _ => 0) ⟨#[], args, []⟩).memory :=
 laidMetH_of_parts (laidMet_nil _ _) (by kernel_rfl)
theorem cell_pos {W : World} {v : Value} (h : W.cell? ⟨0, 0, none⟩ = some v) : 0 < W.heap.size := by
 rcases Nat.eq_zero_or_pos W.heap.size with h0 | h1
 ·simp [World.cell?, h0] at h
 ·exact h1
set_option maxRecDepth 100000 in
theorem lawCheck_lifted (os : Os) (started : os.Started) (H : Type) (enc : TypeId × Value -> H) :
  ReturnsInHanded {} Tryz.checked os 3 .any (fun w args => (Rows.fnExactCheckSpec.pre enc Tryz.prog Tryz.f3 Rows.fnExactCheckRow.domain false w args /\ laidMetH Tryz.prog Rows.fnExactCheckRow.laid w) /\ sizedMet enc Tryz.prog Tryz.f3 (OpenSpec.ofChange Rows.fnExactCheckSpec) false w args)
   (Rows.fnExactCheckSpec.post enc Tryz.prog Tryz.f3 false true false false) := by
 refine returnsInHanded_of_change_and (C := Tryz.checked) (X := fun w _ => laidMetH Tryz.prog Rows.fnExactCheckRow.laid w) (fun _ _ _ hh h => h.of_heap hh) ck_own started (by kernel_rfl) Tryz.func3
  (ChangeSpec.witness_at (enc := enc) (C := Tryz.checked) (os := os) (X := fun w _ => laidMetH Tryz.prog Rows.fnExactCheckRow.laid w) false (laidOf (World.holding Tryz.prog os ⟨#[], #[], []⟩)) #[.agg #[.slice none 0 0, .slice none 0 0], .slice none 0 0] 8 rfl (by kernel_rfl) (by kernel_rfl) (by kernel_rfl) (by kernel_rfl) (by kernel_rfl) (laidWorld_met os _)) ?_
 intro W base args ds gs before hval0 hW _ _ hL _
 have hval : ∀ (j : Nat) t v, Tryz.f3.params[j]? = some t -> args[j]? = some v -> Value.okWide Tryz.prog W .any base t v := hval0
 have hW' := hW
 obtain ⟨p, q, hA0, hV, rfl, _, _⟩ := hW
 have hA : DataW.TrodAll enc Tryz.prog W 0 (fun _ => true) true Tryz.f3.params.toList args.toList ds p := hA0
 rw [Tryz.params3] at hA hval
 obtain ⟨v0, v1, d0, d1, p0, p1, rfl, rfl, rfl, h0, h1⟩ := trodAll_two hA
 obtain ⟨rfl, rfl⟩ := trodVars_none hV
 obtain ⟨cs, rfl, _⟩ := okWide_struct Tryz.underlying25 (hval 0 25 v0 rfl rfl)
 obtain ⟨ao, len, cap, rfl⟩ := okWide_slice Tryz.underlying26 (hval 1 26 v1 rfl rfl)
 have k0 := h0
 have k1 := h1
 have lt0 : ∀ x ∈ p0, x.block < W.heap.size := by obtain ⟨m, hm⟩ := k0; exact DataW.trod_lt m _ _ _ hm
 have lt1 : ∀ x ∈ p1, x.block < W.heap.size := by obtain ⟨m, hm⟩ := k1; exact DataW.trod_lt m _ _ _ hm
 obtain ⟨fuel0, hf0⟩ := h0
 obtain ⟨fuel1, hf1⟩ := h1
 obtain ⟨aoH, nH, cH, S, aoR, nR, cR, V, hcs, mH, mR, sg⟩ := open_sig hf0
 have : cs = #[.slice aoH nH cH, .slice aoR nR cR] := by
  cases cs; simpa [Value.cells] using hcs
 subst this
 obtain ⟨mL, Ls, hinL⟩ := open_stmtS (by simpa [Value.cells] using hf1)
 have hg := handle_of_laid hL
 clear hA0 hval0
 have fin : ∀ (e : Ending) (W' : World), e = .returned (.bool true) /\ Below W.heap.size W W' -> ∃ v, e = .returned v /\ Rows.fnExactCheckSpec.post enc Tryz.prog Tryz.f3 false true false false W #[.agg #[.slice aoH nH cH, .slice aoR nR cR], .slice ao len cap] v W' := by
  rintro e W' ⟨he, bel⟩
  subst he
  exact ⟨_, rfl, _, _, _, [], _, [], hW', trodAll_mk1 (shut_bool Tryz.underlying4 _), trodAll_mk2 (Below.trod ck_laid (by kernel_rfl) (of_decide_eq_true (by kernel_rfl)) k0 bel lt0) (Below.trod ck_laid (by kernel_rfl) (of_decide_eq_true (by kernel_rfl)) k1 bel lt1), rfl, bel.frame _, fun h => by cases h⟩
 unfold maxLen at mH mR mL
 exact (lawCheck_walk tr_spec aoH nH cH S aoR nR cR V ao len cap Ls W (by omega) (by omega) (by omega) sg hinL hg (cell_pos hg)).mono fin
theorem fnExactCheckRow_holds : Rows.FnExactCheckSaid :=
 OpenClaim.holds_of_wide 3 Tryz.f3 rfl rfl rfl rfl rfl rfl rfl ⟨rfl, rfl, rfl, rfl, rfl⟩ rfl rfl rfl rfl rfl (by kernel_rfl) Tryz.func3 (by kernel_rfl)
  (of_decide_eq_true (by kernel_rfl)) (by unfold Func.isWrapper; first | (rw [if_pos (by decide +kernel)]; kernel_rfl) | (rw [if_neg (by decide +kernel)]; exact ⟨rfl, rfl⟩))
  (fun os started H enc _ => lawCheck_lifted os started H enc)
theorem check_holds : Rows.FnExactCheckCardSaid :=
 Claim7.holds_tied_plain_at .later [] [.handle] true (true, "1cb246ac29be841b4fceca2fbdab954ec8f899e200923bc99bcd252b287e855f") true fnExactCheckRow_holds (fun _ h => by cases h) (by kernel_rfl) (fun _ h => by cases h) fnExactCheck_row_tie rfl ⟨rfl, rfl⟩ (by kernel_rfl) rfl
  (fun f fn hf hfn => by
    obtain rfl : f = 3 := Option.some.inj ((show Tryz.prog.funcNamed "loop.example/s01319/laws.FnExactCheck" = some 3 by kernel_rfl).symm.trans hf) |>.symm
    obtain rfl : fn = Tryz.f3 := (Option.some.inj (Tryz.func3.symm.trans hfn)).symm
    exact ⟨by kernel_rfl, fun j t ht => by
      rw [Tryz.params3] at ht
      have hm : t ∈ [25, 26] := by simpa using Array.mem_of_getElem? ht
      have hall : ([25, 26].all fun u => !Tryz.prog.wantsStandIn u) = true := by kernel_rfl
      exact (show Tryz.prog.wantsStandIn t = false by simpa using List.all_eq_true.1 hall t hm)⟩)
  (by kernel_rfl)
end Go.Proofs.YtcgcldokompafaaGreatDoor
