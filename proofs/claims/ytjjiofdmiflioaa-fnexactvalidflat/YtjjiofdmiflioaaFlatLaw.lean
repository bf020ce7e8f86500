/- FnExactValidFlat: proved. -/
import Derived.Test.YtjjiofdmiflioaaInsLaw
import Derived.Test.YtjjiofdmiflioaaOpenRow
import Derived.Test.YtjjiofdmiflioaaFlatValid
import Derived.Test.YtjjiofdmiflioaaFlatEq
namespace Go.Proofs.Ytjjiofdmiflioaa
open Go.ChangeShapes Go.WideShapes Go.ChangeAt Go.RowKit Go.Deep

set_option maxHeartbeats 400000 in
theorem toInsS_nil (ao : Option Addr) (cap : Nat) (F : Nat → Nat → Int) (w : World) :
    Calls Try.prog 11 #[.slice ao 0 cap] w fun e w' => e = .returned (.slice (some ⟨w.heap.size, 0, none⟩) 0 0) ∧ Below w.heap.size w w' ∧ Arr w' w.heap.size (0 * 6) (insF F) := by
  obtain ⟨i0, hi, hz0, hz1, hz2⟩ := info_parts info_iIns
  go_enter Try.func11, Try.ntmps11
  go_wp2_with (first | (at_make; refine wpList_make_full _ rfl _ _ 31 rfl w.heap.size 25 i0 _ 6 Try.underlying31 hi hz0 hz1 .i64 .i64 _ _ 0 rfl rfl ?c1 ?c2 ?c3 ?c4 ?c5 ?_) | go_in)
  case c1 => rfl
  case c2 => rfl
  case c3 => rw [hz2]; omega
  case c4 => unfold maxLen; omega
  case c5 => exact Nat.le_refl _
  · intro w1 hown hgrow
    have hbel : Below w.heap.size w w1 := (Below.refl _ _).grown hgrow (Nat.le_refl _) (by intro k hk; cases hk)
    have harr : Arr w1 w.heap.size (0 * 6) (insF F) := Arr.made hown fun i hi => by omega
    have HX : Hid (Below w.heap.size w w1 ∧ Arr w1 w.heap.size (0 * 6) (insF F)) := ⟨hbel, harr⟩
    clear hown hgrow hi hz0 hz1 hz2 hbel harr
    go_wp2
    refine wp_loop_rounds 1 ?_
    rw [rounds_succ]
    go_wp2
    go_ret
    exact ⟨rfl, HX.out.1, HX.out.2⟩
theorem toInsS_in (ao : Option Addr) (len cap : Nat) (F : Nat → Nat → Int) (w : World) (hlen : len ≤ 1048576) (h : InRow w ao (len * 6) (insF F)) :
    Calls Try.prog 11 #[.slice ao len cap] w fun e w' => e = .returned (.slice (some ⟨w.heap.size, 0, none⟩) len len) ∧ Below w.heap.size w w' ∧ Arr w' w.heap.size (len * 6) (insF F) := by
  rcases h with h | ⟨b, off, rfl, h⟩
  · obtain rfl : len = 0 := by omega
    exact toInsS_nil ao cap F w
  · exact toInsS_any b off len cap F w hlen h
theorem specFlat_any (b off len cap : Nat) (F : Nat → Nat → Int) (w : World) (hm : len ≤ 1048576) (hat : At w b off (len * 6) (insF F)) :
    Calls Try.prog 10 #[.slice (some ⟨b, off, none⟩) len cap] w fun e w' => e = .returned (.bool (flatOK len F)) ∧ Below w.heap.size w w' := by
  by_cases h : len < 1 ∨ 2000 < len
  · exact specFlat_bad _ _ _ F w h hm
  · exact specFlat_at b off len cap F w (by omega) (by omega) hat
theorem implFlat_any (b off len cap : Nat) (F : Nat → Nat → Int) (w : World) (hm : len ≤ 1048576) (hat : At w b off (len * 6) (insF F)) :
    Calls Try.prog 12 #[.slice (some ⟨b, off, none⟩) len cap] w fun e w' => e = .returned (.bool (flatOK len F)) ∧ Below w.heap.size w w' := by
  by_cases h : len < 1 ∨ 2000 < len
  · exact implFlat_bad _ _ _ F w h hm
  · exact implFlat_at b off len cap F w (by omega) (by omega) hat

set_option maxHeartbeats 400000 in
theorem szInsS_ok (ao : Option Addr) (len cap : Nat) (left : Int) (w : World) (hlo : (len : Int) ≤ left) (hhi : left ≤ 1048576) :
    Calls Try.prog 9 #[.slice ao len cap, .int .i64 left] w fun e w' => e = .returned (.int .i64 (left - len)) ∧ w' = w := by
  go_enter Try.func9, Try.ntmps9
  go_wp2
  go_ret
  exact ⟨rfl, rfl⟩
set_option maxHeartbeats 400000 in
theorem szInsS_no (ao : Option Addr) (len cap : Nat) (left : Int) (w : World) (h0 : 0 ≤ left) (hlo : left < (len : Int)) (hm : len ≤ 9223372036854775807) :
    Calls Try.prog 9 #[.slice ao len cap, .int .i64 left] w fun e w' => e = .returned (.int .i64 (-1)) ∧ w' = w := by
  go_enter Try.func9, Try.ntmps9
  go_wp2
  go_ret
  exact ⟨rfl, rfl⟩

set_option maxHeartbeats 400000 in
theorem lawFlat_great (ao : Option Addr) (len cap : Nat) (w : World) (h : 1048576 < len) (hm : len ≤ maxLen) :
    Calls Try.prog 4 #[.slice ao len cap] w fun e w' => e = .returned (.bool true) ∧ Below w.heap.size w w' := by
  unfold maxLen at hm
  go_enter Try.func4, Try.ntmps4
  go_wp2_with fail
  refine (szInsS_no _ _ _ _ _ (by omega) (by omega) hm).mono ?_
  rintro e w1 ⟨rfl, rfl⟩
  go_wp2
  go_ret
  exact ⟨rfl, Below.refl _ _⟩

set_option maxHeartbeats 400000 in
theorem lawFlat_walk (ao : Option Addr) (len cap : Nat) (F : Nat → Nat → Int) (w : World) (hlen : len ≤ 1048576) (hin : InRow w ao (len * 6) (insF F)) :
    Calls Try.prog 4 #[.slice ao len cap] w fun e w' => e = .returned (.bool true) ∧ Below w.heap.size w w' := by
  have HI : Hid (InRow w ao (len * 6) (insF F)) := hin
  clear hin
  have hlen' : (len : Int) ≤ 1048576 := by omega
  have hne : (flatOK len F != flatOK len F) = false := by simp
  go_enter Try.func4, Try.ntmps4
  go_wp2_with fail
  refine (szInsS_ok _ _ _ _ _ (by omega) (by omega)).mono ?_
  rintro e w1 ⟨rfl, rfl⟩
  go_wp2_with fail
  refine (toInsS_in _ _ _ F _ hlen HI.out).mono ?_
  rintro e w1 ⟨rfl, hb1, ha1⟩
  have H1 : Hid (Arr w1 _ (len * 6) (insF F)) := ha1
  clear ha1
  go_wp2_with fail
  refine (specFlat_any _ _ _ _ F _ hlen H1.out.at).mono ?_
  rintro e w2 ⟨rfl, hb2⟩
  have hb12 := hb1.trans (hb2.mono hb1.size)
  go_wp2_with fail
  refine (toInsS_in _ _ _ F _ hlen (HI.out.below hb12 (Nat.le_refl _))).mono ?_
  rintro e w3 ⟨rfl, hb3, ha3⟩
  have H3 : Hid (Arr w3 _ (len * 6) (insF F)) := ha3
  clear ha3
  have hb13 := hb12.trans (hb3.mono hb12.size)
  go_wp2_with fail
  refine (implFlat_any _ _ _ _ F _ hlen H3.out.at).mono ?_
  rintro e w4 ⟨rfl, hb4⟩
  have hb14 := hb13.trans (hb4.mono hb13.size)
  have H4 : Hid (Arr w4 _ (len * 6) (insF F)) := H3.out.below hb4 H3.out.lt
  go_wp2_with fail
  refine (toInsS_in _ _ _ F _ hlen (HI.out.below hb14 (Nat.le_refl _))).mono ?_
  rintro e w5 ⟨rfl, hb5, ha5⟩
  have H5 : Hid (Arr w5 _ (len * 6) (insF F)) := ha5
  clear ha5
  have hb15 := hb14.trans (hb5.mono hb14.size)
  have H45 : Hid (Arr w5 _ (len * 6) (insF F)) := H4.out.below hb5 H4.out.lt
  go_wp2_with fail
  refine (eqInsS_same _ _ _ _ _ _ _ F _ hlen H45.out.at H5.out.at).mono ?_
  rintro e w6 ⟨rfl, hb6⟩
  have hb16 := hb15.trans (hb6.mono hb15.size)
  go_wp2
  go_ret
  exact ⟨rfl, hb16⟩

/-- A list of instructions that reads as data. -/
theorem open_insS {H : Type} {enc : TypeId × Value → H} {w : World} {base : Nat} {spare : Nat → Bool} {held : Bool} {fuel : Nat} {ao : Option Addr} {len cap : Nat} {x : DataW H × List MemPlace}
    (h : DataW.trod enc Try.prog w base spare held fuel 28 [.slice ao len cap] = some x) : len ≤ maxLen ∧ ∃ F, InRow w ao (len * 6) (insF F) := by
  obtain ⟨hm, f, hin, hel⟩ := open_row Try.underlying28 cellsLIns (by omega) h
  refine ⟨hm, ?_⟩
  obtain ⟨G, hG⟩ := choose_lt (n := len) (p := fun i (g : Nat → Int) => ∀ j, j < 6 → f (i * 6 + j) = .int .i64 (g j)) (fun i hi => by
    obtain ⟨n, y, hy⟩ := hel i hi
    obtain ⟨op, d, a, b, imm, hh, e, _⟩ := ins_cells hy
    refine ⟨fun j => [op, d, a, b, imm, hh].getD j 0, fun j hj => ?_⟩
    simp [List.range, List.range.loop] at e
    obtain ⟨e0, e1, e2, e3, e4, e5⟩ := e
    match j, hj with
    | 0, _ => simpa using e0
    | 1, _ => simpa using e1
    | 2, _ => simpa using e2
    | 3, _ => simpa using e3
    | 4, _ => simpa using e4
    | 5, _ => simpa using e5)
  refine ⟨G, hin.congr fun p hp => ?_⟩
  have h1 : p / 6 < len := by omega
  have := hG (p / 6) h1 (p % 6) (by omega)
  rw [show p / 6 * 6 + p % 6 = p by omega] at this
  rw [this]; rfl

set_option maxRecDepth 100000 in
theorem lawFlat_lifted (os : Os) (started : os.Started) (H : Type) (enc : TypeId × Value → H) :
    ReturnsInHanded {} Try.checked os 4 .any (Rows.fnExactValidFlatSpec.pre6 enc Try.prog Try.f4 Rows.fnExactValidFlatRow.domain false) (Rows.fnExactValidFlatSpec.post enc Try.prog Try.f4 false true false false) := by
  refine returnsInHanded_of_change (C := Try.checked) own started (by kernel_rfl) Try.func4
    (ChangeSpec.witness6 (enc := enc) (C := Try.checked) false ⟨#[], #[.slice none 0 0], []⟩ 8 (by kernel_rfl) (by kernel_rfl) (by kernel_rfl) (by kernel_rfl)) ?_
  intro W base args ds gs before hval0 hW _ _
  have hval : ∀ (j : Nat) t v, Try.f4.params[j]? = some t → args[j]? = some v → Value.okWide Try.prog W .any base t v := hval0
  have hW' := hW
  obtain ⟨p, q, hA0, hV, rfl, _, _⟩ := hW
  have hA : DataW.TrodAll enc Try.prog W 0 (fun _ => true) true Try.f4.params.toList args.toList ds p := hA0
  rw [Try.params4] at hA hval
  obtain ⟨v0, d0, rfl, rfl, h0⟩ := trodAll_one hA
  obtain ⟨rfl, rfl⟩ := trodVars_none hV
  obtain ⟨ao, len, cap, rfl⟩ := okWide_slice Try.underlying28 (hval 0 28 v0 rfl rfl)
  have k0 := h0
  have lt0 : ∀ x ∈ p, x.block < W.heap.size := by obtain ⟨m, hm⟩ := k0; exact DataW.trod_lt m _ _ _ hm
  obtain ⟨fuel, hf⟩ := h0
  obtain ⟨hm, F, hin⟩ := open_insS (by simpa [Value.cells] using hf)
  clear hA0 hval0
  have fin : ∀ (e : Ending) (W' : World), e = .returned (.bool true) ∧ Below W.heap.size W W' → ∃ v, e = .returned v ∧ Rows.fnExactValidFlatSpec.post enc Try.prog Try.f4 false true false false W #[.slice ao len cap] v W' := by
    rintro e W' ⟨he, bel⟩
    subst he
    exact ⟨_, rfl, _, _, _, [], _, [], hW', trodAll_mk1 (shut_bool Try.underlying4 _), trodAll_mk1 (Below.trod laidOut (by kernel_rfl) (of_decide_eq_true (by kernel_rfl)) k0 bel lt0), rfl, bel.frame _, fun h => by cases h⟩
  by_cases hl : len ≤ 1048576
  · exact (lawFlat_walk ao len cap F W hl hin).mono fin
  · exact (lawFlat_great ao len cap W (by omega) hm).mono fin

theorem validFlat_holds : Rows.FnExactValidFlatSaid :=
  OpenClaim.holds_of_wide 4 Try.f4 rfl rfl rfl rfl rfl rfl rfl ⟨rfl, rfl, rfl, rfl, rfl⟩ rfl rfl rfl rfl rfl (by kernel_rfl) Try.func4 (by kernel_rfl)
    (of_decide_eq_true (by kernel_rfl)) (by unfold Func.isWrapper; first | (rw [if_pos (by decide +kernel)]; kernel_rfl) | (rw [if_neg (by decide +kernel)]; exact ⟨rfl, rfl⟩))
    (fun os started H enc _ => lawFlat_lifted os started H enc)
end Go.Proofs.Ytjjiofdmiflioaa
