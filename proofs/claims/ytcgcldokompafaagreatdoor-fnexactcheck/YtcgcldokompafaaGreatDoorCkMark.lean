import Derived.Test.YtcgcldokompafaaGreatDoorOfCkHq
import Derived.Test.YtcgcldokompafaaGreatDoorOfMarkRes
import Derived.Test.YtcgcldokompafaaGreatDoorEvMk
/- Answers of Check compared and marked. -/
namespace Go.Proofs.YtcgcldokompafaaGreatDoor
open Go.RowKit
theorem szSig_any (aoH : Option Addr) (nH cH : Nat) (aoR : Option Addr) (nR cR : Nat) (left : Int) (w : World) (h0 : 0 <= left) (h2 : left <= 1048576) (mH : nH <= 9223372036854775807) (mR : nR <= 9223372036854775807) :
  Calls Tryz.prog 4 #[.agg #[.slice aoH nH cH, .slice aoR nR cR], .int .i64 left] w fun e w' => ∃ r, e = .returned (.int .i64 r) /\ (r = -1 ∨ (0 <= r /\ r <= left /\ (nH <= 1048576 /\ nR <= 1048576))) /\ Below w.heap.size w w' := by
 by_cases h : (nH : Int) + nR <= left
 ·exact (szSig_ok _ _ _ _ _ _ _ _ h0 h h2).mono fun e w' ⟨he, hb⟩ => ⟨_, he, .inr ⟨by omega, by omega, by omega, by omega⟩, hb⟩
 ·exact (szSig_no _ _ _ _ _ _ _ _ h0 (by omega) h2 (by unfold maxLen; omega) (by unfold maxLen; omega)).mono fun e w' ⟨he, hb⟩ => ⟨_, he, .inl rfl, hb⟩
theorem szSt_any (ao : Option Addr) (len cap : Nat) (left : Int) (w : World) (h0 : 0 <= left) (h2 : left <= 1048576) (hm : len <= 9223372036854775807) :
  Calls Tryz.prog 5 #[.slice ao len cap, .int .i64 left] w fun e w' => ∃ r, e = .returned (.int .i64 r) /\ (r = -1 ∨ (0 <= r /\ r <= left /\ len <= 1048576)) /\ Below w.heap.size w w' := by
 by_cases h : (len : Int) <= left
 ·exact (szSt_ok _ _ _ _ _ h h2).mono fun e w' ⟨he, hb⟩ => ⟨_, he, .inr ⟨by omega, by omega, by omega⟩, by rw [hb]; exact Below.refl _ _⟩
 ·exact (szSt_no _ _ _ _ _ h0 (by omega) hm).mono fun e w' ⟨he, hb⟩ => ⟨_, he, .inl rfl, by rw [hb]; exact Below.refl _ _⟩
structure ParK (R : CR) (err at' : Int) (nn : Nat) (W : Nat -> VV) (zz cc : Int) : Prop where
 n8 : nn <= 8
 v : ∀ w e w', AnsK R w e w' -> ∃ ao cap, e = .returned (.agg #[.int .i64 err, .int .i64 at', .slice ao nn cap, .int .i64 zz, .int .i64 cc]) /\ WV w' ao nn W /\ Lie ao nn w.heap.size w'.heap.size /\ Below w.heap.size w w'
theorem par_of (R : CR) : ∃ err at' nn W zz cc, ParK R err at' nn W zz cc := by
 cases R with
 | inl q =>
  obtain ⟨err, at'⟩ := q
  refine ⟨err, at', 0, fun _ => zV, 0, 0, by omega, fun w e w' h => ?_⟩
  rcases h with ⟨hb, ⟨err', at2, hR, rfl⟩ | ⟨F, r, g, cg, hR, _⟩⟩
  ·obtain ⟨h1, h2⟩ := CR.badI hR
   subst h1 h2
   exact ⟨none, 0, rfl, .inl rfl, fun b _ h0 => absurd rfl h0, hb⟩
  ·cases hR
 | inr q =>
  obtain ⟨F, r⟩ := q
  refine ⟨0, 0, 8, F.V, F.z, F.c, by omega, fun w e w' h => ?_⟩
  rcases h with ⟨hb, ⟨err', at2, hR, rfl⟩ | ⟨F', r', g, cg, hR, hg, rfl, hA⟩⟩
  ·cases hR
  ·obtain ⟨h1, h2⟩ := CR.okI hR
   subst h1 h2
   exact ⟨_, cg, rfl, .inr ⟨g, rfl, hA⟩, fun b e _ => by simp only [Option.some.injEq, Addr.mk.injEq, and_true] at e; subst e; exact ⟨hg, hA.lt⟩, hb⟩
set_option maxHeartbeats 800000 in
theorem eqCk_view (err at' : Int) (ao ao' : Option Addr) (n cap cap' : Nat) (V : Nat -> VV) (z c : Int) (w : World) (ln : n <= 1048576) (h1 : WV w ao n V) (h2 : WV w ao' n V) :
  Calls Tryz.prog 10 #[.agg #[.int .i64 err, .int .i64 at', .slice ao n cap, .int .i64 z, .int .i64 c], .agg #[.int .i64 err, .int .i64 at', .slice ao' n cap', .int .i64 z, .int .i64 c]] w fun e w' => e = .returned (.bool true) /\ Below w.heap.size w w' := by
 have H1 : Hid (WV w ao n V) := h1
 have H2 : Hid (WV w ao' n V) := h2
 have e1 : (err != err) = false := by simp
 have e2 : (at' != at') = false := by simp
 clear h1 h2
 go_enter Tryz.func10, Tryz.ntmps10
 go_upto_region 5 with fail
 have hb : Below w.heap.size w ((w.alloc (.cells #[.int .i64 err, .int .i64 at', .slice ao n cap, .int .i64 z, .int .i64 c] 33)).alloc (.cells #[.int .i64 err, .int .i64 at', .slice ao' n cap', .int .i64 z, .int .i64 c] 33)) := ((Below.refl _ _).alloc (Nat.le_refl _) _).alloc (by simp) _
 go_wp2_with fail
 refine (eqAbs_view ao ao' n cap cap' V z c _ ln (H1.out.below hb) (H2.out.below hb)).mono ?_
 rintro e w' ⟨rfl, hb'⟩
 have HB : Hid (Below w.heap.size w w') := hb.trans (hb'.mono hb.size)
 clear hb hb'
 go_wp2
 go_ret
 exact ⟨rfl, HB.out⟩
set_option maxHeartbeats 800000 in
theorem markCk_any (err at' : Int) (ao : Option Addr) (n cap : Nat) (V : Nat -> VV) (z c k : Int) (w : World) (ln : n <= 1048576) (k0 : 0 <= k) (k1 : k <= 1125899906842624) (h : WV w ao n V) :
  Calls Tryz.prog 15 #[.agg #[.int .i64 err, .int .i64 at', .slice ao n cap, .int .i64 z, .int .i64 c], .int .i64 k] w fun e w' => e = .returned (.int .i64 (k + 6 * n)) /\ Fv (fun q => n ≠ 0 /\ ao = some ⟨q, 0, none⟩) w w' /\ WV w' ao n (mV k) := by
 have H : Hid (WV w ao n V) := h
 clear h
 go_enter Tryz.func15, Tryz.ntmps15
 go_upto_region 1 with fail
 have hb : Below w.heap.size w (w.alloc (.cells #[.int .i64 err, .int .i64 at', .slice ao n cap, .int .i64 z, .int .i64 c] 33)) := (Below.refl _ _).alloc (Nat.le_refl _) _
 go_wp2_with fail
 refine (markAbs_any ao n cap V z c k _ ln k0 k1 (H.out.below hb)).mono ?_
 rintro e w' ⟨rfl, hf, hv⟩
 have HB : Hid (Fv (fun q => n ≠ 0 /\ ao = some ⟨q, 0, none⟩) w w' /\ WV w' ao n (mV k)) := ⟨(Fv.of_below hb).trans hf, hv⟩
 clear hb hf hv
 go_wp2
 go_ret
 exact ⟨rfl, HB.out⟩
set_option maxHeartbeats 800000 in
theorem heldCk_any (err at' : Int) (ao : Option Addr) (n cap : Nat) (z c k : Int) (w : World) (ln : n <= 1048576) (k0 : 0 <= k) (k1 : k <= 1125899906842624) (h : WV w ao n (mV k)) :
  Calls Tryz.prog 16 #[.agg #[.int .i64 err, .int .i64 at', .slice ao n cap, .int .i64 z, .int .i64 c], .int .i64 k] w fun e w' => e = .returned (.int .i64 (k + 6 * n)) /\ Below w.heap.size w w' := by
 have H : Hid (WV w ao n (mV k)) := h
 have hk : ¬ k + 6 * (n : Int) < 0 := by omega
 clear h
 go_enter Tryz.func16, Tryz.ntmps16
 go_upto_region 1 with fail
 have hb : Below w.heap.size w (w.alloc (.cells #[.int .i64 err, .int .i64 at', .slice ao n cap, .int .i64 z, .int .i64 c] 33)) := (Below.refl _ _).alloc (Nat.le_refl _) _
 go_wp2_with fail
 refine (heldAbs_any ao n cap z c k _ ln k0 k1 (H.out.below hb)).mono ?_
 rintro e w' ⟨rfl, hb'⟩
 have HB : Hid (Below w.heap.size w w') := hb.trans (hb'.mono hb.size)
 clear hb hb'
 go_wp2
 go_ret
 exact ⟨rfl, HB.out⟩
end Go.Proofs.YtcgcldokompafaaGreatDoor
