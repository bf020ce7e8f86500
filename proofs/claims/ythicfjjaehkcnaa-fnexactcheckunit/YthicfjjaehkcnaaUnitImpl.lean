/- impl.CheckUnit. -/
import Derived.Test.YthicfjjaehkcnaaUnitCheck
namespace Go.Proofs.Ythicfjjaehkcnaa
open Go.RowKit
set_option maxRecDepth 20000 in
set_option maxHeartbeats 8000000 in
theorem implUnit_any (bp np cap : Nat) (Pv : Nat → PV) (blk : Nat → Nat) (w : World) (ln : np ≤ 1048576) (lb : ∀ i, i < np → (Pv i).n ≤ 1048576) (h : PCp w bp np Pv blk) :
    Calls Try.prog 8 #[.slice (some ⟨bp, 0, none⟩) np cap] w fun e w' => e = .returned (.agg #[.int .i64 (unitR Pv np).1, .int .i64 (unitR Pv np).2.1, .int .i64 (unitR Pv np).2.2]) ∧ Below w.heap.size w w' := by
  have H : Hid (PCp w bp np Pv blk) := h
  have LB : Hid (∀ i, i < np → (Pv i).n ≤ 1048576) := lb
  clear h lb
  obtain ⟨res, hres⟩ : ∃ x, unitR Pv np = x := ⟨_, rfl⟩
  rw [hres]
  have HR : Hid (unitR Pv np = res) := hres
  clear hres
  go_enter Try.func8, Try.ntmps8
  go_upto_region 1 with fail
  obtain ⟨u, hu, hp⟩ : ∃ x, w.alloc (.cells #[.int .i64 0, .int .i64 0, .int .i64 0] 25) = x ∧ UsP w x := ⟨_, rfl, (Below.refl _ _).alloc (Nat.le_refl _) _, Cl.new, fun i => by simp [go_sem]⟩
  rw [hu]
  have P0 : Hid (UsP w u) := hp
  have H0 : Hid (PCp u bp np Pv blk) := (by rw [← hu]; exact H.out.below ((Below.refl _ _).alloc (Nat.le_refl _) _) : PCp u bp np Pv blk)
  clear hu hp
  go_wp2_with fail
  refine (checkUnit_any bp np cap Pv blk u ln LB.out H0.out).mono ?_
  rintro e v hcu
  rw [HR.out] at hcu
  obtain ⟨aot, kt, ct, aoz, kz, cz, rfl, hb, _⟩ := hcu
  have P1 : Hid (UsP w v) := P0.out.below P0.out.R.1 hb
  clear hb P0 H0
  obtain ⟨r0, r1, r2⟩ := us_cells P1.out
  have rf := P1.out.RF
  have rl := P1.out.R.1
  obtain ⟨x, y, z⟩ := res
  have hfd : ∀ w : World, (Instr.field 50 (.agg #[.int .i64 x, .int .i64 y, .int .i64 z, .slice aot kt ct, .slice aoz kz cz]) 0).run Try.prog w = .ok (.agg #[.int .i64 x, .int .i64 y, .int .i64 z]) w := fun _ => by kernel_rfl
  go_wp2
  refine bodyPost_ret (v := .agg #[.int .i64 x, .int .i64 y, .int .i64 z]) (by simp [results, Try.results8, go_sem, *]) rfl ⟨rfl, ?_⟩
  (repeat refine Below.setCell ?_ (by simp) _)
  exact P1.out.bel
end Go.Proofs.Ythicfjjaehkcnaa
