import Derived.Test.YtpnclceamkmklaaGreatOfBytes
import Derived.Test.YtpnclceamkmklaaGreatOfTableParts
import Derived.Deep.MidRow
/- The machine at work: the table of ops. -/
namespace Go.Proofs.YtpnclceamkmklaaGreat
open Go.RowKit
theorem EntOK.below {w w' : World} {base : Nat} {v : Value} {e : Ent} (h : EntOK w base v e) (hb : Below w.heap.size w w') : EntOK w' base v e := h.kept fun _ _ _ _ hc => hc.below hb
theorem heap_cells_other {b k : Nat} (h : k ≠ b) : ∀ (vs : List Value) (o : Nat) (w : World), (w.setCells b o vs).heap[k]? = w.heap[k]?
  | [], _, _ => rfl
  | v :: r, o, w => by rw [World.setCells, heap_cells_other h r, heap_setCell_other _ _ _ _ (by simpa using h)]
theorem EntOK.cellsPut {w : World} {base b : Nat} {v : Value} {e : Ent} (h : EntOK w base v e) (hb : b < base) (o : Nat) (vs : List Value) : EntOK (w.setCells b o vs) base v e := by
  have k : ∀ c u ty, base ≤ c → Cell1 w c u ty → Cell1 (w.setCells b o vs) c u ty := fun c u ty hc h1 => (heap_cells_other (by omega) vs o w).trans h1
  rcases e with f | ⟨f, u, ty⟩ | ⟨f, u, ty, u', ty'⟩
  · exact h
  · obtain ⟨ht, c, h1, h2, h3⟩ := h; exact ⟨ht, c, h1, k _ _ _ h1 h2, h3⟩
  · obtain ⟨ht, ht', c, c', h1, h2, h3, h4, h5⟩ := h; exact ⟨ht, ht', c, c', h1, h2, k _ _ _ h1 h3, k _ _ _ h2 h4, h5⟩
theorem results_cell {P : Program} {fn : Func} {p : Tmp} {ty : TypeId} (h : fn.results = #[.cell p ty]) (tmps : Array Value) (w : World) (b : Nat) (v : Value) (hp : tmps.getD p undef = .pointer (some ⟨b, 0, none⟩)) (hl : (loadVar ty ⟨b, 0, none⟩).run P w = .ok v w) : (results fn tmps).run P w = .ok v w := by
  have hp' : tmps[p]?.getD undef = .pointer (some ⟨b, 0, none⟩) := by simpa using hp
  simp [results, h, hp', asAddr, hl]
theorem table_info : (Tryz.prog.info? 47).map (·.size) = some 35 := by kernel_rfl
theorem EntOK.mono {w : World} {base base' : Nat} {v : Value} {e : Ent} (h : EntOK w base v e) (hb : base' ≤ base) : EntOK w base' v e := by
  rcases e with f | ⟨f, u, ty⟩ | ⟨f, u, ty, u', ty'⟩
  · exact h
  · obtain ⟨ht, b, h1, h2, h3⟩ := h; exact ⟨ht, b, Nat.le_trans hb h1, h2, h3⟩
  · obtain ⟨ht, ht', b, b', h1, h2, h3, h4, h5⟩ := h; exact ⟨ht, ht', b, b', Nat.le_trans hb h1, Nat.le_trans hb h2, h3, h4, h5⟩
theorem part_3 (w : World) : Calls Tryz.prog 62 #[.func (.func 63) #[] #[]] w fun e w' => ∃ caps, e = .returned (.func (.func 93) #[] caps) ∧ EntOK w' w.heap.size (.func (.func 93) #[] caps) (ent 3) ∧ Below w.heap.size w w' := by
  refine (ofRegisters_any 63 w).mono ?_
  rintro e w' ⟨rfl, rfl⟩
  exact ⟨_, rfl, ⟨by unfold tyOK; decide, w.heap.size, Nat.le_refl _, heap_alloc_new w _, rfl⟩, (Below.refl _ _).alloc (Nat.le_refl _) _⟩
theorem part_4 (w : World) : Calls Tryz.prog 62 #[.func (.func 64) #[] #[]] w fun e w' => ∃ caps, e = .returned (.func (.func 93) #[] caps) ∧ EntOK w' w.heap.size (.func (.func 93) #[] caps) (ent 4) ∧ Below w.heap.size w w' := by
  refine (ofRegisters_any 64 w).mono ?_
  rintro e w' ⟨rfl, rfl⟩
  exact ⟨_, rfl, ⟨by unfold tyOK; decide, w.heap.size, Nat.le_refl _, heap_alloc_new w _, rfl⟩, (Below.refl _ _).alloc (Nat.le_refl _) _⟩
theorem part_5 (w : World) : Calls Tryz.prog 62 #[.func (.func 65) #[] #[]] w fun e w' => ∃ caps, e = .returned (.func (.func 93) #[] caps) ∧ EntOK w' w.heap.size (.func (.func 93) #[] caps) (ent 5) ∧ Below w.heap.size w w' := by
  refine (ofRegisters_any 65 w).mono ?_
  rintro e w' ⟨rfl, rfl⟩
  exact ⟨_, rfl, ⟨by unfold tyOK; decide, w.heap.size, Nat.le_refl _, heap_alloc_new w _, rfl⟩, (Below.refl _ _).alloc (Nat.le_refl _) _⟩
theorem part_6 (w : World) : Calls Tryz.prog 62 #[.func (.func 66) #[] #[]] w fun e w' => ∃ caps, e = .returned (.func (.func 93) #[] caps) ∧ EntOK w' w.heap.size (.func (.func 93) #[] caps) (ent 6) ∧ Below w.heap.size w w' := by
  refine (ofRegisters_any 66 w).mono ?_
  rintro e w' ⟨rfl, rfl⟩
  exact ⟨_, rfl, ⟨by unfold tyOK; decide, w.heap.size, Nat.le_refl _, heap_alloc_new w _, rfl⟩, (Below.refl _ _).alloc (Nat.le_refl _) _⟩
theorem part_7 (w : World) : Calls Tryz.prog 62 #[.func (.func 67) #[] #[]] w fun e w' => ∃ caps, e = .returned (.func (.func 93) #[] caps) ∧ EntOK w' w.heap.size (.func (.func 93) #[] caps) (ent 7) ∧ Below w.heap.size w w' := by
  refine (ofRegisters_any 67 w).mono ?_
  rintro e w' ⟨rfl, rfl⟩
  exact ⟨_, rfl, ⟨by unfold tyOK; decide, w.heap.size, Nat.le_refl _, heap_alloc_new w _, rfl⟩, (Below.refl _ _).alloc (Nat.le_refl _) _⟩
theorem part_8 (w : World) : Calls Tryz.prog 62 #[.func (.func 68) #[] #[]] w fun e w' => ∃ caps, e = .returned (.func (.func 93) #[] caps) ∧ EntOK w' w.heap.size (.func (.func 93) #[] caps) (ent 8) ∧ Below w.heap.size w w' := by
  refine (ofRegisters_any 68 w).mono ?_
  rintro e w' ⟨rfl, rfl⟩
  exact ⟨_, rfl, ⟨by unfold tyOK; decide, w.heap.size, Nat.le_refl _, heap_alloc_new w _, rfl⟩, (Below.refl _ _).alloc (Nat.le_refl _) _⟩
theorem part_10 (w : World) : Calls Tryz.prog 70 #[.func (.func 63) #[] #[]] w fun e w' => ∃ caps, e = .returned (.func (.func 96) #[] caps) ∧ EntOK w' w.heap.size (.func (.func 96) #[] caps) (ent 10) ∧ Below w.heap.size w w' := by
  refine (ofNumber_any 63 w).mono ?_
  rintro e w' ⟨rfl, rfl⟩
  exact ⟨_, rfl, ⟨by unfold tyOK; decide, w.heap.size, Nat.le_refl _, heap_alloc_new w _, rfl⟩, (Below.refl _ _).alloc (Nat.le_refl _) _⟩
theorem part_11 (w : World) : Calls Tryz.prog 70 #[.func (.func 66) #[] #[]] w fun e w' => ∃ caps, e = .returned (.func (.func 96) #[] caps) ∧ EntOK w' w.heap.size (.func (.func 96) #[] caps) (ent 11) ∧ Below w.heap.size w w' := by
  refine (ofNumber_any 66 w).mono ?_
  rintro e w' ⟨rfl, rfl⟩
  exact ⟨_, rfl, ⟨by unfold tyOK; decide, w.heap.size, Nat.le_refl _, heap_alloc_new w _, rfl⟩, (Below.refl _ _).alloc (Nat.le_refl _) _⟩
theorem part_12 (w : World) : Calls Tryz.prog 70 #[.func (.func 71) #[] #[]] w fun e w' => ∃ caps, e = .returned (.func (.func 96) #[] caps) ∧ EntOK w' w.heap.size (.func (.func 96) #[] caps) (ent 12) ∧ Below w.heap.size w w' := by
  refine (ofNumber_any 71 w).mono ?_
  rintro e w' ⟨rfl, rfl⟩
  exact ⟨_, rfl, ⟨by unfold tyOK; decide, w.heap.size, Nat.le_refl _, heap_alloc_new w _, rfl⟩, (Below.refl _ _).alloc (Nat.le_refl _) _⟩
theorem part_13 (w : World) : Calls Tryz.prog 70 #[.func (.func 72) #[] #[]] w fun e w' => ∃ caps, e = .returned (.func (.func 96) #[] caps) ∧ EntOK w' w.heap.size (.func (.func 96) #[] caps) (ent 13) ∧ Below w.heap.size w w' := by
  refine (ofNumber_any 72 w).mono ?_
  rintro e w' ⟨rfl, rfl⟩
  exact ⟨_, rfl, ⟨by unfold tyOK; decide, w.heap.size, Nat.le_refl _, heap_alloc_new w _, rfl⟩, (Below.refl _ _).alloc (Nat.le_refl _) _⟩
theorem part_19 (w : World) : Calls Tryz.prog 78 #[.func (.func 79) #[] #[]] w fun e w' => ∃ caps, e = .returned (.func (.func 99) #[] caps) ∧ EntOK w' w.heap.size (.func (.func 99) #[] caps) (ent 19) ∧ Below w.heap.size w w' := by
  refine (selectBy_any 79 w).mono ?_
  rintro e w' ⟨rfl, rfl⟩
  exact ⟨_, rfl, ⟨by unfold tyOK; decide, w.heap.size, Nat.le_refl _, heap_alloc_new w _, rfl⟩, (Below.refl _ _).alloc (Nat.le_refl _) _⟩
theorem part_20 (w : World) : Calls Tryz.prog 78 #[.func (.func 80) #[] #[]] w fun e w' => ∃ caps, e = .returned (.func (.func 99) #[] caps) ∧ EntOK w' w.heap.size (.func (.func 99) #[] caps) (ent 20) ∧ Below w.heap.size w w' := by
  refine (selectBy_any 80 w).mono ?_
  rintro e w' ⟨rfl, rfl⟩
  exact ⟨_, rfl, ⟨by unfold tyOK; decide, w.heap.size, Nat.le_refl _, heap_alloc_new w _, rfl⟩, (Below.refl _ _).alloc (Nat.le_refl _) _⟩
theorem part_21 (w : World) : Calls Tryz.prog 81 #[.int .u64 1, .func (.func 82) #[] #[]] w fun e w' => ∃ caps, e = .returned (.func (.func 101) #[] caps) ∧ EntOK w' w.heap.size (.func (.func 101) #[] caps) (ent 21) ∧ Below w.heap.size w w' := by
  refine (loadOf_any 82 1 w).mono ?_
  rintro e w' ⟨rfl, rfl⟩
  exact ⟨_, rfl, ⟨by unfold tyOK; decide, by unfold tyOK; decide, w.heap.size + 1, w.heap.size, Nat.le_succ _, Nat.le_refl _, by have := heap_alloc_new (w.alloc (.cells #[.int .u64 1] 53)) (.cells #[.func (.func 82) #[] #[]] 113); simpa [Cell1, fnV] using this, Cell1.below (heap_alloc_new w _) ((Below.refl _ _).alloc (Nat.le_refl _) _), rfl⟩, ((Below.refl _ _).alloc (Nat.le_refl _) _).alloc (by simp) _⟩
theorem part_22 (w : World) : Calls Tryz.prog 81 #[.int .u64 8, .func (.func 82) #[] #[]] w fun e w' => ∃ caps, e = .returned (.func (.func 101) #[] caps) ∧ EntOK w' w.heap.size (.func (.func 101) #[] caps) (ent 22) ∧ Below w.heap.size w w' := by
  refine (loadOf_any 82 8 w).mono ?_
  rintro e w' ⟨rfl, rfl⟩
  exact ⟨_, rfl, ⟨by unfold tyOK; decide, by unfold tyOK; decide, w.heap.size + 1, w.heap.size, Nat.le_succ _, Nat.le_refl _, by have := heap_alloc_new (w.alloc (.cells #[.int .u64 8] 53)) (.cells #[.func (.func 82) #[] #[]] 113); simpa [Cell1, fnV] using this, Cell1.below (heap_alloc_new w _) ((Below.refl _ _).alloc (Nat.le_refl _) _), rfl⟩, ((Below.refl _ _).alloc (Nat.le_refl _) _).alloc (by simp) _⟩
theorem part_23 (w : World) : Calls Tryz.prog 83 #[.int .u64 1, .func (.func 82) #[] #[]] w fun e w' => ∃ caps, e = .returned (.func (.func 103) #[] caps) ∧ EntOK w' w.heap.size (.func (.func 103) #[] caps) (ent 23) ∧ Below w.heap.size w w' := by
  refine (storeOf_any 82 1 w).mono ?_
  rintro e w' ⟨rfl, rfl⟩
  exact ⟨_, rfl, ⟨by unfold tyOK; decide, by unfold tyOK; decide, w.heap.size + 1, w.heap.size, Nat.le_succ _, Nat.le_refl _, by have := heap_alloc_new (w.alloc (.cells #[.int .u64 1] 53)) (.cells #[.func (.func 82) #[] #[]] 113); simpa [Cell1, fnV] using this, Cell1.below (heap_alloc_new w _) ((Below.refl _ _).alloc (Nat.le_refl _) _), rfl⟩, ((Below.refl _ _).alloc (Nat.le_refl _) _).alloc (by simp) _⟩
theorem part_24 (w : World) : Calls Tryz.prog 83 #[.int .u64 8, .func (.func 82) #[] #[]] w fun e w' => ∃ caps, e = .returned (.func (.func 103) #[] caps) ∧ EntOK w' w.heap.size (.func (.func 103) #[] caps) (ent 24) ∧ Below w.heap.size w w' := by
  refine (storeOf_any 82 8 w).mono ?_
  rintro e w' ⟨rfl, rfl⟩
  exact ⟨_, rfl, ⟨by unfold tyOK; decide, by unfold tyOK; decide, w.heap.size + 1, w.heap.size, Nat.le_succ _, Nat.le_refl _, by have := heap_alloc_new (w.alloc (.cells #[.int .u64 8] 53)) (.cells #[.func (.func 82) #[] #[]] 113); simpa [Cell1, fnV] using this, Cell1.below (heap_alloc_new w _) ((Below.refl _ _).alloc (Nat.le_refl _) _), rfl⟩, ((Below.refl _ _).alloc (Nat.le_refl _) _).alloc (by simp) _⟩
theorem part_25 (w : World) : Calls Tryz.prog 81 #[.int .u64 1, .func (.func 84) #[] #[]] w fun e w' => ∃ caps, e = .returned (.func (.func 101) #[] caps) ∧ EntOK w' w.heap.size (.func (.func 101) #[] caps) (ent 25) ∧ Below w.heap.size w w' := by
  refine (loadOf_any 84 1 w).mono ?_
  rintro e w' ⟨rfl, rfl⟩
  exact ⟨_, rfl, ⟨by unfold tyOK; decide, by unfold tyOK; decide, w.heap.size + 1, w.heap.size, Nat.le_succ _, Nat.le_refl _, by have := heap_alloc_new (w.alloc (.cells #[.int .u64 1] 53)) (.cells #[.func (.func 84) #[] #[]] 113); simpa [Cell1, fnV] using this, Cell1.below (heap_alloc_new w _) ((Below.refl _ _).alloc (Nat.le_refl _) _), rfl⟩, ((Below.refl _ _).alloc (Nat.le_refl _) _).alloc (by simp) _⟩
theorem part_26 (w : World) : Calls Tryz.prog 81 #[.int .u64 8, .func (.func 84) #[] #[]] w fun e w' => ∃ caps, e = .returned (.func (.func 101) #[] caps) ∧ EntOK w' w.heap.size (.func (.func 101) #[] caps) (ent 26) ∧ Below w.heap.size w w' := by
  refine (loadOf_any 84 8 w).mono ?_
  rintro e w' ⟨rfl, rfl⟩
  exact ⟨_, rfl, ⟨by unfold tyOK; decide, by unfold tyOK; decide, w.heap.size + 1, w.heap.size, Nat.le_succ _, Nat.le_refl _, by have := heap_alloc_new (w.alloc (.cells #[.int .u64 8] 53)) (.cells #[.func (.func 84) #[] #[]] 113); simpa [Cell1, fnV] using this, Cell1.below (heap_alloc_new w _) ((Below.refl _ _).alloc (Nat.le_refl _) _), rfl⟩, ((Below.refl _ _).alloc (Nat.le_refl _) _).alloc (by simp) _⟩
theorem part_27 (w : World) : Calls Tryz.prog 83 #[.int .u64 1, .func (.func 84) #[] #[]] w fun e w' => ∃ caps, e = .returned (.func (.func 103) #[] caps) ∧ EntOK w' w.heap.size (.func (.func 103) #[] caps) (ent 27) ∧ Below w.heap.size w w' := by
  refine (storeOf_any 84 1 w).mono ?_
  rintro e w' ⟨rfl, rfl⟩
  exact ⟨_, rfl, ⟨by unfold tyOK; decide, by unfold tyOK; decide, w.heap.size + 1, w.heap.size, Nat.le_succ _, Nat.le_refl _, by have := heap_alloc_new (w.alloc (.cells #[.int .u64 1] 53)) (.cells #[.func (.func 84) #[] #[]] 113); simpa [Cell1, fnV] using this, Cell1.below (heap_alloc_new w _) ((Below.refl _ _).alloc (Nat.le_refl _) _), rfl⟩, ((Below.refl _ _).alloc (Nat.le_refl _) _).alloc (by simp) _⟩
theorem part_28 (w : World) : Calls Tryz.prog 83 #[.int .u64 8, .func (.func 84) #[] #[]] w fun e w' => ∃ caps, e = .returned (.func (.func 103) #[] caps) ∧ EntOK w' w.heap.size (.func (.func 103) #[] caps) (ent 28) ∧ Below w.heap.size w w' := by
  refine (storeOf_any 84 8 w).mono ?_
  rintro e w' ⟨rfl, rfl⟩
  exact ⟨_, rfl, ⟨by unfold tyOK; decide, by unfold tyOK; decide, w.heap.size + 1, w.heap.size, Nat.le_succ _, Nat.le_refl _, by have := heap_alloc_new (w.alloc (.cells #[.int .u64 8] 53)) (.cells #[.func (.func 84) #[] #[]] 113); simpa [Cell1, fnV] using this, Cell1.below (heap_alloc_new w _) ((Below.refl _ _).alloc (Nat.le_refl _) _), rfl⟩, ((Below.refl _ _).alloc (Nat.le_refl _) _).alloc (by simp) _⟩
theorem part_30 (w : World) : Calls Tryz.prog 86 #[.func (.func 79) #[] #[], .bool true] w fun e w' => ∃ caps, e = .returned (.func (.func 104) #[] caps) ∧ EntOK w' w.heap.size (.func (.func 104) #[] caps) (ent 30) ∧ Below w.heap.size w w' := by
  refine (jumpWhen_any 79 true w).mono ?_
  rintro e w' ⟨rfl, rfl⟩
  exact ⟨_, rfl, ⟨by unfold tyOK; decide, by unfold tyOK; decide, w.heap.size, w.heap.size + 1, Nat.le_refl _, Nat.le_succ _, Cell1.below (heap_alloc_new w _) ((Below.refl _ _).alloc (Nat.le_refl _) _), by have := heap_alloc_new (w.alloc (.cells #[.func (.func 79) #[] #[]] 111)) (.cells #[.bool true] 4); simpa [Cell1] using this, rfl⟩, ((Below.refl _ _).alloc (Nat.le_refl _) _).alloc (by simp) _⟩
theorem part_31 (w : World) : Calls Tryz.prog 86 #[.func (.func 79) #[] #[], .bool false] w fun e w' => ∃ caps, e = .returned (.func (.func 104) #[] caps) ∧ EntOK w' w.heap.size (.func (.func 104) #[] caps) (ent 31) ∧ Below w.heap.size w w' := by
  refine (jumpWhen_any 79 false w).mono ?_
  rintro e w' ⟨rfl, rfl⟩
  exact ⟨_, rfl, ⟨by unfold tyOK; decide, by unfold tyOK; decide, w.heap.size, w.heap.size + 1, Nat.le_refl _, Nat.le_succ _, Cell1.below (heap_alloc_new w _) ((Below.refl _ _).alloc (Nat.le_refl _) _), by have := heap_alloc_new (w.alloc (.cells #[.func (.func 79) #[] #[]] 111)) (.cells #[.bool false] 4); simpa [Cell1] using this, rfl⟩, ((Below.refl _ _).alloc (Nat.le_refl _) _).alloc (by simp) _⟩
theorem part_32 (w : World) : Calls Tryz.prog 86 #[.func (.func 80) #[] #[], .bool true] w fun e w' => ∃ caps, e = .returned (.func (.func 104) #[] caps) ∧ EntOK w' w.heap.size (.func (.func 104) #[] caps) (ent 32) ∧ Below w.heap.size w w' := by
  refine (jumpWhen_any 80 true w).mono ?_
  rintro e w' ⟨rfl, rfl⟩
  exact ⟨_, rfl, ⟨by unfold tyOK; decide, by unfold tyOK; decide, w.heap.size, w.heap.size + 1, Nat.le_refl _, Nat.le_succ _, Cell1.below (heap_alloc_new w _) ((Below.refl _ _).alloc (Nat.le_refl _) _), by have := heap_alloc_new (w.alloc (.cells #[.func (.func 80) #[] #[]] 111)) (.cells #[.bool true] 4); simpa [Cell1] using this, rfl⟩, ((Below.refl _ _).alloc (Nat.le_refl _) _).alloc (by simp) _⟩
theorem part_33 (w : World) : Calls Tryz.prog 86 #[.func (.func 80) #[] #[], .bool false] w fun e w' => ∃ caps, e = .returned (.func (.func 104) #[] caps) ∧ EntOK w' w.heap.size (.func (.func 104) #[] caps) (ent 33) ∧ Below w.heap.size w w' := by
  refine (jumpWhen_any 80 false w).mono ?_
  rintro e w' ⟨rfl, rfl⟩
  exact ⟨_, rfl, ⟨by unfold tyOK; decide, by unfold tyOK; decide, w.heap.size, w.heap.size + 1, Nat.le_refl _, Nat.le_succ _, Cell1.below (heap_alloc_new w _) ((Below.refl _ _).alloc (Nat.le_refl _) _), by have := heap_alloc_new (w.alloc (.cells #[.func (.func 80) #[] #[]] 111)) (.cells #[.bool false] 4); simpa [Cell1] using this, rfl⟩, ((Below.refl _ _).alloc (Nat.le_refl _) _).alloc (by simp) _⟩
set_option maxRecDepth 20000 in
set_option maxHeartbeats 4000000 in
theorem opTable_any (w : World) : Calls Tryz.prog 39 #[] w fun e w' => ∃ c3 c4 c5 c6 c7 c8 c10 c11 c12 c13 c19 c20 c21 c22 c23 c24 c25 c26 c27 c28 c30 c31 c32 c33 : Array Value, e = .returned (.agg #[.nilFunc, .func (.func 60) #[] #[], .func (.func 61) #[] #[], .func (.func 93) #[] c3, .func (.func 93) #[] c4, .func (.func 93) #[] c5, .func (.func 93) #[] c6, .func (.func 93) #[] c7, .func (.func 93) #[] c8, .func (.func 69) #[] #[], .func (.func 96) #[] c10, .func (.func 96) #[] c11, .func (.func 96) #[] c12, .func (.func 96) #[] c13, .func (.func 73) #[] #[], .func (.func 74) #[] #[], .func (.func 75) #[] #[], .func (.func 76) #[] #[], .func (.func 77) #[] #[], .func (.func 99) #[] c19, .func (.func 99) #[] c20, .func (.func 101) #[] c21, .func (.func 101) #[] c22, .func (.func 103) #[] c23, .func (.func 103) #[] c24, .func (.func 101) #[] c25, .func (.func 101) #[] c26, .func (.func 103) #[] c27, .func (.func 103) #[] c28, .func (.func 85) #[] #[], .func (.func 104) #[] c30, .func (.func 104) #[] c31, .func (.func 104) #[] c32, .func (.func 104) #[] c33, .func (.func 87) #[] #[]]) ∧ Tab w' w.heap.size [.nilFunc, .func (.func 60) #[] #[], .func (.func 61) #[] #[], .func (.func 93) #[] c3, .func (.func 93) #[] c4, .func (.func 93) #[] c5, .func (.func 93) #[] c6, .func (.func 93) #[] c7, .func (.func 93) #[] c8, .func (.func 69) #[] #[], .func (.func 96) #[] c10, .func (.func 96) #[] c11, .func (.func 96) #[] c12, .func (.func 96) #[] c13, .func (.func 73) #[] #[], .func (.func 74) #[] #[], .func (.func 75) #[] #[], .func (.func 76) #[] #[], .func (.func 77) #[] #[], .func (.func 99) #[] c19, .func (.func 99) #[] c20, .func (.func 101) #[] c21, .func (.func 101) #[] c22, .func (.func 103) #[] c23, .func (.func 103) #[] c24, .func (.func 101) #[] c25, .func (.func 101) #[] c26, .func (.func 103) #[] c27, .func (.func 103) #[] c28, .func (.func 85) #[] #[], .func (.func 104) #[] c30, .func (.func 104) #[] c31, .func (.func 104) #[] c32, .func (.func 104) #[] c33, .func (.func 87) #[] #[]] ∧ Below w.heap.size w w' := by
  go_enter Tryz.func39, Tryz.ntmps39
  go_wp2_with fail
  generalize hw0 : w.alloc (.cells #[.nilFunc, .nilFunc, .nilFunc, .nilFunc, .nilFunc, .nilFunc, .nilFunc, .nilFunc, .nilFunc, .nilFunc, .nilFunc, .nilFunc, .nilFunc, .nilFunc, .nilFunc, .nilFunc, .nilFunc, .nilFunc, .nilFunc, .nilFunc, .nilFunc, .nilFunc, .nilFunc, .nilFunc, .nilFunc, .nilFunc, .nilFunc, .nilFunc, .nilFunc, .nilFunc, .nilFunc, .nilFunc, .nilFunc, .nilFunc, .nilFunc] 47) = w0
  have b0 : Below w.heap.size w w0 := by rw [← hw0]; exact (Below.refl _ _).alloc (Nat.le_refl _) _
  have z0 : w.heap.size < w0.heap.size := by rw [← hw0]; simp
  have k0 : ∀ i, w0.cell? ⟨w.heap.size, i, none⟩ = (#[.nilFunc, .nilFunc, .nilFunc, .nilFunc, .nilFunc, .nilFunc, .nilFunc, .nilFunc, .nilFunc, .nilFunc, .nilFunc, .nilFunc, .nilFunc, .nilFunc, .nilFunc, .nilFunc, .nilFunc, .nilFunc, .nilFunc, .nilFunc, .nilFunc, .nilFunc, .nilFunc, .nilFunc, .nilFunc, .nilFunc, .nilFunc, .nilFunc, .nilFunc, .nilFunc, .nilFunc, .nilFunc, .nilFunc, .nilFunc, .nilFunc] : Array Value)[i]? := fun i => by rw [← hw0]; exact cell_of_row _ _ i _ _ (0, 0) (heap_alloc_new w _)
  have f0 : ∀ i, w0.frozen? ⟨w.heap.size, i, none⟩ = false := fun i => by rw [← hw0]; exact frozen_of_row _ _ i _ _ (heap_alloc_new w _)
  have HB0 : Hid (Below w.heap.size w w0) := b0
  have HK0 : Hid (∀ i, w0.cell? ⟨w.heap.size, i, none⟩ = (#[.nilFunc, .nilFunc, .nilFunc, .nilFunc, .nilFunc, .nilFunc, .nilFunc, .nilFunc, .nilFunc, .nilFunc, .nilFunc, .nilFunc, .nilFunc, .nilFunc, .nilFunc, .nilFunc, .nilFunc, .nilFunc, .nilFunc, .nilFunc, .nilFunc, .nilFunc, .nilFunc, .nilFunc, .nilFunc, .nilFunc, .nilFunc, .nilFunc, .nilFunc, .nilFunc, .nilFunc, .nilFunc, .nilFunc, .nilFunc, .nilFunc] : Array Value)[i]?) := k0
  have HF0 : Hid (∀ i, w0.frozen? ⟨w.heap.size, i, none⟩ = false) := f0
  have HC0 : Hid (Below w0.heap.size w0 w0) := Below.refl _ _
  clear b0 k0 f0 hw0
  refine (part_3 w0).mono ?_
  rintro e w1 ⟨c3, rfl, e3, b3⟩
  have HC1 : Hid (Below w0.heap.size w0 w1) := HC0.out.trans (b3.mono HC0.out.size)
  have HE3 : Hid (EntOK w1 w0.heap.size (.func (.func 93) #[] c3) (ent 3)) := e3.mono HC0.out.size
  have HN1 : Hid (Below w0.heap.size w0 w1) := b3
  clear e3 b3
  go_wp2_with fail
  refine (part_4 w1).mono ?_
  rintro e w2 ⟨c4, rfl, e4, b4⟩
  have HC2 : Hid (Below w0.heap.size w0 w2) := HC1.out.trans (b4.mono HC1.out.size)
  have HE4 : Hid (EntOK w2 w0.heap.size (.func (.func 93) #[] c4) (ent 4)) := e4.mono HC1.out.size
  have HN2 : Hid (Below w1.heap.size w1 w2) := b4
  clear e4 b4
  go_wp2_with fail
  refine (part_5 w2).mono ?_
  rintro e w3 ⟨c5, rfl, e5, b5⟩
  have HC3 : Hid (Below w0.heap.size w0 w3) := HC2.out.trans (b5.mono HC2.out.size)
  have HE5 : Hid (EntOK w3 w0.heap.size (.func (.func 93) #[] c5) (ent 5)) := e5.mono HC2.out.size
  have HN3 : Hid (Below w2.heap.size w2 w3) := b5
  clear e5 b5
  go_wp2_with fail
  refine (part_6 w3).mono ?_
  rintro e w4 ⟨c6, rfl, e6, b6⟩
  have HC4 : Hid (Below w0.heap.size w0 w4) := HC3.out.trans (b6.mono HC3.out.size)
  have HE6 : Hid (EntOK w4 w0.heap.size (.func (.func 93) #[] c6) (ent 6)) := e6.mono HC3.out.size
  have HN4 : Hid (Below w3.heap.size w3 w4) := b6
  clear e6 b6
  go_wp2_with fail
  refine (part_7 w4).mono ?_
  rintro e w5 ⟨c7, rfl, e7, b7⟩
  have HC5 : Hid (Below w0.heap.size w0 w5) := HC4.out.trans (b7.mono HC4.out.size)
  have HE7 : Hid (EntOK w5 w0.heap.size (.func (.func 93) #[] c7) (ent 7)) := e7.mono HC4.out.size
  have HN5 : Hid (Below w4.heap.size w4 w5) := b7
  clear e7 b7
  go_wp2_with fail
  refine (part_8 w5).mono ?_
  rintro e w6 ⟨c8, rfl, e8, b8⟩
  have HC6 : Hid (Below w0.heap.size w0 w6) := HC5.out.trans (b8.mono HC5.out.size)
  have HE8 : Hid (EntOK w6 w0.heap.size (.func (.func 93) #[] c8) (ent 8)) := e8.mono HC5.out.size
  have HN6 : Hid (Below w5.heap.size w5 w6) := b8
  clear e8 b8
  go_wp2_with fail
  refine (part_10 w6).mono ?_
  rintro e w7 ⟨c10, rfl, e10, b10⟩
  have HC7 : Hid (Below w0.heap.size w0 w7) := HC6.out.trans (b10.mono HC6.out.size)
  have HE10 : Hid (EntOK w7 w0.heap.size (.func (.func 96) #[] c10) (ent 10)) := e10.mono HC6.out.size
  have HN7 : Hid (Below w6.heap.size w6 w7) := b10
  clear e10 b10
  go_wp2_with fail
  refine (part_11 w7).mono ?_
  rintro e w8 ⟨c11, rfl, e11, b11⟩
  have HC8 : Hid (Below w0.heap.size w0 w8) := HC7.out.trans (b11.mono HC7.out.size)
  have HE11 : Hid (EntOK w8 w0.heap.size (.func (.func 96) #[] c11) (ent 11)) := e11.mono HC7.out.size
  have HN8 : Hid (Below w7.heap.size w7 w8) := b11
  clear e11 b11
  go_wp2_with fail
  refine (part_12 w8).mono ?_
  rintro e w9 ⟨c12, rfl, e12, b12⟩
  have HC9 : Hid (Below w0.heap.size w0 w9) := HC8.out.trans (b12.mono HC8.out.size)
  have HE12 : Hid (EntOK w9 w0.heap.size (.func (.func 96) #[] c12) (ent 12)) := e12.mono HC8.out.size
  have HN9 : Hid (Below w8.heap.size w8 w9) := b12
  clear e12 b12
  go_wp2_with fail
  refine (part_13 w9).mono ?_
  rintro e w10 ⟨c13, rfl, e13, b13⟩
  have HC10 : Hid (Below w0.heap.size w0 w10) := HC9.out.trans (b13.mono HC9.out.size)
  have HE13 : Hid (EntOK w10 w0.heap.size (.func (.func 96) #[] c13) (ent 13)) := e13.mono HC9.out.size
  have HN10 : Hid (Below w9.heap.size w9 w10) := b13
  clear e13 b13
  go_wp2_with fail
  refine (part_19 w10).mono ?_
  rintro e w11 ⟨c19, rfl, e19, b19⟩
  have HC11 : Hid (Below w0.heap.size w0 w11) := HC10.out.trans (b19.mono HC10.out.size)
  have HE19 : Hid (EntOK w11 w0.heap.size (.func (.func 99) #[] c19) (ent 19)) := e19.mono HC10.out.size
  have HN11 : Hid (Below w10.heap.size w10 w11) := b19
  clear e19 b19
  go_wp2_with fail
  refine (part_20 w11).mono ?_
  rintro e w12 ⟨c20, rfl, e20, b20⟩
  have HC12 : Hid (Below w0.heap.size w0 w12) := HC11.out.trans (b20.mono HC11.out.size)
  have HE20 : Hid (EntOK w12 w0.heap.size (.func (.func 99) #[] c20) (ent 20)) := e20.mono HC11.out.size
  have HN12 : Hid (Below w11.heap.size w11 w12) := b20
  clear e20 b20
  go_wp2_with fail
  refine (part_21 w12).mono ?_
  rintro e w13 ⟨c21, rfl, e21, b21⟩
  have HC13 : Hid (Below w0.heap.size w0 w13) := HC12.out.trans (b21.mono HC12.out.size)
  have HE21 : Hid (EntOK w13 w0.heap.size (.func (.func 101) #[] c21) (ent 21)) := e21.mono HC12.out.size
  have HN13 : Hid (Below w12.heap.size w12 w13) := b21
  clear e21 b21
  go_wp2_with fail
  refine (part_22 w13).mono ?_
  rintro e w14 ⟨c22, rfl, e22, b22⟩
  have HC14 : Hid (Below w0.heap.size w0 w14) := HC13.out.trans (b22.mono HC13.out.size)
  have HE22 : Hid (EntOK w14 w0.heap.size (.func (.func 101) #[] c22) (ent 22)) := e22.mono HC13.out.size
  have HN14 : Hid (Below w13.heap.size w13 w14) := b22
  clear e22 b22
  go_wp2_with fail
  refine (part_23 w14).mono ?_
  rintro e w15 ⟨c23, rfl, e23, b23⟩
  have HC15 : Hid (Below w0.heap.size w0 w15) := HC14.out.trans (b23.mono HC14.out.size)
  have HE23 : Hid (EntOK w15 w0.heap.size (.func (.func 103) #[] c23) (ent 23)) := e23.mono HC14.out.size
  have HN15 : Hid (Below w14.heap.size w14 w15) := b23
  clear e23 b23
  go_wp2_with fail
  refine (part_24 w15).mono ?_
  rintro e w16 ⟨c24, rfl, e24, b24⟩
  have HC16 : Hid (Below w0.heap.size w0 w16) := HC15.out.trans (b24.mono HC15.out.size)
  have HE24 : Hid (EntOK w16 w0.heap.size (.func (.func 103) #[] c24) (ent 24)) := e24.mono HC15.out.size
  have HN16 : Hid (Below w15.heap.size w15 w16) := b24
  clear e24 b24
  go_wp2_with fail
  refine (part_25 w16).mono ?_
  rintro e w17 ⟨c25, rfl, e25, b25⟩
  have HC17 : Hid (Below w0.heap.size w0 w17) := HC16.out.trans (b25.mono HC16.out.size)
  have HE25 : Hid (EntOK w17 w0.heap.size (.func (.func 101) #[] c25) (ent 25)) := e25.mono HC16.out.size
  have HN17 : Hid (Below w16.heap.size w16 w17) := b25
  clear e25 b25
  go_wp2_with fail
  refine (part_26 w17).mono ?_
  rintro e w18 ⟨c26, rfl, e26, b26⟩
  have HC18 : Hid (Below w0.heap.size w0 w18) := HC17.out.trans (b26.mono HC17.out.size)
  have HE26 : Hid (EntOK w18 w0.heap.size (.func (.func 101) #[] c26) (ent 26)) := e26.mono HC17.out.size
  have HN18 : Hid (Below w17.heap.size w17 w18) := b26
  clear e26 b26
  go_wp2_with fail
  refine (part_27 w18).mono ?_
  rintro e w19 ⟨c27, rfl, e27, b27⟩
  have HC19 : Hid (Below w0.heap.size w0 w19) := HC18.out.trans (b27.mono HC18.out.size)
  have HE27 : Hid (EntOK w19 w0.heap.size (.func (.func 103) #[] c27) (ent 27)) := e27.mono HC18.out.size
  have HN19 : Hid (Below w18.heap.size w18 w19) := b27
  clear e27 b27
  go_wp2_with fail
  refine (part_28 w19).mono ?_
  rintro e w20 ⟨c28, rfl, e28, b28⟩
  have HC20 : Hid (Below w0.heap.size w0 w20) := HC19.out.trans (b28.mono HC19.out.size)
  have HE28 : Hid (EntOK w20 w0.heap.size (.func (.func 103) #[] c28) (ent 28)) := e28.mono HC19.out.size
  have HN20 : Hid (Below w19.heap.size w19 w20) := b28
  clear e28 b28
  go_wp2_with fail
  refine (part_30 w20).mono ?_
  rintro e w21 ⟨c30, rfl, e30, b30⟩
  have HC21 : Hid (Below w0.heap.size w0 w21) := HC20.out.trans (b30.mono HC20.out.size)
  have HE30 : Hid (EntOK w21 w0.heap.size (.func (.func 104) #[] c30) (ent 30)) := e30.mono HC20.out.size
  have HN21 : Hid (Below w20.heap.size w20 w21) := b30
  clear e30 b30
  go_wp2_with fail
  refine (part_31 w21).mono ?_
  rintro e w22 ⟨c31, rfl, e31, b31⟩
  have HC22 : Hid (Below w0.heap.size w0 w22) := HC21.out.trans (b31.mono HC21.out.size)
  have HE31 : Hid (EntOK w22 w0.heap.size (.func (.func 104) #[] c31) (ent 31)) := e31.mono HC21.out.size
  have HN22 : Hid (Below w21.heap.size w21 w22) := b31
  clear e31 b31
  go_wp2_with fail
  refine (part_32 w22).mono ?_
  rintro e w23 ⟨c32, rfl, e32, b32⟩
  have HC23 : Hid (Below w0.heap.size w0 w23) := HC22.out.trans (b32.mono HC22.out.size)
  have HE32 : Hid (EntOK w23 w0.heap.size (.func (.func 104) #[] c32) (ent 32)) := e32.mono HC22.out.size
  have HN23 : Hid (Below w22.heap.size w22 w23) := b32
  clear e32 b32
  go_wp2_with fail
  refine (part_33 w23).mono ?_
  rintro e w24 ⟨c33, rfl, e33, b33⟩
  have HC24 : Hid (Below w0.heap.size w0 w24) := HC23.out.trans (b33.mono HC23.out.size)
  have HE33 : Hid (EntOK w24 w0.heap.size (.func (.func 104) #[] c33) (ent 33)) := e33.mono HC23.out.size
  have HN24 : Hid (Below w23.heap.size w23 w24) := b33
  clear e33 b33
  have zz : w.heap.size < w24.heap.size := Nat.lt_of_lt_of_le z0 HC24.out.size
  have HT : Hid (w24.there w.heap.size 0 35) := by
    intro j hj
    rw [Nat.zero_add]
    refine ⟨?_, (HC24.out.frozen (p := ⟨w.heap.size, j, none⟩) z0).trans (HF0.out j)⟩
    rw [(HC24.out.cell (p := ⟨w.heap.size, j, none⟩) z0).trans (HK0.out j)]
    rw [Array.getElem?_eq_getElem (by simpa using hj)]
    rfl
  go_wp2_with (refine wpList_store_mid rfl 47 (.tmp 0) (.tmp 25) rfl w.heap.size 0 #[.nilFunc, .func (.func 60) #[] #[], .func (.func 61) #[] #[], .func (.func 93) #[] c3, .func (.func 93) #[] c4, .func (.func 93) #[] c5, .func (.func 93) #[] c6, .func (.func 93) #[] c7, .func (.func 93) #[] c8, .func (.func 69) #[] #[], .func (.func 96) #[] c10, .func (.func 96) #[] c11, .func (.func 96) #[] c12, .func (.func 96) #[] c13, .func (.func 73) #[] #[], .func (.func 74) #[] #[], .func (.func 75) #[] #[], .func (.func 76) #[] #[], .func (.func 77) #[] #[], .func (.func 99) #[] c19, .func (.func 99) #[] c20, .func (.func 101) #[] c21, .func (.func 101) #[] c22, .func (.func 103) #[] c23, .func (.func 103) #[] c24, .func (.func 101) #[] c25, .func (.func 101) #[] c26, .func (.func 103) #[] c27, .func (.func 103) #[] c28, .func (.func 85) #[] #[], .func (.func 104) #[] c30, .func (.func 104) #[] c31, .func (.func 104) #[] c32, .func (.func 104) #[] c33, .func (.func 87) #[] #[]] rfl rfl ?ht ?hi ?h1 ?_)
  case ht => exact HT.out
  case hi => simpa using table_info
  case h1 => repeat (first | exact rfl | refine ⟨rfl, ?_⟩)
  have HL24 : Hid (Below w24.heap.size w24 w24) := Below.refl _ _
  have HL23 : Hid (Below w23.heap.size w23 w24) := HN24.out.trans (HL24.out.mono HN24.out.size)
  have HL22 : Hid (Below w22.heap.size w22 w24) := HN23.out.trans (HL23.out.mono HN23.out.size)
  have HL21 : Hid (Below w21.heap.size w21 w24) := HN22.out.trans (HL22.out.mono HN22.out.size)
  have HL20 : Hid (Below w20.heap.size w20 w24) := HN21.out.trans (HL21.out.mono HN21.out.size)
  have HL19 : Hid (Below w19.heap.size w19 w24) := HN20.out.trans (HL20.out.mono HN20.out.size)
  have HL18 : Hid (Below w18.heap.size w18 w24) := HN19.out.trans (HL19.out.mono HN19.out.size)
  have HL17 : Hid (Below w17.heap.size w17 w24) := HN18.out.trans (HL18.out.mono HN18.out.size)
  have HL16 : Hid (Below w16.heap.size w16 w24) := HN17.out.trans (HL17.out.mono HN17.out.size)
  have HL15 : Hid (Below w15.heap.size w15 w24) := HN16.out.trans (HL16.out.mono HN16.out.size)
  have HL14 : Hid (Below w14.heap.size w14 w24) := HN15.out.trans (HL15.out.mono HN15.out.size)
  have HL13 : Hid (Below w13.heap.size w13 w24) := HN14.out.trans (HL14.out.mono HN14.out.size)
  have HL12 : Hid (Below w12.heap.size w12 w24) := HN13.out.trans (HL13.out.mono HN13.out.size)
  have HL11 : Hid (Below w11.heap.size w11 w24) := HN12.out.trans (HL12.out.mono HN12.out.size)
  have HL10 : Hid (Below w10.heap.size w10 w24) := HN11.out.trans (HL11.out.mono HN11.out.size)
  have HL9 : Hid (Below w9.heap.size w9 w24) := HN10.out.trans (HL10.out.mono HN10.out.size)
  have HL8 : Hid (Below w8.heap.size w8 w24) := HN9.out.trans (HL9.out.mono HN9.out.size)
  have HL7 : Hid (Below w7.heap.size w7 w24) := HN8.out.trans (HL8.out.mono HN8.out.size)
  have HL6 : Hid (Below w6.heap.size w6 w24) := HN7.out.trans (HL7.out.mono HN7.out.size)
  have HL5 : Hid (Below w5.heap.size w5 w24) := HN6.out.trans (HL6.out.mono HN6.out.size)
  have HL4 : Hid (Below w4.heap.size w4 w24) := HN5.out.trans (HL5.out.mono HN5.out.size)
  have HL3 : Hid (Below w3.heap.size w3 w24) := HN4.out.trans (HL4.out.mono HN4.out.size)
  have HL2 : Hid (Below w2.heap.size w2 w24) := HN3.out.trans (HL3.out.mono HN3.out.size)
  have HL1 : Hid (Below w1.heap.size w1 w24) := HN2.out.trans (HL2.out.mono HN2.out.size)
  have hcells : ∀ j, j < ([.nilFunc, .func (.func 60) #[] #[], .func (.func 61) #[] #[], .func (.func 93) #[] c3, .func (.func 93) #[] c4, .func (.func 93) #[] c5, .func (.func 93) #[] c6, .func (.func 93) #[] c7, .func (.func 93) #[] c8, .func (.func 69) #[] #[], .func (.func 96) #[] c10, .func (.func 96) #[] c11, .func (.func 96) #[] c12, .func (.func 96) #[] c13, .func (.func 73) #[] #[], .func (.func 74) #[] #[], .func (.func 75) #[] #[], .func (.func 76) #[] #[], .func (.func 77) #[] #[], .func (.func 99) #[] c19, .func (.func 99) #[] c20, .func (.func 101) #[] c21, .func (.func 101) #[] c22, .func (.func 103) #[] c23, .func (.func 103) #[] c24, .func (.func 101) #[] c25, .func (.func 101) #[] c26, .func (.func 103) #[] c27, .func (.func 103) #[] c28, .func (.func 85) #[] #[], .func (.func 104) #[] c30, .func (.func 104) #[] c31, .func (.func 104) #[] c32, .func (.func 104) #[] c33, .func (.func 87) #[] #[]] : List Value).length → (w24.cell? ⟨w.heap.size, 0 + j, none⟩).isSome = true := fun j hj => (HT.out j hj).1
  refine bodyPost_ret (v := .agg #[.nilFunc, .func (.func 60) #[] #[], .func (.func 61) #[] #[], .func (.func 93) #[] c3, .func (.func 93) #[] c4, .func (.func 93) #[] c5, .func (.func 93) #[] c6, .func (.func 93) #[] c7, .func (.func 93) #[] c8, .func (.func 69) #[] #[], .func (.func 96) #[] c10, .func (.func 96) #[] c11, .func (.func 96) #[] c12, .func (.func 96) #[] c13, .func (.func 73) #[] #[], .func (.func 74) #[] #[], .func (.func 75) #[] #[], .func (.func 76) #[] #[], .func (.func 77) #[] #[], .func (.func 99) #[] c19, .func (.func 99) #[] c20, .func (.func 101) #[] c21, .func (.func 101) #[] c22, .func (.func 103) #[] c23, .func (.func 103) #[] c24, .func (.func 101) #[] c25, .func (.func 101) #[] c26, .func (.func 103) #[] c27, .func (.func 103) #[] c28, .func (.func 85) #[] #[], .func (.func 104) #[] c30, .func (.func 104) #[] c31, .func (.func 104) #[] c32, .func (.func 104) #[] c33, .func (.func 87) #[] #[]]) (results_cell (p := 0) (ty := 47) (by kernel_rfl) _ _ w.heap.size _ rfl (run_loadVar_mid _ w.heap.size 0 47 [.nilFunc, .func (.func 60) #[] #[], .func (.func 61) #[] #[], .func (.func 93) #[] c3, .func (.func 93) #[] c4, .func (.func 93) #[] c5, .func (.func 93) #[] c6, .func (.func 93) #[] c7, .func (.func 93) #[] c8, .func (.func 69) #[] #[], .func (.func 96) #[] c10, .func (.func 96) #[] c11, .func (.func 96) #[] c12, .func (.func 96) #[] c13, .func (.func 73) #[] #[], .func (.func 74) #[] #[], .func (.func 75) #[] #[], .func (.func 76) #[] #[], .func (.func 77) #[] #[], .func (.func 99) #[] c19, .func (.func 99) #[] c20, .func (.func 101) #[] c21, .func (.func 101) #[] c22, .func (.func 103) #[] c23, .func (.func 103) #[] c24, .func (.func 101) #[] c25, .func (.func 101) #[] c26, .func (.func 103) #[] c27, .func (.func 103) #[] c28, .func (.func 85) #[] #[], .func (.func 104) #[] c30, .func (.func 104) #[] c31, .func (.func 104) #[] c32, .func (.func 104) #[] c33, .func (.func 87) #[] #[]] (.array 35 46) (fun j v hv => ?_) (by kernel_rfl) rfl (by kernel_rfl))) rfl ⟨c3, c4, c5, c6, c7, c8, c10, c11, c12, c13, c19, c20, c21, c22, c23, c24, c25, c26, c27, c28, c30, c31, c32, c33, rfl, ⟨rfl, fun op o1 o2 => ?_⟩, ?_⟩
  · obtain ⟨hj, hjv⟩ := List.getElem?_eq_some_iff.1 hv
    exact (World.cell?_setCells_in w.heap.size _ 0 w24 hcells j hj).trans (congrArg some hjv)
  · have hc : op = 1 ∨ op = 2 ∨ op = 3 ∨ op = 4 ∨ op = 5 ∨ op = 6 ∨ op = 7 ∨ op = 8 ∨ op = 9 ∨ op = 10 ∨ op = 11 ∨ op = 12 ∨ op = 13 ∨ op = 14 ∨ op = 15 ∨ op = 16 ∨ op = 17 ∨ op = 18 ∨ op = 19 ∨ op = 20 ∨ op = 21 ∨ op = 22 ∨ op = 23 ∨ op = 24 ∨ op = 25 ∨ op = 26 ∨ op = 27 ∨ op = 28 ∨ op = 29 ∨ op = 30 ∨ op = 31 ∨ op = 32 ∨ op = 33 ∨ op = 34 := by omega
    rcases hc with rfl | rfl | rfl | rfl | rfl | rfl | rfl | rfl | rfl | rfl | rfl | rfl | rfl | rfl | rfl | rfl | rfl | rfl | rfl | rfl | rfl | rfl | rfl | rfl | rfl | rfl | rfl | rfl | rfl | rfl | rfl | rfl | rfl | rfl
    · exact ⟨_, rfl, rfl⟩
    · exact ⟨_, rfl, rfl⟩
    · exact ⟨_, rfl, ((HE3.out.below HL1.out).cellsPut z0 0 _).mono (Nat.le_of_lt z0)⟩
    · exact ⟨_, rfl, ((HE4.out.below HL2.out).cellsPut z0 0 _).mono (Nat.le_of_lt z0)⟩
    · exact ⟨_, rfl, ((HE5.out.below HL3.out).cellsPut z0 0 _).mono (Nat.le_of_lt z0)⟩
    · exact ⟨_, rfl, ((HE6.out.below HL4.out).cellsPut z0 0 _).mono (Nat.le_of_lt z0)⟩
    · exact ⟨_, rfl, ((HE7.out.below HL5.out).cellsPut z0 0 _).mono (Nat.le_of_lt z0)⟩
    · exact ⟨_, rfl, ((HE8.out.below HL6.out).cellsPut z0 0 _).mono (Nat.le_of_lt z0)⟩
    · exact ⟨_, rfl, rfl⟩
    · exact ⟨_, rfl, ((HE10.out.below HL7.out).cellsPut z0 0 _).mono (Nat.le_of_lt z0)⟩
    · exact ⟨_, rfl, ((HE11.out.below HL8.out).cellsPut z0 0 _).mono (Nat.le_of_lt z0)⟩
    · exact ⟨_, rfl, ((HE12.out.below HL9.out).cellsPut z0 0 _).mono (Nat.le_of_lt z0)⟩
    · exact ⟨_, rfl, ((HE13.out.below HL10.out).cellsPut z0 0 _).mono (Nat.le_of_lt z0)⟩
    · exact ⟨_, rfl, rfl⟩
    · exact ⟨_, rfl, rfl⟩
    · exact ⟨_, rfl, rfl⟩
    · exact ⟨_, rfl, rfl⟩
    · exact ⟨_, rfl, rfl⟩
    · exact ⟨_, rfl, ((HE19.out.below HL11.out).cellsPut z0 0 _).mono (Nat.le_of_lt z0)⟩
    · exact ⟨_, rfl, ((HE20.out.below HL12.out).cellsPut z0 0 _).mono (Nat.le_of_lt z0)⟩
    · exact ⟨_, rfl, ((HE21.out.below HL13.out).cellsPut z0 0 _).mono (Nat.le_of_lt z0)⟩
    · exact ⟨_, rfl, ((HE22.out.below HL14.out).cellsPut z0 0 _).mono (Nat.le_of_lt z0)⟩
    · exact ⟨_, rfl, ((HE23.out.below HL15.out).cellsPut z0 0 _).mono (Nat.le_of_lt z0)⟩
    · exact ⟨_, rfl, ((HE24.out.below HL16.out).cellsPut z0 0 _).mono (Nat.le_of_lt z0)⟩
    · exact ⟨_, rfl, ((HE25.out.below HL17.out).cellsPut z0 0 _).mono (Nat.le_of_lt z0)⟩
    · exact ⟨_, rfl, ((HE26.out.below HL18.out).cellsPut z0 0 _).mono (Nat.le_of_lt z0)⟩
    · exact ⟨_, rfl, ((HE27.out.below HL19.out).cellsPut z0 0 _).mono (Nat.le_of_lt z0)⟩
    · exact ⟨_, rfl, ((HE28.out.below HL20.out).cellsPut z0 0 _).mono (Nat.le_of_lt z0)⟩
    · exact ⟨_, rfl, rfl⟩
    · exact ⟨_, rfl, ((HE30.out.below HL21.out).cellsPut z0 0 _).mono (Nat.le_of_lt z0)⟩
    · exact ⟨_, rfl, ((HE31.out.below HL22.out).cellsPut z0 0 _).mono (Nat.le_of_lt z0)⟩
    · exact ⟨_, rfl, ((HE32.out.below HL23.out).cellsPut z0 0 _).mono (Nat.le_of_lt z0)⟩
    · exact ⟨_, rfl, ((HE33.out.below HL24.out).cellsPut z0 0 _).mono (Nat.le_of_lt z0)⟩
    · exact ⟨_, rfl, rfl⟩
  · exact below_setCells (Nat.le_refl _) _ 0 (HB0.out.trans (HC24.out.mono (Nat.le_of_lt z0)))
end Go.Proofs.YtpnclceamkmklaaGreat
