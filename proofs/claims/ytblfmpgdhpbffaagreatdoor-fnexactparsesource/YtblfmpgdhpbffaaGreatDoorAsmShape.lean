import Derived.Test.YtblfmpgdhpbffaaGreatDoorAsmDig
import Derived.Test.YtblfmpgdhpbffaaGreatDoorOfInsSame
/- spec.l2Names, spec.l2Shape. -/
namespace Go.Proofs.YtblfmpgdhpbffaaGreatDoor
open Go.RowKit

/-- The names of the ops. -/
def nmT : List ByteArray := [⟨#[]⟩, ⟨#[109, 111, 118]⟩, ⟨#[109, 111, 118, 105]⟩, ⟨#[97, 100, 100]⟩, ⟨#[115, 117, 98]⟩, ⟨#[109, 117, 108]⟩, ⟨#[97, 110, 100]⟩, ⟨#[111, 114]⟩, ⟨#[120, 111, 114]⟩, ⟨#[100, 105, 118]⟩, ⟨#[97, 100, 100, 105]⟩, ⟨#[97, 110, 100, 105]⟩, ⟨#[115, 104, 108]⟩, ⟨#[115, 104, 114]⟩, ⟨#[97, 100, 100, 115]⟩, ⟨#[97, 100, 99]⟩, ⟨#[115, 117, 98, 115]⟩, ⟨#[99, 109, 112]⟩, ⟨#[99, 109, 112, 105]⟩, ⟨#[115, 101, 108, 122]⟩, ⟨#[115, 101, 108, 99]⟩, ⟨#[108, 100, 98]⟩, ⟨#[108, 100, 113]⟩, ⟨#[115, 116, 98]⟩, ⟨#[115, 116, 113]⟩, ⟨#[108, 100, 98, 120]⟩, ⟨#[108, 100, 113, 120]⟩, ⟨#[115, 116, 98, 120]⟩, ⟨#[115, 116, 113, 120]⟩, ⟨#[106, 109, 112]⟩, ⟨#[106, 122]⟩, ⟨#[106, 110, 122]⟩, ⟨#[106, 99]⟩, ⟨#[106, 110, 99]⟩, ⟨#[104, 97, 108, 116]⟩]
def nmS (op : Int) : ByteArray := nmT.getD op.toNat ⟨#[]⟩
/-- The shape of an op's operands. -/
def shpS (d op : Int) : ByteArray :=
  if op = 34 then (if d = 0 then ⟨#[]⟩ else ⟨#[]⟩) else
  if op = 1 then (if d = 0 then ⟨#[37, 114, 65, 44, 32, 37, 114, 68]⟩ else ⟨#[114, 68, 44, 32, 114, 65]⟩) else
  if op = 2 then (if d = 0 then ⟨#[36, 73, 44, 32, 37, 114, 68]⟩ else ⟨#[114, 68, 44, 32, 73]⟩) else
  if op = 10 ∨ op = 11 ∨ op = 12 ∨ op = 13 then (if d = 0 then ⟨#[37, 114, 65, 44, 32, 36, 73, 44, 32, 37, 114, 68]⟩ else ⟨#[114, 68, 44, 32, 114, 65, 44, 32, 73]⟩) else
  if op = 17 then (if d = 0 then ⟨#[37, 114, 65, 44, 32, 37, 114, 66]⟩ else ⟨#[114, 65, 44, 32, 114, 66]⟩) else
  if op = 18 then (if d = 0 then ⟨#[37, 114, 65, 44, 32, 36, 73]⟩ else ⟨#[114, 65, 44, 32, 73]⟩) else
  if op = 21 ∨ op = 22 then (if d = 0 then ⟨#[73, 40, 37, 114, 65, 41, 44, 32, 37, 114, 68, 32, 35, 32, 104, 72]⟩ else ⟨#[114, 68, 44, 32, 91, 114, 65, 32, 43, 32, 73, 93, 32, 59, 32, 104, 72]⟩) else
  if op = 23 ∨ op = 24 then (if d = 0 then ⟨#[37, 114, 68, 44, 32, 73, 40, 37, 114, 65, 41, 32, 35, 32, 104, 72]⟩ else ⟨#[91, 114, 65, 32, 43, 32, 73, 93, 44, 32, 114, 68, 32, 59, 32, 104, 72]⟩) else
  if op = 25 ∨ op = 26 then (if d = 0 then ⟨#[40, 37, 114, 65, 44, 37, 114, 66, 41, 44, 32, 37, 114, 68, 32, 35, 32, 104, 72]⟩ else ⟨#[114, 68, 44, 32, 91, 114, 65, 32, 43, 32, 114, 66, 93, 32, 59, 32, 104, 72]⟩) else
  if op = 27 ∨ op = 28 then (if d = 0 then ⟨#[37, 114, 68, 44, 32, 40, 37, 114, 65, 44, 37, 114, 66, 41, 32, 35, 32, 104, 72]⟩ else ⟨#[91, 114, 65, 32, 43, 32, 114, 66, 93, 44, 32, 114, 68, 32, 59, 32, 104, 72]⟩) else
  if op = 29 ∨ op = 30 ∨ op = 31 ∨ op = 32 ∨ op = 33 then (if d = 0 then ⟨#[46, 76, 64]⟩ else ⟨#[76, 64]⟩) else
  (if d = 0 then ⟨#[37, 114, 65, 44, 32, 37, 114, 66, 44, 32, 37, 114, 68]⟩ else ⟨#[114, 68, 44, 32, 114, 65, 44, 32, 114, 66]⟩)

set_option maxHeartbeats 400000 in
theorem names_any (w : World) :
    Calls Tryz.prog 80 #[] w fun e w' => e = .returned (.slice (some ⟨w.heap.size, 0, none⟩) 35 35) ∧ w' = w.alloc (.cells (nmT.map Value.string).toArray 9) := by
  go_enter Tryz.func80, Tryz.ntmps80
  go_wp2
  go_ret
  exact ⟨rfl, rfl⟩

set_option maxHeartbeats 1600000 in
theorem shape_none0 (op : Int) (w : World) (hu : usesS op = ⟨#[]⟩) (_kj : jumpB op = false) (k34 : (op == 34) = true)  (_k23 : (op == 23) = false) (_k24 : (op == 24) = false) (_k27 : (op == 27) = false) (_k28 : (op == 28) = false) :
    Calls Tryz.prog 81 #[.int .i64 op, .int .i64 0] w fun e w' => e = .returned (.string ⟨#[]⟩) ∧ Below w.heap.size w w' := by
  have hD : hasN ⟨#[]⟩ 68 = false := by decide
  have hA : hasN ⟨#[]⟩ 65 = false := by decide
  have hB : hasN ⟨#[]⟩ 66 = false := by decide
  have hI : hasN ⟨#[]⟩ 73 = false := by decide
  have hH : hasN ⟨#[]⟩ 72 = false := by decide
  have hl : (⟨#[]⟩ : ByteArray).size ≤ maxLen := hu ▸ uses_le op
  go_enter Tryz.func81, Tryz.ntmps81
  go_wp2_with (first | (go_at_call 83; refine (uses_any _ _).mono ?_; rintro e w1 ⟨rfl, hw1⟩; rw [hw1]; clear hw1) | (go_at_call 84; refine (has_n _ _ _ hl (by decide) (by decide)).mono ?_; rintro e w1 ⟨rfl, hw1⟩; rw [hw1]; clear hw1) | (go_at_call 85; refine (jump_any _ _).mono ?_; rintro e w1 ⟨rfl, hw1⟩; rw [hw1]; clear hw1))
  all_goals (go_ret; exact ⟨rfl, Below.refl _ _⟩)
set_option maxHeartbeats 1600000 in
theorem shape_none1 (op : Int) (w : World) (hu : usesS op = ⟨#[]⟩) (_kj : jumpB op = false) (k34 : (op == 34) = true)  (_k23 : (op == 23) = false) (_k24 : (op == 24) = false) (_k27 : (op == 27) = false) (_k28 : (op == 28) = false) :
    Calls Tryz.prog 81 #[.int .i64 op, .int .i64 1] w fun e w' => e = .returned (.string ⟨#[]⟩) ∧ Below w.heap.size w w' := by
  have hD : hasN ⟨#[]⟩ 68 = false := by decide
  have hA : hasN ⟨#[]⟩ 65 = false := by decide
  have hB : hasN ⟨#[]⟩ 66 = false := by decide
  have hI : hasN ⟨#[]⟩ 73 = false := by decide
  have hH : hasN ⟨#[]⟩ 72 = false := by decide
  have hl : (⟨#[]⟩ : ByteArray).size ≤ maxLen := hu ▸ uses_le op
  go_enter Tryz.func81, Tryz.ntmps81
  go_wp2_with (first | (go_at_call 83; refine (uses_any _ _).mono ?_; rintro e w1 ⟨rfl, hw1⟩; rw [hw1]; clear hw1) | (go_at_call 84; refine (has_n _ _ _ hl (by decide) (by decide)).mono ?_; rintro e w1 ⟨rfl, hw1⟩; rw [hw1]; clear hw1) | (go_at_call 85; refine (jump_any _ _).mono ?_; rintro e w1 ⟨rfl, hw1⟩; rw [hw1]; clear hw1))
  all_goals (go_ret; exact ⟨rfl, Below.refl _ _⟩)
set_option maxHeartbeats 1600000 in
theorem shape_da0 (op : Int) (w : World) (hu : usesS op = ⟨#[68, 65]⟩) (kj : jumpB op = false) (k34 : (op == 34) = false)  (k23 : (op == 23) = false) (k24 : (op == 24) = false) (k27 : (op == 27) = false) (k28 : (op == 28) = false) :
    Calls Tryz.prog 81 #[.int .i64 op, .int .i64 0] w fun e w' => e = .returned (.string ⟨#[37, 114, 65, 44, 32, 37, 114, 68]⟩) ∧ Below w.heap.size w w' := by
  have hD : hasN ⟨#[68, 65]⟩ 68 = true := by decide
  have hA : hasN ⟨#[68, 65]⟩ 65 = true := by decide
  have hB : hasN ⟨#[68, 65]⟩ 66 = false := by decide
  have hI : hasN ⟨#[68, 65]⟩ 73 = false := by decide
  have hH : hasN ⟨#[68, 65]⟩ 72 = false := by decide
  have hl : (⟨#[68, 65]⟩ : ByteArray).size ≤ maxLen := hu ▸ uses_le op
  go_enter Tryz.func81, Tryz.ntmps81
  go_wp2_with (first | (go_at_call 83; refine (uses_any _ _).mono ?_; rintro e w1 ⟨rfl, hw1⟩; rw [hw1]; clear hw1) | (go_at_call 84; refine (has_n _ _ _ hl (by decide) (by decide)).mono ?_; rintro e w1 ⟨rfl, hw1⟩; rw [hw1]; clear hw1) | (go_at_call 85; refine (jump_any _ _).mono ?_; rintro e w1 ⟨rfl, hw1⟩; rw [hw1]; clear hw1))
  go_loopw [9, 11, 12] (fun o i _ wr => Below w.heap.size w wr ∧ ((i = .int .i64 0 ∧ o = .string ⟨#[]⟩) ∨ (i = .int .i64 1 ∧ o = .string ⟨#[37, 114, 65]⟩) ∨ (i = .int .i64 2 ∧ o = .string ⟨#[37, 114, 65]⟩) ∨ (i = .int .i64 3 ∧ o = .string ⟨#[37, 114, 65]⟩) ∨ (i = .int .i64 4 ∧ o = .string ⟨#[37, 114, 65, 44, 32, 37, 114, 68]⟩))) (fun _ i _ _ => 4 - (intOf i).toNat)
  case atStart => exact ⟨Below.refl _ _, Or.inl ⟨rfl, rfl⟩⟩
  case round =>
    obtain ⟨hb, ⟨rfl, rfl⟩ | ⟨rfl, rfl⟩ | ⟨rfl, rfl⟩ | ⟨rfl, rfl⟩ | ⟨rfl, rfl⟩⟩ := hrel
    · go_upto_region 44 with (first | (go_at_call 83; refine (uses_any _ _).mono ?_; rintro e w1 ⟨rfl, hw1⟩; rw [hw1]; clear hw1) | (go_at_call 84; refine (has_n _ _ _ hl (by decide) (by decide)).mono ?_; rintro e w1 ⟨rfl, hw1⟩; rw [hw1]; clear hw1) | (go_at_call 85; refine (jump_any _ _).mono ?_; rintro e w1 ⟨rfl, hw1⟩; rw [hw1]; clear hw1))
      have hcv : (convert 22 9 (.slice (some ⟨wr.heap.size, 0, none⟩) 1 1)).run Tryz.prog (wr.alloc (.cells #[.int .u8 65] 5)) = .ok (.string ⟨#[65]⟩) (wr.alloc (.cells #[.int .u8 65] 5)) := conv_one wr 65 (by decide) (by decide)
      have e0 : ∀ h, (⟨#[65, 66, 73, 68]⟩ : ByteArray)[0]'h = 65 := fun _ => rfl
      go_wp2
      go_roundw
      case rel => exact ⟨hb.alloc hb.size _, Or.inr (Or.inl ⟨rfl, rfl⟩)⟩
      case measure => simp [intOf]
    · go_wp2_with (first | (go_at_call 83; refine (uses_any _ _).mono ?_; rintro e w1 ⟨rfl, hw1⟩; rw [hw1]; clear hw1) | (go_at_call 84; refine (has_n _ _ _ hl (by decide) (by decide)).mono ?_; rintro e w1 ⟨rfl, hw1⟩; rw [hw1]; clear hw1) | (go_at_call 85; refine (jump_any _ _).mono ?_; rintro e w1 ⟨rfl, hw1⟩; rw [hw1]; clear hw1))
      go_roundw
      case rel => exact ⟨hb, Or.inr (Or.inr (Or.inl ⟨rfl, rfl⟩))⟩
      case measure => simp [intOf]
    · go_wp2_with (first | (go_at_call 83; refine (uses_any _ _).mono ?_; rintro e w1 ⟨rfl, hw1⟩; rw [hw1]; clear hw1) | (go_at_call 84; refine (has_n _ _ _ hl (by decide) (by decide)).mono ?_; rintro e w1 ⟨rfl, hw1⟩; rw [hw1]; clear hw1) | (go_at_call 85; refine (jump_any _ _).mono ?_; rintro e w1 ⟨rfl, hw1⟩; rw [hw1]; clear hw1))
      go_roundw
      case rel => exact ⟨hb, Or.inr (Or.inr (Or.inr (Or.inl ⟨rfl, rfl⟩)))⟩
      case measure => simp [intOf]
    · go_upto_region 44 with (first | (go_at_call 83; refine (uses_any _ _).mono ?_; rintro e w1 ⟨rfl, hw1⟩; rw [hw1]; clear hw1) | (go_at_call 84; refine (has_n _ _ _ hl (by decide) (by decide)).mono ?_; rintro e w1 ⟨rfl, hw1⟩; rw [hw1]; clear hw1) | (go_at_call 85; refine (jump_any _ _).mono ?_; rintro e w1 ⟨rfl, hw1⟩; rw [hw1]; clear hw1))
      have hcv : (convert 22 9 (.slice (some ⟨wr.heap.size, 0, none⟩) 1 1)).run Tryz.prog (wr.alloc (.cells #[.int .u8 68] 5)) = .ok (.string ⟨#[68]⟩) (wr.alloc (.cells #[.int .u8 68] 5)) := conv_one wr 68 (by decide) (by decide)
      have e0 : ∀ h, (⟨#[65, 66, 73, 68]⟩ : ByteArray)[3]'h = 68 := fun _ => rfl
      go_wp2
      go_roundw
      case rel => exact ⟨hb.alloc hb.size _, Or.inr (Or.inr (Or.inr (Or.inr (⟨rfl, rfl⟩))))⟩
      case measure => simp [intOf]
    · go_wp2
      go_ret
      exact ⟨rfl, hb⟩

set_option maxHeartbeats 1600000 in
theorem shape_da1 (op : Int) (w : World) (hu : usesS op = ⟨#[68, 65]⟩) (kj : jumpB op = false) (k34 : (op == 34) = false)  (k23 : (op == 23) = false) (k24 : (op == 24) = false) (k27 : (op == 27) = false) (k28 : (op == 28) = false) :
    Calls Tryz.prog 81 #[.int .i64 op, .int .i64 1] w fun e w' => e = .returned (.string ⟨#[114, 68, 44, 32, 114, 65]⟩) ∧ Below w.heap.size w w' := by
  have hD : hasN ⟨#[68, 65]⟩ 68 = true := by decide
  have hA : hasN ⟨#[68, 65]⟩ 65 = true := by decide
  have hB : hasN ⟨#[68, 65]⟩ 66 = false := by decide
  have hI : hasN ⟨#[68, 65]⟩ 73 = false := by decide
  have hH : hasN ⟨#[68, 65]⟩ 72 = false := by decide
  have hl : (⟨#[68, 65]⟩ : ByteArray).size ≤ maxLen := hu ▸ uses_le op
  go_enter Tryz.func81, Tryz.ntmps81
  go_wp2_with (first | (go_at_call 83; refine (uses_any _ _).mono ?_; rintro e w1 ⟨rfl, hw1⟩; rw [hw1]; clear hw1) | (go_at_call 84; refine (has_n _ _ _ hl (by decide) (by decide)).mono ?_; rintro e w1 ⟨rfl, hw1⟩; rw [hw1]; clear hw1) | (go_at_call 85; refine (jump_any _ _).mono ?_; rintro e w1 ⟨rfl, hw1⟩; rw [hw1]; clear hw1))
  go_loopw [9, 11, 12] (fun o i _ wr => Below w.heap.size w wr ∧ ((i = .int .i64 0 ∧ o = .string ⟨#[]⟩) ∨ (i = .int .i64 1 ∧ o = .string ⟨#[114, 68]⟩) ∨ (i = .int .i64 2 ∧ o = .string ⟨#[114, 68, 44, 32, 114, 65]⟩) ∨ (i = .int .i64 3 ∧ o = .string ⟨#[114, 68, 44, 32, 114, 65]⟩) ∨ (i = .int .i64 4 ∧ o = .string ⟨#[114, 68, 44, 32, 114, 65]⟩))) (fun _ i _ _ => 4 - (intOf i).toNat)
  case atStart => exact ⟨Below.refl _ _, Or.inl ⟨rfl, rfl⟩⟩
  case round =>
    obtain ⟨hb, ⟨rfl, rfl⟩ | ⟨rfl, rfl⟩ | ⟨rfl, rfl⟩ | ⟨rfl, rfl⟩ | ⟨rfl, rfl⟩⟩ := hrel
    · go_upto_region 44 with (first | (go_at_call 83; refine (uses_any _ _).mono ?_; rintro e w1 ⟨rfl, hw1⟩; rw [hw1]; clear hw1) | (go_at_call 84; refine (has_n _ _ _ hl (by decide) (by decide)).mono ?_; rintro e w1 ⟨rfl, hw1⟩; rw [hw1]; clear hw1) | (go_at_call 85; refine (jump_any _ _).mono ?_; rintro e w1 ⟨rfl, hw1⟩; rw [hw1]; clear hw1))
      have hcv : (convert 22 9 (.slice (some ⟨wr.heap.size, 0, none⟩) 1 1)).run Tryz.prog (wr.alloc (.cells #[.int .u8 68] 5)) = .ok (.string ⟨#[68]⟩) (wr.alloc (.cells #[.int .u8 68] 5)) := conv_one wr 68 (by decide) (by decide)
      have e0 : ∀ h, (⟨#[68, 65, 66, 73]⟩ : ByteArray)[0]'h = 68 := fun _ => rfl
      go_wp2
      go_roundw
      case rel => exact ⟨hb.alloc hb.size _, Or.inr (Or.inl ⟨rfl, rfl⟩)⟩
      case measure => simp [intOf]
    · go_upto_region 44 with (first | (go_at_call 83; refine (uses_any _ _).mono ?_; rintro e w1 ⟨rfl, hw1⟩; rw [hw1]; clear hw1) | (go_at_call 84; refine (has_n _ _ _ hl (by decide) (by decide)).mono ?_; rintro e w1 ⟨rfl, hw1⟩; rw [hw1]; clear hw1) | (go_at_call 85; refine (jump_any _ _).mono ?_; rintro e w1 ⟨rfl, hw1⟩; rw [hw1]; clear hw1))
      have hcv : (convert 22 9 (.slice (some ⟨wr.heap.size, 0, none⟩) 1 1)).run Tryz.prog (wr.alloc (.cells #[.int .u8 65] 5)) = .ok (.string ⟨#[65]⟩) (wr.alloc (.cells #[.int .u8 65] 5)) := conv_one wr 65 (by decide) (by decide)
      have e0 : ∀ h, (⟨#[68, 65, 66, 73]⟩ : ByteArray)[1]'h = 65 := fun _ => rfl
      go_wp2
      go_roundw
      case rel => exact ⟨hb.alloc hb.size _, Or.inr (Or.inr (Or.inl ⟨rfl, rfl⟩))⟩
      case measure => simp [intOf]
    · go_wp2_with (first | (go_at_call 83; refine (uses_any _ _).mono ?_; rintro e w1 ⟨rfl, hw1⟩; rw [hw1]; clear hw1) | (go_at_call 84; refine (has_n _ _ _ hl (by decide) (by decide)).mono ?_; rintro e w1 ⟨rfl, hw1⟩; rw [hw1]; clear hw1) | (go_at_call 85; refine (jump_any _ _).mono ?_; rintro e w1 ⟨rfl, hw1⟩; rw [hw1]; clear hw1))
      go_roundw
      case rel => exact ⟨hb, Or.inr (Or.inr (Or.inr (Or.inl ⟨rfl, rfl⟩)))⟩
      case measure => simp [intOf]
    · go_wp2_with (first | (go_at_call 83; refine (uses_any _ _).mono ?_; rintro e w1 ⟨rfl, hw1⟩; rw [hw1]; clear hw1) | (go_at_call 84; refine (has_n _ _ _ hl (by decide) (by decide)).mono ?_; rintro e w1 ⟨rfl, hw1⟩; rw [hw1]; clear hw1) | (go_at_call 85; refine (jump_any _ _).mono ?_; rintro e w1 ⟨rfl, hw1⟩; rw [hw1]; clear hw1))
      go_roundw
      case rel => exact ⟨hb, Or.inr (Or.inr (Or.inr (Or.inr (⟨rfl, rfl⟩))))⟩
      case measure => simp [intOf]
    · go_wp2
      go_ret
      exact ⟨rfl, hb⟩

set_option maxHeartbeats 1600000 in
theorem shape_di0 (op : Int) (w : World) (hu : usesS op = ⟨#[68, 73]⟩) (kj : jumpB op = false) (k34 : (op == 34) = false)  (k23 : (op == 23) = false) (k24 : (op == 24) = false) (k27 : (op == 27) = false) (k28 : (op == 28) = false) :
    Calls Tryz.prog 81 #[.int .i64 op, .int .i64 0] w fun e w' => e = .returned (.string ⟨#[36, 73, 44, 32, 37, 114, 68]⟩) ∧ Below w.heap.size w w' := by
  have hD : hasN ⟨#[68, 73]⟩ 68 = true := by decide
  have hA : hasN ⟨#[68, 73]⟩ 65 = false := by decide
  have hB : hasN ⟨#[68, 73]⟩ 66 = false := by decide
  have hI : hasN ⟨#[68, 73]⟩ 73 = true := by decide
  have hH : hasN ⟨#[68, 73]⟩ 72 = false := by decide
  have hl : (⟨#[68, 73]⟩ : ByteArray).size ≤ maxLen := hu ▸ uses_le op
  go_enter Tryz.func81, Tryz.ntmps81
  go_wp2_with (first | (go_at_call 83; refine (uses_any _ _).mono ?_; rintro e w1 ⟨rfl, hw1⟩; rw [hw1]; clear hw1) | (go_at_call 84; refine (has_n _ _ _ hl (by decide) (by decide)).mono ?_; rintro e w1 ⟨rfl, hw1⟩; rw [hw1]; clear hw1) | (go_at_call 85; refine (jump_any _ _).mono ?_; rintro e w1 ⟨rfl, hw1⟩; rw [hw1]; clear hw1))
  go_loopw [9, 11, 12] (fun o i _ wr => Below w.heap.size w wr ∧ ((i = .int .i64 0 ∧ o = .string ⟨#[]⟩) ∨ (i = .int .i64 1 ∧ o = .string ⟨#[]⟩) ∨ (i = .int .i64 2 ∧ o = .string ⟨#[]⟩) ∨ (i = .int .i64 3 ∧ o = .string ⟨#[36, 73]⟩) ∨ (i = .int .i64 4 ∧ o = .string ⟨#[36, 73, 44, 32, 37, 114, 68]⟩))) (fun _ i _ _ => 4 - (intOf i).toNat)
  case atStart => exact ⟨Below.refl _ _, Or.inl ⟨rfl, rfl⟩⟩
  case round =>
    obtain ⟨hb, ⟨rfl, rfl⟩ | ⟨rfl, rfl⟩ | ⟨rfl, rfl⟩ | ⟨rfl, rfl⟩ | ⟨rfl, rfl⟩⟩ := hrel
    · go_wp2_with (first | (go_at_call 83; refine (uses_any _ _).mono ?_; rintro e w1 ⟨rfl, hw1⟩; rw [hw1]; clear hw1) | (go_at_call 84; refine (has_n _ _ _ hl (by decide) (by decide)).mono ?_; rintro e w1 ⟨rfl, hw1⟩; rw [hw1]; clear hw1) | (go_at_call 85; refine (jump_any _ _).mono ?_; rintro e w1 ⟨rfl, hw1⟩; rw [hw1]; clear hw1))
      go_roundw
      case rel => exact ⟨hb, Or.inr (Or.inl ⟨rfl, rfl⟩)⟩
      case measure => simp [intOf]
    · go_wp2_with (first | (go_at_call 83; refine (uses_any _ _).mono ?_; rintro e w1 ⟨rfl, hw1⟩; rw [hw1]; clear hw1) | (go_at_call 84; refine (has_n _ _ _ hl (by decide) (by decide)).mono ?_; rintro e w1 ⟨rfl, hw1⟩; rw [hw1]; clear hw1) | (go_at_call 85; refine (jump_any _ _).mono ?_; rintro e w1 ⟨rfl, hw1⟩; rw [hw1]; clear hw1))
      go_roundw
      case rel => exact ⟨hb, Or.inr (Or.inr (Or.inl ⟨rfl, rfl⟩))⟩
      case measure => simp [intOf]
    · go_upto_region 44 with (first | (go_at_call 83; refine (uses_any _ _).mono ?_; rintro e w1 ⟨rfl, hw1⟩; rw [hw1]; clear hw1) | (go_at_call 84; refine (has_n _ _ _ hl (by decide) (by decide)).mono ?_; rintro e w1 ⟨rfl, hw1⟩; rw [hw1]; clear hw1) | (go_at_call 85; refine (jump_any _ _).mono ?_; rintro e w1 ⟨rfl, hw1⟩; rw [hw1]; clear hw1))
      have hcv : (convert 22 9 (.slice (some ⟨wr.heap.size, 0, none⟩) 1 1)).run Tryz.prog (wr.alloc (.cells #[.int .u8 73] 5)) = .ok (.string ⟨#[73]⟩) (wr.alloc (.cells #[.int .u8 73] 5)) := conv_one wr 73 (by decide) (by decide)
      have e0 : ∀ h, (⟨#[65, 66, 73, 68]⟩ : ByteArray)[2]'h = 73 := fun _ => rfl
      go_wp2
      go_roundw
      case rel => exact ⟨hb.alloc hb.size _, Or.inr (Or.inr (Or.inr (Or.inl ⟨rfl, rfl⟩)))⟩
      case measure => simp [intOf]
    · go_upto_region 44 with (first | (go_at_call 83; refine (uses_any _ _).mono ?_; rintro e w1 ⟨rfl, hw1⟩; rw [hw1]; clear hw1) | (go_at_call 84; refine (has_n _ _ _ hl (by decide) (by decide)).mono ?_; rintro e w1 ⟨rfl, hw1⟩; rw [hw1]; clear hw1) | (go_at_call 85; refine (jump_any _ _).mono ?_; rintro e w1 ⟨rfl, hw1⟩; rw [hw1]; clear hw1))
      have hcv : (convert 22 9 (.slice (some ⟨wr.heap.size, 0, none⟩) 1 1)).run Tryz.prog (wr.alloc (.cells #[.int .u8 68] 5)) = .ok (.string ⟨#[68]⟩) (wr.alloc (.cells #[.int .u8 68] 5)) := conv_one wr 68 (by decide) (by decide)
      have e0 : ∀ h, (⟨#[65, 66, 73, 68]⟩ : ByteArray)[3]'h = 68 := fun _ => rfl
      go_wp2
      go_roundw
      case rel => exact ⟨hb.alloc hb.size _, Or.inr (Or.inr (Or.inr (Or.inr (⟨rfl, rfl⟩))))⟩
      case measure => simp [intOf]
    · go_wp2
      go_ret
      exact ⟨rfl, hb⟩

set_option maxHeartbeats 1600000 in
theorem shape_di1 (op : Int) (w : World) (hu : usesS op = ⟨#[68, 73]⟩) (kj : jumpB op = false) (k34 : (op == 34) = false)  (k23 : (op == 23) = false) (k24 : (op == 24) = false) (k27 : (op == 27) = false) (k28 : (op == 28) = false) :
    Calls Tryz.prog 81 #[.int .i64 op, .int .i64 1] w fun e w' => e = .returned (.string ⟨#[114, 68, 44, 32, 73]⟩) ∧ Below w.heap.size w w' := by
  have hD : hasN ⟨#[68, 73]⟩ 68 = true := by decide
  have hA : hasN ⟨#[68, 73]⟩ 65 = false := by decide
  have hB : hasN ⟨#[68, 73]⟩ 66 = false := by decide
  have hI : hasN ⟨#[68, 73]⟩ 73 = true := by decide
  have hH : hasN ⟨#[68, 73]⟩ 72 = false := by decide
  have hl : (⟨#[68, 73]⟩ : ByteArray).size ≤ maxLen := hu ▸ uses_le op
  go_enter Tryz.func81, Tryz.ntmps81
  go_wp2_with (first | (go_at_call 83; refine (uses_any _ _).mono ?_; rintro e w1 ⟨rfl, hw1⟩; rw [hw1]; clear hw1) | (go_at_call 84; refine (has_n _ _ _ hl (by decide) (by decide)).mono ?_; rintro e w1 ⟨rfl, hw1⟩; rw [hw1]; clear hw1) | (go_at_call 85; refine (jump_any _ _).mono ?_; rintro e w1 ⟨rfl, hw1⟩; rw [hw1]; clear hw1))
  go_loopw [9, 11, 12] (fun o i _ wr => Below w.heap.size w wr ∧ ((i = .int .i64 0 ∧ o = .string ⟨#[]⟩) ∨ (i = .int .i64 1 ∧ o = .string ⟨#[114, 68]⟩) ∨ (i = .int .i64 2 ∧ o = .string ⟨#[114, 68]⟩) ∨ (i = .int .i64 3 ∧ o = .string ⟨#[114, 68]⟩) ∨ (i = .int .i64 4 ∧ o = .string ⟨#[114, 68, 44, 32, 73]⟩))) (fun _ i _ _ => 4 - (intOf i).toNat)
  case atStart => exact ⟨Below.refl _ _, Or.inl ⟨rfl, rfl⟩⟩
  case round =>
    obtain ⟨hb, ⟨rfl, rfl⟩ | ⟨rfl, rfl⟩ | ⟨rfl, rfl⟩ | ⟨rfl, rfl⟩ | ⟨rfl, rfl⟩⟩ := hrel
    · go_upto_region 44 with (first | (go_at_call 83; refine (uses_any _ _).mono ?_; rintro e w1 ⟨rfl, hw1⟩; rw [hw1]; clear hw1) | (go_at_call 84; refine (has_n _ _ _ hl (by decide) (by decide)).mono ?_; rintro e w1 ⟨rfl, hw1⟩; rw [hw1]; clear hw1) | (go_at_call 85; refine (jump_any _ _).mono ?_; rintro e w1 ⟨rfl, hw1⟩; rw [hw1]; clear hw1))
      have hcv : (convert 22 9 (.slice (some ⟨wr.heap.size, 0, none⟩) 1 1)).run Tryz.prog (wr.alloc (.cells #[.int .u8 68] 5)) = .ok (.string ⟨#[68]⟩) (wr.alloc (.cells #[.int .u8 68] 5)) := conv_one wr 68 (by decide) (by decide)
      have e0 : ∀ h, (⟨#[68, 65, 66, 73]⟩ : ByteArray)[0]'h = 68 := fun _ => rfl
      go_wp2
      go_roundw
      case rel => exact ⟨hb.alloc hb.size _, Or.inr (Or.inl ⟨rfl, rfl⟩)⟩
      case measure => simp [intOf]
    · go_wp2_with (first | (go_at_call 83; refine (uses_any _ _).mono ?_; rintro e w1 ⟨rfl, hw1⟩; rw [hw1]; clear hw1) | (go_at_call 84; refine (has_n _ _ _ hl (by decide) (by decide)).mono ?_; rintro e w1 ⟨rfl, hw1⟩; rw [hw1]; clear hw1) | (go_at_call 85; refine (jump_any _ _).mono ?_; rintro e w1 ⟨rfl, hw1⟩; rw [hw1]; clear hw1))
      go_roundw
      case rel => exact ⟨hb, Or.inr (Or.inr (Or.inl ⟨rfl, rfl⟩))⟩
      case measure => simp [intOf]
    · go_wp2_with (first | (go_at_call 83; refine (uses_any _ _).mono ?_; rintro e w1 ⟨rfl, hw1⟩; rw [hw1]; clear hw1) | (go_at_call 84; refine (has_n _ _ _ hl (by decide) (by decide)).mono ?_; rintro e w1 ⟨rfl, hw1⟩; rw [hw1]; clear hw1) | (go_at_call 85; refine (jump_any _ _).mono ?_; rintro e w1 ⟨rfl, hw1⟩; rw [hw1]; clear hw1))
      go_roundw
      case rel => exact ⟨hb, Or.inr (Or.inr (Or.inr (Or.inl ⟨rfl, rfl⟩)))⟩
      case measure => simp [intOf]
    · go_upto_region 44 with (first | (go_at_call 83; refine (uses_any _ _).mono ?_; rintro e w1 ⟨rfl, hw1⟩; rw [hw1]; clear hw1) | (go_at_call 84; refine (has_n _ _ _ hl (by decide) (by decide)).mono ?_; rintro e w1 ⟨rfl, hw1⟩; rw [hw1]; clear hw1) | (go_at_call 85; refine (jump_any _ _).mono ?_; rintro e w1 ⟨rfl, hw1⟩; rw [hw1]; clear hw1))
      have hcv : (convert 22 9 (.slice (some ⟨wr.heap.size, 0, none⟩) 1 1)).run Tryz.prog (wr.alloc (.cells #[.int .u8 73] 5)) = .ok (.string ⟨#[73]⟩) (wr.alloc (.cells #[.int .u8 73] 5)) := conv_one wr 73 (by decide) (by decide)
      have e0 : ∀ h, (⟨#[68, 65, 66, 73]⟩ : ByteArray)[3]'h = 73 := fun _ => rfl
      go_wp2
      go_roundw
      case rel => exact ⟨hb.alloc hb.size _, Or.inr (Or.inr (Or.inr (Or.inr (⟨rfl, rfl⟩))))⟩
      case measure => simp [intOf]
    · go_wp2
      go_ret
      exact ⟨rfl, hb⟩

set_option maxHeartbeats 1600000 in
theorem shape_dab0 (op : Int) (w : World) (hu : usesS op = ⟨#[68, 65, 66]⟩) (kj : jumpB op = false) (k34 : (op == 34) = false)  (k23 : (op == 23) = false) (k24 : (op == 24) = false) (k27 : (op == 27) = false) (k28 : (op == 28) = false) :
    Calls Tryz.prog 81 #[.int .i64 op, .int .i64 0] w fun e w' => e = .returned (.string ⟨#[37, 114, 65, 44, 32, 37, 114, 66, 44, 32, 37, 114, 68]⟩) ∧ Below w.heap.size w w' := by
  have hD : hasN ⟨#[68, 65, 66]⟩ 68 = true := by decide
  have hA : hasN ⟨#[68, 65, 66]⟩ 65 = true := by decide
  have hB : hasN ⟨#[68, 65, 66]⟩ 66 = true := by decide
  have hI : hasN ⟨#[68, 65, 66]⟩ 73 = false := by decide
  have hH : hasN ⟨#[68, 65, 66]⟩ 72 = false := by decide
  have hl : (⟨#[68, 65, 66]⟩ : ByteArray).size ≤ maxLen := hu ▸ uses_le op
  go_enter Tryz.func81, Tryz.ntmps81
  go_wp2_with (first | (go_at_call 83; refine (uses_any _ _).mono ?_; rintro e w1 ⟨rfl, hw1⟩; rw [hw1]; clear hw1) | (go_at_call 84; refine (has_n _ _ _ hl (by decide) (by decide)).mono ?_; rintro e w1 ⟨rfl, hw1⟩; rw [hw1]; clear hw1) | (go_at_call 85; refine (jump_any _ _).mono ?_; rintro e w1 ⟨rfl, hw1⟩; rw [hw1]; clear hw1))
  go_loopw [9, 11, 12] (fun o i _ wr => Below w.heap.size w wr ∧ ((i = .int .i64 0 ∧ o = .string ⟨#[]⟩) ∨ (i = .int .i64 1 ∧ o = .string ⟨#[37, 114, 65]⟩) ∨ (i = .int .i64 2 ∧ o = .string ⟨#[37, 114, 65, 44, 32, 37, 114, 66]⟩) ∨ (i = .int .i64 3 ∧ o = .string ⟨#[37, 114, 65, 44, 32, 37, 114, 66]⟩) ∨ (i = .int .i64 4 ∧ o = .string ⟨#[37, 114, 65, 44, 32, 37, 114, 66, 44, 32, 37, 114, 68]⟩))) (fun _ i _ _ => 4 - (intOf i).toNat)
  case atStart => exact ⟨Below.refl _ _, Or.inl ⟨rfl, rfl⟩⟩
  case round =>
    obtain ⟨hb, ⟨rfl, rfl⟩ | ⟨rfl, rfl⟩ | ⟨rfl, rfl⟩ | ⟨rfl, rfl⟩ | ⟨rfl, rfl⟩⟩ := hrel
    · go_upto_region 44 with (first | (go_at_call 83; refine (uses_any _ _).mono ?_; rintro e w1 ⟨rfl, hw1⟩; rw [hw1]; clear hw1) | (go_at_call 84; refine (has_n _ _ _ hl (by decide) (by decide)).mono ?_; rintro e w1 ⟨rfl, hw1⟩; rw [hw1]; clear hw1) | (go_at_call 85; refine (jump_any _ _).mono ?_; rintro e w1 ⟨rfl, hw1⟩; rw [hw1]; clear hw1))
      have hcv : (convert 22 9 (.slice (some ⟨wr.heap.size, 0, none⟩) 1 1)).run Tryz.prog (wr.alloc (.cells #[.int .u8 65] 5)) = .ok (.string ⟨#[65]⟩) (wr.alloc (.cells #[.int .u8 65] 5)) := conv_one wr 65 (by decide) (by decide)
      have e0 : ∀ h, (⟨#[65, 66, 73, 68]⟩ : ByteArray)[0]'h = 65 := fun _ => rfl
      go_wp2
      go_roundw
      case rel => exact ⟨hb.alloc hb.size _, Or.inr (Or.inl ⟨rfl, rfl⟩)⟩
      case measure => simp [intOf]
    · go_upto_region 44 with (first | (go_at_call 83; refine (uses_any _ _).mono ?_; rintro e w1 ⟨rfl, hw1⟩; rw [hw1]; clear hw1) | (go_at_call 84; refine (has_n _ _ _ hl (by decide) (by decide)).mono ?_; rintro e w1 ⟨rfl, hw1⟩; rw [hw1]; clear hw1) | (go_at_call 85; refine (jump_any _ _).mono ?_; rintro e w1 ⟨rfl, hw1⟩; rw [hw1]; clear hw1))
      have hcv : (convert 22 9 (.slice (some ⟨wr.heap.size, 0, none⟩) 1 1)).run Tryz.prog (wr.alloc (.cells #[.int .u8 66] 5)) = .ok (.string ⟨#[66]⟩) (wr.alloc (.cells #[.int .u8 66] 5)) := conv_one wr 66 (by decide) (by decide)
      have e0 : ∀ h, (⟨#[65, 66, 73, 68]⟩ : ByteArray)[1]'h = 66 := fun _ => rfl
      go_wp2
      go_roundw
      case rel => exact ⟨hb.alloc hb.size _, Or.inr (Or.inr (Or.inl ⟨rfl, rfl⟩))⟩
      case measure => simp [intOf]
    · go_wp2_with (first | (go_at_call 83; refine (uses_any _ _).mono ?_; rintro e w1 ⟨rfl, hw1⟩; rw [hw1]; clear hw1) | (go_at_call 84; refine (has_n _ _ _ hl (by decide) (by decide)).mono ?_; rintro e w1 ⟨rfl, hw1⟩; rw [hw1]; clear hw1) | (go_at_call 85; refine (jump_any _ _).mono ?_; rintro e w1 ⟨rfl, hw1⟩; rw [hw1]; clear hw1))
      go_roundw
      case rel => exact ⟨hb, Or.inr (Or.inr (Or.inr (Or.inl ⟨rfl, rfl⟩)))⟩
      case measure => simp [intOf]
    · go_upto_region 44 with (first | (go_at_call 83; refine (uses_any _ _).mono ?_; rintro e w1 ⟨rfl, hw1⟩; rw [hw1]; clear hw1) | (go_at_call 84; refine (has_n _ _ _ hl (by decide) (by decide)).mono ?_; rintro e w1 ⟨rfl, hw1⟩; rw [hw1]; clear hw1) | (go_at_call 85; refine (jump_any _ _).mono ?_; rintro e w1 ⟨rfl, hw1⟩; rw [hw1]; clear hw1))
      have hcv : (convert 22 9 (.slice (some ⟨wr.heap.size, 0, none⟩) 1 1)).run Tryz.prog (wr.alloc (.cells #[.int .u8 68] 5)) = .ok (.string ⟨#[68]⟩) (wr.alloc (.cells #[.int .u8 68] 5)) := conv_one wr 68 (by decide) (by decide)
      have e0 : ∀ h, (⟨#[65, 66, 73, 68]⟩ : ByteArray)[3]'h = 68 := fun _ => rfl
      go_wp2
      go_roundw
      case rel => exact ⟨hb.alloc hb.size _, Or.inr (Or.inr (Or.inr (Or.inr (⟨rfl, rfl⟩))))⟩
      case measure => simp [intOf]
    · go_wp2
      go_ret
      exact ⟨rfl, hb⟩

set_option maxHeartbeats 1600000 in
theorem shape_dab1 (op : Int) (w : World) (hu : usesS op = ⟨#[68, 65, 66]⟩) (kj : jumpB op = false) (k34 : (op == 34) = false)  (k23 : (op == 23) = false) (k24 : (op == 24) = false) (k27 : (op == 27) = false) (k28 : (op == 28) = false) :
    Calls Tryz.prog 81 #[.int .i64 op, .int .i64 1] w fun e w' => e = .returned (.string ⟨#[114, 68, 44, 32, 114, 65, 44, 32, 114, 66]⟩) ∧ Below w.heap.size w w' := by
  have hD : hasN ⟨#[68, 65, 66]⟩ 68 = true := by decide
  have hA : hasN ⟨#[68, 65, 66]⟩ 65 = true := by decide
  have hB : hasN ⟨#[68, 65, 66]⟩ 66 = true := by decide
  have hI : hasN ⟨#[68, 65, 66]⟩ 73 = false := by decide
  have hH : hasN ⟨#[68, 65, 66]⟩ 72 = false := by decide
  have hl : (⟨#[68, 65, 66]⟩ : ByteArray).size ≤ maxLen := hu ▸ uses_le op
  go_enter Tryz.func81, Tryz.ntmps81
  go_wp2_with (first | (go_at_call 83; refine (uses_any _ _).mono ?_; rintro e w1 ⟨rfl, hw1⟩; rw [hw1]; clear hw1) | (go_at_call 84; refine (has_n _ _ _ hl (by decide) (by decide)).mono ?_; rintro e w1 ⟨rfl, hw1⟩; rw [hw1]; clear hw1) | (go_at_call 85; refine (jump_any _ _).mono ?_; rintro e w1 ⟨rfl, hw1⟩; rw [hw1]; clear hw1))
  go_loopw [9, 11, 12] (fun o i _ wr => Below w.heap.size w wr ∧ ((i = .int .i64 0 ∧ o = .string ⟨#[]⟩) ∨ (i = .int .i64 1 ∧ o = .string ⟨#[114, 68]⟩) ∨ (i = .int .i64 2 ∧ o = .string ⟨#[114, 68, 44, 32, 114, 65]⟩) ∨ (i = .int .i64 3 ∧ o = .string ⟨#[114, 68, 44, 32, 114, 65, 44, 32, 114, 66]⟩) ∨ (i = .int .i64 4 ∧ o = .string ⟨#[114, 68, 44, 32, 114, 65, 44, 32, 114, 66]⟩))) (fun _ i _ _ => 4 - (intOf i).toNat)
  case atStart => exact ⟨Below.refl _ _, Or.inl ⟨rfl, rfl⟩⟩
  case round =>
    obtain ⟨hb, ⟨rfl, rfl⟩ | ⟨rfl, rfl⟩ | ⟨rfl, rfl⟩ | ⟨rfl, rfl⟩ | ⟨rfl, rfl⟩⟩ := hrel
    · go_upto_region 44 with (first | (go_at_call 83; refine (uses_any _ _).mono ?_; rintro e w1 ⟨rfl, hw1⟩; rw [hw1]; clear hw1) | (go_at_call 84; refine (has_n _ _ _ hl (by decide) (by decide)).mono ?_; rintro e w1 ⟨rfl, hw1⟩; rw [hw1]; clear hw1) | (go_at_call 85; refine (jump_any _ _).mono ?_; rintro e w1 ⟨rfl, hw1⟩; rw [hw1]; clear hw1))
      have hcv : (convert 22 9 (.slice (some ⟨wr.heap.size, 0, none⟩) 1 1)).run Tryz.prog (wr.alloc (.cells #[.int .u8 68] 5)) = .ok (.string ⟨#[68]⟩) (wr.alloc (.cells #[.int .u8 68] 5)) := conv_one wr 68 (by decide) (by decide)
      have e0 : ∀ h, (⟨#[68, 65, 66, 73]⟩ : ByteArray)[0]'h = 68 := fun _ => rfl
      go_wp2
      go_roundw
      case rel => exact ⟨hb.alloc hb.size _, Or.inr (Or.inl ⟨rfl, rfl⟩)⟩
      case measure => simp [intOf]
    · go_upto_region 44 with (first | (go_at_call 83; refine (uses_any _ _).mono ?_; rintro e w1 ⟨rfl, hw1⟩; rw [hw1]; clear hw1) | (go_at_call 84; refine (has_n _ _ _ hl (by decide) (by decide)).mono ?_; rintro e w1 ⟨rfl, hw1⟩; rw [hw1]; clear hw1) | (go_at_call 85; refine (jump_any _ _).mono ?_; rintro e w1 ⟨rfl, hw1⟩; rw [hw1]; clear hw1))
      have hcv : (convert 22 9 (.slice (some ⟨wr.heap.size, 0, none⟩) 1 1)).run Tryz.prog (wr.alloc (.cells #[.int .u8 65] 5)) = .ok (.string ⟨#[65]⟩) (wr.alloc (.cells #[.int .u8 65] 5)) := conv_one wr 65 (by decide) (by decide)
      have e0 : ∀ h, (⟨#[68, 65, 66, 73]⟩ : ByteArray)[1]'h = 65 := fun _ => rfl
      go_wp2
      go_roundw
      case rel => exact ⟨hb.alloc hb.size _, Or.inr (Or.inr (Or.inl ⟨rfl, rfl⟩))⟩
      case measure => simp [intOf]
    · go_upto_region 44 with (first | (go_at_call 83; refine (uses_any _ _).mono ?_; rintro e w1 ⟨rfl, hw1⟩; rw [hw1]; clear hw1) | (go_at_call 84; refine (has_n _ _ _ hl (by decide) (by decide)).mono ?_; rintro e w1 ⟨rfl, hw1⟩; rw [hw1]; clear hw1) | (go_at_call 85; refine (jump_any _ _).mono ?_; rintro e w1 ⟨rfl, hw1⟩; rw [hw1]; clear hw1))
      have hcv : (convert 22 9 (.slice (some ⟨wr.heap.size, 0, none⟩) 1 1)).run Tryz.prog (wr.alloc (.cells #[.int .u8 66] 5)) = .ok (.string ⟨#[66]⟩) (wr.alloc (.cells #[.int .u8 66] 5)) := conv_one wr 66 (by decide) (by decide)
      have e0 : ∀ h, (⟨#[68, 65, 66, 73]⟩ : ByteArray)[2]'h = 66 := fun _ => rfl
      go_wp2
      go_roundw
      case rel => exact ⟨hb.alloc hb.size _, Or.inr (Or.inr (Or.inr (Or.inl ⟨rfl, rfl⟩)))⟩
      case measure => simp [intOf]
    · go_wp2_with (first | (go_at_call 83; refine (uses_any _ _).mono ?_; rintro e w1 ⟨rfl, hw1⟩; rw [hw1]; clear hw1) | (go_at_call 84; refine (has_n _ _ _ hl (by decide) (by decide)).mono ?_; rintro e w1 ⟨rfl, hw1⟩; rw [hw1]; clear hw1) | (go_at_call 85; refine (jump_any _ _).mono ?_; rintro e w1 ⟨rfl, hw1⟩; rw [hw1]; clear hw1))
      go_roundw
      case rel => exact ⟨hb, Or.inr (Or.inr (Or.inr (Or.inr (⟨rfl, rfl⟩))))⟩
      case measure => simp [intOf]
    · go_wp2
      go_ret
      exact ⟨rfl, hb⟩

set_option maxHeartbeats 1600000 in
theorem shape_dai0 (op : Int) (w : World) (hu : usesS op = ⟨#[68, 65, 73]⟩) (kj : jumpB op = false) (k34 : (op == 34) = false)  (k23 : (op == 23) = false) (k24 : (op == 24) = false) (k27 : (op == 27) = false) (k28 : (op == 28) = false) :
    Calls Tryz.prog 81 #[.int .i64 op, .int .i64 0] w fun e w' => e = .returned (.string ⟨#[37, 114, 65, 44, 32, 36, 73, 44, 32, 37, 114, 68]⟩) ∧ Below w.heap.size w w' := by
  have hD : hasN ⟨#[68, 65, 73]⟩ 68 = true := by decide
  have hA : hasN ⟨#[68, 65, 73]⟩ 65 = true := by decide
  have hB : hasN ⟨#[68, 65, 73]⟩ 66 = false := by decide
  have hI : hasN ⟨#[68, 65, 73]⟩ 73 = true := by decide
  have hH : hasN ⟨#[68, 65, 73]⟩ 72 = false := by decide
  have hl : (⟨#[68, 65, 73]⟩ : ByteArray).size ≤ maxLen := hu ▸ uses_le op
  go_enter Tryz.func81, Tryz.ntmps81
  go_wp2_with (first | (go_at_call 83; refine (uses_any _ _).mono ?_; rintro e w1 ⟨rfl, hw1⟩; rw [hw1]; clear hw1) | (go_at_call 84; refine (has_n _ _ _ hl (by decide) (by decide)).mono ?_; rintro e w1 ⟨rfl, hw1⟩; rw [hw1]; clear hw1) | (go_at_call 85; refine (jump_any _ _).mono ?_; rintro e w1 ⟨rfl, hw1⟩; rw [hw1]; clear hw1))
  go_loopw [9, 11, 12] (fun o i _ wr => Below w.heap.size w wr ∧ ((i = .int .i64 0 ∧ o = .string ⟨#[]⟩) ∨ (i = .int .i64 1 ∧ o = .string ⟨#[37, 114, 65]⟩) ∨ (i = .int .i64 2 ∧ o = .string ⟨#[37, 114, 65]⟩) ∨ (i = .int .i64 3 ∧ o = .string ⟨#[37, 114, 65, 44, 32, 36, 73]⟩) ∨ (i = .int .i64 4 ∧ o = .string ⟨#[37, 114, 65, 44, 32, 36, 73, 44, 32, 37, 114, 68]⟩))) (fun _ i _ _ => 4 - (intOf i).toNat)
  case atStart => exact ⟨Below.refl _ _, Or.inl ⟨rfl, rfl⟩⟩
  case round =>
    obtain ⟨hb, ⟨rfl, rfl⟩ | ⟨rfl, rfl⟩ | ⟨rfl, rfl⟩ | ⟨rfl, rfl⟩ | ⟨rfl, rfl⟩⟩ := hrel
    · go_upto_region 44 with (first | (go_at_call 83; refine (uses_any _ _).mono ?_; rintro e w1 ⟨rfl, hw1⟩; rw [hw1]; clear hw1) | (go_at_call 84; refine (has_n _ _ _ hl (by decide) (by decide)).mono ?_; rintro e w1 ⟨rfl, hw1⟩; rw [hw1]; clear hw1) | (go_at_call 85; refine (jump_any _ _).mono ?_; rintro e w1 ⟨rfl, hw1⟩; rw [hw1]; clear hw1))
      have hcv : (convert 22 9 (.slice (some ⟨wr.heap.size, 0, none⟩) 1 1)).run Tryz.prog (wr.alloc (.cells #[.int .u8 65] 5)) = .ok (.string ⟨#[65]⟩) (wr.alloc (.cells #[.int .u8 65] 5)) := conv_one wr 65 (by decide) (by decide)
      have e0 : ∀ h, (⟨#[65, 66, 73, 68]⟩ : ByteArray)[0]'h = 65 := fun _ => rfl
      go_wp2
      go_roundw
      case rel => exact ⟨hb.alloc hb.size _, Or.inr (Or.inl ⟨rfl, rfl⟩)⟩
      case measure => simp [intOf]
    · go_wp2_with (first | (go_at_call 83; refine (uses_any _ _).mono ?_; rintro e w1 ⟨rfl, hw1⟩; rw [hw1]; clear hw1) | (go_at_call 84; refine (has_n _ _ _ hl (by decide) (by decide)).mono ?_; rintro e w1 ⟨rfl, hw1⟩; rw [hw1]; clear hw1) | (go_at_call 85; refine (jump_any _ _).mono ?_; rintro e w1 ⟨rfl, hw1⟩; rw [hw1]; clear hw1))
      go_roundw
      case rel => exact ⟨hb, Or.inr (Or.inr (Or.inl ⟨rfl, rfl⟩))⟩
      case measure => simp [intOf]
    · go_upto_region 44 with (first | (go_at_call 83; refine (uses_any _ _).mono ?_; rintro e w1 ⟨rfl, hw1⟩; rw [hw1]; clear hw1) | (go_at_call 84; refine (has_n _ _ _ hl (by decide) (by decide)).mono ?_; rintro e w1 ⟨rfl, hw1⟩; rw [hw1]; clear hw1) | (go_at_call 85; refine (jump_any _ _).mono ?_; rintro e w1 ⟨rfl, hw1⟩; rw [hw1]; clear hw1))
      have hcv : (convert 22 9 (.slice (some ⟨wr.heap.size, 0, none⟩) 1 1)).run Tryz.prog (wr.alloc (.cells #[.int .u8 73] 5)) = .ok (.string ⟨#[73]⟩) (wr.alloc (.cells #[.int .u8 73] 5)) := conv_one wr 73 (by decide) (by decide)
      have e0 : ∀ h, (⟨#[65, 66, 73, 68]⟩ : ByteArray)[2]'h = 73 := fun _ => rfl
      go_wp2
      go_roundw
      case rel => exact ⟨hb.alloc hb.size _, Or.inr (Or.inr (Or.inr (Or.inl ⟨rfl, rfl⟩)))⟩
      case measure => simp [intOf]
    · go_upto_region 44 with (first | (go_at_call 83; refine (uses_any _ _).mono ?_; rintro e w1 ⟨rfl, hw1⟩; rw [hw1]; clear hw1) | (go_at_call 84; refine (has_n _ _ _ hl (by decide) (by decide)).mono ?_; rintro e w1 ⟨rfl, hw1⟩; rw [hw1]; clear hw1) | (go_at_call 85; refine (jump_any _ _).mono ?_; rintro e w1 ⟨rfl, hw1⟩; rw [hw1]; clear hw1))
      have hcv : (convert 22 9 (.slice (some ⟨wr.heap.size, 0, none⟩) 1 1)).run Tryz.prog (wr.alloc (.cells #[.int .u8 68] 5)) = .ok (.string ⟨#[68]⟩) (wr.alloc (.cells #[.int .u8 68] 5)) := conv_one wr 68 (by decide) (by decide)
      have e0 : ∀ h, (⟨#[65, 66, 73, 68]⟩ : ByteArray)[3]'h = 68 := fun _ => rfl
      go_wp2
      go_roundw
      case rel => exact ⟨hb.alloc hb.size _, Or.inr (Or.inr (Or.inr (Or.inr (⟨rfl, rfl⟩))))⟩
      case measure => simp [intOf]
    · go_wp2
      go_ret
      exact ⟨rfl, hb⟩

set_option maxHeartbeats 1600000 in
theorem shape_dai1 (op : Int) (w : World) (hu : usesS op = ⟨#[68, 65, 73]⟩) (kj : jumpB op = false) (k34 : (op == 34) = false)  (k23 : (op == 23) = false) (k24 : (op == 24) = false) (k27 : (op == 27) = false) (k28 : (op == 28) = false) :
    Calls Tryz.prog 81 #[.int .i64 op, .int .i64 1] w fun e w' => e = .returned (.string ⟨#[114, 68, 44, 32, 114, 65, 44, 32, 73]⟩) ∧ Below w.heap.size w w' := by
  have hD : hasN ⟨#[68, 65, 73]⟩ 68 = true := by decide
  have hA : hasN ⟨#[68, 65, 73]⟩ 65 = true := by decide
  have hB : hasN ⟨#[68, 65, 73]⟩ 66 = false := by decide
  have hI : hasN ⟨#[68, 65, 73]⟩ 73 = true := by decide
  have hH : hasN ⟨#[68, 65, 73]⟩ 72 = false := by decide
  have hl : (⟨#[68, 65, 73]⟩ : ByteArray).size ≤ maxLen := hu ▸ uses_le op
  go_enter Tryz.func81, Tryz.ntmps81
  go_wp2_with (first | (go_at_call 83; refine (uses_any _ _).mono ?_; rintro e w1 ⟨rfl, hw1⟩; rw [hw1]; clear hw1) | (go_at_call 84; refine (has_n _ _ _ hl (by decide) (by decide)).mono ?_; rintro e w1 ⟨rfl, hw1⟩; rw [hw1]; clear hw1) | (go_at_call 85; refine (jump_any _ _).mono ?_; rintro e w1 ⟨rfl, hw1⟩; rw [hw1]; clear hw1))
  go_loopw [9, 11, 12] (fun o i _ wr => Below w.heap.size w wr ∧ ((i = .int .i64 0 ∧ o = .string ⟨#[]⟩) ∨ (i = .int .i64 1 ∧ o = .string ⟨#[114, 68]⟩) ∨ (i = .int .i64 2 ∧ o = .string ⟨#[114, 68, 44, 32, 114, 65]⟩) ∨ (i = .int .i64 3 ∧ o = .string ⟨#[114, 68, 44, 32, 114, 65]⟩) ∨ (i = .int .i64 4 ∧ o = .string ⟨#[114, 68, 44, 32, 114, 65, 44, 32, 73]⟩))) (fun _ i _ _ => 4 - (intOf i).toNat)
  case atStart => exact ⟨Below.refl _ _, Or.inl ⟨rfl, rfl⟩⟩
  case round =>
    obtain ⟨hb, ⟨rfl, rfl⟩ | ⟨rfl, rfl⟩ | ⟨rfl, rfl⟩ | ⟨rfl, rfl⟩ | ⟨rfl, rfl⟩⟩ := hrel
    · go_upto_region 44 with (first | (go_at_call 83; refine (uses_any _ _).mono ?_; rintro e w1 ⟨rfl, hw1⟩; rw [hw1]; clear hw1) | (go_at_call 84; refine (has_n _ _ _ hl (by decide) (by decide)).mono ?_; rintro e w1 ⟨rfl, hw1⟩; rw [hw1]; clear hw1) | (go_at_call 85; refine (jump_any _ _).mono ?_; rintro e w1 ⟨rfl, hw1⟩; rw [hw1]; clear hw1))
      have hcv : (convert 22 9 (.slice (some ⟨wr.heap.size, 0, none⟩) 1 1)).run Tryz.prog (wr.alloc (.cells #[.int .u8 68] 5)) = .ok (.string ⟨#[68]⟩) (wr.alloc (.cells #[.int .u8 68] 5)) := conv_one wr 68 (by decide) (by decide)
      have e0 : ∀ h, (⟨#[68, 65, 66, 73]⟩ : ByteArray)[0]'h = 68 := fun _ => rfl
      go_wp2
      go_roundw
      case rel => exact ⟨hb.alloc hb.size _, Or.inr (Or.inl ⟨rfl, rfl⟩)⟩
      case measure => simp [intOf]
    · go_upto_region 44 with (first | (go_at_call 83; refine (uses_any _ _).mono ?_; rintro e w1 ⟨rfl, hw1⟩; rw [hw1]; clear hw1) | (go_at_call 84; refine (has_n _ _ _ hl (by decide) (by decide)).mono ?_; rintro e w1 ⟨rfl, hw1⟩; rw [hw1]; clear hw1) | (go_at_call 85; refine (jump_any _ _).mono ?_; rintro e w1 ⟨rfl, hw1⟩; rw [hw1]; clear hw1))
      have hcv : (convert 22 9 (.slice (some ⟨wr.heap.size, 0, none⟩) 1 1)).run Tryz.prog (wr.alloc (.cells #[.int .u8 65] 5)) = .ok (.string ⟨#[65]⟩) (wr.alloc (.cells #[.int .u8 65] 5)) := conv_one wr 65 (by decide) (by decide)
      have e0 : ∀ h, (⟨#[68, 65, 66, 73]⟩ : ByteArray)[1]'h = 65 := fun _ => rfl
      go_wp2
      go_roundw
      case rel => exact ⟨hb.alloc hb.size _, Or.inr (Or.inr (Or.inl ⟨rfl, rfl⟩))⟩
      case measure => simp [intOf]
    · go_wp2_with (first | (go_at_call 83; refine (uses_any _ _).mono ?_; rintro e w1 ⟨rfl, hw1⟩; rw [hw1]; clear hw1) | (go_at_call 84; refine (has_n _ _ _ hl (by decide) (by decide)).mono ?_; rintro e w1 ⟨rfl, hw1⟩; rw [hw1]; clear hw1) | (go_at_call 85; refine (jump_any _ _).mono ?_; rintro e w1 ⟨rfl, hw1⟩; rw [hw1]; clear hw1))
      go_roundw
      case rel => exact ⟨hb, Or.inr (Or.inr (Or.inr (Or.inl ⟨rfl, rfl⟩)))⟩
      case measure => simp [intOf]
    · go_upto_region 44 with (first | (go_at_call 83; refine (uses_any _ _).mono ?_; rintro e w1 ⟨rfl, hw1⟩; rw [hw1]; clear hw1) | (go_at_call 84; refine (has_n _ _ _ hl (by decide) (by decide)).mono ?_; rintro e w1 ⟨rfl, hw1⟩; rw [hw1]; clear hw1) | (go_at_call 85; refine (jump_any _ _).mono ?_; rintro e w1 ⟨rfl, hw1⟩; rw [hw1]; clear hw1))
      have hcv : (convert 22 9 (.slice (some ⟨wr.heap.size, 0, none⟩) 1 1)).run Tryz.prog (wr.alloc (.cells #[.int .u8 73] 5)) = .ok (.string ⟨#[73]⟩) (wr.alloc (.cells #[.int .u8 73] 5)) := conv_one wr 73 (by decide) (by decide)
      have e0 : ∀ h, (⟨#[68, 65, 66, 73]⟩ : ByteArray)[3]'h = 73 := fun _ => rfl
      go_wp2
      go_roundw
      case rel => exact ⟨hb.alloc hb.size _, Or.inr (Or.inr (Or.inr (Or.inr (⟨rfl, rfl⟩))))⟩
      case measure => simp [intOf]
    · go_wp2
      go_ret
      exact ⟨rfl, hb⟩

set_option maxHeartbeats 1600000 in
theorem shape_ab0 (op : Int) (w : World) (hu : usesS op = ⟨#[65, 66]⟩) (kj : jumpB op = false) (k34 : (op == 34) = false)  (k23 : (op == 23) = false) (k24 : (op == 24) = false) (k27 : (op == 27) = false) (k28 : (op == 28) = false) :
    Calls Tryz.prog 81 #[.int .i64 op, .int .i64 0] w fun e w' => e = .returned (.string ⟨#[37, 114, 65, 44, 32, 37, 114, 66]⟩) ∧ Below w.heap.size w w' := by
  have hD : hasN ⟨#[65, 66]⟩ 68 = false := by decide
  have hA : hasN ⟨#[65, 66]⟩ 65 = true := by decide
  have hB : hasN ⟨#[65, 66]⟩ 66 = true := by decide
  have hI : hasN ⟨#[65, 66]⟩ 73 = false := by decide
  have hH : hasN ⟨#[65, 66]⟩ 72 = false := by decide
  have hl : (⟨#[65, 66]⟩ : ByteArray).size ≤ maxLen := hu ▸ uses_le op
  go_enter Tryz.func81, Tryz.ntmps81
  go_wp2_with (first | (go_at_call 83; refine (uses_any _ _).mono ?_; rintro e w1 ⟨rfl, hw1⟩; rw [hw1]; clear hw1) | (go_at_call 84; refine (has_n _ _ _ hl (by decide) (by decide)).mono ?_; rintro e w1 ⟨rfl, hw1⟩; rw [hw1]; clear hw1) | (go_at_call 85; refine (jump_any _ _).mono ?_; rintro e w1 ⟨rfl, hw1⟩; rw [hw1]; clear hw1))
  go_loopw [9, 11, 12] (fun o i _ wr => Below w.heap.size w wr ∧ ((i = .int .i64 0 ∧ o = .string ⟨#[]⟩) ∨ (i = .int .i64 1 ∧ o = .string ⟨#[37, 114, 65]⟩) ∨ (i = .int .i64 2 ∧ o = .string ⟨#[37, 114, 65, 44, 32, 37, 114, 66]⟩) ∨ (i = .int .i64 3 ∧ o = .string ⟨#[37, 114, 65, 44, 32, 37, 114, 66]⟩) ∨ (i = .int .i64 4 ∧ o = .string ⟨#[37, 114, 65, 44, 32, 37, 114, 66]⟩))) (fun _ i _ _ => 4 - (intOf i).toNat)
  case atStart => exact ⟨Below.refl _ _, Or.inl ⟨rfl, rfl⟩⟩
  case round =>
    obtain ⟨hb, ⟨rfl, rfl⟩ | ⟨rfl, rfl⟩ | ⟨rfl, rfl⟩ | ⟨rfl, rfl⟩ | ⟨rfl, rfl⟩⟩ := hrel
    · go_upto_region 44 with (first | (go_at_call 83; refine (uses_any _ _).mono ?_; rintro e w1 ⟨rfl, hw1⟩; rw [hw1]; clear hw1) | (go_at_call 84; refine (has_n _ _ _ hl (by decide) (by decide)).mono ?_; rintro e w1 ⟨rfl, hw1⟩; rw [hw1]; clear hw1) | (go_at_call 85; refine (jump_any _ _).mono ?_; rintro e w1 ⟨rfl, hw1⟩; rw [hw1]; clear hw1))
      have hcv : (convert 22 9 (.slice (some ⟨wr.heap.size, 0, none⟩) 1 1)).run Tryz.prog (wr.alloc (.cells #[.int .u8 65] 5)) = .ok (.string ⟨#[65]⟩) (wr.alloc (.cells #[.int .u8 65] 5)) := conv_one wr 65 (by decide) (by decide)
      have e0 : ∀ h, (⟨#[65, 66, 73, 68]⟩ : ByteArray)[0]'h = 65 := fun _ => rfl
      go_wp2
      go_roundw
      case rel => exact ⟨hb.alloc hb.size _, Or.inr (Or.inl ⟨rfl, rfl⟩)⟩
      case measure => simp [intOf]
    · go_upto_region 44 with (first | (go_at_call 83; refine (uses_any _ _).mono ?_; rintro e w1 ⟨rfl, hw1⟩; rw [hw1]; clear hw1) | (go_at_call 84; refine (has_n _ _ _ hl (by decide) (by decide)).mono ?_; rintro e w1 ⟨rfl, hw1⟩; rw [hw1]; clear hw1) | (go_at_call 85; refine (jump_any _ _).mono ?_; rintro e w1 ⟨rfl, hw1⟩; rw [hw1]; clear hw1))
      have hcv : (convert 22 9 (.slice (some ⟨wr.heap.size, 0, none⟩) 1 1)).run Tryz.prog (wr.alloc (.cells #[.int .u8 66] 5)) = .ok (.string ⟨#[66]⟩) (wr.alloc (.cells #[.int .u8 66] 5)) := conv_one wr 66 (by decide) (by decide)
      have e0 : ∀ h, (⟨#[65, 66, 73, 68]⟩ : ByteArray)[1]'h = 66 := fun _ => rfl
      go_wp2
      go_roundw
      case rel => exact ⟨hb.alloc hb.size _, Or.inr (Or.inr (Or.inl ⟨rfl, rfl⟩))⟩
      case measure => simp [intOf]
    · go_wp2_with (first | (go_at_call 83; refine (uses_any _ _).mono ?_; rintro e w1 ⟨rfl, hw1⟩; rw [hw1]; clear hw1) | (go_at_call 84; refine (has_n _ _ _ hl (by decide) (by decide)).mono ?_; rintro e w1 ⟨rfl, hw1⟩; rw [hw1]; clear hw1) | (go_at_call 85; refine (jump_any _ _).mono ?_; rintro e w1 ⟨rfl, hw1⟩; rw [hw1]; clear hw1))
      go_roundw
      case rel => exact ⟨hb, Or.inr (Or.inr (Or.inr (Or.inl ⟨rfl, rfl⟩)))⟩
      case measure => simp [intOf]
    · go_wp2_with (first | (go_at_call 83; refine (uses_any _ _).mono ?_; rintro e w1 ⟨rfl, hw1⟩; rw [hw1]; clear hw1) | (go_at_call 84; refine (has_n _ _ _ hl (by decide) (by decide)).mono ?_; rintro e w1 ⟨rfl, hw1⟩; rw [hw1]; clear hw1) | (go_at_call 85; refine (jump_any _ _).mono ?_; rintro e w1 ⟨rfl, hw1⟩; rw [hw1]; clear hw1))
      go_roundw
      case rel => exact ⟨hb, Or.inr (Or.inr (Or.inr (Or.inr (⟨rfl, rfl⟩))))⟩
      case measure => simp [intOf]
    · go_wp2
      go_ret
      exact ⟨rfl, hb⟩

set_option maxHeartbeats 1600000 in
theorem shape_ab1 (op : Int) (w : World) (hu : usesS op = ⟨#[65, 66]⟩) (kj : jumpB op = false) (k34 : (op == 34) = false)  (k23 : (op == 23) = false) (k24 : (op == 24) = false) (k27 : (op == 27) = false) (k28 : (op == 28) = false) :
    Calls Tryz.prog 81 #[.int .i64 op, .int .i64 1] w fun e w' => e = .returned (.string ⟨#[114, 65, 44, 32, 114, 66]⟩) ∧ Below w.heap.size w w' := by
  have hD : hasN ⟨#[65, 66]⟩ 68 = false := by decide
  have hA : hasN ⟨#[65, 66]⟩ 65 = true := by decide
  have hB : hasN ⟨#[65, 66]⟩ 66 = true := by decide
  have hI : hasN ⟨#[65, 66]⟩ 73 = false := by decide
  have hH : hasN ⟨#[65, 66]⟩ 72 = false := by decide
  have hl : (⟨#[65, 66]⟩ : ByteArray).size ≤ maxLen := hu ▸ uses_le op
  go_enter Tryz.func81, Tryz.ntmps81
  go_wp2_with (first | (go_at_call 83; refine (uses_any _ _).mono ?_; rintro e w1 ⟨rfl, hw1⟩; rw [hw1]; clear hw1) | (go_at_call 84; refine (has_n _ _ _ hl (by decide) (by decide)).mono ?_; rintro e w1 ⟨rfl, hw1⟩; rw [hw1]; clear hw1) | (go_at_call 85; refine (jump_any _ _).mono ?_; rintro e w1 ⟨rfl, hw1⟩; rw [hw1]; clear hw1))
  go_loopw [9, 11, 12] (fun o i _ wr => Below w.heap.size w wr ∧ ((i = .int .i64 0 ∧ o = .string ⟨#[]⟩) ∨ (i = .int .i64 1 ∧ o = .string ⟨#[]⟩) ∨ (i = .int .i64 2 ∧ o = .string ⟨#[114, 65]⟩) ∨ (i = .int .i64 3 ∧ o = .string ⟨#[114, 65, 44, 32, 114, 66]⟩) ∨ (i = .int .i64 4 ∧ o = .string ⟨#[114, 65, 44, 32, 114, 66]⟩))) (fun _ i _ _ => 4 - (intOf i).toNat)
  case atStart => exact ⟨Below.refl _ _, Or.inl ⟨rfl, rfl⟩⟩
  case round =>
    obtain ⟨hb, ⟨rfl, rfl⟩ | ⟨rfl, rfl⟩ | ⟨rfl, rfl⟩ | ⟨rfl, rfl⟩ | ⟨rfl, rfl⟩⟩ := hrel
    · go_wp2_with (first | (go_at_call 83; refine (uses_any _ _).mono ?_; rintro e w1 ⟨rfl, hw1⟩; rw [hw1]; clear hw1) | (go_at_call 84; refine (has_n _ _ _ hl (by decide) (by decide)).mono ?_; rintro e w1 ⟨rfl, hw1⟩; rw [hw1]; clear hw1) | (go_at_call 85; refine (jump_any _ _).mono ?_; rintro e w1 ⟨rfl, hw1⟩; rw [hw1]; clear hw1))
      go_roundw
      case rel => exact ⟨hb, Or.inr (Or.inl ⟨rfl, rfl⟩)⟩
      case measure => simp [intOf]
    · go_upto_region 44 with (first | (go_at_call 83; refine (uses_any _ _).mono ?_; rintro e w1 ⟨rfl, hw1⟩; rw [hw1]; clear hw1) | (go_at_call 84; refine (has_n _ _ _ hl (by decide) (by decide)).mono ?_; rintro e w1 ⟨rfl, hw1⟩; rw [hw1]; clear hw1) | (go_at_call 85; refine (jump_any _ _).mono ?_; rintro e w1 ⟨rfl, hw1⟩; rw [hw1]; clear hw1))
      have hcv : (convert 22 9 (.slice (some ⟨wr.heap.size, 0, none⟩) 1 1)).run Tryz.prog (wr.alloc (.cells #[.int .u8 65] 5)) = .ok (.string ⟨#[65]⟩) (wr.alloc (.cells #[.int .u8 65] 5)) := conv_one wr 65 (by decide) (by decide)
      have e0 : ∀ h, (⟨#[68, 65, 66, 73]⟩ : ByteArray)[1]'h = 65 := fun _ => rfl
      go_wp2
      go_roundw
      case rel => exact ⟨hb.alloc hb.size _, Or.inr (Or.inr (Or.inl ⟨rfl, rfl⟩))⟩
      case measure => simp [intOf]
    · go_upto_region 44 with (first | (go_at_call 83; refine (uses_any _ _).mono ?_; rintro e w1 ⟨rfl, hw1⟩; rw [hw1]; clear hw1) | (go_at_call 84; refine (has_n _ _ _ hl (by decide) (by decide)).mono ?_; rintro e w1 ⟨rfl, hw1⟩; rw [hw1]; clear hw1) | (go_at_call 85; refine (jump_any _ _).mono ?_; rintro e w1 ⟨rfl, hw1⟩; rw [hw1]; clear hw1))
      have hcv : (convert 22 9 (.slice (some ⟨wr.heap.size, 0, none⟩) 1 1)).run Tryz.prog (wr.alloc (.cells #[.int .u8 66] 5)) = .ok (.string ⟨#[66]⟩) (wr.alloc (.cells #[.int .u8 66] 5)) := conv_one wr 66 (by decide) (by decide)
      have e0 : ∀ h, (⟨#[68, 65, 66, 73]⟩ : ByteArray)[2]'h = 66 := fun _ => rfl
      go_wp2
      go_roundw
      case rel => exact ⟨hb.alloc hb.size _, Or.inr (Or.inr (Or.inr (Or.inl ⟨rfl, rfl⟩)))⟩
      case measure => simp [intOf]
    · go_wp2_with (first | (go_at_call 83; refine (uses_any _ _).mono ?_; rintro e w1 ⟨rfl, hw1⟩; rw [hw1]; clear hw1) | (go_at_call 84; refine (has_n _ _ _ hl (by decide) (by decide)).mono ?_; rintro e w1 ⟨rfl, hw1⟩; rw [hw1]; clear hw1) | (go_at_call 85; refine (jump_any _ _).mono ?_; rintro e w1 ⟨rfl, hw1⟩; rw [hw1]; clear hw1))
      go_roundw
      case rel => exact ⟨hb, Or.inr (Or.inr (Or.inr (Or.inr (⟨rfl, rfl⟩))))⟩
      case measure => simp [intOf]
    · go_wp2
      go_ret
      exact ⟨rfl, hb⟩

set_option maxHeartbeats 1600000 in
theorem shape_ai0 (op : Int) (w : World) (hu : usesS op = ⟨#[65, 73]⟩) (kj : jumpB op = false) (k34 : (op == 34) = false)  (k23 : (op == 23) = false) (k24 : (op == 24) = false) (k27 : (op == 27) = false) (k28 : (op == 28) = false) :
    Calls Tryz.prog 81 #[.int .i64 op, .int .i64 0] w fun e w' => e = .returned (.string ⟨#[37, 114, 65, 44, 32, 36, 73]⟩) ∧ Below w.heap.size w w' := by
  have hD : hasN ⟨#[65, 73]⟩ 68 = false := by decide
  have hA : hasN ⟨#[65, 73]⟩ 65 = true := by decide
  have hB : hasN ⟨#[65, 73]⟩ 66 = false := by decide
  have hI : hasN ⟨#[65, 73]⟩ 73 = true := by decide
  have hH : hasN ⟨#[65, 73]⟩ 72 = false := by decide
  have hl : (⟨#[65, 73]⟩ : ByteArray).size ≤ maxLen := hu ▸ uses_le op
  go_enter Tryz.func81, Tryz.ntmps81
  go_wp2_with (first | (go_at_call 83; refine (uses_any _ _).mono ?_; rintro e w1 ⟨rfl, hw1⟩; rw [hw1]; clear hw1) | (go_at_call 84; refine (has_n _ _ _ hl (by decide) (by decide)).mono ?_; rintro e w1 ⟨rfl, hw1⟩; rw [hw1]; clear hw1) | (go_at_call 85; refine (jump_any _ _).mono ?_; rintro e w1 ⟨rfl, hw1⟩; rw [hw1]; clear hw1))
  go_loopw [9, 11, 12] (fun o i _ wr => Below w.heap.size w wr ∧ ((i = .int .i64 0 ∧ o = .string ⟨#[]⟩) ∨ (i = .int .i64 1 ∧ o = .string ⟨#[37, 114, 65]⟩) ∨ (i = .int .i64 2 ∧ o = .string ⟨#[37, 114, 65]⟩) ∨ (i = .int .i64 3 ∧ o = .string ⟨#[37, 114, 65, 44, 32, 36, 73]⟩) ∨ (i = .int .i64 4 ∧ o = .string ⟨#[37, 114, 65, 44, 32, 36, 73]⟩))) (fun _ i _ _ => 4 - (intOf i).toNat)
  case atStart => exact ⟨Below.refl _ _, Or.inl ⟨rfl, rfl⟩⟩
  case round =>
    obtain ⟨hb, ⟨rfl, rfl⟩ | ⟨rfl, rfl⟩ | ⟨rfl, rfl⟩ | ⟨rfl, rfl⟩ | ⟨rfl, rfl⟩⟩ := hrel
    · go_upto_region 44 with (first | (go_at_call 83; refine (uses_any _ _).mono ?_; rintro e w1 ⟨rfl, hw1⟩; rw [hw1]; clear hw1) | (go_at_call 84; refine (has_n _ _ _ hl (by decide) (by decide)).mono ?_; rintro e w1 ⟨rfl, hw1⟩; rw [hw1]; clear hw1) | (go_at_call 85; refine (jump_any _ _).mono ?_; rintro e w1 ⟨rfl, hw1⟩; rw [hw1]; clear hw1))
      have hcv : (convert 22 9 (.slice (some ⟨wr.heap.size, 0, none⟩) 1 1)).run Tryz.prog (wr.alloc (.cells #[.int .u8 65] 5)) = .ok (.string ⟨#[65]⟩) (wr.alloc (.cells #[.int .u8 65] 5)) := conv_one wr 65 (by decide) (by decide)
      have e0 : ∀ h, (⟨#[65, 66, 73, 68]⟩ : ByteArray)[0]'h = 65 := fun _ => rfl
      go_wp2
      go_roundw
      case rel => exact ⟨hb.alloc hb.size _, Or.inr (Or.inl ⟨rfl, rfl⟩)⟩
      case measure => simp [intOf]
    · go_wp2_with (first | (go_at_call 83; refine (uses_any _ _).mono ?_; rintro e w1 ⟨rfl, hw1⟩; rw [hw1]; clear hw1) | (go_at_call 84; refine (has_n _ _ _ hl (by decide) (by decide)).mono ?_; rintro e w1 ⟨rfl, hw1⟩; rw [hw1]; clear hw1) | (go_at_call 85; refine (jump_any _ _).mono ?_; rintro e w1 ⟨rfl, hw1⟩; rw [hw1]; clear hw1))
      go_roundw
      case rel => exact ⟨hb, Or.inr (Or.inr (Or.inl ⟨rfl, rfl⟩))⟩
      case measure => simp [intOf]
    · go_upto_region 44 with (first | (go_at_call 83; refine (uses_any _ _).mono ?_; rintro e w1 ⟨rfl, hw1⟩; rw [hw1]; clear hw1) | (go_at_call 84; refine (has_n _ _ _ hl (by decide) (by decide)).mono ?_; rintro e w1 ⟨rfl, hw1⟩; rw [hw1]; clear hw1) | (go_at_call 85; refine (jump_any _ _).mono ?_; rintro e w1 ⟨rfl, hw1⟩; rw [hw1]; clear hw1))
      have hcv : (convert 22 9 (.slice (some ⟨wr.heap.size, 0, none⟩) 1 1)).run Tryz.prog (wr.alloc (.cells #[.int .u8 73] 5)) = .ok (.string ⟨#[73]⟩) (wr.alloc (.cells #[.int .u8 73] 5)) := conv_one wr 73 (by decide) (by decide)
      have e0 : ∀ h, (⟨#[65, 66, 73, 68]⟩ : ByteArray)[2]'h = 73 := fun _ => rfl
      go_wp2
      go_roundw
      case rel => exact ⟨hb.alloc hb.size _, Or.inr (Or.inr (Or.inr (Or.inl ⟨rfl, rfl⟩)))⟩
      case measure => simp [intOf]
    · go_wp2_with (first | (go_at_call 83; refine (uses_any _ _).mono ?_; rintro e w1 ⟨rfl, hw1⟩; rw [hw1]; clear hw1) | (go_at_call 84; refine (has_n _ _ _ hl (by decide) (by decide)).mono ?_; rintro e w1 ⟨rfl, hw1⟩; rw [hw1]; clear hw1) | (go_at_call 85; refine (jump_any _ _).mono ?_; rintro e w1 ⟨rfl, hw1⟩; rw [hw1]; clear hw1))
      go_roundw
      case rel => exact ⟨hb, Or.inr (Or.inr (Or.inr (Or.inr (⟨rfl, rfl⟩))))⟩
      case measure => simp [intOf]
    · go_wp2
      go_ret
      exact ⟨rfl, hb⟩

set_option maxHeartbeats 1600000 in
theorem shape_ai1 (op : Int) (w : World) (hu : usesS op = ⟨#[65, 73]⟩) (kj : jumpB op = false) (k34 : (op == 34) = false)  (k23 : (op == 23) = false) (k24 : (op == 24) = false) (k27 : (op == 27) = false) (k28 : (op == 28) = false) :
    Calls Tryz.prog 81 #[.int .i64 op, .int .i64 1] w fun e w' => e = .returned (.string ⟨#[114, 65, 44, 32, 73]⟩) ∧ Below w.heap.size w w' := by
  have hD : hasN ⟨#[65, 73]⟩ 68 = false := by decide
  have hA : hasN ⟨#[65, 73]⟩ 65 = true := by decide
  have hB : hasN ⟨#[65, 73]⟩ 66 = false := by decide
  have hI : hasN ⟨#[65, 73]⟩ 73 = true := by decide
  have hH : hasN ⟨#[65, 73]⟩ 72 = false := by decide
  have hl : (⟨#[65, 73]⟩ : ByteArray).size ≤ maxLen := hu ▸ uses_le op
  go_enter Tryz.func81, Tryz.ntmps81
  go_wp2_with (first | (go_at_call 83; refine (uses_any _ _).mono ?_; rintro e w1 ⟨rfl, hw1⟩; rw [hw1]; clear hw1) | (go_at_call 84; refine (has_n _ _ _ hl (by decide) (by decide)).mono ?_; rintro e w1 ⟨rfl, hw1⟩; rw [hw1]; clear hw1) | (go_at_call 85; refine (jump_any _ _).mono ?_; rintro e w1 ⟨rfl, hw1⟩; rw [hw1]; clear hw1))
  go_loopw [9, 11, 12] (fun o i _ wr => Below w.heap.size w wr ∧ ((i = .int .i64 0 ∧ o = .string ⟨#[]⟩) ∨ (i = .int .i64 1 ∧ o = .string ⟨#[]⟩) ∨ (i = .int .i64 2 ∧ o = .string ⟨#[114, 65]⟩) ∨ (i = .int .i64 3 ∧ o = .string ⟨#[114, 65]⟩) ∨ (i = .int .i64 4 ∧ o = .string ⟨#[114, 65, 44, 32, 73]⟩))) (fun _ i _ _ => 4 - (intOf i).toNat)
  case atStart => exact ⟨Below.refl _ _, Or.inl ⟨rfl, rfl⟩⟩
  case round =>
    obtain ⟨hb, ⟨rfl, rfl⟩ | ⟨rfl, rfl⟩ | ⟨rfl, rfl⟩ | ⟨rfl, rfl⟩ | ⟨rfl, rfl⟩⟩ := hrel
    · go_wp2_with (first | (go_at_call 83; refine (uses_any _ _).mono ?_; rintro e w1 ⟨rfl, hw1⟩; rw [hw1]; clear hw1) | (go_at_call 84; refine (has_n _ _ _ hl (by decide) (by decide)).mono ?_; rintro e w1 ⟨rfl, hw1⟩; rw [hw1]; clear hw1) | (go_at_call 85; refine (jump_any _ _).mono ?_; rintro e w1 ⟨rfl, hw1⟩; rw [hw1]; clear hw1))
      go_roundw
      case rel => exact ⟨hb, Or.inr (Or.inl ⟨rfl, rfl⟩)⟩
      case measure => simp [intOf]
    · go_upto_region 44 with (first | (go_at_call 83; refine (uses_any _ _).mono ?_; rintro e w1 ⟨rfl, hw1⟩; rw [hw1]; clear hw1) | (go_at_call 84; refine (has_n _ _ _ hl (by decide) (by decide)).mono ?_; rintro e w1 ⟨rfl, hw1⟩; rw [hw1]; clear hw1) | (go_at_call 85; refine (jump_any _ _).mono ?_; rintro e w1 ⟨rfl, hw1⟩; rw [hw1]; clear hw1))
      have hcv : (convert 22 9 (.slice (some ⟨wr.heap.size, 0, none⟩) 1 1)).run Tryz.prog (wr.alloc (.cells #[.int .u8 65] 5)) = .ok (.string ⟨#[65]⟩) (wr.alloc (.cells #[.int .u8 65] 5)) := conv_one wr 65 (by decide) (by decide)
      have e0 : ∀ h, (⟨#[68, 65, 66, 73]⟩ : ByteArray)[1]'h = 65 := fun _ => rfl
      go_wp2
      go_roundw
      case rel => exact ⟨hb.alloc hb.size _, Or.inr (Or.inr (Or.inl ⟨rfl, rfl⟩))⟩
      case measure => simp [intOf]
    · go_wp2_with (first | (go_at_call 83; refine (uses_any _ _).mono ?_; rintro e w1 ⟨rfl, hw1⟩; rw [hw1]; clear hw1) | (go_at_call 84; refine (has_n _ _ _ hl (by decide) (by decide)).mono ?_; rintro e w1 ⟨rfl, hw1⟩; rw [hw1]; clear hw1) | (go_at_call 85; refine (jump_any _ _).mono ?_; rintro e w1 ⟨rfl, hw1⟩; rw [hw1]; clear hw1))
      go_roundw
      case rel => exact ⟨hb, Or.inr (Or.inr (Or.inr (Or.inl ⟨rfl, rfl⟩)))⟩
      case measure => simp [intOf]
    · go_upto_region 44 with (first | (go_at_call 83; refine (uses_any _ _).mono ?_; rintro e w1 ⟨rfl, hw1⟩; rw [hw1]; clear hw1) | (go_at_call 84; refine (has_n _ _ _ hl (by decide) (by decide)).mono ?_; rintro e w1 ⟨rfl, hw1⟩; rw [hw1]; clear hw1) | (go_at_call 85; refine (jump_any _ _).mono ?_; rintro e w1 ⟨rfl, hw1⟩; rw [hw1]; clear hw1))
      have hcv : (convert 22 9 (.slice (some ⟨wr.heap.size, 0, none⟩) 1 1)).run Tryz.prog (wr.alloc (.cells #[.int .u8 73] 5)) = .ok (.string ⟨#[73]⟩) (wr.alloc (.cells #[.int .u8 73] 5)) := conv_one wr 73 (by decide) (by decide)
      have e0 : ∀ h, (⟨#[68, 65, 66, 73]⟩ : ByteArray)[3]'h = 73 := fun _ => rfl
      go_wp2
      go_roundw
      case rel => exact ⟨hb.alloc hb.size _, Or.inr (Or.inr (Or.inr (Or.inr (⟨rfl, rfl⟩))))⟩
      case measure => simp [intOf]
    · go_wp2
      go_ret
      exact ⟨rfl, hb⟩

set_option maxHeartbeats 1600000 in
theorem shape_ld0 (op : Int) (w : World) (hu : usesS op = ⟨#[68, 65, 73, 72]⟩) (kj : jumpB op = false) (k34 : (op == 34) = false) (k25 : decide (25 ≤ op) = false)  (k23 : (op == 23) = false) (k24 : (op == 24) = false) (k27 : (op == 27) = false) (k28 : (op == 28) = false) :
    Calls Tryz.prog 81 #[.int .i64 op, .int .i64 0] w fun e w' => e = .returned (.string ⟨#[73, 40, 37, 114, 65, 41, 44, 32, 37, 114, 68, 32, 35, 32, 104, 72]⟩) ∧ Below w.heap.size w w' := by
  have hD : hasN ⟨#[68, 65, 73, 72]⟩ 68 = true := by decide
  have hA : hasN ⟨#[68, 65, 73, 72]⟩ 65 = true := by decide
  have hB : hasN ⟨#[68, 65, 73, 72]⟩ 66 = false := by decide
  have hI : hasN ⟨#[68, 65, 73, 72]⟩ 73 = true := by decide
  have hH : hasN ⟨#[68, 65, 73, 72]⟩ 72 = true := by decide
  have hl : (⟨#[68, 65, 73, 72]⟩ : ByteArray).size ≤ maxLen := hu ▸ uses_le op
  go_enter Tryz.func81, Tryz.ntmps81
  go_wp2_with (first | (go_at_call 83; refine (uses_any _ _).mono ?_; rintro e w1 ⟨rfl, hw1⟩; rw [hw1]; clear hw1) | (go_at_call 84; refine (has_n _ _ _ hl (by decide) (by decide)).mono ?_; rintro e w1 ⟨rfl, hw1⟩; rw [hw1]; clear hw1) | (go_at_call 85; refine (jump_any _ _).mono ?_; rintro e w1 ⟨rfl, hw1⟩; rw [hw1]; clear hw1))
  all_goals (go_ret; exact ⟨rfl, Below.refl _ _⟩)
set_option maxHeartbeats 1600000 in
theorem shape_ld1 (op : Int) (w : World) (hu : usesS op = ⟨#[68, 65, 73, 72]⟩) (kj : jumpB op = false) (k34 : (op == 34) = false) (k25 : decide (25 ≤ op) = false)  (k23 : (op == 23) = false) (k24 : (op == 24) = false) (k27 : (op == 27) = false) (k28 : (op == 28) = false) :
    Calls Tryz.prog 81 #[.int .i64 op, .int .i64 1] w fun e w' => e = .returned (.string ⟨#[114, 68, 44, 32, 91, 114, 65, 32, 43, 32, 73, 93, 32, 59, 32, 104, 72]⟩) ∧ Below w.heap.size w w' := by
  have hD : hasN ⟨#[68, 65, 73, 72]⟩ 68 = true := by decide
  have hA : hasN ⟨#[68, 65, 73, 72]⟩ 65 = true := by decide
  have hB : hasN ⟨#[68, 65, 73, 72]⟩ 66 = false := by decide
  have hI : hasN ⟨#[68, 65, 73, 72]⟩ 73 = true := by decide
  have hH : hasN ⟨#[68, 65, 73, 72]⟩ 72 = true := by decide
  have hl : (⟨#[68, 65, 73, 72]⟩ : ByteArray).size ≤ maxLen := hu ▸ uses_le op
  go_enter Tryz.func81, Tryz.ntmps81
  go_wp2_with (first | (go_at_call 83; refine (uses_any _ _).mono ?_; rintro e w1 ⟨rfl, hw1⟩; rw [hw1]; clear hw1) | (go_at_call 84; refine (has_n _ _ _ hl (by decide) (by decide)).mono ?_; rintro e w1 ⟨rfl, hw1⟩; rw [hw1]; clear hw1) | (go_at_call 85; refine (jump_any _ _).mono ?_; rintro e w1 ⟨rfl, hw1⟩; rw [hw1]; clear hw1))
  all_goals (go_ret; exact ⟨rfl, Below.refl _ _⟩)
set_option maxHeartbeats 1600000 in
theorem shape_st23_0 (w : World) (hu : usesS 23 = ⟨#[68, 65, 73, 72]⟩) (kj : jumpB 23 = false) :
    Calls Tryz.prog 81 #[.int .i64 23, .int .i64 0] w fun e w' => e = .returned (.string ⟨#[37, 114, 68, 44, 32, 73, 40, 37, 114, 65, 41, 32, 35, 32, 104, 72]⟩) ∧ Below w.heap.size w w' := by
  have hD : hasN ⟨#[68, 65, 73, 72]⟩ 68 = true := by decide
  have hA : hasN ⟨#[68, 65, 73, 72]⟩ 65 = true := by decide
  have hB : hasN ⟨#[68, 65, 73, 72]⟩ 66 = false := by decide
  have hI : hasN ⟨#[68, 65, 73, 72]⟩ 73 = true := by decide
  have hH : hasN ⟨#[68, 65, 73, 72]⟩ 72 = true := by decide
  have hl : (⟨#[68, 65, 73, 72]⟩ : ByteArray).size ≤ maxLen := hu ▸ uses_le 23
  go_enter Tryz.func81, Tryz.ntmps81
  go_wp2_with (first | (go_at_call 83; refine (uses_any _ _).mono ?_; rintro e w1 ⟨rfl, hw1⟩; rw [hw1]; clear hw1) | (go_at_call 84; refine (has_n _ _ _ hl (by decide) (by decide)).mono ?_; rintro e w1 ⟨rfl, hw1⟩; rw [hw1]; clear hw1) | (go_at_call 85; refine (jump_any _ _).mono ?_; rintro e w1 ⟨rfl, hw1⟩; rw [hw1]; clear hw1))
  all_goals (go_ret; exact ⟨rfl, Below.refl _ _⟩)
set_option maxHeartbeats 1600000 in
theorem shape_st23_1 (w : World) (hu : usesS 23 = ⟨#[68, 65, 73, 72]⟩) (kj : jumpB 23 = false) :
    Calls Tryz.prog 81 #[.int .i64 23, .int .i64 1] w fun e w' => e = .returned (.string ⟨#[91, 114, 65, 32, 43, 32, 73, 93, 44, 32, 114, 68, 32, 59, 32, 104, 72]⟩) ∧ Below w.heap.size w w' := by
  have hD : hasN ⟨#[68, 65, 73, 72]⟩ 68 = true := by decide
  have hA : hasN ⟨#[68, 65, 73, 72]⟩ 65 = true := by decide
  have hB : hasN ⟨#[68, 65, 73, 72]⟩ 66 = false := by decide
  have hI : hasN ⟨#[68, 65, 73, 72]⟩ 73 = true := by decide
  have hH : hasN ⟨#[68, 65, 73, 72]⟩ 72 = true := by decide
  have hl : (⟨#[68, 65, 73, 72]⟩ : ByteArray).size ≤ maxLen := hu ▸ uses_le 23
  go_enter Tryz.func81, Tryz.ntmps81
  go_wp2_with (first | (go_at_call 83; refine (uses_any _ _).mono ?_; rintro e w1 ⟨rfl, hw1⟩; rw [hw1]; clear hw1) | (go_at_call 84; refine (has_n _ _ _ hl (by decide) (by decide)).mono ?_; rintro e w1 ⟨rfl, hw1⟩; rw [hw1]; clear hw1) | (go_at_call 85; refine (jump_any _ _).mono ?_; rintro e w1 ⟨rfl, hw1⟩; rw [hw1]; clear hw1))
  all_goals (go_ret; exact ⟨rfl, Below.refl _ _⟩)
set_option maxHeartbeats 1600000 in
theorem shape_st24_0 (w : World) (hu : usesS 24 = ⟨#[68, 65, 73, 72]⟩) (kj : jumpB 24 = false) :
    Calls Tryz.prog 81 #[.int .i64 24, .int .i64 0] w fun e w' => e = .returned (.string ⟨#[37, 114, 68, 44, 32, 73, 40, 37, 114, 65, 41, 32, 35, 32, 104, 72]⟩) ∧ Below w.heap.size w w' := by
  have hD : hasN ⟨#[68, 65, 73, 72]⟩ 68 = true := by decide
  have hA : hasN ⟨#[68, 65, 73, 72]⟩ 65 = true := by decide
  have hB : hasN ⟨#[68, 65, 73, 72]⟩ 66 = false := by decide
  have hI : hasN ⟨#[68, 65, 73, 72]⟩ 73 = true := by decide
  have hH : hasN ⟨#[68, 65, 73, 72]⟩ 72 = true := by decide
  have hl : (⟨#[68, 65, 73, 72]⟩ : ByteArray).size ≤ maxLen := hu ▸ uses_le 24
  go_enter Tryz.func81, Tryz.ntmps81
  go_wp2_with (first | (go_at_call 83; refine (uses_any _ _).mono ?_; rintro e w1 ⟨rfl, hw1⟩; rw [hw1]; clear hw1) | (go_at_call 84; refine (has_n _ _ _ hl (by decide) (by decide)).mono ?_; rintro e w1 ⟨rfl, hw1⟩; rw [hw1]; clear hw1) | (go_at_call 85; refine (jump_any _ _).mono ?_; rintro e w1 ⟨rfl, hw1⟩; rw [hw1]; clear hw1))
  all_goals (go_ret; exact ⟨rfl, Below.refl _ _⟩)
set_option maxHeartbeats 1600000 in
theorem shape_st24_1 (w : World) (hu : usesS 24 = ⟨#[68, 65, 73, 72]⟩) (kj : jumpB 24 = false) :
    Calls Tryz.prog 81 #[.int .i64 24, .int .i64 1] w fun e w' => e = .returned (.string ⟨#[91, 114, 65, 32, 43, 32, 73, 93, 44, 32, 114, 68, 32, 59, 32, 104, 72]⟩) ∧ Below w.heap.size w w' := by
  have hD : hasN ⟨#[68, 65, 73, 72]⟩ 68 = true := by decide
  have hA : hasN ⟨#[68, 65, 73, 72]⟩ 65 = true := by decide
  have hB : hasN ⟨#[68, 65, 73, 72]⟩ 66 = false := by decide
  have hI : hasN ⟨#[68, 65, 73, 72]⟩ 73 = true := by decide
  have hH : hasN ⟨#[68, 65, 73, 72]⟩ 72 = true := by decide
  have hl : (⟨#[68, 65, 73, 72]⟩ : ByteArray).size ≤ maxLen := hu ▸ uses_le 24
  go_enter Tryz.func81, Tryz.ntmps81
  go_wp2_with (first | (go_at_call 83; refine (uses_any _ _).mono ?_; rintro e w1 ⟨rfl, hw1⟩; rw [hw1]; clear hw1) | (go_at_call 84; refine (has_n _ _ _ hl (by decide) (by decide)).mono ?_; rintro e w1 ⟨rfl, hw1⟩; rw [hw1]; clear hw1) | (go_at_call 85; refine (jump_any _ _).mono ?_; rintro e w1 ⟨rfl, hw1⟩; rw [hw1]; clear hw1))
  all_goals (go_ret; exact ⟨rfl, Below.refl _ _⟩)
set_option maxHeartbeats 1600000 in
theorem shape_ldx0 (op : Int) (w : World) (hu : usesS op = ⟨#[68, 65, 66, 72]⟩) (kj : jumpB op = false) (k34 : (op == 34) = false) (k25 : decide (25 ≤ op) = true)  (k23 : (op == 23) = false) (k24 : (op == 24) = false) (k27 : (op == 27) = false) (k28 : (op == 28) = false) :
    Calls Tryz.prog 81 #[.int .i64 op, .int .i64 0] w fun e w' => e = .returned (.string ⟨#[40, 37, 114, 65, 44, 37, 114, 66, 41, 44, 32, 37, 114, 68, 32, 35, 32, 104, 72]⟩) ∧ Below w.heap.size w w' := by
  have hD : hasN ⟨#[68, 65, 66, 72]⟩ 68 = true := by decide
  have hA : hasN ⟨#[68, 65, 66, 72]⟩ 65 = true := by decide
  have hB : hasN ⟨#[68, 65, 66, 72]⟩ 66 = true := by decide
  have hI : hasN ⟨#[68, 65, 66, 72]⟩ 73 = false := by decide
  have hH : hasN ⟨#[68, 65, 66, 72]⟩ 72 = true := by decide
  have hl : (⟨#[68, 65, 66, 72]⟩ : ByteArray).size ≤ maxLen := hu ▸ uses_le op
  go_enter Tryz.func81, Tryz.ntmps81
  go_wp2_with (first | (go_at_call 83; refine (uses_any _ _).mono ?_; rintro e w1 ⟨rfl, hw1⟩; rw [hw1]; clear hw1) | (go_at_call 84; refine (has_n _ _ _ hl (by decide) (by decide)).mono ?_; rintro e w1 ⟨rfl, hw1⟩; rw [hw1]; clear hw1) | (go_at_call 85; refine (jump_any _ _).mono ?_; rintro e w1 ⟨rfl, hw1⟩; rw [hw1]; clear hw1))
  all_goals (go_ret; exact ⟨rfl, Below.refl _ _⟩)
set_option maxHeartbeats 1600000 in
theorem shape_ldx1 (op : Int) (w : World) (hu : usesS op = ⟨#[68, 65, 66, 72]⟩) (kj : jumpB op = false) (k34 : (op == 34) = false) (k25 : decide (25 ≤ op) = true)  (k23 : (op == 23) = false) (k24 : (op == 24) = false) (k27 : (op == 27) = false) (k28 : (op == 28) = false) :
    Calls Tryz.prog 81 #[.int .i64 op, .int .i64 1] w fun e w' => e = .returned (.string ⟨#[114, 68, 44, 32, 91, 114, 65, 32, 43, 32, 114, 66, 93, 32, 59, 32, 104, 72]⟩) ∧ Below w.heap.size w w' := by
  have hD : hasN ⟨#[68, 65, 66, 72]⟩ 68 = true := by decide
  have hA : hasN ⟨#[68, 65, 66, 72]⟩ 65 = true := by decide
  have hB : hasN ⟨#[68, 65, 66, 72]⟩ 66 = true := by decide
  have hI : hasN ⟨#[68, 65, 66, 72]⟩ 73 = false := by decide
  have hH : hasN ⟨#[68, 65, 66, 72]⟩ 72 = true := by decide
  have hl : (⟨#[68, 65, 66, 72]⟩ : ByteArray).size ≤ maxLen := hu ▸ uses_le op
  go_enter Tryz.func81, Tryz.ntmps81
  go_wp2_with (first | (go_at_call 83; refine (uses_any _ _).mono ?_; rintro e w1 ⟨rfl, hw1⟩; rw [hw1]; clear hw1) | (go_at_call 84; refine (has_n _ _ _ hl (by decide) (by decide)).mono ?_; rintro e w1 ⟨rfl, hw1⟩; rw [hw1]; clear hw1) | (go_at_call 85; refine (jump_any _ _).mono ?_; rintro e w1 ⟨rfl, hw1⟩; rw [hw1]; clear hw1))
  all_goals (go_ret; exact ⟨rfl, Below.refl _ _⟩)
set_option maxHeartbeats 1600000 in
theorem shape_stx27_0 (w : World) (hu : usesS 27 = ⟨#[68, 65, 66, 72]⟩) (kj : jumpB 27 = false) :
    Calls Tryz.prog 81 #[.int .i64 27, .int .i64 0] w fun e w' => e = .returned (.string ⟨#[37, 114, 68, 44, 32, 40, 37, 114, 65, 44, 37, 114, 66, 41, 32, 35, 32, 104, 72]⟩) ∧ Below w.heap.size w w' := by
  have hD : hasN ⟨#[68, 65, 66, 72]⟩ 68 = true := by decide
  have hA : hasN ⟨#[68, 65, 66, 72]⟩ 65 = true := by decide
  have hB : hasN ⟨#[68, 65, 66, 72]⟩ 66 = true := by decide
  have hI : hasN ⟨#[68, 65, 66, 72]⟩ 73 = false := by decide
  have hH : hasN ⟨#[68, 65, 66, 72]⟩ 72 = true := by decide
  have hl : (⟨#[68, 65, 66, 72]⟩ : ByteArray).size ≤ maxLen := hu ▸ uses_le 27
  go_enter Tryz.func81, Tryz.ntmps81
  go_wp2_with (first | (go_at_call 83; refine (uses_any _ _).mono ?_; rintro e w1 ⟨rfl, hw1⟩; rw [hw1]; clear hw1) | (go_at_call 84; refine (has_n _ _ _ hl (by decide) (by decide)).mono ?_; rintro e w1 ⟨rfl, hw1⟩; rw [hw1]; clear hw1) | (go_at_call 85; refine (jump_any _ _).mono ?_; rintro e w1 ⟨rfl, hw1⟩; rw [hw1]; clear hw1))
  all_goals (go_ret; exact ⟨rfl, Below.refl _ _⟩)
set_option maxHeartbeats 1600000 in
theorem shape_stx27_1 (w : World) (hu : usesS 27 = ⟨#[68, 65, 66, 72]⟩) (kj : jumpB 27 = false) :
    Calls Tryz.prog 81 #[.int .i64 27, .int .i64 1] w fun e w' => e = .returned (.string ⟨#[91, 114, 65, 32, 43, 32, 114, 66, 93, 44, 32, 114, 68, 32, 59, 32, 104, 72]⟩) ∧ Below w.heap.size w w' := by
  have hD : hasN ⟨#[68, 65, 66, 72]⟩ 68 = true := by decide
  have hA : hasN ⟨#[68, 65, 66, 72]⟩ 65 = true := by decide
  have hB : hasN ⟨#[68, 65, 66, 72]⟩ 66 = true := by decide
  have hI : hasN ⟨#[68, 65, 66, 72]⟩ 73 = false := by decide
  have hH : hasN ⟨#[68, 65, 66, 72]⟩ 72 = true := by decide
  have hl : (⟨#[68, 65, 66, 72]⟩ : ByteArray).size ≤ maxLen := hu ▸ uses_le 27
  go_enter Tryz.func81, Tryz.ntmps81
  go_wp2_with (first | (go_at_call 83; refine (uses_any _ _).mono ?_; rintro e w1 ⟨rfl, hw1⟩; rw [hw1]; clear hw1) | (go_at_call 84; refine (has_n _ _ _ hl (by decide) (by decide)).mono ?_; rintro e w1 ⟨rfl, hw1⟩; rw [hw1]; clear hw1) | (go_at_call 85; refine (jump_any _ _).mono ?_; rintro e w1 ⟨rfl, hw1⟩; rw [hw1]; clear hw1))
  all_goals (go_ret; exact ⟨rfl, Below.refl _ _⟩)
set_option maxHeartbeats 1600000 in
theorem shape_stx28_0 (w : World) (hu : usesS 28 = ⟨#[68, 65, 66, 72]⟩) (kj : jumpB 28 = false) :
    Calls Tryz.prog 81 #[.int .i64 28, .int .i64 0] w fun e w' => e = .returned (.string ⟨#[37, 114, 68, 44, 32, 40, 37, 114, 65, 44, 37, 114, 66, 41, 32, 35, 32, 104, 72]⟩) ∧ Below w.heap.size w w' := by
  have hD : hasN ⟨#[68, 65, 66, 72]⟩ 68 = true := by decide
  have hA : hasN ⟨#[68, 65, 66, 72]⟩ 65 = true := by decide
  have hB : hasN ⟨#[68, 65, 66, 72]⟩ 66 = true := by decide
  have hI : hasN ⟨#[68, 65, 66, 72]⟩ 73 = false := by decide
  have hH : hasN ⟨#[68, 65, 66, 72]⟩ 72 = true := by decide
  have hl : (⟨#[68, 65, 66, 72]⟩ : ByteArray).size ≤ maxLen := hu ▸ uses_le 28
  go_enter Tryz.func81, Tryz.ntmps81
  go_wp2_with (first | (go_at_call 83; refine (uses_any _ _).mono ?_; rintro e w1 ⟨rfl, hw1⟩; rw [hw1]; clear hw1) | (go_at_call 84; refine (has_n _ _ _ hl (by decide) (by decide)).mono ?_; rintro e w1 ⟨rfl, hw1⟩; rw [hw1]; clear hw1) | (go_at_call 85; refine (jump_any _ _).mono ?_; rintro e w1 ⟨rfl, hw1⟩; rw [hw1]; clear hw1))
  all_goals (go_ret; exact ⟨rfl, Below.refl _ _⟩)
set_option maxHeartbeats 1600000 in
theorem shape_stx28_1 (w : World) (hu : usesS 28 = ⟨#[68, 65, 66, 72]⟩) (kj : jumpB 28 = false) :
    Calls Tryz.prog 81 #[.int .i64 28, .int .i64 1] w fun e w' => e = .returned (.string ⟨#[91, 114, 65, 32, 43, 32, 114, 66, 93, 44, 32, 114, 68, 32, 59, 32, 104, 72]⟩) ∧ Below w.heap.size w w' := by
  have hD : hasN ⟨#[68, 65, 66, 72]⟩ 68 = true := by decide
  have hA : hasN ⟨#[68, 65, 66, 72]⟩ 65 = true := by decide
  have hB : hasN ⟨#[68, 65, 66, 72]⟩ 66 = true := by decide
  have hI : hasN ⟨#[68, 65, 66, 72]⟩ 73 = false := by decide
  have hH : hasN ⟨#[68, 65, 66, 72]⟩ 72 = true := by decide
  have hl : (⟨#[68, 65, 66, 72]⟩ : ByteArray).size ≤ maxLen := hu ▸ uses_le 28
  go_enter Tryz.func81, Tryz.ntmps81
  go_wp2_with (first | (go_at_call 83; refine (uses_any _ _).mono ?_; rintro e w1 ⟨rfl, hw1⟩; rw [hw1]; clear hw1) | (go_at_call 84; refine (has_n _ _ _ hl (by decide) (by decide)).mono ?_; rintro e w1 ⟨rfl, hw1⟩; rw [hw1]; clear hw1) | (go_at_call 85; refine (jump_any _ _).mono ?_; rintro e w1 ⟨rfl, hw1⟩; rw [hw1]; clear hw1))
  all_goals (go_ret; exact ⟨rfl, Below.refl _ _⟩)
set_option maxHeartbeats 1600000 in
theorem shape_jump0 (op : Int) (w : World) (hu : usesS op = ⟨#[73]⟩) (kj : jumpB op = true) (k34 : (op == 34) = false)  (_k23 : (op == 23) = false) (_k24 : (op == 24) = false) (_k27 : (op == 27) = false) (_k28 : (op == 28) = false) :
    Calls Tryz.prog 81 #[.int .i64 op, .int .i64 0] w fun e w' => e = .returned (.string ⟨#[46, 76, 64]⟩) ∧ Below w.heap.size w w' := by
  have hD : hasN ⟨#[73]⟩ 68 = false := by decide
  have hA : hasN ⟨#[73]⟩ 65 = false := by decide
  have hB : hasN ⟨#[73]⟩ 66 = false := by decide
  have hI : hasN ⟨#[73]⟩ 73 = true := by decide
  have hH : hasN ⟨#[73]⟩ 72 = false := by decide
  have hl : (⟨#[73]⟩ : ByteArray).size ≤ maxLen := hu ▸ uses_le op
  go_enter Tryz.func81, Tryz.ntmps81
  go_wp2_with (first | (go_at_call 83; refine (uses_any _ _).mono ?_; rintro e w1 ⟨rfl, hw1⟩; rw [hw1]; clear hw1) | (go_at_call 84; refine (has_n _ _ _ hl (by decide) (by decide)).mono ?_; rintro e w1 ⟨rfl, hw1⟩; rw [hw1]; clear hw1) | (go_at_call 85; refine (jump_any _ _).mono ?_; rintro e w1 ⟨rfl, hw1⟩; rw [hw1]; clear hw1))
  all_goals (go_ret; exact ⟨rfl, Below.refl _ _⟩)
set_option maxHeartbeats 1600000 in
theorem shape_jump1 (op : Int) (w : World) (hu : usesS op = ⟨#[73]⟩) (kj : jumpB op = true) (k34 : (op == 34) = false)  (_k23 : (op == 23) = false) (_k24 : (op == 24) = false) (_k27 : (op == 27) = false) (_k28 : (op == 28) = false) :
    Calls Tryz.prog 81 #[.int .i64 op, .int .i64 1] w fun e w' => e = .returned (.string ⟨#[76, 64]⟩) ∧ Below w.heap.size w w' := by
  have hD : hasN ⟨#[73]⟩ 68 = false := by decide
  have hA : hasN ⟨#[73]⟩ 65 = false := by decide
  have hB : hasN ⟨#[73]⟩ 66 = false := by decide
  have hI : hasN ⟨#[73]⟩ 73 = true := by decide
  have hH : hasN ⟨#[73]⟩ 72 = false := by decide
  have hl : (⟨#[73]⟩ : ByteArray).size ≤ maxLen := hu ▸ uses_le op
  go_enter Tryz.func81, Tryz.ntmps81
  go_wp2_with (first | (go_at_call 83; refine (uses_any _ _).mono ?_; rintro e w1 ⟨rfl, hw1⟩; rw [hw1]; clear hw1) | (go_at_call 84; refine (has_n _ _ _ hl (by decide) (by decide)).mono ?_; rintro e w1 ⟨rfl, hw1⟩; rw [hw1]; clear hw1) | (go_at_call 85; refine (jump_any _ _).mono ?_; rintro e w1 ⟨rfl, hw1⟩; rw [hw1]; clear hw1))
  all_goals (go_ret; exact ⟨rfl, Below.refl _ _⟩)
theorem shape_any (op d : Int) (w : World) (h1 : 1 ≤ op) (h2 : op ≤ 34) (hd : d = 0 ∨ d = 1) :
    Calls Tryz.prog 81 #[.int .i64 op, .int .i64 d] w fun e w' => e = .returned (.string (shpS d op)) ∧ Below w.heap.size w w' := by
  obtain rfl | rfl | rfl | rfl | rfl | rfl | rfl | rfl | rfl | rfl | rfl | rfl | rfl | rfl | rfl | rfl | rfl | rfl | rfl | rfl | rfl | rfl | rfl | rfl | rfl | rfl | rfl | rfl | rfl | rfl | rfl | rfl | rfl | rfl : op = 1 ∨ op = 2 ∨ op = 3 ∨ op = 4 ∨ op = 5 ∨ op = 6 ∨ op = 7 ∨ op = 8 ∨ op = 9 ∨ op = 10 ∨ op = 11 ∨ op = 12 ∨ op = 13 ∨ op = 14 ∨ op = 15 ∨ op = 16 ∨ op = 17 ∨ op = 18 ∨ op = 19 ∨ op = 20 ∨ op = 21 ∨ op = 22 ∨ op = 23 ∨ op = 24 ∨ op = 25 ∨ op = 26 ∨ op = 27 ∨ op = 28 ∨ op = 29 ∨ op = 30 ∨ op = 31 ∨ op = 32 ∨ op = 33 ∨ op = 34 := by omega
  · rcases hd with rfl | rfl
    · exact shape_da0 1 w rfl rfl rfl rfl rfl rfl rfl
    · exact shape_da1 1 w rfl rfl rfl rfl rfl rfl rfl
  · rcases hd with rfl | rfl
    · exact shape_di0 2 w rfl rfl rfl rfl rfl rfl rfl
    · exact shape_di1 2 w rfl rfl rfl rfl rfl rfl rfl
  · rcases hd with rfl | rfl
    · exact shape_dab0 3 w rfl rfl rfl rfl rfl rfl rfl
    · exact shape_dab1 3 w rfl rfl rfl rfl rfl rfl rfl
  · rcases hd with rfl | rfl
    · exact shape_dab0 4 w rfl rfl rfl rfl rfl rfl rfl
    · exact shape_dab1 4 w rfl rfl rfl rfl rfl rfl rfl
  · rcases hd with rfl | rfl
    · exact shape_dab0 5 w rfl rfl rfl rfl rfl rfl rfl
    · exact shape_dab1 5 w rfl rfl rfl rfl rfl rfl rfl
  · rcases hd with rfl | rfl
    · exact shape_dab0 6 w rfl rfl rfl rfl rfl rfl rfl
    · exact shape_dab1 6 w rfl rfl rfl rfl rfl rfl rfl
  · rcases hd with rfl | rfl
    · exact shape_dab0 7 w rfl rfl rfl rfl rfl rfl rfl
    · exact shape_dab1 7 w rfl rfl rfl rfl rfl rfl rfl
  · rcases hd with rfl | rfl
    · exact shape_dab0 8 w rfl rfl rfl rfl rfl rfl rfl
    · exact shape_dab1 8 w rfl rfl rfl rfl rfl rfl rfl
  · rcases hd with rfl | rfl
    · exact shape_dab0 9 w rfl rfl rfl rfl rfl rfl rfl
    · exact shape_dab1 9 w rfl rfl rfl rfl rfl rfl rfl
  · rcases hd with rfl | rfl
    · exact shape_dai0 10 w rfl rfl rfl rfl rfl rfl rfl
    · exact shape_dai1 10 w rfl rfl rfl rfl rfl rfl rfl
  · rcases hd with rfl | rfl
    · exact shape_dai0 11 w rfl rfl rfl rfl rfl rfl rfl
    · exact shape_dai1 11 w rfl rfl rfl rfl rfl rfl rfl
  · rcases hd with rfl | rfl
    · exact shape_dai0 12 w rfl rfl rfl rfl rfl rfl rfl
    · exact shape_dai1 12 w rfl rfl rfl rfl rfl rfl rfl
  · rcases hd with rfl | rfl
    · exact shape_dai0 13 w rfl rfl rfl rfl rfl rfl rfl
    · exact shape_dai1 13 w rfl rfl rfl rfl rfl rfl rfl
  · rcases hd with rfl | rfl
    · exact shape_dab0 14 w rfl rfl rfl rfl rfl rfl rfl
    · exact shape_dab1 14 w rfl rfl rfl rfl rfl rfl rfl
  · rcases hd with rfl | rfl
    · exact shape_dab0 15 w rfl rfl rfl rfl rfl rfl rfl
    · exact shape_dab1 15 w rfl rfl rfl rfl rfl rfl rfl
  · rcases hd with rfl | rfl
    · exact shape_dab0 16 w rfl rfl rfl rfl rfl rfl rfl
    · exact shape_dab1 16 w rfl rfl rfl rfl rfl rfl rfl
  · rcases hd with rfl | rfl
    · exact shape_ab0 17 w rfl rfl rfl rfl rfl rfl rfl
    · exact shape_ab1 17 w rfl rfl rfl rfl rfl rfl rfl
  · rcases hd with rfl | rfl
    · exact shape_ai0 18 w rfl rfl rfl rfl rfl rfl rfl
    · exact shape_ai1 18 w rfl rfl rfl rfl rfl rfl rfl
  · rcases hd with rfl | rfl
    · exact shape_dab0 19 w rfl rfl rfl rfl rfl rfl rfl
    · exact shape_dab1 19 w rfl rfl rfl rfl rfl rfl rfl
  · rcases hd with rfl | rfl
    · exact shape_dab0 20 w rfl rfl rfl rfl rfl rfl rfl
    · exact shape_dab1 20 w rfl rfl rfl rfl rfl rfl rfl
  · rcases hd with rfl | rfl
    · exact shape_ld0 21 w rfl rfl rfl rfl rfl rfl rfl rfl
    · exact shape_ld1 21 w rfl rfl rfl rfl rfl rfl rfl rfl
  · rcases hd with rfl | rfl
    · exact shape_ld0 22 w rfl rfl rfl rfl rfl rfl rfl rfl
    · exact shape_ld1 22 w rfl rfl rfl rfl rfl rfl rfl rfl
  · rcases hd with rfl | rfl
    · exact shape_st23_0 w rfl rfl
    · exact shape_st23_1 w rfl rfl
  · rcases hd with rfl | rfl
    · exact shape_st24_0 w rfl rfl
    · exact shape_st24_1 w rfl rfl
  · rcases hd with rfl | rfl
    · exact shape_ldx0 25 w rfl rfl rfl rfl rfl rfl rfl rfl
    · exact shape_ldx1 25 w rfl rfl rfl rfl rfl rfl rfl rfl
  · rcases hd with rfl | rfl
    · exact shape_ldx0 26 w rfl rfl rfl rfl rfl rfl rfl rfl
    · exact shape_ldx1 26 w rfl rfl rfl rfl rfl rfl rfl rfl
  · rcases hd with rfl | rfl
    · exact shape_stx27_0 w rfl rfl
    · exact shape_stx27_1 w rfl rfl
  · rcases hd with rfl | rfl
    · exact shape_stx28_0 w rfl rfl
    · exact shape_stx28_1 w rfl rfl
  · rcases hd with rfl | rfl
    · exact shape_jump0 29 w rfl rfl rfl rfl rfl rfl rfl
    · exact shape_jump1 29 w rfl rfl rfl rfl rfl rfl rfl
  · rcases hd with rfl | rfl
    · exact shape_jump0 30 w rfl rfl rfl rfl rfl rfl rfl
    · exact shape_jump1 30 w rfl rfl rfl rfl rfl rfl rfl
  · rcases hd with rfl | rfl
    · exact shape_jump0 31 w rfl rfl rfl rfl rfl rfl rfl
    · exact shape_jump1 31 w rfl rfl rfl rfl rfl rfl rfl
  · rcases hd with rfl | rfl
    · exact shape_jump0 32 w rfl rfl rfl rfl rfl rfl rfl
    · exact shape_jump1 32 w rfl rfl rfl rfl rfl rfl rfl
  · rcases hd with rfl | rfl
    · exact shape_jump0 33 w rfl rfl rfl rfl rfl rfl rfl
    · exact shape_jump1 33 w rfl rfl rfl rfl rfl rfl rfl
  · rcases hd with rfl | rfl
    · exact shape_none0 34 w rfl rfl rfl rfl rfl rfl rfl
    · exact shape_none1 34 w rfl rfl rfl rfl rfl rfl rfl
end Go.Proofs.YtblfmpgdhpbffaaGreatDoor
