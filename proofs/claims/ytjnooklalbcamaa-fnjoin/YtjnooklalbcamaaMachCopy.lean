/- A machine: copied, compared, measured. -/
import Derived.Test.YtjnooklalbcamaaListHeap2
namespace Go.Proofs.Ytjnooklalbcamaa
open Go.RowKit

/-- A machine's lists, as they came in. -/
structure MachIn (w : World) (aoR : Option Addr) (nR : Nat) (R : Nat → Int) (aoH : Option Addr) (nH : Nat) (Hp : Nat → HeapV) (aoO : Option Addr) (nO : Nat) (K V : Nat → Int) : Prop where
  regs : InRow w aoR nR (numF .u64 R)
  heaps : InRow w aoH (nH * 3) (heapF Hp)
  data : ∀ i, i < nH → InRow w (Hp i).ao (Hp i).len (numF .u8 (Hp i).dat)
  obs : InRow w aoO (nO * 2) (obsF K V)
/-- Its lists are small. -/
structure Small (nR nH : Nat) (Hp : Nat → HeapV) (nO : Nat) : Prop where
  regs : nR ≤ 1048576
  heaps : nH ≤ 1048576
  data : ∀ i, i < nH → (Hp i).len ≤ 1048576
  obs : nO ≤ 1048576
/-- A machine's lists, each in a block of its own, in the order in which they were made. -/
structure MachCp (w : World) (bR nR : Nat) (R : Nat → Int) (bH nH : Nat) (Hp : Nat → HeapV) (blk : Nat → Nat) (bO nO : Nat) (K V : Nat → Int) : Prop where
  regs : Arr w bR nR (numF .u64 R)
  heaps : Copied w bH nH Hp blk
  obs : Arr w bO (nO * 2) (obsF K V)
  o1 : bR < bH
  o2 : ∀ i, i < nH → blk i < bO
  o3 : bH < bO
theorem MachIn.below {w w' : World} {B : Nat} {aoR : Option Addr} {nR : Nat} {R : Nat → Int} {aoH : Option Addr} {nH : Nat} {Hp : Nat → HeapV} {aoO : Option Addr} {nO : Nat} {K V : Nat → Int} (h : MachIn w aoR nR R aoH nH Hp aoO nO K V) (hb : Below B w w') (hB : w.heap.size ≤ B) : MachIn w' aoR nR R aoH nH Hp aoO nO K V :=
  ⟨h.regs.below hb hB, h.heaps.below hb hB, fun i hi => (h.data i hi).below hb hB, h.obs.below hb hB⟩
theorem MachCp.below {w w' : World} {B bR nR : Nat} {R : Nat → Int} {bH nH : Nat} {Hp : Nat → HeapV} {blk : Nat → Nat} {bO nO : Nat} {K V : Nat → Int} (h : MachCp w bR nR R bH nH Hp blk bO nO K V) (hb : Below B w w') (hB : w.heap.size ≤ B) : MachCp w' bR nR R bH nH Hp blk bO nO K V :=
  ⟨h.regs.below hb (Nat.lt_of_lt_of_le h.regs.lt hB), h.heaps.below hb hB, h.obs.below hb (Nat.lt_of_lt_of_le h.obs.lt hB), h.o1, h.o2, h.o3⟩

theorem Copied.low {w : World} {B n : Nat} {Hp : Nat → HeapV} {blk : Nat → Nat} (h : Copied w B n Hp blk) {a : Addr} (ha : a.block < B) (v : Value) : Copied (w.setCell a v) B n Hp blk :=
  ⟨h.1.other (by omega) v, fun i hi => ⟨(h.2.1 i hi).1, (h.2.1 i hi).2.other (by have := (h.2.1 i hi).1; omega) v⟩, h.2.2⟩
theorem MachCp.low {w : World} {bR nR : Nat} {R : Nat → Int} {bH nH : Nat} {Hp : Nat → HeapV} {blk : Nat → Nat} {bO nO : Nat} {K V : Nat → Int} (h : MachCp w bR nR R bH nH Hp blk bO nO K V) {a : Addr} (ha : a.block < bR) (v : Value) : MachCp (w.setCell a v) bR nR R bH nH Hp blk bO nO K V :=
  ⟨h.regs.other (by omega) v, h.heaps.low (by have := h.o1; omega) v, h.obs.other (by have := h.o1; have := h.o3; omega) v, h.o1, h.o2, h.o3⟩

set_option maxHeartbeats 1000000 in
theorem toMach_any (aoR : Option Addr) (nR capR : Nat) (R : Nat → Int) (z c hz hc : Bool) (aoH : Option Addr) (nH capH : Nat) (Hp : Nat → HeapV) (pc st : Int) (aoO : Option Addr) (nO capO : Nat) (K V : Nat → Int) (w : World)
    (hs : Small nR nH Hp nO) (hin : MachIn w aoR nR R aoH nH Hp aoO nO K V) :
    Calls Try.prog 22 #[.agg #[.slice aoR nR capR, .bool z, .bool c, .bool hz, .bool hc, .slice aoH nH capH, .int .i64 pc, .int .i64 st, .slice aoO nO capO]] w fun e w' =>
      ∃ bR bH blk bO, w.heap.size ≤ bR ∧ e = .returned (.agg #[.slice (some ⟨bR, 0, none⟩) nR nR, .bool z, .bool c, .bool hz, .bool hc, .slice (some ⟨bH, 0, none⟩) nH nH, .int .i64 pc, .int .i64 st, .slice (some ⟨bO, 0, none⟩) nO nO]) ∧ Below w.heap.size w w' ∧ MachCp w' bR nR R bH nH Hp blk bO nO K V := by
  have HS : Hid (Small nR nH Hp nO) := hs
  have HI : Hid (MachIn w aoR nR R aoH nH Hp aoO nO K V) := hin
  clear hs hin
  go_enter Try.func22, Try.ntmps22
  go_wp2_with fail
  have b0 := (((Below.refl w.heap.size w).alloc (Nat.le_refl _) (.cells #[.slice aoR nR capR, .bool z, .bool c, .bool hz, .bool hc, .slice aoH nH capH, .int .i64 pc, .int .i64 st, .slice aoO nO capO] 55)).alloc (by simp) (.cells #[.slice none 0 0, .bool false, .bool false, .bool false, .bool false, .slice none 0 0, .int .i64 0, .int .i64 0, .slice none 0 0] 35)).alloc (by simp; omega) (.cells #[.slice none 0 0, .bool false, .bool false, .bool false, .bool false, .slice none 0 0, .int .i64 0, .int .i64 0, .slice none 0 0] 35)
  refine (toUint64S_in _ _ _ R _ HS.out.regs ?h1).mono ?_
  case h1 => exact HI.out.regs.below b0 (Nat.le_refl _)
  rintro e w1 ⟨rfl, hb1, ha1⟩
  have b1 := b0.trans (hb1.mono (by simp; omega))
  have HB1 : Hid (Below w.heap.size w w1) := b1
  have t1 : Arr w1 (w.heap.size + 1 + 1 + 1) nR (numF .u64 R) := by simp only [World.size_alloc] at ha1; exact ha1
  have HA1 : Hid (Arr w1 (w.heap.size + 1 + 1 + 1) nR (numF .u64 R)) := t1
  clear b0 b1 ha1 t1
  obtain ⟨hc1, hf1⟩ := bcell hb1
  have hz1 : w.heap.size + 2 < w1.heap.size := by have := hb1.size; simp at this; omega
  have hz2 : w.heap.size + 1 < w1.heap.size := by omega
  have hz3 : w.heap.size < w1.heap.size := by omega
  clear hb1
  go_wp2_with fail
  have s1 := ((((HB1.out.setCell (p := ⟨w.heap.size + 1 + 1, 0, none⟩) (by simp; omega) (.slice (some ⟨w.heap.size + 1 + 1 + 1, 0, none⟩) nR nR)).setCell (p := ⟨w.heap.size + 1 + 1, 1, none⟩) (by simp; omega) (.bool z)).setCell (p := ⟨w.heap.size + 1 + 1, 2, none⟩) (by simp; omega) (.bool c)).setCell (p := ⟨w.heap.size + 1 + 1, 3, none⟩) (by simp; omega) (.bool hz)).setCell (p := ⟨w.heap.size + 1 + 1, 4, none⟩) (by simp; omega) (.bool hc)
  refine (toHeapS_in _ _ _ Hp _ HS.out.heaps ?h2 ?h3).mono ?_
  case h2 => exact HI.out.heaps.below s1 (Nat.le_refl _)
  case h3 => exact fun i hi => ⟨HS.out.data i hi, (HI.out.data i hi).below s1 (Nat.le_refl _)⟩
  rintro e w2 ⟨rfl, hb2, blk, ha2⟩
  have t2 : Below w.heap.size w w2 := s1.trans (hb2.mono (by simp; omega))
  have HB2 : Hid (Below w.heap.size w w2) := t2
  have t3 : Copied w2 w1.heap.size nH Hp blk := by simp only [World.size_setCell] at ha2; exact ha2
  have HA2 : Hid (Copied w2 w1.heap.size nH Hp blk) := t3
  have t4 : Arr w2 (w.heap.size + 1 + 1 + 1) nR (numF .u64 R) := (((((HA1.out.other (a := ⟨w.heap.size + 1 + 1, 0, none⟩) (by simp) (.slice (some ⟨w.heap.size + 1 + 1 + 1, 0, none⟩) nR nR)).other (a := ⟨w.heap.size + 1 + 1, 1, none⟩) (by simp) (.bool z)).other (a := ⟨w.heap.size + 1 + 1, 2, none⟩) (by simp) (.bool c)).other (a := ⟨w.heap.size + 1 + 1, 3, none⟩) (by simp) (.bool hz)).other (a := ⟨w.heap.size + 1 + 1, 4, none⟩) (by simp) (.bool hc)).below hb2 (by simp; exact HA1.out.lt)
  have HA3 : Hid (Arr w2 (w.heap.size + 1 + 1 + 1) nR (numF .u64 R)) := t4
  clear s1 t2 t3 t4 ha2
  obtain ⟨hc2, hf2⟩ := bcell hb2
  have hy : w1.heap.size ≤ w2.heap.size := by have := hb2.size; simpa using this
  have hy1 : w.heap.size + 2 < w2.heap.size := by omega
  have hy2 : w.heap.size + 1 < w2.heap.size := by omega
  have hy3 : w.heap.size < w2.heap.size := by omega
  clear hb2
  go_wp2_with fail
  have s2 := ((HB2.out.setCell (p := ⟨w.heap.size + 1 + 1, 5, none⟩) (by simp; omega) (.slice (some ⟨w1.heap.size, 0, none⟩) nH nH)).setCell (p := ⟨w.heap.size + 1 + 1, 6, none⟩) (by simp; omega) (.int .i64 pc)).setCell (p := ⟨w.heap.size + 1 + 1, 7, none⟩) (by simp; omega) (.int .i64 st)
  refine (toObsS_in _ _ _ K V _ HS.out.obs ?h4).mono ?_
  case h4 => exact HI.out.obs.below s2 (Nat.le_refl _)
  rintro e w3 ⟨rfl, hb3, ha3⟩
  have t1 : Below w.heap.size w w3 := s2.trans (hb3.mono (by simp; omega))
  have HB3 : Hid (Below w.heap.size w w3) := t1
  have t2 : Arr w3 w2.heap.size (nO * 2) (obsF K V) := by simp only [World.size_setCell] at ha3; exact ha3
  have HA4 : Hid (Arr w3 w2.heap.size (nO * 2) (obsF K V)) := t2
  obtain ⟨hc3, hf3⟩ := bcell hb3
  have hx : w2.heap.size ≤ w3.heap.size := by have := hb3.size; simpa using this
  have hx1 : w.heap.size + 2 < w3.heap.size := by omega
  have hx2 : w.heap.size + 1 < w3.heap.size := by omega
  have hx3 : w.heap.size < w3.heap.size := by omega
  have HB : Hid (Below (((w2.setCell ⟨w.heap.size + 1 + 1, 5, none⟩ (.slice (some ⟨w1.heap.size, 0, none⟩) nH nH)).setCell ⟨w.heap.size + 1 + 1, 6, none⟩ (.int .i64 pc)).setCell ⟨w.heap.size + 1 + 1, 7, none⟩ (.int .i64 st)).heap.size (((w2.setCell ⟨w.heap.size + 1 + 1, 5, none⟩ (.slice (some ⟨w1.heap.size, 0, none⟩) nH nH)).setCell ⟨w.heap.size + 1 + 1, 6, none⟩ (.int .i64 pc)).setCell ⟨w.heap.size + 1 + 1, 7, none⟩ (.int .i64 st)) w3) := hb3
  clear hb3 s2 t1 t2 ha3
  go_wp2
  refine bodyPost_ret (v := .agg #[.slice (some ⟨w.heap.size + 1 + 1 + 1, 0, none⟩) nR nR, .bool z, .bool c, .bool hz, .bool hc, .slice (some ⟨w1.heap.size, 0, none⟩) nH nH, .int .i64 pc, .int .i64 st, .slice (some ⟨w2.heap.size, 0, none⟩) nO nO]) (by simp [results, Try.results22, go_sem, hc1, hc2, hc3, hz2, hy2]) rfl ⟨w.heap.size + 1 + 1 + 1, w1.heap.size, blk, w2.heap.size, by omega, rfl, ?_, ?_⟩
  · exact (((((((((HB3.out.setCell (by simp; omega) _).setCell (by simp) _).setCell (by simp) _).setCell (by simp) _).setCell (by simp) _).setCell (by simp) _).setCell (by simp) _).setCell (by simp) _).setCell (by simp) _).setCell (by simp) _
  · have m3 : MachCp w3 (w.heap.size + 1 + 1 + 1) nR R w1.heap.size nH Hp blk w2.heap.size nO K V := by
      have l1 := HA1.out.lt
      refine ⟨?_, ?_, HA4.out, l1, fun i hi => (HA2.out.2.1 i hi).2.lt, HA2.out.1.lt⟩
      · exact (((HA3.out.other (by simp) _).other (by simp) _).other (by simp) _).below HB.out (by simp; exact HA3.out.lt)
      · exact (((HA2.out.low (by simp; omega) _).low (by simp; omega) _).low (by simp; omega) _).below HB.out (Nat.le_refl _)
    exact (((((((((m3.low (by simp) _).low (by simp) _).low (by simp) _).low (by simp) _).low (by simp) _).low (by simp) _).low (by simp) _).low (by simp) _).low (by simp) _).low (by simp) _
end Go.Proofs.Ytjnooklalbcamaa
