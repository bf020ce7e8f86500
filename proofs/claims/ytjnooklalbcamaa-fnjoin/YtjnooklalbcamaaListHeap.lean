/- Heaplets: copied, compared, measured. -/
import Derived.Test.YtjnooklalbcamaaListObs
namespace Go.Proofs.Ytjnooklalbcamaa
open Go.RowKit

theorem info_heap : (Try.prog.info? 30).map (fun i => (i.zero, i.size, i.bytes)) = some (some (.agg #[.int .u64 0, .bool false, .slice none 0 0]), 3, 40) := by kernel_rfl
theorem zeroHeap (i : Nat) : ((Value.agg #[.int .u64 0, .bool false, .slice none 0 0]).cells)[i % ((Value.agg #[.int .u64 0, .bool false, .slice none 0 0]).cells).size]! = heapZ i := by
  show (#[Value.int .u64 0, .bool false, .slice none 0 0] : Array Value)[i % 3]! = _
  unfold heapZ
  have : i % 3 < 3 := by omega
  match h : i % 3, this with
  | 0, _ => rfl
  | 1, _ => rfl
  | 2, _ => rfl

set_option maxHeartbeats 400000 in
theorem toHeap_any (base : Int) (wr : Bool) (ao : Option Addr) (len cap : Nat) (dat : Nat → Int) (w : World) (hlen : len ≤ 1048576) (h : InRow w ao len (numF .u8 dat)) :
    Calls Try.prog 98 #[.agg #[.int .u64 base, .bool wr, .slice ao len cap]] w fun e w' => ∃ B, w.heap.size ≤ B ∧ e = .returned (.agg #[.int .u64 base, .bool wr, .slice (some ⟨B, 0, none⟩) len len]) ∧ Below w.heap.size w w' ∧ Arr w' B len (numF .u8 dat) := by
  have HI : Hid (InRow w ao len (numF .u8 dat)) := h
  clear h
  go_enter Try.func98, Try.ntmps98
  go_wp2_with fail
  refine (toByteS_in _ _ _ dat _ hlen ?hin).mono ?_
  case hin => exact HI.out.below ((((Below.refl _ _).alloc (Nat.le_refl _) _).alloc (by simp) _).alloc (by simp; omega) _) (Nat.le_refl _)
  rintro e w1 ⟨rfl, hb1, ha1⟩
  have HA : Hid _ := ha1
  clear ha1
  obtain ⟨hc1, hf1⟩ := bcell hb1
  have hz1 : w.heap.size + 2 < w1.heap.size := by have := hb1.size; simp at this; omega
  have hz2 : w.heap.size + 1 < w1.heap.size := by omega
  have hz3 : w.heap.size < w1.heap.size := by omega
  go_wp2
  refine bodyPost_ret (v := .agg #[.int .u64 base, .bool wr, .slice (some ⟨w.heap.size + 1 + 1 + 1, 0, none⟩) len len]) (by simp [results, Try.results98, go_sem, hc1]) rfl ⟨w.heap.size + 1 + 1 + 1, by omega, rfl, ?_, ?_⟩
  · exact ((((((((Below.refl _ _).alloc (Nat.le_refl _) _).alloc (by simp) _).alloc (by simp; omega) _).trans (hb1.mono (by simp; omega))).setCell (by simp; omega) _).setCell (by simp) _).setCell (by simp) _).setCell (by simp) _
  · have h3 : Arr w1 (w.heap.size + 1 + 1 + 1) len (numF .u8 dat) := by have := HA.out; simp only [World.size_alloc] at this; exact this
    exact (((h3.other (by simp) _).other (by simp) _).other (by simp) _).other (by simp) _

theorem moved_congr {Hp : Nat → HeapV} {blk blk' : Nat → Nat} {k : Nat} (h : ∀ i, i < k → blk i = blk' i) (p : Nat) (hp : p < k * 3) : heapF (fun i => (Hp i).moved (blk i)) p = heapF (fun i => (Hp i).moved (blk' i)) p :=
  heapF_congr hp fun i hi => by rw [h i hi]
def putBlk (blk : Nat → Nat) (k C i : Nat) : Nat := if i = k then C else blk i
theorem putBlk_same (blk : Nat → Nat) (k C : Nat) : putBlk blk k C k = C := by simp [putBlk]
theorem putBlk_other {blk : Nat → Nat} {k C i : Nat} (h : i ≠ k) : putBlk blk k C i = blk i := by simp [putBlk, h]
/-- What holds of the copies when k heaplets have been copied. -/
def CopiedTo (w : World) (B n k : Nat) (Hp : Nat → HeapV) (blk : Nat → Nat) : Prop :=
  Arr w B (n * 3) (upTo (heapF fun i => (Hp i).moved (blk i)) heapZ (k * 3)) ∧ (∀ i, i < k → B < blk i ∧ Arr w (blk i) (Hp i).len (numF .u8 (Hp i).dat)) ∧ ∀ i j, i < j → j < k → blk i < blk j
theorem copied_step {w w2 : World} {B n k C : Nat} {Hp : Nat → HeapV} {blk : Nat → Nat} (hk : k < n) (h : CopiedTo w B n k Hp blk) (hb : Below w.heap.size w w2) (hC : w.heap.size ≤ C) (ha : Arr w2 C (Hp k).len (numF .u8 (Hp k).dat)) :
    CopiedTo (w2.setCells B (k * 3) [.int .u64 (Hp k).base, .bool (Hp k).wr, .slice (some ⟨C, 0, none⟩) (Hp k).len (Hp k).len]) B n (k + 1) Hp (putBlk blk k C) := by
  obtain ⟨h1, h2, h3⟩ := h
  have hB : B < C := Nat.lt_of_lt_of_le h1.lt hC
  have other : ∀ {b m : Nat} {f : Nat → Value}, Arr w2 b m f → B ≠ b → Arr (w2.setCells B (k * 3) [.int .u64 (Hp k).base, .bool (Hp k).wr, .slice (some ⟨C, 0, none⟩) (Hp k).len (Hp k).len]) b m f := fun h hne => ((h.other (a := ⟨B, k * 3, none⟩) hne _).other (a := ⟨B, k * 3 + 1, none⟩) hne _).other (a := ⟨B, k * 3 + 1 + 1, none⟩) hne _
  refine ⟨?_, ?_, ?_⟩
  · rw [show (k + 1) * 3 = k * 3 + 3 by omega]
    refine Arr.fill (vs := [.int .u64 (Hp k).base, .bool (Hp k).wr, .slice (some ⟨C, 0, none⟩) (Hp k).len (Hp k).len]) ((h1.below hb h1.lt).retell fun i hi => moved_congr (fun j hj => (putBlk_other (by omega)).symm) i hi) (by simp; omega) fun j hj => ?_
    match j, hj with
    | 0, _ => rw [heapF_0]; rfl
    | 1, _ => rw [heapF_1]; rfl
    | 2, _ => rw [heapF_2, putBlk_same]; rfl
  · intro i hi
    by_cases e : i = k
    · subst e; rw [putBlk_same]; exact ⟨hB, other ha (by omega)⟩
    · rw [putBlk_other e]
      obtain ⟨q1, q2⟩ := h2 i (by omega)
      exact ⟨q1, other (q2.below hb q2.lt) (by omega)⟩
  · intro i j hij hj
    by_cases e : j = k
    · subst e
      rw [putBlk_other (by omega), putBlk_same]
      exact Nat.lt_of_lt_of_le (h2 i (by omega)).2.lt hC
    · rw [putBlk_other (by omega), putBlk_other e]; exact h3 i j hij (by omega)
theorem copied_all {w : World} {B n : Nat} {Hp : Nat → HeapV} {blk : Nat → Nat} (h : CopiedTo w B n n Hp blk) : Copied w B n Hp blk := ⟨h.1.filled, h.2.1, h.2.2⟩
theorem CopiedTo.below {w w' : World} {C B n k : Nat} {Hp : Nat → HeapV} {blk : Nat → Nat} (h : CopiedTo w B n k Hp blk) (hb : Below C w w') (hC : w.heap.size ≤ C) : CopiedTo w' B n k Hp blk :=
  ⟨h.1.below hb (Nat.lt_of_lt_of_le h.1.lt hC), fun i hi => ⟨(h.2.1 i hi).1, (h.2.1 i hi).2.below hb (Nat.lt_of_lt_of_le (h.2.1 i hi).2.lt hC)⟩, h.2.2⟩

set_option maxHeartbeats 400000 in
theorem toHeapS_at (b off n cap : Nat) (Hp : Nat → HeapV) (w : World) (hn : n ≤ 1048576) (hat : At w b off (n * 3) (heapF Hp)) (hin : ∀ i, i < n → (Hp i).len ≤ 1048576 ∧ InRow w (Hp i).ao (Hp i).len (numF .u8 (Hp i).dat)) :
    Calls Try.prog 63 #[.slice (some ⟨b, off, none⟩) n cap] w fun e w' => e = .returned (.slice (some ⟨w.heap.size, 0, none⟩) n n) ∧ Below w.heap.size w w' ∧ ∃ blk, Copied w' w.heap.size n Hp blk := by
  obtain ⟨i0, hi, hz0, hz1, hz2⟩ := info_parts info_heap
  have hb := hat.lt
  have HA : Hid (At w b off (n * 3) (heapF Hp)) := hat
  have HI : Hid (∀ i, i < n → (Hp i).len ≤ 1048576 ∧ InRow w (Hp i).ao (Hp i).len (numF .u8 (Hp i).dat)) := hin
  clear hat hin
  go_enter Try.func63, Try.ntmps63
  go_wp2_with (first | (at_make; refine wpList_make_full _ rfl _ _ 31 rfl w.heap.size 30 i0 _ 3 Try.underlying31 hi hz0 hz1 .i64 .i64 _ _ n rfl rfl ?c1 ?c2 ?c3 ?c4 ?c5 ?_) | go_in)
  case c1 => rfl
  case c2 => rfl
  case c3 => rw [hz2]; omega
  case c4 => unfold maxLen; omega
  case c5 => exact Nat.le_refl _
  · intro w1 hown hgrow
    have hbel : Below w.heap.size w w1 := (Below.refl _ _).grown hgrow (Nat.le_refl _) (by intro k hk; cases hk)
    have harr : CopiedTo w1 w.heap.size n 0 Hp (fun _ => 0) := ⟨Arr.made hown fun i hi => by
      rw [made_get _ _ _ hi, Nat.zero_mul, upTo_zero]; exact congrArg some (zeroHeap i), fun i hi => by omega, fun i j _ hj => by omega⟩
    clear hown hgrow hi hz0 hz1 hz2
    go_wp2
    go_loopw [4] (fun i wr => ∃ k : Nat, k ≤ n ∧ i = .int .i64 k ∧ Below w.heap.size w wr ∧ ∃ blk, CopiedTo wr w.heap.size n k Hp blk) (fun i _ => n - (intOf i).toNat)
    case atStart => exact ⟨0, Nat.zero_le _, rfl, hbel, _, harr⟩
    case round =>
      clear harr hbel
      obtain ⟨k, hk, rfl, hbr, blk, har⟩ := hrel
      have HAR : Hid (CopiedTo wr w.heap.size n k Hp blk) := har
      have hzr := har.1.lt
      clear har
      by_cases hlt : k < n
      · have g0 := (hbr.cell (p := ⟨b, off + k * 3, none⟩) hb).trans ((HA.out.cell (i := k * 3 + 0) (by omega)).trans (congrArg some (heapF_0 Hp k)))
        have g1 := (hbr.cell (p := ⟨b, off + k * 3 + 1, none⟩) hb).trans ((HA.out.cell (i := k * 3 + 1) (by omega)).trans (congrArg some (heapF_1 Hp k)))
        have g2 := (hbr.cell (p := ⟨b, off + k * 3 + 2, none⟩) hb).trans ((HA.out.cell (i := k * 3 + 2) (by omega)).trans (congrArg some (heapF_2 Hp k)))
        go_wp2_with fail
        refine (toHeap_any _ _ _ _ _ (Hp k).dat _ (HI.out k hlt).1 ((HI.out k hlt).2.below hbr (Nat.le_refl _))).mono ?_
        rintro e w2 ⟨C, hC, rfl, hb2, ha2⟩
        clear g0 g1 g2
        have R := copied_step hlt HAR.out hb2 hC ha2
        have A2 := HAR.out.1.below hb2 hzr
        have f2 := A2.free
        have c0 := A2.cell (i := k * 3) (by omega)
        have c1 := A2.cell (i := k * 3 + 1) (by omega)
        have c2 := A2.cell (i := k * 3 + 2) (by omega)
        have HR : Hid (CopiedTo (w2.setCells w.heap.size (k * 3) [.int .u64 (Hp k).base, .bool (Hp k).wr, .slice (some ⟨C, 0, none⟩) (Hp k).len (Hp k).len]) w.heap.size n (k + 1) Hp (putBlk blk k C)) := R
        clear A2 R ha2
        go_wp2
        go_roundw
        case rel => exact ⟨k + 1, by omega, by go_num, below_setCells (Nat.le_refl _) [.int .u64 (Hp k).base, .bool (Hp k).wr, .slice (some ⟨C, 0, none⟩) (Hp k).len (Hp k).len] (k * 3) (hbr.trans (hb2.mono hbr.size)), _, HR.out⟩
        case measure => simp [intOf]; omega
      · go_wp2
        go_ret
        obtain rfl : k = n := by omega
        exact ⟨rfl, hbr, blk, copied_all HAR.out⟩
set_option maxHeartbeats 400000 in
theorem toHeapS_nil (ao : Option Addr) (cap : Nat) (Hp : Nat → HeapV) (w : World) :
    Calls Try.prog 63 #[.slice ao 0 cap] w fun e w' => e = .returned (.slice (some ⟨w.heap.size, 0, none⟩) 0 0) ∧ Below w.heap.size w w' ∧ ∃ blk, Copied w' w.heap.size 0 Hp blk := by
  obtain ⟨i0, hi, hz0, hz1, hz2⟩ := info_parts info_heap
  go_enter Try.func63, Try.ntmps63
  go_wp2_with (first | (at_make; refine wpList_make_full _ rfl _ _ 31 rfl w.heap.size 30 i0 _ 3 Try.underlying31 hi hz0 hz1 .i64 .i64 _ _ 0 rfl rfl ?c1 ?c2 ?c3 ?c4 ?c5 ?_) | go_in)
  case c1 => rfl
  case c2 => rfl
  case c3 => rw [hz2]; omega
  case c4 => unfold maxLen; omega
  case c5 => exact Nat.le_refl _
  · intro w1 hown hgrow
    have hbel : Below w.heap.size w w1 := (Below.refl _ _).grown hgrow (Nat.le_refl _) (by intro k hk; cases hk)
    have harr : Arr w1 w.heap.size (0 * 3) (heapF fun i => (Hp i).moved 0) := Arr.made hown fun i hi => by omega
    have HX : Hid (Below w.heap.size w w1 ∧ Copied w1 w.heap.size 0 Hp (fun _ => 0)) := ⟨hbel, harr, fun i hi => by omega, fun i j _ hj => by omega⟩
    clear hown hgrow hi hz0 hz1 hz2 hbel harr
    go_wp2
    refine wp_loop_rounds 1 ?_
    rw [rounds_succ]
    go_wp2
    go_ret
    exact ⟨rfl, HX.out.1, _, HX.out.2⟩
theorem toHeapS_in (ao : Option Addr) (n cap : Nat) (Hp : Nat → HeapV) (w : World) (hn : n ≤ 1048576) (h : InRow w ao (n * 3) (heapF Hp)) (hin : ∀ i, i < n → (Hp i).len ≤ 1048576 ∧ InRow w (Hp i).ao (Hp i).len (numF .u8 (Hp i).dat)) :
    Calls Try.prog 63 #[.slice ao n cap] w fun e w' => e = .returned (.slice (some ⟨w.heap.size, 0, none⟩) n n) ∧ Below w.heap.size w w' ∧ ∃ blk, Copied w' w.heap.size n Hp blk := by
  rcases h with h | ⟨b, off, rfl, h⟩
  · obtain rfl : n = 0 := by omega
    exact toHeapS_nil ao cap Hp w
  · exact toHeapS_at b off n cap Hp w hn h hin
end Go.Proofs.Ytjnooklalbcamaa
