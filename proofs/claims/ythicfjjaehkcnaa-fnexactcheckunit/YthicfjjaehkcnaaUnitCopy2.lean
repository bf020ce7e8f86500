/- Lists of procedures: copied, measured, compared. -/
import Derived.Test.YthicfjjaehkcnaaUnitCopy
namespace Go.Proofs.Ythicfjjaehkcnaa
open Go.RowKit
/-- A procedure as it came in. -/
structure PI where
  ao : Option Addr
  len : Nat
  cap : Nat
  L : Nat → SV
def PI.pv (p : PI) : PV := ⟨p.len, p.L⟩
def piF (Q : Nat → PI) (i : Nat) : Value := .slice (Q i).ao (Q i).len (Q i).cap
def pZ (_ : Nat) : Value := .slice none 0 0
theorem info_proc : (Try.prog.info? 42).map (fun i => (i.zero, i.size, i.bytes)) = some (some (.agg #[.slice none 0 0]), 1, 24) := by kernel_rfl
theorem zeroProc (i : Nat) : ((Value.agg #[.slice none 0 0]).cells)[i % ((Value.agg #[.slice none 0 0]).cells).size]! = pZ i := by
  show (#[Value.slice none 0 0] : Array Value)[i % 1]! = _
  unfold pZ
  rw [Nat.mod_one]
  rfl

set_option maxHeartbeats 4000000 in
theorem toProc_any (ao : Option Addr) (len cap : Nat) (L : Nat → SV) (w : World) (hlen : len ≤ 1048576) (h : InRow w ao (len * 11) (stF L)) :
    Calls Try.prog 20 #[.agg #[.slice ao len cap]] w fun e w' => ∃ B, w.heap.size ≤ B ∧ e = .returned (.agg #[.slice (some ⟨B, 0, none⟩) len len]) ∧ Below w.heap.size w w' ∧ Arr w' B (len * 11) (stF L) := by
  have HI : Hid (InRow w ao (len * 11) (stF L)) := h
  clear h
  go_enter Try.func20, Try.ntmps20
  go_wp2_with fail
  refine (toStmtS_in _ _ _ L _ hlen ?hin).mono ?_
  case hin => exact HI.out.below ((((Below.refl _ _).alloc (Nat.le_refl _) _).alloc (by simp) _).alloc (by simp; omega) _) (Nat.le_refl _)
  rintro e w1 ⟨rfl, hb1, ha1⟩
  have HA : Hid _ := ha1
  clear ha1
  obtain ⟨hc1, hf1⟩ := bcell hb1
  have hz1 : w.heap.size + 2 < w1.heap.size := by have := hb1.size; simp at this; omega
  have hz2 : w.heap.size + 1 < w1.heap.size := by omega
  have hz3 : w.heap.size < w1.heap.size := by omega
  go_wp2
  refine bodyPost_ret (v := .agg #[.slice (some ⟨w.heap.size + 1 + 1 + 1, 0, none⟩) len len]) (by simp [results, Try.results20, go_sem, hc1]) rfl ⟨w.heap.size + 1 + 1 + 1, by omega, rfl, ?_, ?_⟩
  · exact ((((((Below.refl _ _).alloc (Nat.le_refl _) _).alloc (by simp) _).alloc (by simp; omega) _).trans (hb1.mono (by simp; omega))).setCell (by simp; try omega) _).setCell (by simp; try omega) _
  · have h3 : Arr w1 (w.heap.size + 1 + 1 + 1) (len * 11) (stF L) := by have := HA.out; simp only [World.size_alloc] at this; exact this
    exact (h3.other (by simp) _).other (by simp) _

def putBlkU (blk : Nat → Nat) (k C i : Nat) : Nat := if i = k then C else blk i
theorem putBlkU_same (blk : Nat → Nat) (k C : Nat) : putBlkU blk k C k = C := by simp [putBlkU]
theorem putBlkU_other {blk : Nat → Nat} {k C i : Nat} (h : i ≠ k) : putBlkU blk k C i = blk i := by simp [putBlkU, h]
/-- The copies' blocks lie behind B, in order. -/
def Pord (B n : Nat) (blk : Nat → Nat) : Prop := (∀ i, i < n → B < blk i) ∧ ∀ i j, i < j → j < n → blk i < blk j
/-- What holds of the copies when k procedures have been copied. -/
def PTo (w : World) (B n k : Nat) (Q : Nat → PI) (blk : Nat → Nat) : Prop :=
  Arr w B n (upTo (pF (fun i => (Q i).pv) blk) pZ k) ∧ (∀ i, i < k → B < blk i ∧ Arr w (blk i) ((Q i).len * 11) (stF (Q i).L)) ∧ ∀ i j, i < j → j < k → blk i < blk j
theorem pTo_step {w w2 : World} {B n k C : Nat} {Q : Nat → PI} {blk : Nat → Nat} (hk : k < n) (h : PTo w B n k Q blk) (hb : Below w.heap.size w w2) (hC : w.heap.size ≤ C) (ha : Arr w2 C ((Q k).len * 11) (stF (Q k).L)) :
    PTo (w2.setCell ⟨B, k, none⟩ (.slice (some ⟨C, 0, none⟩) (Q k).len (Q k).len)) B n (k + 1) Q (putBlkU blk k C) := by
  obtain ⟨h1, h2, h4⟩ := h
  have hB : B < C := Nat.lt_of_lt_of_le h1.lt hC
  refine ⟨?_, ?_, ?_⟩
  · refine Arr.fill (o := k) (vs := [.slice (some ⟨C, 0, none⟩) (Q k).len (Q k).len]) ((h1.below hb h1.lt).retell fun i hi => ?_) (by simp; omega) fun j hj => ?_
    · unfold pF; rw [putBlkU_other (by omega)]
    · match j, hj with
      | 0, _ => show _ = pF _ _ k; unfold pF; rw [putBlkU_same]; rfl
  · intro i hi
    by_cases e : i = k
    · subst e; rw [putBlkU_same]; exact ⟨hB, ha.other (a := ⟨B, i, none⟩) (by simp; omega) _⟩
    · rw [putBlkU_other e]
      obtain ⟨q1, q2⟩ := h2 i (by omega)
      exact ⟨q1, (q2.below hb q2.lt).other (a := ⟨B, k, none⟩) (by simp; omega) _⟩
  · intro i j hij hj
    by_cases e : j = k
    · subst e
      rw [putBlkU_other (by omega), putBlkU_same]
      exact Nat.lt_of_lt_of_le (h2 i (by omega)).2.lt hC
    · rw [putBlkU_other (by omega), putBlkU_other e]; exact h4 i j hij (by omega)

set_option maxHeartbeats 4000000 in
theorem toProcS_at (b off n cap : Nat) (Q : Nat → PI) (w : World) (hn : n ≤ 1048576) (hat : At w b off n (piF Q)) (hin : ∀ i, i < n → (Q i).len ≤ 1048576 ∧ InRow w (Q i).ao ((Q i).len * 11) (stF (Q i).L)) :
    Calls Try.prog 7 #[.slice (some ⟨b, off, none⟩) n cap] w fun e w' => e = .returned (.slice (some ⟨w.heap.size, 0, none⟩) n n) ∧ Below w.heap.size w w' ∧ ∃ blk, PCp w' w.heap.size n (fun i => (Q i).pv) blk ∧ Pord w.heap.size n blk := by
  obtain ⟨i0, hi, hz0, hz1, hz2⟩ := info_parts info_proc
  have hb := hat.lt
  have HA : Hid (At w b off n (piF Q)) := hat
  have HI : Hid (∀ i, i < n → (Q i).len ≤ 1048576 ∧ InRow w (Q i).ao ((Q i).len * 11) (stF (Q i).L)) := hin
  clear hat hin
  go_enter Try.func7, Try.ntmps7
  go_wp2_with (first | (at_make; refine wpList_make_full _ rfl _ _ 27 rfl w.heap.size 42 i0 _ 1 Try.underlying27 hi hz0 hz1 .i64 .i64 _ _ n rfl rfl ?c1 ?c2 ?c3 ?c4 ?c5 ?_) | go_in)
  case c1 => rfl
  case c2 => rfl
  case c3 => rw [hz2]; omega
  case c4 => unfold maxLen; omega
  case c5 => exact Nat.le_refl _
  · intro w1 hown hgrow
    have hbel : Below w.heap.size w w1 := (Below.refl _ _).grown hgrow (Nat.le_refl _) (by intro k hk; cases hk)
    have harr : PTo w1 w.heap.size n 0 Q (fun _ => 0) := ⟨by
      have := Arr.made (z := pZ) hown fun i hi => by rw [made_get _ _ _ (show i < n by omega)]; exact congrArg some (zeroProc i)
      rw [Nat.mul_one] at this
      exact this.congr fun i _ => (upTo_zero _ _ _).symm, fun i hi => by omega, fun i j _ hj => by omega⟩
    clear hown hgrow hi hz0 hz1 hz2
    go_wp2
    go_loopw [4] (fun i wr => ∃ k : Nat, k ≤ n ∧ i = .int .i64 k ∧ Below w.heap.size w wr ∧ ∃ blk, PTo wr w.heap.size n k Q blk) (fun i _ => n - (intOf i).toNat)
    case atStart => exact ⟨0, Nat.zero_le _, rfl, hbel, _, harr⟩
    case round =>
      clear harr hbel
      obtain ⟨k, hk, rfl, hbr, blk, har⟩ := hrel
      have HAR : Hid (PTo wr w.heap.size n k Q blk) := har
      have hzr := har.1.lt
      clear har
      by_cases hlt : k < n
      · have g0 : wr.cell? ⟨b, off + k, none⟩ = some (.slice (Q k).ao (Q k).len (Q k).cap) := (hbr.cell (p := ⟨b, off + k, none⟩) hb).trans (HA.out.cell (i := k) hlt)
        go_wp2_with fail
        refine (toProc_any _ _ _ (Q k).L _ (HI.out k hlt).1 ((HI.out k hlt).2.below hbr (Nat.le_refl _))).mono ?_
        rintro e w2 ⟨C, hC, rfl, hb2, ha2⟩
        clear g0
        have R := pTo_step hlt HAR.out hb2 hC ha2
        have A2 := HAR.out.1.below hb2 hzr
        have f2 := A2.free
        have c0 := A2.cell (i := k) hlt
        have HR : Hid (PTo (w2.setCell ⟨w.heap.size, k, none⟩ (.slice (some ⟨C, 0, none⟩) (Q k).len (Q k).len)) w.heap.size n (k + 1) Q (putBlkU blk k C)) := R
        clear A2 R ha2
        go_wp2
        go_roundw
        case rel => exact ⟨k + 1, by omega, by go_num, (hbr.trans (hb2.mono hbr.size)).setCell (p := ⟨w.heap.size, k, none⟩) (Nat.le_refl _) _, _, HR.out⟩
        case measure => simp [intOf]; omega
      · go_wp2
        go_ret
        obtain rfl : k = n := by omega
        exact ⟨rfl, hbr, blk, ⟨HAR.out.1.filled, fun i hi => (HAR.out.2.1 i hi).2⟩, fun i hi => (HAR.out.2.1 i hi).1, HAR.out.2.2⟩
set_option maxHeartbeats 400000 in
theorem toProcS_nil (ao : Option Addr) (cap : Nat) (Q : Nat → PI) (w : World) :
    Calls Try.prog 7 #[.slice ao 0 cap] w fun e w' => e = .returned (.slice (some ⟨w.heap.size, 0, none⟩) 0 0) ∧ Below w.heap.size w w' ∧ ∃ blk, PCp w' w.heap.size 0 (fun i => (Q i).pv) blk ∧ Pord w.heap.size 0 blk := by
  obtain ⟨i0, hi, hz0, hz1, hz2⟩ := info_parts info_proc
  go_enter Try.func7, Try.ntmps7
  go_wp2_with (first | (at_make; refine wpList_make_full _ rfl _ _ 27 rfl w.heap.size 42 i0 _ 1 Try.underlying27 hi hz0 hz1 .i64 .i64 _ _ 0 rfl rfl ?c1 ?c2 ?c3 ?c4 ?c5 ?_) | go_in)
  case c1 => rfl
  case c2 => rfl
  case c3 => rw [hz2]; omega
  case c4 => unfold maxLen; omega
  case c5 => exact Nat.le_refl _
  · intro w1 hown hgrow
    have hbel : Below w.heap.size w w1 := (Below.refl _ _).grown hgrow (Nat.le_refl _) (by intro k hk; cases hk)
    have harr : Arr w1 w.heap.size 0 (pF (fun i => (Q i).pv) (fun _ => 0)) := by
      have := Arr.made (z := pF (fun i => (Q i).pv) (fun _ => 0)) hown fun i hi => by omega
      rwa [Nat.zero_mul] at this
    have HX : Hid (Below w.heap.size w w1 ∧ PCp w1 w.heap.size 0 (fun i => (Q i).pv) (fun _ => 0)) := ⟨hbel, harr, fun i hi => by omega⟩
    clear hown hgrow hi hz0 hz1 hz2 hbel harr
    go_wp2
    refine wp_loop_rounds 1 ?_
    rw [rounds_succ]
    go_wp2
    go_ret
    exact ⟨rfl, HX.out.1, _, HX.out.2, fun i hi => by omega, fun i j _ hj => by omega⟩
theorem toProcS_in (ao : Option Addr) (n cap : Nat) (Q : Nat → PI) (w : World) (hn : n ≤ 1048576) (h : InRow w ao n (piF Q)) (hin : ∀ i, i < n → (Q i).len ≤ 1048576 ∧ InRow w (Q i).ao ((Q i).len * 11) (stF (Q i).L)) :
    Calls Try.prog 7 #[.slice ao n cap] w fun e w' => e = .returned (.slice (some ⟨w.heap.size, 0, none⟩) n n) ∧ Below w.heap.size w w' ∧ ∃ blk, PCp w' w.heap.size n (fun i => (Q i).pv) blk ∧ Pord w.heap.size n blk := by
  rcases h with h | ⟨b, off, rfl, h⟩
  · obtain rfl : n = 0 := by omega
    exact toProcS_nil ao cap Q w
  · exact toProcS_at b off n cap Q w hn h hin

set_option maxHeartbeats 400000 in
theorem eqProc_same (b len cap b' cap' : Nat) (L : Nat → SV) (w : World) (hlen : len ≤ 1048576) (hat : Arr w b (len * 11) (stF L)) (hat' : Arr w b' (len * 11) (stF L)) :
    Calls Try.prog 22 #[.agg #[.slice (some ⟨b, 0, none⟩) len cap], .agg #[.slice (some ⟨b', 0, none⟩) len cap']] w fun e w' => e = .returned (.bool true) ∧ Below w.heap.size w w' := by
  have HA : Hid (Arr w b (len * 11) (stF L)) := hat
  have HA' : Hid (Arr w b' (len * 11) (stF L)) := hat'
  clear hat hat'
  go_enter Try.func22, Try.ntmps22
  go_wp2_with fail
  refine (eqStmtS_same _ _ _ _ _ _ _ L _ hlen ?h1 ?h2).mono ?_
  case h1 => exact HA.out.at.below (((Below.refl _ _).alloc (Nat.le_refl _) _).alloc (by simp) _) HA.out.lt
  case h2 => exact HA'.out.at.below (((Below.refl _ _).alloc (Nat.le_refl _) _).alloc (by simp) _) HA'.out.lt
  rintro e w1 ⟨rfl, hb1⟩
  go_wp2
  go_ret
  exact ⟨rfl, (((Below.refl _ _).alloc (Nat.le_refl _) _).alloc (by simp) _).trans (hb1.mono (by simp; omega))⟩

set_option maxHeartbeats 4000000 in
theorem eqProcS_same (n cap B B' cap' : Nat) (Pv : Nat → PV) (blk blk' : Nat → Nat) (w : World) (hn : n ≤ 1048576) (hlen : ∀ i, i < n → (Pv i).n ≤ 1048576) (hc : PCp w B n Pv blk) (hc' : PCp w B' n Pv blk') :
    Calls Try.prog 10 #[.slice (some ⟨B, 0, none⟩) n cap, .slice (some ⟨B', 0, none⟩) n cap'] w fun e w' => e = .returned (.bool true) ∧ Below w.heap.size w w' := by
  have hb := hc.r.lt
  have hb' := hc'.r.lt
  have HA : Hid (PCp w B n Pv blk) := hc
  have HA' : Hid (PCp w B' n Pv blk') := hc'
  have HL : Hid (∀ i, i < n → (Pv i).n ≤ 1048576) := hlen
  clear hc hc' hlen
  go_enter Try.func10, Try.ntmps10
  go_wp2
  go_loopw [5] (fun i wr => ∃ k : Nat, k ≤ n ∧ i = .int .i64 k ∧ Below w.heap.size w wr) (fun i _ => n - (intOf i).toNat)
  case atStart => exact ⟨0, Nat.zero_le _, rfl, Below.refl _ _⟩
  case round =>
    obtain ⟨k, hk, rfl, hbr⟩ := hrel
    by_cases hlt : k < n
    · have g0 : wr.cell? ⟨B, k, none⟩ = some (.slice (some ⟨blk k, 0, none⟩) (Pv k).n (Pv k).n) := (hbr.cell (p := ⟨B, k, none⟩) hb).trans (HA.out.r.cell (i := k) hlt)
      have q0 : wr.cell? ⟨B', k, none⟩ = some (.slice (some ⟨blk' k, 0, none⟩) (Pv k).n (Pv k).n) := (hbr.cell (p := ⟨B', k, none⟩) hb').trans (HA'.out.r.cell (i := k) hlt)
      have hlt' : (k : Int) < (n : Int) := by omega
      go_wp2_with fail
      go_region_with (go_at_call 22; refine (eqProc_same _ _ _ _ _ (Pv k).L _ (HL.out k hlt) ((HA.out.b k hlt).below hbr.drew (HA.out.b k hlt).lt) ((HA'.out.b k hlt).below hbr.drew (HA'.out.b k hlt).lt)).mono ?_; rintro e w' ⟨rfl, hb2⟩)
      all_goals
        clear g0 q0
        go_wp2
        go_roundw
        case rel => exact ⟨k + 1, by omega, by go_num, hbr.drew.trans (hb2.mono hbr.size)⟩
        case measure => simp [intOf]; omega
    · go_wp2
      go_ret
      exact ⟨rfl, hbr⟩

set_option maxHeartbeats 400000 in
theorem szStmtS_ok (ao : Option Addr) (len cap : Nat) (left : Int) (w : World) (hlo : (len : Int) ≤ left) (hhi : left ≤ 1048576) :
    Calls Try.prog 26 #[.slice ao len cap, .int .i64 left] w fun e w' => e = .returned (.int .i64 (left - len)) ∧ w' = w := by
  go_enter Try.func26, Try.ntmps26
  go_wp2
  go_ret
  exact ⟨rfl, rfl⟩
set_option maxHeartbeats 400000 in
theorem szStmtS_no (ao : Option Addr) (len cap : Nat) (left : Int) (w : World) (h0 : 0 ≤ left) (hlo : left < (len : Int)) (hm : len ≤ 9223372036854775807) :
    Calls Try.prog 26 #[.slice ao len cap, .int .i64 left] w fun e w' => e = .returned (.int .i64 (-1)) ∧ w' = w := by
  go_enter Try.func26, Try.ntmps26
  go_wp2
  go_ret
  exact ⟨rfl, rfl⟩
set_option maxHeartbeats 400000 in
theorem szProc_ok (ao : Option Addr) (len cap : Nat) (left : Int) (w : World) (hlo : (len : Int) ≤ left) (hhi : left ≤ 1048576) :
    Calls Try.prog 17 #[.agg #[.slice ao len cap], .int .i64 left] w fun e w' => e = .returned (.int .i64 (left - len)) ∧ Below w.heap.size w w' := by
  go_enter Try.func17, Try.ntmps17
  go_wp2_with fail
  refine (szStmtS_ok _ _ _ _ _ hlo hhi).mono ?_
  rintro e w1 ⟨rfl, rfl⟩
  go_wp2
  go_ret
  exact ⟨rfl, (Below.refl _ _).alloc (Nat.le_refl _) _⟩
set_option maxHeartbeats 400000 in
theorem szProc_no (ao : Option Addr) (len cap : Nat) (left : Int) (w : World) (h0 : 0 ≤ left) (hlo : left < (len : Int)) (hm : len ≤ 9223372036854775807) :
    Calls Try.prog 17 #[.agg #[.slice ao len cap], .int .i64 left] w fun e w' => e = .returned (.int .i64 (-1)) ∧ Below w.heap.size w w' := by
  go_enter Try.func17, Try.ntmps17
  go_wp2_with fail
  refine (szStmtS_no _ _ _ _ _ h0 hlo hm).mono ?_
  rintro e w1 ⟨rfl, rfl⟩
  go_wp2
  go_ret
  exact ⟨rfl, (Below.refl _ _).alloc (Nat.le_refl _) _⟩
/-- What a measure answers: -1, or what is left; then all that was measured is small. -/
def LeftU (r left : Int) (small : Prop) : Prop := r = -1 ∨ (0 ≤ r ∧ r ≤ left ∧ small)

set_option maxHeartbeats 400000 in
theorem szProcS_at (b off n cap : Nat) (Q : Nat → PI) (left : Int) (w : World) (h0 : (n : Int) ≤ left) (h1 : left ≤ 1048576) (hat : At w b off n (piF Q)) (hm : ∀ i, i < n → (Q i).len ≤ 9223372036854775807) :
    Calls Try.prog 5 #[.slice (some ⟨b, off, none⟩) n cap, .int .i64 left] w fun e w' => ∃ r, e = .returned (.int .i64 r) ∧ LeftU r left (∀ i, i < n → (Q i).len ≤ 1048576) ∧ Below w.heap.size w w' := by
  have hb := hat.lt
  have HA : Hid (At w b off n (piF Q)) := hat
  have HM : Hid (∀ i, i < n → (Q i).len ≤ 9223372036854775807) := hm
  clear hat hm
  go_enter Try.func5, Try.ntmps5
  go_wp2
  go_loopw [1, 5] (fun l i wr => ∃ (k : Nat) (r : Int), k ≤ n ∧ i = .int .i64 k ∧ l = .int .i64 r ∧ 0 ≤ r ∧ r ≤ left ∧ Below w.heap.size w wr ∧ ∀ i, i < k → (Q i).len ≤ 1048576) (fun _ i _ => n - (intOf i).toNat)
  case atStart => exact ⟨0, _, Nat.zero_le _, rfl, rfl, by omega, by omega, Below.refl _ _, fun i hi => by omega⟩
  case round =>
    obtain ⟨k, r, hk, rfl, rfl, hr0, hr1, hbr, hsm⟩ := hrel
    have HS : Hid (∀ i, i < k → (Q i).len ≤ 1048576) := hsm
    clear hsm
    by_cases hlt : k < n
    · have g0 : wr.cell? ⟨b, off + k, none⟩ = some (.slice (Q k).ao (Q k).len (Q k).cap) := (hbr.cell (p := ⟨b, off + k, none⟩) hb).trans (HA.out.cell (i := k) hlt)
      go_wp2_with fail
      by_cases hs : ((Q k).len : Int) ≤ r
      · refine (szProc_ok _ _ _ _ _ hs (by omega)).mono ?_
        rintro e w1 ⟨rfl, hb1⟩
        clear g0
        go_wp2
        go_roundw
        case rel => exact ⟨k + 1, r - (Q k).len, by omega, by go_num, rfl, by omega, by omega, hbr.trans (hb1.mono hbr.size), fun i hi => by
          by_cases e : i = k
          · subst e; omega
          · exact HS.out i (by omega)⟩
        case measure => simp [intOf]; omega
      · refine (szProc_no _ _ _ _ _ hr0 (by omega) (HM.out k hlt)).mono ?_
        rintro e w1 ⟨rfl, hb1⟩
        clear g0
        go_wp2
        go_ret
        exact ⟨_, rfl, .inl rfl, hbr.trans (hb1.mono hbr.size)⟩
    · go_wp2
      go_ret
      obtain rfl : k = n := by omega
      exact ⟨_, rfl, .inr ⟨hr0, hr1, HS.out⟩, hbr⟩
set_option maxHeartbeats 400000 in
theorem szProcS_no (ao : Option Addr) (n cap : Nat) (left : Int) (w : World) (h0 : 0 ≤ left) (hlo : left < (n : Int)) (hm : n ≤ 9223372036854775807) :
    Calls Try.prog 5 #[.slice ao n cap, .int .i64 left] w fun e w' => e = .returned (.int .i64 (-1)) ∧ Below w.heap.size w w' := by
  go_enter Try.func5, Try.ntmps5
  go_wp2
  go_ret
  exact ⟨rfl, Below.refl _ _⟩
set_option maxHeartbeats 400000 in
theorem szProcS_nil (ao : Option Addr) (cap : Nat) (left : Int) (w : World) (h0 : 0 ≤ left) (h1 : left ≤ 1048576) :
    Calls Try.prog 5 #[.slice ao 0 cap, .int .i64 left] w fun e w' => e = .returned (.int .i64 left) ∧ Below w.heap.size w w' := by
  go_enter Try.func5, Try.ntmps5
  go_wp2
  refine wp_loop_rounds 1 ?_
  rw [rounds_succ]
  go_wp2
  go_ret
  exact ⟨rfl, Below.refl _ _⟩
theorem szProcS_any (ao : Option Addr) (n cap : Nat) (Q : Nat → PI) (left : Int) (w : World) (h0 : 0 ≤ left) (h1 : left ≤ 1048576) (hn : n ≤ 9223372036854775807) (h : InRow w ao n (piF Q)) (hm : ∀ i, i < n → (Q i).len ≤ 9223372036854775807) :
    Calls Try.prog 5 #[.slice ao n cap, .int .i64 left] w fun e w' => ∃ r, e = .returned (.int .i64 r) ∧ LeftU r left (n ≤ 1048576 ∧ ∀ i, i < n → (Q i).len ≤ 1048576) ∧ Below w.heap.size w w' := by
  by_cases hl : (n : Int) ≤ left
  · rcases h with h | ⟨b, off, rfl, h⟩
    · obtain rfl : n = 0 := by omega
      refine (szProcS_nil ao cap left w h0 h1).mono ?_
      rintro e w1 ⟨rfl, hb⟩
      exact ⟨_, rfl, .inr ⟨h0, Int.le_refl _, by omega, fun i hi => by omega⟩, hb⟩
    · refine (szProcS_at b off n cap Q left w hl h1 h hm).mono ?_
      rintro e w1 ⟨r, rfl, hr, hb⟩
      refine ⟨r, rfl, ?_, hb⟩
      rcases hr with hr | ⟨a, b, c⟩
      · exact .inl hr
      · exact .inr ⟨a, b, by omega, c⟩
  · refine (szProcS_no ao n cap left w h0 (by omega) hn).mono ?_
    rintro e w1 ⟨rfl, hb⟩
    exact ⟨_, rfl, .inl rfl, hb⟩

set_option maxHeartbeats 400000 in
theorem eqUnitRes_same (a b c : Int) (w : World) :
    Calls Try.prog 9 #[.agg #[.int .i64 a, .int .i64 b, .int .i64 c], .agg #[.int .i64 a, .int .i64 b, .int .i64 c]] w fun e w' => e = .returned (.bool true) ∧ Below w.heap.size w w' := by
  go_enter Try.func9, Try.ntmps9
  go_wp2
  go_ret
  exact ⟨rfl, ((Below.refl _ _).alloc (Nat.le_refl _) _).alloc (by simp) _⟩
end Go.Proofs.Ythicfjjaehkcnaa
