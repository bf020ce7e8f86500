import Derived.Test.YtiphbmhoifggiaaGreatDoorAsmShow
import Derived.Test.YtiphbmhoifggiaaGreatDoorOfFlatAny
import Derived.Lib.AppendIntMem
import Derived.Maps.AppendAt
import Derived.OwnWalk
import Derived.Lib.BufferWrite
import Derived.Deep.Onto
/- spec.PrintAsm. -/
namespace Go.Proofs.YtiphbmhoifggiaaGreatDoor
open Go.RowKit

/-- Whether some jump goes to instruction i. -/
def reachB (F : Nat → Nat → Int) (i : Nat) (k : Nat) : Bool := (List.range k).any fun j => jumpB (F j 0) && (F j 4 == (i : Int))
theorem reach_step (F : Nat → Nat → Int) (i k : Nat) : reachB F i (k + 1) = (reachB F i k || (jumpB (F k 0) && (F k 4 == (i : Int)))) := by
  unfold reachB; rw [List.range_succ, List.any_append]; simp
def lineAt (d : Int) (len : Nat) (F : Nat → Nat → Int) (i : Nat) : List UInt8 :=
  (if reachB F i len = true then (labS d i ++ ⟨#[10]⟩).data.toList else []) ++ (lineS d (F i 0) (F i 1) (F i 2) (F i 3) (F i 4) (F i 5) ++ ⟨#[10]⟩).data.toList
def txt (d : Int) (len : Nat) (F : Nat → Nat → Int) : Nat → List UInt8
  | 0 => []
  | k + 1 => txt d len F k ++ lineAt d len F k

theorem row_belowB {w w' : World} {base e size n : Nat} {v : Value} {xs : List Value} (h : w.ownsRow base e size v n xs) (hb : Below w.heap.size w w') : w'.ownsRow base e size v n xs := by
  refine ⟨h.1, ?_⟩
  rcases h.2 with h | ⟨g, cap, cur, rfl, h1, h2, h3⟩
  · exact .inl h
  · have hg : g < w.heap.size := (Array.getElem?_eq_some_iff.1 h2).1
    exact .inr ⟨g, cap, cur, rfl, h1, (hb.block g hg).trans h2, h3⟩
theorem info_u8 : (Tryz.prog.info? 5).map (fun i => (i.zero, i.size, i.bytes)) = some (some (.int .u8 0), 1, 1) := by kernel_rfl
theorem heap_alloc_newB (w : World) (o : Obj) : (w.alloc o).heap[w.heap.size]? = some o := by simp only [World.alloc]; simp
theorem conv_str (W : World) (s : ByteArray) : ∃ cp W2, (convert 9 30 (.string s)).run Tryz.prog W = .ok (.slice (some ⟨W.heap.size, 0, none⟩) s.size cp) W2 ∧ Below W.heap.size W W2 ∧ ∀ j u, (Lib.byteCells s.data.toList)[j]? = some u → W2.cell? ((⟨W.heap.size, 0, none⟩ : Addr).add j) = some u := by
  refine ⟨_, _, run_bytes_of_string W 9 30 5 s Tryz.underlying9 Tryz.underlying30 Tryz.underlying5, (Below.refl _ _).drew.alloc (Nat.le_refl _) _, ?_⟩
  intro j u hj
  have hjl : j < s.data.size := by
    have := (List.getElem?_eq_some_iff.1 hj).1
    simpa [Lib.byteCells] using this
  have e : u = .int .u8 (s.data[j].toNat : Int) := by
    simp only [Lib.byteCells, List.getElem?_map, Array.getElem?_toList, Array.getElem?_eq_getElem hjl, Option.map_some, Option.some.injEq] at hj
    exact hj.symm
  have h1 := bytesRow_at s (grownCap W s.size 0 5) j hjl
  rw [e]
  have h2 := heap_alloc_newB W.drew (.cells (bytesRow s (grownCap W s.size 0 5)) 5 ((bytesRow s (grownCap W s.size 0 5)).size, (bytesRow s (grownCap W s.size 0 5)).size + 1))
  have h3 : W.drew.heap.size = W.heap.size := rfl
  rw [h3] at h2
  have h4 : (⟨W.heap.size, 0, none⟩ : Addr).add j = ⟨W.heap.size, j, none⟩ := by unfold Addr.add; split <;> simp_all
  rw [h4]
  unfold World.cell?
  simp only [h2]
  exact h1
theorem labS_size (d : Int) (n : Nat) : (labS d n).size ≤ n + 6 := by
  have := digS_size n
  unfold labS
  simp only [ByteArray.size_append]
  have h1 : (if d = 0 then (⟨#[46, 76]⟩ : ByteArray) else ⟨#[76]⟩).size ≤ 2 := ite_size (by decide) (by decide)
  have h2 : (⟨#[58]⟩ : ByteArray).size = 1 := rfl
  omega
theorem flat_parts {len : Nat} {F : Nat → Nat → Int} (h : flatOK len F = true) : 1 ≤ len ∧ len ≤ 2000 ∧ ∀ i, i < len → flatAt len F i = true := by
  unfold flatOK at h
  simp only [Bool.and_eq_true, decide_eq_true_eq, List.all_eq_true, List.mem_range] at h
  exact ⟨h.1.1.1, h.1.1.2, fun i hi => h.1.2 i hi⟩
theorem field_bound {u : Bool} {v lo hi : Int} (h : fieldB u v lo hi = true) (h1 : -1000000 ≤ lo) (h2 : hi ≤ 1000000) : v.natAbs < 1000001 := by
  unfold fieldB inB at h
  split at h
  · simp only [Bool.and_eq_true, decide_eq_true_eq] at h; omega
  · rw [beq_iff_eq] at h; omega
theorem immLo_ge (op : Int) : -1000000 ≤ immLo op := by unfold immLo; split <;> omega
theorem immHi_le (op : Int) : immHi op ≤ 1000000 := by unfold immHi; repeat' split
                                                       all_goals omega
theorem ins_parts {len : Nat} {F : Nat → Nat → Int} {i : Nat} (h : flatAt len F i = true) : 1 ≤ F i 0 ∧ F i 0 ≤ 34 ∧ (F i 1).natAbs < 1000001 ∧ (F i 2).natAbs < 1000001 ∧ (F i 3).natAbs < 1000001 ∧ (F i 4).natAbs < 1000001 ∧ (F i 5).natAbs < 1000001 := by
  unfold flatAt insOK implIns at h
  simp only [Bool.and_eq_true] at h
  obtain ⟨⟨⟨⟨⟨⟨h0, h1⟩, h2⟩, h3⟩, h4⟩, h5⟩, _⟩ := h
  unfold inB at h0
  simp only [Bool.and_eq_true, decide_eq_true_eq] at h0
  exact ⟨h0.1, h0.2, field_bound h1 (by omega) (by omega), field_bound h2 (by omega) (by omega), field_bound h3 (by omega) (by omega), field_bound h4 (immLo_ge _) (immHi_le _), field_bound h5 (by omega) (by omega)⟩
theorem lineS_size (d op dd a b i h : Int) (hd : dd.natAbs < 1000001) (ha : a.natAbs < 1000001) (hb : b.natAbs < 1000001) (hi : i.natAbs < 1000001) (hh : h.natAbs < 1000001) : (lineS d op dd a b i h).size ≤ 31000000 := by
  have h1 := rend_size _ _ (rb_size dd a b i h hd ha hb hi hh) (shpS d op).data.toList (begS d op)
  have h2 := shpS_size d op
  have h3 : (begS d op).size ≤ 12 := by
    have := nmS_size op
    unfold begS
    apply ite_size
    · omega
    · simp only [ByteArray.size_append]; show (nmS op).size + 1 ≤ 12; omega
  have h4 : (shpS d op).data.toList.length ≤ 30 := h2
  have h5 := Nat.mul_le_mul_right 1000003 h4
  show (rendS _ _ _).size ≤ _
  omega
theorem bc_len (s : ByteArray) : (Lib.byteCells s.data.toList).length = s.size := by simp [Lib.byteCells]
theorem app_len (l m : List UInt8) : Lib.byteCells l ++ Lib.byteCells m = Lib.byteCells (l ++ m) := by simp [Lib.byteCells]

/-- What is printed. -/
def prT (d : Int) (len : Nat) (F : Nat → Nat → Int) : List UInt8 := if (flatOK len F && inB d 0 1) = true then txt d len F len else []
end Go.Proofs.YtiphbmhoifggiaaGreatDoor
