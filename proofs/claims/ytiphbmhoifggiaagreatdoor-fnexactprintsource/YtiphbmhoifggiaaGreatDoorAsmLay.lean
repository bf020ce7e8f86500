import Derived.Shelf.Strconv.AppendIntPublic10
import Derived.Shelf.Strings.Fields
import Derived.Shelf.Lay
import Derived.Ground.NamesProg
import Derived.Test.YtiphbmhoifggiaaGreatDoorRows
/- The library's contracts on strconv.AppendInt and strings.Fields, laid at this program. -/
namespace Go.Proofs
open Go.Shelf

shelf_lay LaysM.n176 Nm 176 at Tryz as Tryz.laysAI
shelf_lay Lays.n157 Nm 157 at Tryz as Tryz.laysFi
end Go.Proofs
namespace Go.Proofs.YtiphbmhoifggiaaGreatDoor
open Go.Proofs
theorem appendInt_any (B n : Nat) (i : Int) (h0 : -9223372036854775808 ≤ i) (h1 : i ≤ 9223372036854775807) (sv : Value) (xs : List Value) (w : World) (hown : w.ownsRow B 5 1 sv n xs) (hBw : B ≤ w.heap.size) (hlim : n + 21 ≤ 140737488355328)
    (htab : Lib.TabBelow Tryz.prog B w "internal/strconv.uint64pow10" .u64 Lib.pow10Tab) :
    Calls Tryz.prog 101 #[sv, .int .i64 i, .int .i64 10] w fun e w' => ∃ v', e = .returned v' ∧ w'.ownsRow B 5 1 v' (n + (Lib.itoa i).length) (xs ++ Lib.byteCells (Lib.itoa i)) ∧ RowKit.Below B w w' ∧ Lib.OthersKept 5 none w w' := Any.strconv_AppendInt_10 Tryz.laysAI B n i h0 h1 sv xs w hown hBw hlim htab
theorem stringsFields_any (s : ByteArray) (w : World) (hs : s.size < 4294967281) (hascii : ∀ (j : Nat) b, s.data.toList[j]? = some b → b.toNat < 128) (htab : Lib.TabIs Tryz.prog w "strings.asciiSpace" .u8 Lib.asciiSpaceTab) :
    Calls Tryz.prog 51 #[.string s] w fun e w' =>
      e = .returned (.slice (some ⟨w.heap.size, 0, none⟩) (Lib.fields s.data.toList).length (Lib.fields s.data.toList).length) ∧ w' = w.alloc (.cells ((Lib.fields s.data.toList).map fun l => Value.string ⟨l.toArray⟩).toArray 9) :=
  Any.strings_Fields Tryz.laysFi (by kernel_rfl) (by kernel_rfl) s w hs hascii htab
end Go.Proofs.YtiphbmhoifggiaaGreatDoor
