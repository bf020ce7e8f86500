import Derived.Shelf.Strconv.AppendIntPublic10
import Derived.Shelf.Strings.Fields
import Derived.Shelf.Lay
import Derived.Ground.NamesProg
import Derived.Test.YtblfmpgdhpbffaaGreatDoorRows
import Derived.Shelf.Strings.Split
import Derived.Shelf.Strconv.ErrVarParseInt
import Derived.Shelf.Bytes.SlCut
import Derived.Shelf.Slices.Turned
import Derived.Ground.SlbtProg
import Derived.Shelf.Strings.OnBuilder
import Derived.Shelf.Strings.Builder1
import Derived.Shelf.Strings.Builder2
import Derived.Shelf.Strconv.Itoa4
import Derived.Shelf.LaysM
/- The library's contracts on strconv.AppendInt and strings.Fields, laid at this program. -/
namespace Go.Proofs
open Go.Shelf

shelf_lay Lays.n157 Nm 157 at Tryz as Tryz.laysFi
end Go.Proofs
namespace Go.Proofs.YtblfmpgdhpbffaaGreatDoor
open Go.Proofs
theorem stringsFields_any (s : ByteArray) (w : World) (hs : s.size < 4294967281) (hascii : ∀ (j : Nat) b, s.data.toList[j]? = some b → b.toNat < 128) (htab : Lib.TabIs Tryz.prog w "strings.asciiSpace" .u8 Lib.asciiSpaceTab) :
    Calls Tryz.prog 53 #[.string s] w fun e w' =>
      e = .returned (.slice (some ⟨w.heap.size, 0, none⟩) (Lib.fields s.data.toList).length (Lib.fields s.data.toList).length) ∧ w' = w.alloc (.cells ((Lib.fields s.data.toList).map fun l => Value.string ⟨l.toArray⟩).toArray 9) :=
  Any.strings_Fields Tryz.laysFi (by kernel_rfl) (by kernel_rfl) s w hs hascii htab
end Go.Proofs.YtblfmpgdhpbffaaGreatDoor
/- The library's contracts on strings.Split, strconv.ParseInt, bytes.Cut and slices.Index, laid at this program. -/
namespace Go.Proofs
open Go.Shelf
shelf_lay Lays.n146 Nm 146 at Tryz as Tryz.laysSp
shelf_lay Lays.n109 Nm 109 at Tryz as Tryz.laysIx
shelf_lay LaysC.n174 Nm 174 at Tryz as Tryz.laysPi
shelf_lay SlLaysT.n4 Slbt 4 at Tryz as Tryz.laysCu
end Go.Proofs
/- The library's contracts on strings.Join and strconv.FormatInt, laid at this program. -/
namespace Go.Proofs
open Go.Shelf

shelf_lay Lays.n156 Nm 156 at Tryz as Tryz.laysJo
theorem Tryz.extraJo : Builder.Extra Tryz.prog Tryz.laysJo_ren where
  sizeBuilder := by kernel_rfl
  liesBuilder := by kernel_rfl
  t5 := Tryz.underlying5
  a5 := Tryz.isAgg5
  z5 := Tryz.sizeOf5
  v5 := Tryz.zeroValue5
  infoByte := by kernel_rfl
  cellsByte := by kernel_rfl
  sizeByte := by kernel_rfl
  neB5 := by decide
shelf_lay LaysM.n173 Nm 173 at Tryz as Tryz.laysFo
end Go.Proofs
namespace Go.Proofs.YtblfmpgdhpbffaaGreatDoor
open Go.Proofs
theorem stringsJoin_any (bk o c : Nat) (xs : List ByteArray) (sep : ByteArray) (w : World) (hcells : ∀ (j : Nat) x, xs[j]? = some x → w.cell? ⟨bk, o + j, none⟩ = some (.string x)) (hbk : bk < w.heap.size) (hN : xs.length ≤ 140737488355328) (hcap : xs.length ≤ c) (hlen : (Lib.join (xs.map (·.data.toList)) sep.data.toList).length ≤ 140737488355328) :
    Calls Tryz.prog 63 #[.slice (some ⟨bk, o, none⟩) xs.length c, .string sep] w fun e w' => e = .returned (.string ⟨(Lib.join (xs.map (·.data.toList)) sep.data.toList).toArray⟩) ∧ RowKit.Below w.heap.size w w' := Any.strings_Join Tryz.laysJo Tryz.extraJo bk o c xs sep w hcells hbk hN hcap hlen
theorem formatInt_any (n : Int) (h0 : -9223372036854775808 ≤ n) (h1 : n ≤ 9223372036854775807) (w : World) (htab : Lib.TabIs Tryz.prog w "internal/strconv.uint64pow10" .u64 Lib.pow10Tab) :
    Calls Tryz.prog 93 #[.int .i64 n, .int .i64 10] w fun e w' => e = .returned (.string ⟨(Lib.itoa n).toArray⟩) ∧ ∃ k os, w' = Sort.grow (w.drewN k) os := Any.strconv_FormatInt_10 Tryz.laysFo n h0 h1 w htab
end Go.Proofs.YtblfmpgdhpbffaaGreatDoor
