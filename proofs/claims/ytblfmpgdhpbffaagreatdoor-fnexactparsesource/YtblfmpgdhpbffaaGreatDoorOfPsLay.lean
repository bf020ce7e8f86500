import Derived.Shelf.Strconv.AppendIntPublic10
import Derived.Shelf.Strings.Fields
import Derived.Test.YtblfmpgdhpbffaaGreatDoorRows
import Derived.Shelf.Strings.Split
import Derived.Shelf.Strconv.ErrVarParseInt
import Derived.Shelf.Bytes.SlCut
import Derived.Shelf.Slices.Turned
import Derived.Shelf.Strings.OnBuilder
import Derived.Shelf.Strings.Builder1
import Derived.Shelf.Strings.Builder2
import Derived.Shelf.Strconv.Itoa4
import Derived.Shelf.LaysM
namespace Go.Proofs.YtblfmpgdhpbffaaGreatDoor
namespace Go.Proofs
open Go.Shelf
end Go.Proofs
open Go.Proofs
theorem stringsFields_any(s:ByteArray)(w:World)(hs:s.size<4294967281)(hascii:∀(j:Nat)b,s.data.toList[j]?=some b->b.toNat<128)(htab:Lib.TabIs Tryz.prog w "strings.asciiSpace" .u8 Lib.asciiSpaceTab):
 Calls Tryz.prog 53 #[.string s] w fun e w'=>
  e=.returned (.slice (some ⟨w.heap.size,0,none⟩) (Lib.fields s.data.toList).length (Lib.fields s.data.toList).length)/\w'=w.alloc (.cells ((Lib.fields s.data.toList).map fun l=>Value.string ⟨l.toArray⟩).toArray 9):=
 Any.strings_Fields Tryz.laysFi (by kernel_rfl) (by kernel_rfl) s w hs hascii htab
namespace Go.Proofs
open Go.Shelf
end Go.Proofs
namespace Go.Proofs
open Go.Shelf
end Go.Proofs
open Go.Proofs
theorem stringsJoin_any(bk o c:Nat)(xs:List ByteArray)(sep:ByteArray)(w:World)(hcells:∀(j:Nat)x,xs[j]?=some x->w.cell? ⟨bk,o+j,none⟩=some (.string x))(hbk:bk<w.heap.size)(hN:xs.length<=140737488355328)(hcap:xs.length<=c)(hlen:(Lib.join (xs.map (·.data.toList)) sep.data.toList).length<=140737488355328):
 Calls Tryz.prog 63 #[.slice (some ⟨bk,o,none⟩) xs.length c,.string sep] w fun e w'=>e=.returned (.string ⟨(Lib.join (xs.map (·.data.toList)) sep.data.toList).toArray⟩)/\RowKit.Below w.heap.size w w':=Any.strings_Join Tryz.laysJo Tryz.extraJo bk o c xs sep w hcells hbk hN hcap hlen
theorem formatInt_any(n:Int)(h0: -9223372036854775808<=n)(h1:n<=9223372036854775807)(w:World)(htab:Lib.TabIs Tryz.prog w "internal/strconv.uint64pow10" .u64 Lib.pow10Tab):
 Calls Tryz.prog 93 #[.int .i64 n,.int .i64 10] w fun e w'=>e=.returned (.string ⟨(Lib.itoa n).toArray⟩)/\∃k os,w'=Sort.grow (w.drewN k) os:=Any.strconv_FormatInt_10 Tryz.laysFo n h0 h1 w htab
end Go.Proofs.YtblfmpgdhpbffaaGreatDoor
