import Derived.Test.YtblfmpgdhpbffaaGreatDoorOfOpenRow
import Derived.Test.YtblfmpgdhpbffaaGreatDoorOfInsSame
import Derived.Deep.Cut
import Derived.Deep.RegionHeld3
import Derived.Lib.ItoaNum
namespace Go.Proofs.YtblfmpgdhpbffaaGreatDoor
open Go.RowKit
theorem conv_one(w:World)(c:Int)(h0:0<=c)(h1:c<256):
 (convert 22 9 (.slice (some ⟨w.heap.size,0,none⟩) 1 1)).run Tryz.prog (w.alloc (.cells #[.int .u8 c] 5))=.ok (.string ⟨#[UInt8.ofNat c.toNat]⟩) (w.alloc (.cells #[.int .u8 c] 5)):=
 run_convert_bytes_back (P:=Tryz.prog) _ 22 9 5 ⟨w.heap.size,0,none⟩ 1 [UInt8.ofNat c.toNat] Tryz.underlying22 Tryz.underlying5 Tryz.underlying9 (fun j hj=>by
  obtain rfl:j=0:=by simpa using hj
  simp[go_sem];omega)
theorem hst(r:Nat):UInt8.ofNat (48+(r:Int)).toNat=UInt8.ofNat (48+r):=by congr 1
end Go.Proofs.YtblfmpgdhpbffaaGreatDoor
