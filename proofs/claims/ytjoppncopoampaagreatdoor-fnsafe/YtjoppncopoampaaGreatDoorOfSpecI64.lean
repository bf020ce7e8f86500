import Derived.Test.YtjoppncopoampaaGreatDoorOfCoreReg
import Derived.Test.YtjoppncopoampaaGreatDoorOfSpecDo
import Derived.Test.YtjoppncopoampaaGreatDoorOfBytes
namespace Go.Proofs.YtjoppncopoampaaGreatDoor
open Go.RowKit
theorem kG(x y:Int):IntKind.u64.wrap (x-y)=Ep x y:=rfl
section
variable{w:World}{base:Nat}{p:Pl}{M:MV}
end
structure Off(p:Pl)(nH nO k:Nat):Prop where
 r:k≠p.bR
 h:(Value.slice p.aH nH p.cH).ownBlock≠some k
 d:∀i,i<nH->p.blk i≠k
 o:(Value.slice p.aO nO p.cO).ownBlock≠some k
theorem Mem.setOff{w:World}{l:Nat}{p:Pl}{M:MV}(h:Mem w l p M){k:Nat}(a:Off p M.nH M.nO k)(o:Nat)(v:Value):Mem (w.setCell (Va k o) v) l p M:=
 ⟨ownsRow_setCell_other h.regs (by simpa[Value.ownBlock]using Ne.symm a.r) v,ownsRow_setCell_other h.heaps a.h v,fun i b=>ownsRow_setCell_other (h.data i b) (by simpa[Value.ownBlock]using a.d i b) v,ownsRow_setCell_other h.obs a.o v,h.ne⟩
section
variable{w:World}{base:Nat}{p:Pl}{M:MV}
end
end Go.Proofs.YtjoppncopoampaaGreatDoor
