import Derived.Test.YtkckomianknjdaaGreatOfCoreF
import Derived.Test.YtkckomianknjdaaGreatOfUnitFlat0
namespace Go.Proofs.YtkckomianknjdaaGreat
open Go.RowKit
theorem U6:(Tryz.prog.info? 85).map (fun i=>(i.zero,i.size,i.bytes))=some (some (.agg #[Vi 0,Vi 0,Vi 0,Vi 0,Vi 0,Vi 0]),6,48):=Ab
theorem M0(w:World)(b:Array Value)(t:TypeId):∀j u,b.toList[j]?=some u->(w.alloc (.cells b t)).cell? ((⟨w.heap.size,0,none⟩:Addr).add j)=some u:=by
 intro j u a;rw[show((⟨w.heap.size,0,none⟩:Addr).add j)=⟨w.heap.size,j,none⟩by simp[Addr.add];exact fun h=>h.symm];simp at a;simp[go_sem,a]
end Go.Proofs.YtkckomianknjdaaGreat
