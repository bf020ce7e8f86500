import Derived.Test.YtlkjdanoejdgbaaGreatOfCoreF
namespace Go.Proofs.YtlkjdanoejdgbaaGreat
open Go.RowKit
def Cl(w:World)(b:Nat)(vs:List Value):Prop:=b<w.heap.size/\∀i,i<vs.length->w.cell? ⟨b,i,none⟩=some (vs.getD i undef)
theorem Cl.below{w w':World}{b:Nat}{vs:List Value}(h:Cl w b vs)(hb:Below w.heap.size w w'):Cl w' b vs:=
 ⟨Nat.lt_of_lt_of_le h.1 hb.size,fun i hi=>(hb.cell (p:=⟨b,i,none⟩) h.1).trans (h.2 i hi)⟩
theorem Cl.new{w:World}{vs:Array Value}{t:TypeId}:Cl (w.alloc (.cells vs t)) w.heap.size vs.toList:=
 ⟨by simp,fun i hi=>by simp[go_sem,List.getD_eq_getElem?_getD]at hi⊢;simp[hi]⟩
end Go.Proofs.YtlkjdanoejdgbaaGreat
