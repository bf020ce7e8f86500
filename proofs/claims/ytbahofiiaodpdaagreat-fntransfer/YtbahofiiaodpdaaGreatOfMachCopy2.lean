import Derived.Test.YtbahofiiaodpdaaGreatRows
import Derived.Test.YtbahofiiaodpdaaGreatOfCl
import Derived.WalkLawsBesides
import Derived.Deep.QuietTactic
import Derived.BigQuiet
import Derived.Deep.RegionWith
import Derived.BigRegion
namespace Go.Proofs.YtbahofiiaodpdaaGreat
open Go.RowKit
structure Small(nR nH:Nat)(Hp:Nat->HeapV)(nO:Nat):Prop where
 regs:nR<=1048576
 heaps:nH<=1048576
 data:∀i,i<nH->(Hp i).len<=1048576
 obs:nO<=1048576
def HeapV.put(h:HeapV)(a:Option Addr)(c:Nat):HeapV:={h with ao:=a,cap:=c}
def Nl(x:Option Addr)(y n b:Nat):Prop:=(x=none/\n=0/\y=0)∨x=some ⟨b,0,none⟩
theorem Nl.some{x:Option Addr}{y n b:Nat}(h:Nl x y n b)(hn:0<n):x=some ⟨b,0,none⟩:=by
 rcases h with⟨_,h,_⟩|h
 ·omega
 ·exact h
structure MachG(w:World)(xR:Option Addr)(yR bR nR:Nat)(R:Nat->Int)(xH:Option Addr)(yH bH nH:Nat)(Hp:Nat->HeapV)(hA:Nat->Option Addr)(hC:Nat->Nat)(xO:Option Addr)(yO bO nO:Nat)(K V:Nat->Int):Prop where
 regs:Arr w bR nR (numF .u64 R)
 heaps:Arr w bH (nH*3) (heapF fun i=>(Hp i).put (hA i) (hC i))
 data:∀i,i<nH->0<(Hp i).len->∃b,hA i=some ⟨b,0,none⟩/\Arr w b (Hp i).len (numF .u8 (Hp i).dat)
 obs:Arr w bO (nO*2) (obsF K V)
 eR:Nl xR yR nR bR
 eH:Nl xH yH nH bH
 eO:Nl xO yO nO bO
 cH:nH<=yH
theorem MachG.below{w w':World}{B:Nat}{xR:Option Addr}{yR bR nR:Nat}{R:Nat->Int}{xH:Option Addr}{yH bH nH:Nat}{Hp:Nat->HeapV}{hA:Nat->Option Addr}{hC:Nat->Nat}{xO:Option Addr}{yO bO nO:Nat}{K V:Nat->Int}(h:MachG w xR yR bR nR R xH yH bH nH Hp hA hC xO yO bO nO K V)(hb:Below B w w')(hB:w.heap.size<=B):MachG w' xR yR bR nR R xH yH bH nH Hp hA hC xO yO bO nO K V:=
 ⟨h.regs.below hb (Nat.lt_of_lt_of_le h.regs.lt hB),h.heaps.below hb (Nat.lt_of_lt_of_le h.heaps.lt hB),fun i hi h0=>by
   obtain⟨b,e,ha⟩:=h.data i hi h0;exact⟨b,e,ha.below hb (Nat.lt_of_lt_of_le ha.lt hB)⟩,h.obs.below hb (Nat.lt_of_lt_of_le h.obs.lt hB),h.eR,h.eH,h.eO,h.cH⟩
end Go.Proofs.YtbahofiiaodpdaaGreat
