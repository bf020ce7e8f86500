import Derived.Test.YtkckomianknjdaaGreatOfCoreF
import Derived.Test.YtkckomianknjdaaGreatRows
import Derived.WalkLawsBesides
import Derived.Deep.QuietTactic
import Derived.BigQuiet
import Derived.Deep.RegionWith
import Derived.BigRegion
namespace Go.Proofs.YtkckomianknjdaaGreat
open Go.RowKit
def Dk(blk:Nat->Nat)(k C i:Nat):Nat:=if i=k then C else blk i
theorem Fq(a:Nat->Nat)(k C:Nat):Dk a k C k=C:=by simp[Dk]
theorem QU{S:Nat->Nat}{k C i:Nat}(h:i≠k):Dk S k C i=S i:=by simp[Dk,h]
structure Small(nR nH:Nat)(Hp:Nat->Bj)(nO:Nat):Prop where
 regs:nR<=1048576
 heaps:nH<=1048576
 data:∀i,i<nH->(Hp i).len<=1048576
 obs:nO<=1048576
def Bj.put(h:Bj)(a:Option Addr)(c:Nat):Bj:={h with ao:=a,cap:=c}
def Nl(x:Option Addr)(y n b:Nat):Prop:=(x=none/\n=0/\y=0)∨x=some ⟨b,0,none⟩
theorem Nl.some{x:Option Addr}{y n b:Nat}(h:Nl x y n b)(a:0<n):x=some ⟨b,0,none⟩:=by
 rcases h with⟨_,h,_⟩|h
 ·omega
 ·exact h
structure FN(w:World)(xR:Option Addr)(yR bR nR:Nat)(R:Nat->Int)(xH:Option Addr)(yH bH nH:Nat)(Hp:Nat->Bj)(hA:Nat->Option Addr)(hC:Nat->Nat)(xO:Option Addr)(yO bO nO:Nat)(K V:Nat->Int):Prop where
 regs:BZ w bR nR (EH .u64 R)
 heaps:BZ w bH (nH*3) (CO fun i=>(Hp i).put (hA i) (hC i))
 data:∀i,i<nH->0<(Hp i).len->∃b,hA i=some ⟨b,0,none⟩/\BZ w b (Hp i).len (EH .u8 (Hp i).dat)
 obs:BZ w bO (nO*2) (CR K V)
 eR:Nl xR yR nR bR
 eH:Nl xH yH nH bH
 eO:Nl xO yO nO bO
 cH:nH<=yH
theorem FN.below{w j:World}{B:Nat}{S:Option Addr}{L C nR:Nat}{R:Nat->Int}{N:Option Addr}{Q A o:Nat}{d:Nat->Bj}{hA:Nat->Option Addr}{hC:Nat->Nat}{O:Option Addr}{M J p:Nat}{K V:Nat->Int}(h:FN w S L C nR R N Q A o d hA hC O M J p K V)(c:Below B w j)(a:w.heap.size<=B):FN j S L C nR R N Q A o d hA hC O M J p K V:=
 ⟨h.regs.below c (DY h.regs.lt a),h.heaps.below c (DY h.heaps.lt a),fun i m l=>by
   obtain⟨b,e,k⟩:=h.data i m l;exact⟨b,e,k.below c (DY k.lt a)⟩,h.obs.below c (DY h.obs.lt a),h.eR,h.eH,h.eO,h.cH⟩
end Go.Proofs.YtkckomianknjdaaGreat
