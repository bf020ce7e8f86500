import Derived.Test.YtcjnmdgomocpgaaGreatDoorOfCoreReg
import Derived.BigQuiet
namespace Go.Proofs.YtcjnmdgomocpgaaGreatDoor
open Go.RowKit
def Dt(blk:Nat->Nat)(k C i:Nat):Nat:=if i=k then C else blk i
theorem GL(a:Nat->Nat)(k C:Nat):Dt a k C k=C:=by simp[Dt]
theorem Rb{M:Nat->Nat}{k C i:Nat}(h:i≠k):Dt M k C i=M i:=by simp[Dt,h]
structure Small(nR nH:Nat)(Hp:Nat->Bv)(nO:Nat):Prop where
 regs:nR<=1048576
 heaps:nH<=1048576
 data:∀i,i<nH->(Hp i).len<=1048576
 obs:nO<=1048576
def Bv.put(h:Bv)(a:Option Addr)(c:Nat):Bv:={h with ao:=a,cap:=c}
def Nl(x:Option Addr)(y n b:Nat):Prop:=(x=none/\n=0/\y=0)∨x=some ⟨b,0,none⟩
theorem Nl.some{x:Option Addr}{y n b:Nat}(h:Nl x y n b)(a:0<n):x=some ⟨b,0,none⟩:=by
 rcases h with⟨_,h,_⟩|h
 ·omega
 ·exact h
structure Hf(w:World)(xR:Option Addr)(yR bR nR:Nat)(R:Nat->Int)(xH:Option Addr)(yH bH nH:Nat)(Hp:Nat->Bv)(hA:Nat->Option Addr)(hC:Nat->Nat)(xO:Option Addr)(yO bO nO:Nat)(K V:Nat->Int):Prop where
 regs:Ak w bR nR (EU .u64 R)
 heaps:Ak w bH (nH*3) (CO fun i=>(Hp i).put (hA i) (hC i))
 data:∀i,i<nH->0<(Hp i).len->∃b,hA i=some ⟨b,0,none⟩/\Ak w b (Hp i).len (EU .u8 (Hp i).dat)
 obs:Ak w bO (nO*2) (Dg K V)
 eR:Nl xR yR nR bR
 eH:Nl xH yH nH bH
 eO:Nl xO yO nO bO
 cH:nH<=yH
theorem Hf.below{w j:World}{B:Nat}{xR:Option Addr}{k D J:Nat}{R:Nat->Int}{a:Option Addr}{c A o:Nat}{m:Nat->Bv}{n:Nat->Option Addr}{U:Nat->Nat}{p:Option Addr}{r L u:Nat}{K V:Nat->Int}(h:Hf w xR k D J R a c A o m n U p r L u K V)(l:Below B w j)(d:w.heap.size<=B):Hf j xR k D J R a c A o m n U p r L u K V:=
 ⟨h.regs.below l (Ey h.regs.lt d),h.heaps.below l (Ey h.heaps.lt d),fun i x s=>by
   obtain⟨b,e,q⟩:=h.data i x s;exact⟨b,e,q.below l (Ey q.lt d)⟩,h.obs.below l (Ey h.obs.lt d),h.eR,h.eH,h.eO,h.cH⟩
end Go.Proofs.YtcjnmdgomocpgaaGreatDoor
