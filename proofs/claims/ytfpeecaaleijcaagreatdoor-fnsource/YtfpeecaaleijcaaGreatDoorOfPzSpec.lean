import Derived.Test.YtfpeecaaleijcaaGreatDoorOfCl
import Derived.Test.YtfpeecaaleijcaaGreatDoorOfPzCell
import Derived.Test.YtfpeecaaleijcaaGreatDoorOfPzBody
import Derived.Test.YtfpeecaaleijcaaGreatDoorOfRdTake
import Derived.Test.YtfpeecaaleijcaaGreatDoorOfInsSame
import Derived.Test.YtfpeecaaleijcaaGreatDoorPzBnd
namespace Go.Proofs.YtfpeecaaleijcaaGreatDoor
open Go.RowKit
theorem Wv:(Tryz.prog.info? 40).map (fun i=>(i.zero,i.size,i.bytes))=some (some (.agg #[Vi 0,.bool false,.bool false]),3,16):=by kernel_rfl
theorem TQ:(Tryz.prog.info? 89).map (fun i=>(i.zero,i.size,i.bytes))=some (some (.agg #[Vi 0,Vi 0,Vi 0,Vi 0,Vi 0,Vi 0,Vi 0,Vi 0,Vi 0,Vi 0,Vi 0]),11,88):=by kernel_rfl
theorem Inv.add{S:PS}(h:Inv S)(s:SV)(h3:S.st=3):Inv (Dw S s):=h.put (Ac S++[s]) S.op h3 (fun o ho=>by have:=h.ol o ho;simp;omega) h.od
theorem dM{b:List SV}{a:Nat}(j:Nat)(ha:a<b.length)(hj:j<11):(cs b)[a*11+j]?=(Yt (b.getD a sv0))[j]?:=by
 have e:b[a]?=some (b.getD a sv0):=by rw[jJ,List.getElem?_eq_getElem ha];rfl
 exact Ui Yt 11 (fun _=>rfl) b a j _ e hj
theorem Tw{b:List SV}{a:Nat}(j:Nat)(ha:a<b.length)(hj:j<11)(s:SV)(u:Value)(hu:(Yt (b.getD a sv0)).set j u=Yt s):(cs b).set (a*11+j) u=cs (b.set a s):=by
 have e:b[a]?=some (b.getD a sv0):=by rw[jJ,List.getElem?_eq_getElem ha];rfl
 exact TW Yt 11 (fun _=>rfl) b a j _ s u e hj hu
def RX(B:Nat)(r:Nat×PS)(e:Ending)(w':World):Prop:=
 if r.1=0 then∃(sH sR sP:Sl)(bv:List Value),e=.returned (.agg #[Vi 0,Vi r.2.d,.slice sH.a sH.n sH.c,.slice sR.a sR.n sR.c,.slice sP.a sP.n sP.c])/\Et w' B (Df [] r.2.hs r.2.rg r.2.ps (.slice sH.a sH.n sH.c) (.slice sR.a sR.n sR.c) (.slice sP.a sP.n sP.c) bv)/\bv.length=r.2.ps.length/\Inv r.2/\Ie r.2 100001
 else e=.returned (.agg #[Vi (r.1:Int),Vi 0,.slice none 0 0,.slice none 0 0,.slice none 0 0])
theorem Ie.mono{S:PS}{k m:Nat}(h:Ie S k)(hm:k<=m):Ie S m:=
 ⟨by have:=h.ps;omega,by have:=h.bd;omega,by have:=h.op;omega,fun o ho=>by have:=h.th o ho;omega,h.d⟩
end Go.Proofs.YtfpeecaaleijcaaGreatDoor
