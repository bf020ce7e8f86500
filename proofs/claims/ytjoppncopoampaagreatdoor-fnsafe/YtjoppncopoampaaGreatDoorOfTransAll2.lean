import Derived.Test.YtjoppncopoampaaGreatDoorOfTransAft
import Derived.Test.YtjoppncopoampaaGreatDoorTransOpsX
import Derived.Test.YtjoppncopoampaaGreatDoorTransRofX
import Derived.Test.YtjoppncopoampaaGreatDoorOfTransSame
import Derived.Test.YtjoppncopoampaaGreatDoorOfFlatAny
import Derived.Test.YtjoppncopoampaaGreatDoorOfCoreReg
namespace Go.Proofs.YtjoppncopoampaaGreatDoor
open Go.RowKit
variable {Z:Int}
def Ik(op:Int):Bool:=Ap op 1&&!decide (op=23∨op=24∨op=27∨op=28)
def Fj(op:Int):Bool:=decide (14<=op/\op<=18)
theorem kJ{V:Nat->VV}{op n:Int}{i:Nat}(g:Cy (V i) n=true):Bd (Gl V op i)/\((Gl V op i).k=1->(Gl V op i).s=false)/\((Gl V op i).k=1->0<=(Gl V op i).h/\(Gl V op i).h<n):=by
 unfold Gl;split
 ·exact⟨Ec g,NH g,Iu g⟩
 ·exact⟨qh,fun _=>rfl,fun h=>absurd h Ad⟩
theorem iw{V:Nat->VV}{op n:Int}{i:Nat}(g:Cy (V i) n=true):Bd (Gb V op i)/\((Gb V op i).k=1->(Gb V op i).s=false):=by
 unfold Gb;split
 ·exact⟨Ec g,NH g⟩
 ·exact⟨qh,fun _=>rfl⟩
theorem nE{m h:Int}{a b x:VV}{g:HS}(e:DK Z m h a b x g=0):a.k=1/\a.h=h:=by
 unfold DK at e;by_cases c:a.k=1
 ·rw[if_neg (by simp[c])]at e
  by_cases d:a.h=h
  ·exact⟨c,d⟩
  ·rw[if_pos d]at e;omega
 ·rw[if_pos c]at e;omega
theorem rJ(b:1<=Z)(a:Z<=28)(h:Ik Z=true):(1<=Z/\Z<=16)∨(19<=Z/\Z<=22)∨Z=25∨Z=26:=by
 rcases UJ b a with rfl|rfl|rfl|rfl|rfl|rfl|rfl|rfl|rfl|rfl|rfl|rfl|rfl|rfl|rfl|rfl|rfl|rfl|rfl|rfl|rfl|rfl|rfl|rfl|rfl|rfl|rfl|rfl;all_goals first|omega|(exfalso;revert h;decide)
theorem pQ{K:Int}{N:Bool}{r:Int}(a:21<=Z)(b:Z<=28)(h:FL Z K N r=0):r=0:=by
 unfold FL at h;by_cases c:K=0
 ·rw[if_pos c]at h;omega
 ·rw[if_neg c,if_neg AB,if_pos ⟨a,b⟩]at h;exact h
theorem Xv(V:Nat->VV)(z c:Int)(o:Array Value)(hF:o=CX V z c)(a b:Int)(j d h q:Nat)(K:j<8)(I:d<8)(J:h<8)(U:1<=a)(s:a<=28)(M: -1000000<=b)(N:b<=1000000)(R:a=12∨a=13->0<=b/\b<=63)(p u m:Nat)(S:Nat->HS)(L:m<=1048576)(G:∀i,i<8->Cy (V i) m=true)(w:World)(x:Ak w p (m*3) (Ur S)):
 Calls Tryz.prog 82 #[.agg o,.agg #[Vi a,Vi (j:Int),Vi (d:Int),Vi (h:Int),Vi b,Vi (q:Int)],Vs p m u] w fun e n=>e=.returned (NR V z c j (kS a b (Gl V a d) (Gb V a h) (Gi V a z c d h) (Jw a z c) (S q)) (FL a (Jw a z c) (Gi V a z c d h) (DK a b (q:Int) (Gl V a d) (Gb V a h) (V j) (S q))) (Ik a) (Fj a) (Gi V a z c d h))/\Below w.heap.size w n:=by
 obtain⟨D,X,F⟩:=kJ (op:=a) (G d I);obtain⟨E,Y⟩:=iw (op:=a) (G h J);refine YG V z c o hF a (d:Int) (h:Int) b (q:Int) j K (Gl V a d) (Gb V a h) (Jw a z c) (Gi V a z c d h) (Vs p m u) _ _ (Ik a) (Fj a) w ?_ ?_ ?_ rfl rfl
 ·intro n _
  exact O9 V z c o hF a (j:Int) b (q:Int) d h I J n
 ·intro n l
  refine Uj V z c o hF a (j:Int) (d:Int) (h:Int) b (q:Int) _ _ _ _ _ _ n (fun _ _ C r=>?_);have B:=l.trans (r.mono l.size);exact VT V z c o hF a (d:Int) (h:Int) b j q K _ _ _ _ p u m S C L (fun k e=>by have:=F k;omega) (x.below B x.lt) D E M N
 ·intro O Q n l
  refine Sg a (j:Int) (d:Int) (h:Int) b q _ _ _ _ n D E X Y rfl (fun y Z h3=>?_) (fun y=>?_) p u m S L (fun A=>?_) (x.below l x.lt) M N R (rJ U s Q)
  ·unfold Jw;rw[if_neg y,if_neg AB]
  ·subst y;rfl
  ·have e:=nE (pQ A s O)
   have:=F e.1;omega
end Go.Proofs.YtjoppncopoampaaGreatDoor
