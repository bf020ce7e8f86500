import Derived.Test.YtblfmpgdhpbffaaGreatDoorOfInsSame
import Derived.Test.YtblfmpgdhpbffaaGreatDoorOfOpenRow
import Derived.Test.YtblfmpgdhpbffaaGreatDoorRows
import Derived.Deep.RegionHeld3
import Derived.Deep.Cut
import Derived.Deep.DeepCutAuto
set_option maxHeartbeats 400000
namespace Go.Proofs.YtblfmpgdhpbffaaGreatDoor
open Go.RowKit
structure SV where
 k:Int
 op:Int
 d:Int
 a:Int
 b:Int
 imm:Int
 h:Int
 cond:Int
 thn:Int
 els:Int
 proc:Int
def condB(c:Int):Bool:=decide (1<=c/\c<=4)
theorem validCond_any(c:Int)(w:World):Calls Tryz.prog 96 #[.int .i64 c] w fun e w'=>e=.returned (.bool (condB c))/\w'=w:=by
 go_enter Tryz.func96,Tryz.ntmps96;go_wp2;all_goals(go_ret;refine⟨ret_bool ?_,rfl⟩;simp[condB]<;>omega)
def stC(x:SV):Nat->Value
 |0=>.int .i64 x.k
 |1=>.int .i64 x.op
 |2=>.int .i64 x.d
 |3=>.int .i64 x.a
 |4=>.int .i64 x.b
 |5=>.int .i64 x.imm
 |6=>.int .i64 x.h
 |7=>.int .i64 x.cond
 |8=>.int .i64 x.thn
 |9=>.int .i64 x.els
 |_=>.int .i64 x.proc
def stF(L:Nat->SV)(i:Nat):Value:=stC (L (i/11)) (i%11)
theorem stF_at(L:Nat->SV)(k j:Nat)(hj:j<11):stF L (k*11+j)=stC (L k) j:=by
 unfold stF;rw[show(k*11+j)/11=k by omega,show(k*11+j)%11=j by omega]
end Go.Proofs.YtblfmpgdhpbffaaGreatDoor
