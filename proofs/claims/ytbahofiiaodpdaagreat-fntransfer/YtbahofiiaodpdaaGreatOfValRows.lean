import Derived.Test.YtbahofiiaodpdaaGreatRows
import Derived.Test.YtbahofiiaodpdaaGreatOfCl
import Derived.WalkKit
import Derived.WalkSpells
import Derived.WalkLawsBesides
import Derived.Test.YtbahofiiaodpdaaGreatOfLen64
import Derived.Deep.QuietTactic
import Derived.BigQuiet
import Derived.Deep.RegionWith
import Derived.BigRegion
set_option maxHeartbeats 4000000
namespace Go.Proofs.YtbahofiiaodpdaaGreat
open Go.RowKit
structure VV where
 k:Int
 s:Bool
 m:Int
 h:Int
 lo:Int
 hi:Int
def VV.v(x:VV):Value:=.agg #[.int .i64 x.k,.bool x.s,.int .i64 x.m,.int .i64 x.h,.int .i64 x.lo,.int .i64 x.hi]
def joinV(a b:VV):VV:=
 if a.k=1/\b.k=1/\a.h=b.h then⟨1,false,0,a.h,if b.lo<a.lo then b.lo else a.lo,if b.hi>a.hi then b.hi else a.hi⟩
 else if a.k=0/\b.k=0/\a.m≠ -1/\b.m≠ -1 then⟨0,a.s||b.s,if b.m>a.m then b.m else a.m,0,0,0⟩
 else⟨0,a.s||b.s,-1,0,0,0⟩
theorem implJoin_any(k:Int)(s:Bool)(m h lo hi:Int)(k':Int)(s':Bool)(m' h' lo' hi':Int)(w:World):
 Calls Tryz.prog 133 #[.agg #[.int .i64 k,.bool s,.int .i64 m,.int .i64 h,.int .i64 lo,.int .i64 hi],.agg #[.int .i64 k',.bool s',.int .i64 m',.int .i64 h',.int .i64 lo',.int .i64 hi']] w fun e w'=>e=.returned (joinV ⟨k,s,m,h,lo,hi⟩ ⟨k',s',m',h',lo',hi'⟩).v/\Below w.heap.size w w':=by
 go_enter Tryz.func133,Tryz.ntmps133;go_wp2;all_goals
  refine' bodyPost_ret (v:=_) ?_ rfl ⟨?_,?_⟩;rotate_left 1
  ·simp[results,Tryz.results133,go_sem];rfl
  rotate_left 1
  ·exact(((Below.refl _ _).alloc (Nat.le_refl _) _).alloc (by simp) _).alloc (by simp;omega) _
  ·simp_all[joinV,VV.v]<;>omega
theorem specJoin_any(k:Int)(s:Bool)(m h lo hi:Int)(k':Int)(s':Bool)(m' h' lo' hi':Int)(w:World):
 Calls Tryz.prog 26 #[.agg #[.int .i64 k,.bool s,.int .i64 m,.int .i64 h,.int .i64 lo,.int .i64 hi],.agg #[.int .i64 k',.bool s',.int .i64 m',.int .i64 h',.int .i64 lo',.int .i64 hi']] w fun e w'=>e=.returned (joinV ⟨k,s,m,h,lo,hi⟩ ⟨k',s',m',h',lo',hi'⟩).v/\Below w.heap.size w w':=by
 go_enter Tryz.func26,Tryz.ntmps26;go_wp2;all_goals
  refine' bodyPost_ret (v:=_) ?_ rfl ⟨?_,?_⟩;rotate_left 1
  ·simp[results,Tryz.results26,go_sem];rfl
  rotate_left 1
  ·exact((((Below.refl _ _).alloc (Nat.le_refl _) _).alloc (by simp) _).alloc (by simp;omega) _).alloc (by simp;omega) _
  ·simp_all[joinV,VV.v]<;>omega
def numV(s:Bool)(m:Int):VV:=⟨0,s,if m<0∨1099511627776<m then -1 else m,0,0,0⟩
def maxV(v:VV):Int:=if v.k=1 then -1 else v.m
def sumP(p q:VV):VV:=
 if p.k=1/\0<=maxV q/\q.s=false/\p.hi+q.m<=1099511627776 then{p with hi:=p.hi+q.m}
 else if 0<=maxV p/\0<=maxV q then numV (p.s||q.s) (p.m+q.m)else numV (p.s||q.s) (-1)
def sumV(a b:VV):VV:=if b.k=1 then sumP b a else sumP a b
def timesI(a b:Int):Int:=if a=0∨b=0 then 0 else if 1099511627776/a<b then 1099511627777 else a*b
def onesI(x:Int):Int:=((2^bitsN x.toNat:Nat):Int)-1
def leastI(a b:Int):Int:=if a<0∨(0<=b/\b<a)then b else a
def bigI(a b:Int):Int:=if a>b then a else b
structure Bd(v:VV):Prop where
 m0: -1<=v.m
 m1:v.m<=1099511627776
 l0: -1099511627776<=v.lo
 l1:v.lo<=1099511627776
 h0: -1099511627776<=v.hi
 h1:v.hi<=1099511627776
 k:v.k=0∨v.k=1
def resV(op imm:Int)(a b:VV)(s:Bool):VV:=
 if op=1 then a
 else if op=2 then numV false imm
 else if op=3∨op=14 then sumV a b
 else if op=5 then(if 0<=maxV a/\0<=maxV b then numV s (timesI a.m b.m)else numV s (-1))
 else if op=6 then numV s (leastI (maxV a) (maxV b))
 else if op=7∨op=8 then(if 0<=maxV a/\0<=maxV b then numV s (onesI (bigI a.m b.m))else numV s (-1))
 else if op=9 then numV s (maxV a)
 else if op=10 then(if a.k=1/\ -1099511627776<=a.lo+imm/\a.hi+imm<=1099511627776 then{a with lo:=a.lo+imm,hi:=a.hi+imm}else if 0<=maxV a/\0<=imm then numV s (a.m+imm)else numV s (-1))
 else if op=11 then numV s (leastI imm (maxV a))
 else if op=12 then(if maxV a=0 then numV s 0 else if 0<maxV a/\imm<=40 then numV s (timesI a.m ((2^imm.toNat:Nat):Int))else numV s (-1))
 else if op=13 then(if 0<=maxV a then numV s (a.m/((2^imm.toNat:Nat):Int))else if 24<=imm then numV s (((2^(64-imm).toNat:Nat):Int)-1)else numV s (-1))
 else if op=15 then(if 0<=maxV a/\0<=maxV b then numV s (a.m+b.m+1)else numV s (-1))
 else numV s (-1)
end Go.Proofs.YtbahofiiaodpdaaGreat
namespace Go.Proofs.YtbahofiiaodpdaaGreat
open Go.ChangeShapes Go.WideShapes Go.ChangeAt Go.RowKit Go.Deep
structure HS where
 size:Int
 s:Bool
 w:Bool
end Go.Proofs.YtbahofiiaodpdaaGreat
namespace Go.Proofs.YtbahofiiaodpdaaGreat
open Go.RowKit
def vC(x:VV):Nat->Value
 |0=>.int .i64 (x).k
 |1=>.bool (x).s
 |2=>.int .i64 (x).m
 |3=>.int .i64 (x).h
 |4=>.int .i64 (x).lo
 |_=>.int .i64 (x).hi
def vF(V:Nat->VV)(i:Nat):Value:=vC (V (i/6)) (i%6)
theorem vF_at(V:Nat->VV)(k j:Nat)(hj:j<6):vF V (k*6+j)=vC (V k) j:=by
 unfold vF;rw[show(k*6+j)/6=k by omega,show(k*6+j)%6=j by omega]
def hsC(x:HS):Nat->Value
 |0=>.int .i64 (x).size
 |1=>.bool (x).s
 |_=>.bool (x).w
def hsF(V:Nat->HS)(i:Nat):Value:=hsC (V (i/3)) (i%3)
theorem hsF_at(V:Nat->HS)(k j:Nat)(hj:j<3):hsF V (k*3+j)=hsC (V k) j:=by
 unfold hsF;rw[show(k*3+j)/3=k by omega,show(k*3+j)%3=j by omega]
end Go.Proofs.YtbahofiiaodpdaaGreat
