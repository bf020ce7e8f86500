import Derived.Test.YtfpeecaaleijcaaGreatDoorOfCl
import Derived.Test.YtfpeecaaleijcaaGreatDoorRows
import Derived.WalkKit
import Derived.WalkSpells
import Derived.WalkLawsBesides
import Derived.Deep.QuietTactic
import Derived.BigQuiet
import Derived.Deep.RegionWith
import Derived.BigRegion
set_option maxHeartbeats 4000000
namespace Go.Proofs.YtfpeecaaleijcaaGreatDoor
open Go.RowKit
def ZF(x:Nat):Nat:=if x=0 then 0 else Nat.log2 x+1
theorem WK(n:Nat)(w:World)(hn:n<=63):
 Calls Tryz.prog 190 #[Vi n] w fun e w'=>e=.returned (.int .u64 ((2^n:Nat):Int))/\w'=w:=by
 go_enter Tryz.func190,Tryz.ntmps190;go_wp2;go_loop [3,4](fun x i=>∃k:Nat,k<=n/\i=Vi k/\x=.int .u64 ((2^k:Nat):Int))(fun _ i=>n-(intOf i).toNat)
 case atStart=>exact⟨0,Nat.zero_le _,rfl,rfl⟩
 case round=>
  obtain⟨k,hk,rfl,rfl⟩:=hrel;by_cases hlt:k<n
  ·have hp:2^k<=2^62:=Nat.pow_le_pow_right (by decide) (by omega)
   have hs:2^(k+1)=2*2^k:=by rw[Nat.pow_succ,Nat.mul_comm]
   have HS:=hxy hs;clear hs;generalize 2^k=y at *;go_wp2;go_round
   case rel=>
    refine⟨k+1,by omega,by go_num,?_⟩;rw[HS.out];go_num
   case measure=>simp[intOf];omega
  ·go_wp2
   go_ret;obtain rfl:k=n:=by omega
   exact⟨rfl,rfl⟩
structure VV where
 k:Int
 s:Bool
 m:Int
 h:Int
 lo:Int
 hi:Int
def VV.v(x:VV):Value:=.agg #[Vi x.k,.bool x.s,Vi x.m,Vi x.h,Vi x.lo,Vi x.hi]
def Iq(a b:VV):VV:=
 if a.k=1/\b.k=1/\a.h=b.h then⟨1,false,0,a.h,if b.lo<a.lo then b.lo else a.lo,if b.hi>a.hi then b.hi else a.hi⟩
 else if a.k=0/\b.k=0/\a.m≠ -1/\b.m≠ -1 then⟨0,a.s||b.s,if b.m>a.m then b.m else a.m,0,0,0⟩
 else⟨0,a.s||b.s,-1,0,0,0⟩
theorem J7(k:Int)(s:Bool)(m h lo hi:Int)(k':Int)(s':Bool)(m' h' lo' hi':Int)(w:World):
 Calls Tryz.prog 161 #[.agg #[Vi k,.bool s,Vi m,Vi h,Vi lo,Vi hi],.agg #[Vi k',.bool s',Vi m',Vi h',Vi lo',Vi hi']] w fun e w'=>e=.returned (Iq ⟨k,s,m,h,lo,hi⟩ ⟨k',s',m',h',lo',hi'⟩).v/\Below w.heap.size w w':=by
 go_enter Tryz.func161,Tryz.ntmps161;go_wp2;all_goals
  refine' bodyPost_ret (v:=_) ?_ rfl ⟨?_,?_⟩;rotate_left 1
  ·simp[results,Tryz.results161,go_sem];rfl
  rotate_left 1
  ·exact(((Ak).alloc (by simp) _).alloc (by simp;omega) _).alloc (by simp;omega) _
  ·simp_all[Iq,VV.v]<;>omega
end Go.Proofs.YtfpeecaaleijcaaGreatDoor
namespace Go.Proofs.YtfpeecaaleijcaaGreatDoor
open Go.ChangeShapes Go.WideShapes Go.ChangeAt Go.RowKit Go.Deep
structure HS where
 size:Int
 s:Bool
 w:Bool
end Go.Proofs.YtfpeecaaleijcaaGreatDoor
namespace Go.Proofs.YtfpeecaaleijcaaGreatDoor
open Go.RowKit
def vC(x:VV):Nat->Value
 |0=>Vi (x).k
 |1=>.bool (x).s
 |2=>Vi (x).m
 |3=>Vi (x).h
 |4=>Vi (x).lo
 |_=>Vi (x).hi
def vF(V:Nat->VV)(i:Nat):Value:=vC (V (i/6)) (i%6)
theorem BH(V:Nat->VV)(k j:Nat)(hj:j<6):vF V (k*6+j)=vC (V k) j:=by
 unfold vF;rw[show(k*6+j)/6=k by omega,show(k*6+j)%6=j by omega]
def gK(x:HS):Nat->Value
 |0=>Vi (x).size
 |1=>.bool (x).s
 |_=>.bool (x).w
def QD(V:Nat->HS)(i:Nat):Value:=gK (V (i/3)) (i%3)
theorem Dy(V:Nat->HS)(k j:Nat)(hj:j<3):QD V (k*3+j)=gK (V k) j:=by
 unfold QD;rw[show(k*3+j)/3=k by omega,show(k*3+j)%3=j by omega]
def Az(s:Bool)(m:Int):VV:=⟨0,s,if m<0∨1099511627776<m then -1 else m,0,0,0⟩
def Ao(v:VV):Int:=if v.k=1 then -1 else v.m
def Xw(p q:VV):VV:=
 if p.k=1/\0<=Ao q/\q.s=false/\p.hi+q.m<=1099511627776 then{p with hi:=p.hi+q.m}
 else if 0<=Ao p/\0<=Ao q then Az (p.s||q.s) (p.m+q.m)else Az (p.s||q.s) (-1)
def Pp(a b:VV):VV:=if b.k=1 then Xw b a else Xw a b
def EI(a b:Int):Int:=if a=0∨b=0 then 0 else if 1099511627776/a<b then 1099511627777 else a*b
def Iy(x:Int):Int:=((2^ZF x.toNat:Nat):Int)-1
def Dz(a b:Int):Int:=if a<0∨(0<=b/\b<a)then b else a
def JA(a b:Int):Int:=if a>b then a else b
structure Bd(v:VV):Prop where
 m0: -1<=v.m
 m1:v.m<=1099511627776
 l0: -1099511627776<=v.lo
 l1:v.lo<=1099511627776
 h0: -1099511627776<=v.hi
 h1:v.hi<=1099511627776
 k:v.k=0∨v.k=1
def Cb(op imm:Int)(a b:VV)(s:Bool):VV:=
 if op=1 then a
 else if op=2 then Az false imm
 else if op=3∨op=14 then Pp a b
 else if op=5 then(if 0<=Ao a/\0<=Ao b then Az s (EI a.m b.m)else Az s (-1))
 else if op=6 then Az s (Dz (Ao a) (Ao b))
 else if op=7∨op=8 then(if 0<=Ao a/\0<=Ao b then Az s (Iy (JA a.m b.m))else Az s (-1))
 else if op=9 then Az s (Ao a)
 else if op=10 then(if a.k=1/\ -1099511627776<=a.lo+imm/\a.hi+imm<=1099511627776 then{a with lo:=a.lo+imm,hi:=a.hi+imm}else if 0<=Ao a/\0<=imm then Az s (a.m+imm)else Az s (-1))
 else if op=11 then Az s (Dz imm (Ao a))
 else if op=12 then(if Ao a=0 then Az s 0 else if 0<Ao a/\imm<=40 then Az s (EI a.m ((2^imm.toNat:Nat):Int))else Az s (-1))
 else if op=13 then(if 0<=Ao a then Az s (a.m/((2^imm.toNat:Nat):Int))else if 24<=imm then Az s (((2^(64-imm).toNat:Nat):Int)-1)else Az s (-1))
 else if op=15 then(if 0<=Ao a/\0<=Ao b then Az s (a.m+b.m+1)else Az s (-1))
 else Az s (-1)
end Go.Proofs.YtfpeecaaleijcaaGreatDoor
