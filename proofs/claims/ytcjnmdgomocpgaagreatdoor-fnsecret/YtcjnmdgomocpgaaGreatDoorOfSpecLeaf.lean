import Derived.Test.YtcjnmdgomocpgaaGreatDoorOfCoreCatch
set_option maxHeartbeats 4000000
set_option maxRecDepth 20000
namespace Go.Proofs.YtcjnmdgomocpgaaGreatDoor
section
open Go.RowKit
structure VV where
 k:Int
 s:Bool
 m:Int
 h:Int
 lo:Int
 hi:Int
def VV.v(x:VV):Value:=.agg #[Vi x.k,.bool x.s,Vi x.m,Vi x.h,Vi x.lo,Vi x.hi]
def Cg(a b:VV):VV:=
 if a.k=1/\b.k=1/\a.h=b.h then⟨1,false,0,a.h,if b.lo<a.lo then b.lo else a.lo,if b.hi>a.hi then b.hi else a.hi⟩
 else if a.k=0/\b.k=0/\a.m≠ -1/\b.m≠ -1 then⟨0,a.s||b.s,if b.m>a.m then b.m else a.m,0,0,0⟩
 else⟨0,a.s||b.s,-1,0,0,0⟩
theorem Le(k:Int)(s:Bool)(m h l d:Int)(j:Int)(o:Bool)(n c b a:Int)(w:World):
 Ks 163 #[.agg #[Vi k,.bool s,Vi m,Vi h,Vi l,Vi d],.agg #[Vi j,.bool o,Vi n,Vi c,Vi b,Vi a]] w fun e p=>e=.returned (Cg ⟨k,s,m,h,l,d⟩ ⟨j,o,n,c,b,a⟩).v/\Below w.heap.size w p:=by
 go_enter Tryz.func163,Tryz.ntmps163;go_wp2;all_goals
  refine' bodyPost_ret (v:=_) ?_ rfl ⟨?_,?_⟩;rotate_left 1
  ·simp[results,Tryz.results163,go_sem];rfl
  rotate_left 1
  ·exact((Ai).alloc AX _).alloc (by simp;omega) _
  ·simp_all[Cg,VV.v]<;>omega
theorem Lc(k:Int)(s:Bool)(m h l d:Int)(j:Int)(o:Bool)(n c b a:Int)(w:World):
 Ks 103 #[.agg #[Vi k,.bool s,Vi m,Vi h,Vi l,Vi d],.agg #[Vi j,.bool o,Vi n,Vi c,Vi b,Vi a]] w fun e p=>e=.returned (Cg ⟨k,s,m,h,l,d⟩ ⟨j,o,n,c,b,a⟩).v/\Below w.heap.size w p:=by
 go_enter Tryz.func103,Tryz.ntmps103;go_wp2;all_goals
  refine' bodyPost_ret (v:=_) ?_ rfl ⟨?_,?_⟩;rotate_left 1
  ·simp[results,Tryz.results103,go_sem];rfl
  rotate_left 1
  ·exact(((Ai).alloc AX _).alloc (by simp;omega) _).alloc (by simp;omega) _
  ·simp_all[Cg,VV.v]<;>omega
def DZ(x:Nat):Nat:=if x=0 then 0 else Nat.log2 x+1
theorem Wh{x:Nat}(h:0<x):DZ x=DZ (x/2)+1:=by
 unfold DZ;rw[if_neg AB,Nat.log2_def];by_cases a:2<=x
 ·rw[if_pos a,if_neg AB]
 ·rw[if_neg a,if_pos AB]
theorem Us(k:Nat):∀x,2^k<=x->DZ x=DZ (x/2^k)+k:=by
 induction k with
 |zero=>intro x _;simp
 |succ k d=>
  intro x a;have b:0<x:=Ey (Nat.two_pow_pos _) a;have c:2^k<=x/2:=by rw[Nat.le_div_iff_mul_le Ad];rw[Nat.pow_succ]at a;exact a
  rw[Wh b,d _ c,Nat.div_div_eq_div_mul,Nat.pow_succ,Nat.mul_comm 2 (2^k)];omega
theorem Ub{x:Nat}(h:x<18446744073709551616):DZ x<=64:=by
 unfold DZ;by_cases a:x=0
 ·simp[a]
 ·rw[if_neg a]
  have:=(Nat.log2_lt a (k:=64)).2 (by simpa using h);omega
theorem Y2(n:Nat)(w:World)(h:n<=63):
 Ks 118 #[Vi n] w fun e c=>e=.returned (.int .u64 ((2^n:Nat):Int))/\c=w:=by
 go_enter Tryz.func118,Tryz.ntmps118;go_wp2;go_loop [3,4](fun x i=>∃k:Nat,k<=n/\i=Vi k/\x=.int .u64 ((2^k:Nat):Int))(fun _ i=>n-(intOf i).toNat)
 case atStart=>exact⟨0,Nat.zero_le _,rfl,rfl⟩
 case round=>
  obtain⟨k,d,rfl,rfl⟩:=hrel;by_cases a:k<n
  ·have j:2^k<=2^62:=Nat.pow_le_pow_right Ad AB
   have b:2^(k+1)=2*2^k:=by rw[Nat.pow_succ,Nat.mul_comm]
   have HS:=hxy b;generalize 2^k=y at *;go_wp2;go_round
   case rel=>
    refine⟨k+1,AB,by go_num,?_⟩;rw[HS.out];go_num
   case measure=>simp[intOf];omega
  ·go_wp2
   go_ret;obtain rfl:k=n:=AB;exact⟨rfl,rfl⟩
theorem Kh(x:Nat)(w:World)(d:x<18446744073709551616):
 Ks 117 #[.int .u64 x] w fun e h=>e=.returned (.int .u64 (DZ x))/\h=w:=by
 have n:=Ub d;go_enter Tryz.func117,Tryz.ntmps117;go_wp2;go_loop [0,3](fun y i=>∃k m:Nat,y=.int .u64 k/\i=.int .u64 m/\m+DZ k=DZ x/\k<=x)(fun y _=>(intOf y).toNat)
 case atStart=>exact⟨x,0,rfl,rfl,AX,BQ⟩
 case round=>
  obtain⟨k,m,rfl,rfl,c,o⟩:=hrel;by_cases b:0<k
  ·have l:=Wh b
   generalize DZ k=j at *;go_wp2;go_round
   case rel=>exact⟨k/2,m+1,by go_num,by go_num,AB,AB⟩
   case measure=>simp[intOf];omega
  ·obtain rfl:k=0:=AB
   have a:DZ 0=0:=rfl;rw[a]at c;go_wp2;go_ret;exact⟨by rw[<-c];rfl,rfl⟩
def Al(s:Bool)(m:Int):VV:=⟨0,s,if m<0∨1099511627776<m then -1 else m,0,0,0⟩
def AZ(v:VV):Int:=if v.k=1 then -1 else v.m
def Tv(p q:VV):VV:=
 if p.k=1/\0<=AZ q/\q.s=false/\p.hi+q.m<=1099511627776 then{p with hi:=p.hi+q.m}
 else if 0<=AZ p/\0<=AZ q then Al (p.s||q.s) (p.m+q.m)else Al (p.s||q.s) (-1)
def Mg(a b:VV):VV:=if b.k=1 then Tv b a else Tv a b
def Dk(a b:Int):Int:=if a=0∨b=0 then 0 else if 1099511627776/a<b then 1099511627777 else a*b
def IY(x:Int):Int:=((2^DZ x.toNat:Nat):Int)-1
def Dj(a b:Int):Int:=if a<0∨(0<=b/\b<a)then b else a
def Ic(a b:Int):Int:=if a>b then a else b
structure Bd(v:VV):Prop where
 m0: -1<=v.m
 m1:v.m<=1099511627776
 l0: -1099511627776<=v.lo
 l1:v.lo<=1099511627776
 h0: -1099511627776<=v.hi
 h1:v.hi<=1099511627776
 k:v.k=0∨v.k=1
def CQ(op imm:Int)(a b:VV)(s:Bool):VV:=
 if op=1 then a
 else if op=2 then Al false imm
 else if op=3∨op=14 then Mg a b
 else if op=5 then(if 0<=AZ a/\0<=AZ b then Al s (Dk a.m b.m)else Al s (-1))
 else if op=6 then Al s (Dj (AZ a) (AZ b))
 else if op=7∨op=8 then(if 0<=AZ a/\0<=AZ b then Al s (IY (Ic a.m b.m))else Al s (-1))
 else if op=9 then Al s (AZ a)
 else if op=10 then(if a.k=1/\ -1099511627776<=a.lo+imm/\a.hi+imm<=1099511627776 then{a with lo:=a.lo+imm,hi:=a.hi+imm}else if 0<=AZ a/\0<=imm then Al s (a.m+imm)else Al s (-1))
 else if op=11 then Al s (Dj imm (AZ a))
 else if op=12 then(if AZ a=0 then Al s 0 else if 0<AZ a/\imm<=40 then Al s (Dk a.m ((2^imm.toNat:Nat):Int))else Al s (-1))
 else if op=13 then(if 0<=AZ a then Al s (a.m/((2^imm.toNat:Nat):Int))else if 24<=imm then Al s (((2^(64-imm).toNat:Nat):Int)-1)else Al s (-1))
 else if op=15 then(if 0<=AZ a/\0<=AZ b then Al s (a.m+b.m+1)else Al s (-1))
 else Al s (-1)
end
section
open Go.ChangeShapes Go.WideShapes Go.ChangeAt Go.RowKit Go.Deep
structure HS where
 size:Int
 s:Bool
 w:Bool
end
section
open Go.RowKit
def vC(x:VV):Nat->Value
 |0=>Vi (x).k
 |1=>.bool (x).s
 |2=>Vi (x).m
 |3=>Vi (x).h
 |4=>Vi (x).lo
 |_=>Vi (x).hi
def vF(V:Nat->VV)(i:Nat):Value:=vC (V (i/6)) (i%6)
theorem Bz(V:Nat->VV)(k j:Nat)(a:j<6):vF V (k*6+j)=vC (V k) j:=by
 unfold vF;rw[show(k*6+j)/6=k by omega,show(k*6+j)%6=j by omega]
def wm(x:HS):Nat->Value
 |0=>Vi (x).size
 |1=>.bool (x).s
 |_=>.bool (x).w
def Ur(V:Nat->HS)(i:Nat):Value:=wm (V (i/3)) (i%3)
theorem Fb(V:Nat->HS)(k j:Nat)(a:j<3):Ur V (k*3+j)=wm (V k) j:=by
 unfold Ur;rw[show(k*3+j)/3=k by omega,show(k*3+j)%3=j by omega]
theorem Oe(k:Nat)(x:Int)(a:0<=x)(h:2^k<=x.toNat):DZ x.toNat=DZ (x/((2^k:Nat):Int)).toNat+k:=by
 rw[Us k _ h];congr 2
 obtain⟨n,rfl⟩:=Int.eq_ofNat_of_zero_le a;rw[<-Int.natCast_ediv,Int.toNat_natCast,Int.toNat_natCast]
theorem GR:∀j:Nat,(h:j<256)->((⟨#[0,1,2,2,3,3,3,3,4,4,4,4,4,4,4,4,5,5,5,5,5,5,5,5,5,5,5,5,5,5,5,5,6,6,6,6,6,6,6,6,6,6,6,6,6,6,6,6,6,6,6,6,6,6,6,6,6,6,6,6,6,6,6,6,7,7,7,7,7,7,7,7,7,7,7,7,7,7,7,7,7,7,7,7,7,7,7,7,7,7,7,7,7,7,7,7,7,7,7,7,7,7,7,7,7,7,7,7,7,7,7,7,7,7,7,7,7,7,7,7,7,7,7,7,7,7,7,7,8,8,8,8,8,8,8,8,8,8,8,8,8,8,8,8,8,8,8,8,8,8,8,8,8,8,8,8,8,8,8,8,8,8,8,8,8,8,8,8,8,8,8,8,8,8,8,8,8,8,8,8,8,8,8,8,8,8,8,8,8,8,8,8,8,8,8,8,8,8,8,8,8,8,8,8,8,8,8,8,8,8,8,8,8,8,8,8,8,8,8,8,8,8,8,8,8,8,8,8,8,8,8,8,8,8,8,8,8,8,8,8,8,8,8,8,8,8,8,8,8,8,8,8,8,8,8,8]⟩:ByteArray)[j]'h).toNat=DZ j:=by decide+kernel
theorem FT{j:Nat}(h:j<256):DZ j<=8:=by
 unfold DZ;by_cases a:j=0
 ·simp[a]
 ·rw[if_neg a]
  have:=(Nat.log2_lt a (k:=8)).2 (by simpa using h);omega
theorem MZ(x:Int)(w:World)(M:0<=x)(N:x<18446744073709551616):
 Ks 169 #[.int .u64 x] w fun e L=>e=.returned (Vi (DZ x.toNat))/\L=w:=by
 go_enter Tryz.func169,Tryz.ntmps169;by_cases I:4294967296<=x
 ·have y:=Oe 32 x AB (by simp;omega)
  have b:=hxy y;go_upto_region 4 with fail;have J:0<=x/(4294967296:Int):=AB;have K:x/(4294967296:Int)<4294967296:=AB;generalize F:x/(4294967296:Int)=m at *;by_cases z:65536<=m
  ·have p:=Oe 16 m AB (by simp;omega)
   have a:=hxy p;go_upto_region 7 with fail;have B:0<=m/(65536:Int):=AB;have D:m/(65536:Int)<65536:=AB;generalize u:m/(65536:Int)=l at *;by_cases A:256<=l
   ·have q:=Oe 8 l AB (by simp;omega)
    have c:=hxy q;go_upto_region 10 with fail;have C:0<=l/(256:Int):=AB;have E:l/(256:Int)<256:=AB;generalize s:l/(256:Int)=o at *;go_upto_region 10 with fail;have r:=GR o.toNat AB;have n:=FT (j:=o.toNat) AB;go_wp2;go_ret;refine⟨Ae ?_,rfl⟩;first|rfl|(have d:=b.out;have h:=a.out;have k:=c.out;omega)|(have d:=b.out;have h:=a.out;omega)|(have d:=b.out;have k:=c.out;omega)|(have h:=a.out;have k:=c.out;omega)|(have d:=b.out;omega)|(have h:=a.out;omega)|(have k:=c.out;omega)
   ·go_upto_region 10 with fail
    have r:=GR l.toNat AB;have n:=FT (j:=l.toNat) AB;go_wp2;go_ret;refine⟨Ae ?_,rfl⟩;first|rfl|(have d:=b.out;have h:=a.out;have k:=c.out;omega)|(have d:=b.out;have h:=a.out;omega)|(have d:=b.out;have k:=c.out;omega)|(have h:=a.out;have k:=c.out;omega)|(have d:=b.out;omega)|(have h:=a.out;omega)|(have k:=c.out;omega)
  ·by_cases A:256<=m
   ·have q:=Oe 8 m AB (by simp;omega)
    have c:=hxy q;go_upto_region 10 with fail;have C:0<=m/(256:Int):=AB;have E:m/(256:Int)<256:=AB;generalize s:m/(256:Int)=o at *;go_upto_region 10 with fail;have r:=GR o.toNat AB;have n:=FT (j:=o.toNat) AB;go_wp2;go_ret;refine⟨Ae ?_,rfl⟩;first|rfl|(have d:=b.out;have h:=a.out;have k:=c.out;omega)|(have d:=b.out;have h:=a.out;omega)|(have d:=b.out;have k:=c.out;omega)|(have h:=a.out;have k:=c.out;omega)|(have d:=b.out;omega)|(have h:=a.out;omega)|(have k:=c.out;omega)
   ·go_upto_region 10 with fail
    have r:=GR m.toNat AB;have n:=FT (j:=m.toNat) AB;go_wp2;go_ret;refine⟨Ae ?_,rfl⟩;first|rfl|(have d:=b.out;have h:=a.out;have k:=c.out;omega)|(have d:=b.out;have h:=a.out;omega)|(have d:=b.out;have k:=c.out;omega)|(have h:=a.out;have k:=c.out;omega)|(have d:=b.out;omega)|(have h:=a.out;omega)|(have k:=c.out;omega)
 ·by_cases z:65536<=x
  ·have p:=Oe 16 x AB (by simp;omega)
   have a:=hxy p;go_upto_region 7 with fail;have B:0<=x/(65536:Int):=AB;have D:x/(65536:Int)<65536:=AB;generalize u:x/(65536:Int)=l at *;by_cases A:256<=l
   ·have q:=Oe 8 l AB (by simp;omega)
    have c:=hxy q;go_upto_region 10 with fail;have C:0<=l/(256:Int):=AB;have E:l/(256:Int)<256:=AB;generalize s:l/(256:Int)=o at *;go_upto_region 10 with fail;have r:=GR o.toNat AB;have n:=FT (j:=o.toNat) AB;go_wp2;go_ret;refine⟨Ae ?_,rfl⟩;first|rfl|(have d:=b.out;have h:=a.out;have k:=c.out;omega)|(have d:=b.out;have h:=a.out;omega)|(have d:=b.out;have k:=c.out;omega)|(have h:=a.out;have k:=c.out;omega)|(have d:=b.out;omega)|(have h:=a.out;omega)|(have k:=c.out;omega)
   ·go_upto_region 10 with fail
    have r:=GR l.toNat AB;have n:=FT (j:=l.toNat) AB;go_wp2;go_ret;refine⟨Ae ?_,rfl⟩;first|rfl|(have d:=b.out;have h:=a.out;have k:=c.out;omega)|(have d:=b.out;have h:=a.out;omega)|(have d:=b.out;have k:=c.out;omega)|(have h:=a.out;have k:=c.out;omega)|(have d:=b.out;omega)|(have h:=a.out;omega)|(have k:=c.out;omega)
  ·by_cases A:256<=x
   ·have q:=Oe 8 x AB (by simp;omega)
    have c:=hxy q;go_upto_region 10 with fail;have C:0<=x/(256:Int):=AB;have E:x/(256:Int)<256:=AB;generalize s:x/(256:Int)=o at *;go_upto_region 10 with fail;have r:=GR o.toNat AB;have n:=FT (j:=o.toNat) AB;go_wp2;go_ret;refine⟨Ae ?_,rfl⟩;first|rfl|(have d:=b.out;have h:=a.out;have k:=c.out;omega)|(have d:=b.out;have h:=a.out;omega)|(have d:=b.out;have k:=c.out;omega)|(have h:=a.out;have k:=c.out;omega)|(have d:=b.out;omega)|(have h:=a.out;omega)|(have k:=c.out;omega)
   ·go_upto_region 10 with fail
    have r:=GR x.toNat AB;have n:=FT (j:=x.toNat) AB;go_wp2;go_ret;refine⟨Ae ?_,rfl⟩;first|rfl|(have d:=b.out;have h:=a.out;have k:=c.out;omega)|(have d:=b.out;have h:=a.out;omega)|(have d:=b.out;have k:=c.out;omega)|(have h:=a.out;have k:=c.out;omega)|(have d:=b.out;omega)|(have h:=a.out;omega)|(have k:=c.out;omega)
theorem Uk{w N:World}{r:Option Nat}(h:w.grownBy N r){a:Addr}(d:w.heap.size<=a.block)(v:Value):w.grownBy (N.setCell a v) r:=
 ⟨h.os,h.tape,h.output,by simpa using h.size,fun k c b=>(heap_setCell_other _ _ _ _ AB).trans (h.block k c b)⟩
theorem gN{w:World}{l e s n Y g:Nat}{d:List Value}(h:w.ownsRow l e s (Vs g n Y) n d):∃a,w.heap[g]?=some (.cells a e (0,0)):=by
 rcases h.2 with⟨q,_⟩|⟨j,b,a,q,_,c,_⟩
 ·cases q
 ·simp only[Value.slice.injEq,Option.some.injEq,Addr.mk.injEq,and_true,true_and]at q
  rw[q.1];exact⟨a,c⟩
theorem A9(d:Option Addr)(p k:Nat)(z c m l:Bool)(a:Option Addr)(n h:Nat)(q r:Int)(b:Option Addr)(o j:Nat)(w:World):
 Ks 81 #[.agg #[.slice d p k,.bool z,.bool c,.bool m,.bool l,.slice a n h,Vi q,Vi r,.slice b o j]] w fun e s=>
  e=.returned (.agg #[.slice d p k,.bool z,.bool c,.bool m,.bool l,.slice a n h,Vi q,Vi 2,.slice b o j])/\Below w.heap.size w s:=by
 go_enter Tryz.func81,Tryz.ntmps81;go_wp2;refine mY (.agg #[.slice d p k,.bool z,.bool c,.bool m,.bool l,.slice a n h,Vi q,Vi 2,.slice b o j]) (by simp[results,Tryz.results81,go_sem]) ⟨rfl,?_⟩;repeat'(first|exact Ai|refine Below.setCell ?_ AX _|refine Below.alloc ?_ AX _)
theorem Bc(h:Option Addr)(p m:Nat)(z c u s:Bool)(a:Option Addr)(n j:Nat)(q r:Int)(b:Option Addr)(o l:Nat)(d:Int)(k:Bool)(w:World):
 Ks 119 #[.agg #[.slice h p m,.bool z,.bool c,.bool u,.bool s,.slice a n j,Vi q,Vi r,.slice b o l],.int .u64 d,.bool k] w fun e x=>
  e=.returned (.agg #[.slice h p m,.bool (decide (d=0)),.bool k,.bool true,.bool true,.slice a n j,Vi q,Vi r,.slice b o l])/\Below w.heap.size w x:=by
 go_enter Tryz.func119,Tryz.ntmps119;go_wp2;refine mY (.agg #[.slice h p m,.bool (decide (d=0)),.bool k,.bool true,.bool true,.slice a n j,Vi q,Vi r,.slice b o l]) (by simp[results,Tryz.results119,go_sem];rfl) ⟨rfl,?_⟩;repeat'(first|exact Ai|refine Below.setCell ?_ AX _|refine Below.alloc ?_ AX _)
theorem RZ(j:Option Addr)(q n:Nat)(z c b a:Bool)(d:Option Addr)(o l:Nat)(r s:Int)(h:Option Addr)(p m:Nat)(k:Int)(w:World):
 Ks 82 #[.agg #[.slice j q n,.bool z,.bool c,.bool b,.bool a,.slice d o l,Vi r,Vi s,.slice h p m],Vi k] w fun e u=>
  e=.returned (.tuple (if k<=2 then#[.bool b,.bool (z==decide (k=1))]else#[.bool a,.bool (c==decide (k=3))]))/\Below w.heap.size w u:=by
 go_enter Tryz.func82,Tryz.ntmps82;by_cases x:k<=2
 ·go_wp2
  go_region;all_goals
   go_wp2;refine mY _ (by simp[results,Tryz.results82,go_sem];rfl) ⟨by simp;rfl,(Ai).drew⟩
 ·go_wp2
  go_region;all_goals
   go_wp2;refine mY _ (by simp[results,Tryz.results82,go_sem];rfl) ⟨by simp;rfl,(Ai).drew⟩
theorem Fy(l:Nat)(xs:List Value)(C:Option Addr)(L E:Nat)(z c J r:Bool)(B:Option Addr)(K D:Nat)(M N:Int)(x:Option Addr)(n y:Nat)(s O:Int)(w:World)(hn:n<=1048576)(Z:l<=w.heap.size)(A:w.ownsRow l 167 2 (.slice x n y) n xs):
 Ks 83 #[.agg #[.slice C L E,.bool z,.bool c,.bool J,.bool r,.slice B K D,Vi M,Vi N,.slice x n y],Vi s,.int .u64 O] w fun e w'=>
  ∃g m,e=.returned (.agg #[.slice C L E,.bool z,.bool c,.bool J,.bool r,.slice B K D,Vi M,Vi N,Vs g (n+1) m])/\
   w'.ownsRow l 167 2 (Vs g (n+1) m) (n+1) (xs++[Vi s,.int .u64 O])/\w.grownBy w' (Value.slice x n y).ownBlock:=by
 obtain⟨i0,hi,R,S,U⟩:=info_parts Vk;have HO:=hxy A;clear A;go_enter Tryz.func83,Tryz.ntmps83;go_wp2_with(first|(at_builtin;refine wpList_append_own _ rfl _ _ 37 rfl l 167 i0 (.agg #[Vi 0,.int .u64 0]) 2 16 Tryz.underlying37 hi R S U rfl Ad _ n xs rfl (((HO.alloc _).alloc _).alloc _) ⟨w.heap.size+1+1,0,none⟩ 1 1 [Vi s,.int .u64 O] rfl rfl ?c1 ?c2 ?c3 ?c4 ?c5 ?_)|go_in)
 case c1=>
  intro j u I;match j,I with
  |0,I=>simp at I;subst I;simp[Addr.add,go_sem]
  |1,I=>simp at I;subst I;simp[Addr.add,go_sem]
 case c2=>
  intro u hu;simp at hu;rcases hu with rfl|rfl<;>rfl
 case c3=>unfold maxLen;omega
 case c4=>omega
 case c5=>simp;omega
 ·intro v' Q d b _
  obtain⟨g,m,hv⟩:=KE d;subst hv;have h:∀k,k=w.heap.size∨k=w.heap.size+1->some k≠(Value.slice x n y).ownBlock:=by
   intro k hk e;have:=(HO.lt k e.symm).2;omega
  have z0:w.heap.size+2<Q.heap.size:=by have:=b.size;simp at this;omega
  have q:∀o,Q.cell? ⟨w.heap.size,o,none⟩=(w.alloc (.cells #[.slice C L E,.bool z,.bool c,.bool J,.bool r,.slice B K D,Vi M,Vi N,.slice x n y] 39)).cell? ⟨w.heap.size,o,none⟩:=fun o=>(World.cell?_of_block (a:=⟨w.heap.size,o,none⟩) (b.block w.heap.size (by simp;omega) (h _ (.inl rfl)))).trans (by simp[go_sem])
  have q0:=(q 0).trans (by simp[go_sem]:_=some (Value.slice C L E));have q1:=(q 1).trans (by simp[go_sem]:_=some (Value.bool z));have q2:=(q 2).trans (by simp[go_sem]:_=some (Value.bool c));have q3:=(q 3).trans (by simp[go_sem]:_=some (Value.bool J));have q4:=(q 4).trans (by simp[go_sem]:_=some (Value.bool r));have q5:=(q 5).trans (by simp[go_sem]:_=some (Value.slice B K D));have q6:=(q 6).trans (by simp[go_sem]:_=some (Vi M));have q7:=(q 7).trans (by simp[go_sem]:_=some (Vi N));have q8:=(q 8).trans (by simp[go_sem]:_=some (Value.slice x n y));have qf:∀o,Q.frozen? ⟨w.heap.size,o,none⟩=false:=fun o=>(World.frozen?_of_block (a:=⟨w.heap.size,o,none⟩) (b.block w.heap.size (by simp;omega) (h _ (.inl rfl)))).trans (by simp[go_sem])
  have p:∀o,Q.cell? ⟨w.heap.size+1,o,none⟩=((w.alloc (.cells #[.slice C L E,.bool z,.bool c,.bool J,.bool r,.slice B K D,Vi M,Vi N,.slice x n y] 39)).alloc (.cells Zq 39)).cell? ⟨w.heap.size+1,o,none⟩:=fun o=>(World.cell?_of_block (a:=⟨w.heap.size+1,o,none⟩) (b.block (w.heap.size+1) AX (h _ (.inr rfl)))).trans (by simp[go_sem])
  have p0:=(p 0).trans (by simp[go_sem]:_=some (Value.slice none 0 0));have p1:=(p 1).trans (by simp[go_sem]:_=some (Value.bool false));have p2:=(p 2).trans (by simp[go_sem]:_=some (Value.bool false));have p3:=(p 3).trans (by simp[go_sem]:_=some (Value.bool false));have p4:=(p 4).trans (by simp[go_sem]:_=some (Value.bool false));have p5:=(p 5).trans (by simp[go_sem]:_=some (Value.slice none 0 0));have p6:=(p 6).trans (by simp[go_sem]:_=some (Vi 0));have p7:=(p 7).trans (by simp[go_sem]:_=some (Vi 0));have p8:=(p 8).trans (by simp[go_sem]:_=some (Value.slice none 0 0));have pf:∀o,Q.frozen? ⟨w.heap.size+1,o,none⟩=false:=fun o=>(World.frozen?_of_block (a:=⟨w.heap.size+1,o,none⟩) (b.block (w.heap.size+1) AX (h _ (.inr rfl)))).trans (by simp[go_sem])
  have HG:Hid (w.grownBy Q (Value.slice x n y).ownBlock):=⟨b.os,b.tape,b.output,Nat.le_trans (by simp;omega) b.size,fun k hk h=>(b.block k (by simp;omega) h).trans ((Vo _ _ k (by simp;omega)).trans ((Vo _ _ k (by simp;omega)).trans (Vo w _ k hk)))⟩
  have X:=hxy d;have aa:g≠w.heap.size/\g≠w.heap.size+1:=by
   have hb:=gN d;constructor
   ·rintro rfl
    have F:=b.block w.heap.size (by simp;omega) (h _ (.inl rfl));rw[Vo _ _ _ (by simp;omega),Vo _ _ _ AX,heap_alloc_new]at F;obtain⟨Y,r⟩:=hb;rw[r]at F;simp at F
   ·rintro rfl
    have F:=b.block (w.heap.size+1) AX (h _ (.inr rfl));rw[Vo _ _ _ AX]at F;have e2:=heap_alloc_new (w.alloc (.cells #[.slice C L E,.bool z,.bool c,.bool J,.bool r,.slice B K D,Vi M,Vi N,.slice x n y] 39)) (.cells Zq 39);simp only[World.size_alloc]at e2;obtain⟨Y,r⟩:=hb;rw[r,e2]at F;simp at F
  clear d b hi R S U q p;go_wp2;refine mY (.agg #[.slice C L E,.bool z,.bool c,.bool J,.bool r,.slice B K D,Vi M,Vi N,Vs g (n+1) m]) (by simp[results,Tryz.results83,go_sem,p0,p1,p2,p3,p4,p5,p6,p7,p8]) ⟨g,m,rfl,?_,?_⟩
  ·iterate 10 refine ownsRow_setCell_other ?_ (by simp[Value.ownBlock];omega) _
   exact X
  ·iterate 10 refine Uk ?_ AX _
   exact HG
end
end Go.Proofs.YtcjnmdgomocpgaaGreatDoor
