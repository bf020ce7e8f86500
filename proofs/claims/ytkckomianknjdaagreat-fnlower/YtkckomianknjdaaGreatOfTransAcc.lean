import Derived.Test.YtkckomianknjdaaGreatOfCoreF
import Derived.Test.YtkckomianknjdaaGreatOfLen64
import Derived.Test.YtkckomianknjdaaGreatOfValBlock
import Derived.Test.YtkckomianknjdaaGreatOfFlatAny
import Derived.Deep.Cut
import Derived.Deep.DeepCutAuto
set_option maxHeartbeats 4000000
set_option maxRecDepth 20000
namespace Go.Proofs.YtkckomianknjdaaGreat
open Go.RowKit
variable {C E Z d h m:Int}{a b:VV}{u w:World}
theorem Qs(s:Bool)(m:Int)(w:World):
 Calls Tryz.prog 144 #[.bool s,Vi m] w fun e b=>e=.returned (.agg #[Vi 0,.bool s,Vi (BH s m).m,Vi 0,Vi 0,Vi 0])/\b=w.alloc (.cells #[Vi 0,.bool s,Vi (BH s m).m,Vi 0,Vi 0,Vi 0] 95):=by
 by_cases h:m<0∨1099511627776<m
 ·have a:(BH s m).m= -1:=by simp[BH,h]
  rw[a];clear a;by_cases c:m<0
  all_goals
   go_enter Tryz.func144,Tryz.ntmps144;go_wp2;exact bodyPost_ret (v:=.agg #[Vi 0,.bool s,Vi (-1),Vi 0,Vi 0,Vi 0]) (by simp[results,Tryz.results144,go_sem]) rfl ⟨rfl,rfl⟩
 ·have a:(BH s m).m=m:=by simp[BH,h]
  rw[a];clear a;go_enter Tryz.func144,Tryz.ntmps144;go_wp2;exact bodyPost_ret (v:=.agg #[Vi 0,.bool s,Vi m,Vi 0,Vi 0,Vi 0]) (by simp[results,Tryz.results144,go_sem]) rfl ⟨rfl,rfl⟩
theorem Av(s:Bool)(m:Int)(w:World):
 Calls Tryz.prog 144 #[.bool s,Vi m] w fun e c=>e=.returned (BH s m).v/\Below w.heap.size w c:=
 (Qs s m w).mono fun _ _⟨a,b⟩=>⟨a,by rw[b];exact Ah⟩
theorem Sj(k:Int)(s:Bool)(m h b a:Int)(w:World):
 Calls Tryz.prog 160 #[.agg #[Vi k,.bool s,Vi m,Vi h,Vi b,Vi a]] w fun e c=>e=.returned (Vi (Au ⟨k,s,m,h,b,a⟩))/\c=w.alloc (.cells #[Vi k,.bool s,Vi m,Vi h,Vi b,Vi a] 95):=by
 go_enter Tryz.func160,Tryz.ntmps160;go_wp2;all_goals(go_ret;refine⟨Bb ?_,rfl⟩;simp_all[Au])
theorem Cz(k:Int)(s:Bool)(m h b a:Int)(w:World):
 Calls Tryz.prog 160 #[.agg #[Vi k,.bool s,Vi m,Vi h,Vi b,Vi a]] w fun e j=>e=.returned (Vi (Au ⟨k,s,m,h,b,a⟩))/\Below w.heap.size w j:=
 (Sj k s m h b a w).mono fun _ _⟨c,d⟩=>⟨c,by rw[d];exact Ah⟩
theorem LK(a b:Int)(w:World)(j:0<=a)(p:a<=1099511627776)(l:0<=b)(r:b<=1099511627776):
 Calls Tryz.prog 165 #[Vi a,Vi b] w fun e o=>e=.returned (Vi (FC a b))/\o=w:=by
 by_cases c:a=0
 ·subst c
  go_enter Tryz.func165,Tryz.ntmps165;go_wp2;go_ret;exact⟨Bb (by simp[FC]),rfl⟩
 by_cases d:b=0
 ·subst d
  go_enter Tryz.func165,Tryz.ntmps165;go_wp2;go_ret;exact⟨Bb (by simp[FC]),rfl⟩
 have q:1<=a:=AB;have s:(a==0)=false:=by simp[c]
 have u:(b==0)=false:=by simp[d]
 have B:0<=1099511627776/a:=Int.ediv_nonneg AB j;have C:1099511627776/a<=1099511627776:=Int.ediv_le_self _ AB;by_cases h:1099511627776/a<b
 ·go_enter Tryz.func165,Tryz.ntmps165
  go_wp2;go_ret;exact⟨Bb (by simp[FC,c,d,h]),rfl⟩
 ·have A:a*b<=1099511627776:=by
   have m:b<=1099511627776/a:=AB;have y:=Int.mul_le_mul_of_nonneg_left m j;have z:=Int.mul_ediv_self_le (x:=1099511627776) (k:=a) AB;omega
  have n:0<=a*b:=Int.mul_nonneg j l;go_enter Tryz.func165,Tryz.ntmps165;go_wp2;go_ret;exact⟨Bb (by simp[FC,c,d];omega),rfl⟩
theorem IE(k:Int)(s:Bool)(m h A z:Int)(n:Int)(p:Bool)(o d b a:Int)(w:World):
 Calls Tryz.prog 164 #[.agg #[Vi k,.bool s,Vi m,Vi h,Vi A,Vi z],.agg #[Vi n,.bool p,Vi o,Vi d,Vi b,Vi a]] w fun e M=>e=.returned (.bool (decide (0<=Au ⟨k,s,m,h,A,z⟩/\0<=Au ⟨n,p,o,d,b,a⟩)))/\Below w.heap.size w M:=by
 obtain⟨x,C⟩:=BG (Au ⟨k,s,m,h,A,z⟩);obtain⟨y,D⟩:=BG (Au ⟨n,p,o,d,b,a⟩);have J:=hxy C;have K:=hxy D;rw[C,D];clear C D;go_enter Tryz.func164,Tryz.ntmps164;go_wp2_with fail;obtain⟨u,F,l,E⟩:∃v,(w.alloc (.cells #[Vi k,.bool s,Vi m,Vi h,Vi A,Vi z] 95)).alloc (.cells #[Vi n,.bool p,Vi o,Vi d,Vi b,Vi a] 95)=v/\Bw w v/\Cl v (w.heap.size+1) [Vi n,.bool p,Vi o,Vi d,Vi b,Vi a]:=by
  refine⟨_,rfl,(Ah).alloc AY _,?_⟩;have h:=Cl.new (w:=w.alloc (.cells #[Vi k,.bool s,Vi m,Vi h,Vi A,Vi z] 95)) (vs:=#[Vi n,.bool p,Vi o,Vi d,Vi b,Vi a]) (t:=95);simp only[World.size_alloc]at h;exact h
 rw[F];refine(Cz _ _ _ _ _ _ _).mono ?_;rintro e q⟨rfl,j⟩;have B:=hxy (l.trans (j.mono l.size));have c:=E.below j;have N:q.cell? ⟨w.heap.size+1,0,none⟩=some (Vi n):=c.2 0 AY;have O:q.cell? ⟨w.heap.size+1,1,none⟩=some (.bool p):=c.2 1 AY;have Q:q.cell? ⟨w.heap.size+1,2,none⟩=some (Vi o):=c.2 2 AY;have R:q.cell? ⟨w.heap.size+1,3,none⟩=some (Vi d):=c.2 3 AY;have S:q.cell? ⟨w.heap.size+1,4,none⟩=some (Vi b):=c.2 4 AY;have U:q.cell? ⟨w.heap.size+1,5,none⟩=some (Vi a):=c.2 5 AY;clear F l E j c;rw[J.out];by_cases L:0<=x
 ·go_wp2_with fail
  refine(Cz _ _ _ _ _ _ _).mono ?_;rintro e X⟨rfl,r⟩;have I:=hxy (B.trans (r.mono B.size));clear r;rw[K.out];go_wp2;go_ret;exact⟨AZ (by simp[L]),I⟩
 ·go_wp2
  go_ret;exact⟨AZ (by simp;omega),B⟩
theorem J8(a b:Int)(w:World):Calls Tryz.prog 168 #[Vi a,Vi b] w fun e c=>e=.returned (Vi (Jk a b))/\c=w:=by
 go_enter Tryz.func168,Tryz.ntmps168;go_wp2;all_goals(go_ret;refine⟨Bb ?_,rfl⟩;simp[Jk]<;>omega)
theorem LZ(a b:Int)(w:World):Calls Tryz.prog 166 #[Vi a,Vi b] w fun e c=>e=.returned (Vi (En a b))/\c=w:=by
 by_cases d:a<0
 ·go_enter Tryz.func166,Tryz.ntmps166
  go_wp2;all_goals(go_ret;refine⟨Bb ?_,rfl⟩;simp[En]<;>omega)
 ·by_cases h:0<=b
  ·go_enter Tryz.func166,Tryz.ntmps166
   go_wp2;all_goals(go_ret;refine⟨Bb ?_,rfl⟩;simp[En]<;>omega)
  ·go_enter Tryz.func166,Tryz.ntmps166
   go_wp2;all_goals(go_ret;refine⟨Bb ?_,rfl⟩;simp[En]<;>omega)
theorem Vj{x:Int}{i:Nat}(h:((2^i:Nat):Int)-1<x)(a:x<=1099511627776):i<=40:=by
 by_cases g:i<=40
 ·exact g
 ·have:2^41<=2^i:=Nat.pow_le_pow_right Aa AB
  have:(2:Nat)^41=2199023255552:=Aa;omega
theorem VH{x:Int}{i:Nat}(m:0<=x)(h:x<=((2^i:Nat):Int)-1)(c:i=0∨((2^(i-1):Nat):Int)-1<x):JZ x=((2^i:Nat):Int)-1:=by
 obtain⟨n,rfl⟩:∃n:Nat,x=(n:Int):=⟨x.toNat,AB⟩
 have a:n<2^i:=AB;unfold JZ;rw[Int.toNat_natCast];have:Bg n=i:=by
  unfold Bg;rcases c with rfl|c
  ·simp at a;simp[a]
  ·have d:2^(i-1)<=n:=AB
   have b:n≠0:=by have:=Nat.two_pow_pos (i-1);omega
   rw[if_neg b];have j:=(Nat.log2_lt b (k:=i)).2 a;have l:=(Nat.le_log2 b (k:=i-1)).2 d;by_cases e:i=0
   ·subst e;simp at a;omega
   ·omega
 rw[this]
theorem NU(x:Int)(w:World)(r:0<=x)(s:x<=1099511627776):Calls Tryz.prog 167 #[Vi x] w fun e q=>e=.returned (Vi (JZ x))/\q=w:=by
 go_enter Tryz.func167,Tryz.ntmps167;go_wp2;go_loop [3](fun o=>∃i:Nat,i<=41/\o=Vi (((2^i:Nat):Int)-1)/\(i=0∨((2^(i-1):Nat):Int)-1<x))(fun o=>(2*x+2-intOf o).toNat)
 case atStart=>exact⟨0,AB,rfl,Or.inl rfl⟩
 case round=>
  obtain⟨i,n,rfl,h⟩:=hrel;have l:=hxy h;clear h;have u:1<=2^i:=Nat.two_pow_pos i;have c:2^i<=2^41:=Nat.pow_le_pow_right Aa n;have a:(2:Nat)^41=2199023255552:=Aa;rw[a]at c;clear a;by_cases b:((2^i:Nat):Int)-1<x
  ·have m:=Vj b s
   have j:2^(i+1)=2*2^i:=by rw[Nat.pow_succ,Nat.mul_comm]
   have HS:=hxy j;have k:=hxy b;clear j;generalize p:2^i=y at *;go_wp2;go_round
   case rel=>
    refine⟨i+1,AB,?_,Or.inr ?_⟩
    ·rw[HS.out]
     go_num
    ·rw[Nat.add_sub_cancel,p];exact k
   case measure=>simp[intOf];omega
  ·have d:=VH r AB l
   have HD:=hxy d;clear d;generalize 2^i=y at *;go_wp2;go_ret;exact⟨Bb HD.symm,rfl⟩
theorem KF(s:Bool)(w:World):Calls Tryz.prog 157 #[.bool s] w fun e a=>e=.returned (Vi (if s then 2 else 1))/\a=w:=by
 cases s;all_goals
  go_enter Tryz.func157,Tryz.ntmps157;go_wp2;go_ret;exact⟨rfl,rfl⟩
theorem Ot(a b:VV)(w:World)(C:Bd a)(D:Bd b):
 Calls Tryz.prog 163 #[.agg #[.int .i64 a.k,.bool a.s,.int .i64 a.m,.int .i64 a.h,.int .i64 a.lo,.int .i64 a.hi],.agg #[.int .i64 b.k,.bool b.s,.int .i64 b.m,.int .i64 b.h,.int .i64 b.lo,.int .i64 b.hi]] w fun e c=>e=.returned (QH a b).v/\Below w.heap.size w c:=by
 obtain⟨p,q,n,o,d,j,l⟩:=C;obtain⟨A,B,y,z,r,u,x⟩:=D;obtain⟨k,s,m,h,L,J⟩:=a;obtain⟨K,N,M,I,F,E⟩:=b;simp only at *;rcases l with rfl|rfl<;>rcases x with rfl|rfl
 all_goals
  go_enter Tryz.func163,Tryz.ntmps163;go_wp2_with(first|(go_at_call 160;refine(Sj _ _ _ _ _ _ _).mono ?_;rintro e c⟨rfl,rfl⟩;simp only[Au,if_true,if_neg (show¬(0:Int)=1 by omega)])|(go_at_call 144;refine(Qs _ _ _).mono ?_;rintro e c⟨rfl,rfl⟩))
 all_goals
  refine' bodyPost_ret (v:=_) ?_ rfl ⟨?_,?_⟩;rotate_left 1
  ·simp[results,Tryz.results163,go_sem];rfl
  rotate_left 1
  ·repeat(first|exact Below.refl _ _|refine Below.setCell ?_ AY _|refine Below.alloc ?_ (by simp<;>omega) _)
  ·simp only[QH,Xp,BH,Au,VV.v]
   (repeat' split)<;>simp_all<;>omega
structure Rk(w u:World)(op d ra rb imm h:Int)(a b:VV):Prop where
 bel:Below w.heap.size w u
 I:Cl u w.heap.size [Vi op,Vi d,Vi ra,Vi rb,Vi imm,Vi h]
 A:Vb u (w.heap.size+1) a
 B:Vb u (w.heap.size+1+1) b
 R:Vb u (w.heap.size+1+1+1) zV
 oR:w.heap.size<=w.heap.size+1+1+1
theorem Rk.below{v:World}(p:Rk w u Z d E C m h a b)(c:Below u.heap.size u v):Rk w v Z d E C m h a b:=
 ⟨p.bel.trans (c.mono p.bel.size),p.I.below c,p.A.below c p.A.lt,p.B.below c p.B.lt,p.R.below c p.R.lt,p.oR⟩
theorem Rk.S(p:Rk w u Z d E C m h a b):Vb u (w.heap.size+1) a/\Vb u (w.heap.size+1+1) b/\u.cell? ⟨w.heap.size,4,none⟩=some (Vi m):=⟨p.A,p.B,p.I.2 4 AY⟩
theorem JH{q b o:Nat}{x:VV}(h:b≠q):(Im u q x).cell? (Va b o)=u.cell? (Va b o):=by
 have e:∀(v:World)(j:Nat)(y:Value),(v.setCell (Va q j) y).cell? (Va b o)=v.cell? (Va b o):=fun v j y=>World.cell?_setCell_other _ _ _ _ (fun e=>h (congrArg Addr.block e).symm)
 unfold Im;rw[e,e,e,e,e,e]
theorem Aq{b:Nat}(p:Cl u b [Vi Z,Vi d,Vi E,Vi C,Vi m,Vi h]):u.cell? (Va b 0)=some (Vi Z)/\u.cell? (Va b 1)=some (Vi d)/\u.cell? (Va b 2)=some (Vi E)/\u.cell? (Va b 3)=some (Vi C)/\u.cell? (Va b 4)=some (Vi m)/\u.cell? (Va b 5)=some (Vi h):=
 ⟨p.2 0 AY,p.2 1 AY,p.2 2 AY,p.2 3 AY,p.2 4 AY,p.2 5 AY⟩
abbrev V6(w:World)(b:Nat)(x:VV):Prop:=w.cell? ⟨b,0,none⟩=some (.int .i64 x.k)/\w.cell? ⟨b,1,none⟩=some (.bool x.s)/\w.cell? ⟨b,2,none⟩=some (.int .i64 x.m)/\w.cell? ⟨b,3,none⟩=some (.int .i64 x.h)/\w.cell? ⟨b,4,none⟩=some (.int .i64 x.lo)/\w.cell? ⟨b,5,none⟩=some (.int .i64 x.hi)
theorem Rk.al{op ra rb imm:Int}(p:Rk w u op d ra rb imm h a b):(u.cell? ⟨w.heap.size,0,none⟩=some (.int .i64 op)/\u.cell? ⟨w.heap.size,1,none⟩=some (.int .i64 d)/\u.cell? ⟨w.heap.size,2,none⟩=some (.int .i64 ra)/\u.cell? ⟨w.heap.size,3,none⟩=some (.int .i64 rb)/\u.cell? ⟨w.heap.size,4,none⟩=some (.int .i64 imm)/\u.cell? ⟨w.heap.size,5,none⟩=some (.int .i64 h))/\V6 u (w.heap.size+1) a/\V6 u (w.heap.size+1+1) b/\V6 u (w.heap.size+1+1+1) zV/\(∀j,u.frozen? ⟨w.heap.size+1+1+1,j,none⟩=false)/\w.heap.size+1+1+1<u.heap.size/\(∀j,u.frozen? ⟨w.heap.size+1,j,none⟩=false):=⟨Aq p.I,p.A.cells,p.B.cells,p.R.cells,p.R.free,p.R.lt,p.A.free⟩
theorem LW(h:0<=Au a)(b:Bd a):0<=a.m/\a.m<=1099511627776:=by
 refine⟨?_,b.m1⟩;unfold Au at h;split at h<;>omega
theorem Km(i:Int)(w:World)(b:0<=i)(c:i<=63):Calls Tryz.prog 72 #[Vi i] w fun e a=>e=.returned (.int .u64 ((2^i.toNat:Nat):Int))/\a=w:=by
 obtain⟨n,rfl⟩:∃n:Nat,i=n:=⟨i.toNat,AB⟩
 exact Hq n w AB
theorem Zw{i:Int}(b:0<=i)(c:i<=40):∃a:Int,((2^i.toNat:Nat):Int)=a/\1<=a/\a<=1099511627776:=by
 refine⟨_,rfl,?_,?_⟩
 ·have:=Nat.two_pow_pos i.toNat;omega
 ·have:2^i.toNat<=2^40:=Nat.pow_le_pow_right Aa AB
  have e:(2:Nat)^40=1099511627776:=Aa;omega
theorem jJ{i:Int}(b:0<=i)(c:i<=63):∃a:Int,((2^i.toNat:Nat):Int)=a/\1<=a/\a<=9223372036854775808:=by
 refine⟨_,rfl,?_,?_⟩
 ·have:=Nat.two_pow_pos i.toNat;omega
 ·have:2^i.toNat<=2^63:=Nat.pow_le_pow_right Aa AB
  have e:(2:Nat)^63=9223372036854775808:=Aa;omega
theorem fA{p:Int}(a:0<=m)(b:m<=1099511627776)(c:1<=p):∃y:Int,m/p=y/\0<=y/\y<=1099511627776:=
 ⟨_,rfl,Int.ediv_nonneg a AB,Int.le_trans (Int.ediv_le_self _ a) b⟩
theorem Dq(w:World){op ra rb imm:Int}(a b:VV):∃u,(((w.alloc (.cells #[Vi op,Vi d,Vi ra,Vi rb,Vi imm,Vi h] 85)).alloc (.cells #[Vi a.k,.bool a.s,Vi a.m,Vi a.h,Vi a.lo,Vi a.hi] 95)).alloc (.cells #[Vi b.k,.bool b.s,Vi b.m,Vi b.h,Vi b.lo,Vi b.hi] 95)).alloc (.cells #[Vi 0,.bool false,Vi 0,Vi 0,Vi 0,Vi 0] 95)=u/\Rk w u op d ra rb imm h a b:=by
 have c:=Vb.new (w.alloc (.cells #[Vi op,Vi d,Vi ra,Vi rb,Vi imm,Vi h] 85)) a;have e:=Vb.new ((w.alloc (.cells #[Vi op,Vi d,Vi ra,Vi rb,Vi imm,Vi h] 85)).alloc (.cells #[Vi a.k,.bool a.s,Vi a.m,Vi a.h,Vi a.lo,Vi a.hi] 95)) b;have j:=Vb.new (((w.alloc (.cells #[Vi op,Vi d,Vi ra,Vi rb,Vi imm,Vi h] 85)).alloc (.cells #[Vi a.k,.bool a.s,Vi a.m,Vi a.h,Vi a.lo,Vi a.hi] 95)).alloc (.cells #[Vi b.k,.bool b.s,Vi b.m,Vi b.h,Vi b.lo,Vi b.hi] 95)) zV;simp only[World.size_alloc]at c e j;refine⟨_,rfl,?_,?_,?_,?_,j,AB⟩
 ·exact(((Ah).alloc AY _).alloc (by simp;omega) _).alloc (by simp;omega) _
 ·exact(((Cl.new).below Ah).below Ah).below Ah
 ·exact(c.below Ah c.lt).below Ah AY
 ·exact e.below Ah e.lt
theorem Tz(d l n c h:Int)(a b:VV)(s:Bool)(w:World):
 Calls Tryz.prog 156 #[.agg #[Vi 1,Vi d,Vi l,Vi n,Vi c,Vi h],.agg #[Vi a.k,.bool a.s,Vi a.m,Vi a.h,Vi a.lo,Vi a.hi],.agg #[Vi b.k,.bool b.s,Vi b.m,Vi b.h,Vi b.lo,Vi b.hi],.bool s] w fun e q=>e=.returned (Cr 1 c a b s).v/\Below w.heap.size w q:=by
 go_enter Tryz.func156,Tryz.ntmps156;go_upto_region 1 with fail;obtain⟨u0,o,p⟩:=Dq w (op:=1) (d:=d) (ra:=l) (rb:=n) (imm:=c) (h:=h) a b;rw[o];have j:=hxy p;have r:=j.al;go_wp2;exact bodyPost_ret (v:=VV.v a) (by simp[results,Tryz.results156,go_sem,VV.v, *]) rfl ⟨congrArg (fun v=>Ending.returned (VV.v v)) (by simp[Cr]),Ap j.bel j.oR a⟩
theorem TN(d l n c h:Int)(a b:VV)(s:Bool)(w:World):
 Calls Tryz.prog 156 #[.agg #[Vi 2,Vi d,Vi l,Vi n,Vi c,Vi h],.agg #[Vi a.k,.bool a.s,Vi a.m,Vi a.h,Vi a.lo,Vi a.hi],.agg #[Vi b.k,.bool b.s,Vi b.m,Vi b.h,Vi b.lo,Vi b.hi],.bool s] w fun e x=>e=.returned (Cr 2 c a b s).v/\Below w.heap.size w x:=by
 go_enter Tryz.func156,Tryz.ntmps156;go_upto_region 1 with fail;obtain⟨u0,q,u⟩:=Dq w (op:=2) (d:=d) (ra:=l) (rb:=n) (imm:=c) (h:=h) a b;rw[q];have o:=hxy u;have r:=o.al;go_wp2_with fail;refine(Av false c _).mono ?_;rintro e u1⟨rfl,p⟩;have j:=hxy (o.below p);simp only[VV.v];have r:=j.al;go_wp2;exact bodyPost_ret (v:=VV.v (BH false c)) (by simp[results,Tryz.results156,go_sem,VV.v, *]) rfl ⟨congrArg (fun v=>Ending.returned (VV.v v)) (by simp[Cr]),Ap j.bel j.oR (BH false c)⟩
end Go.Proofs.YtkckomianknjdaaGreat
namespace Go.Proofs.YtkckomianknjdaaGreat
open Go.RowKit Go.Deep
variable {E Z c d h m rb z:Int}{J K o:Nat}
def GJ(V:Nat->VV)(d:Nat)(r:VV)(i:Nat):VV:=if i=d then r else V i
def eU(w w':World)(e:Ending)(err:Int)(V:Nat->VV)(z c:Int):Prop:=
 (err≠0/\e=.returned (.agg #[Vi err,.slice none 0 0,Vi 0,Vi 0]))∨(err=0/\∃g cg,w.heap.size<=g/\e=.returned (.agg #[Vi 0,Vs g 8 cg,Vi z,Vi c])/\BZ w' g (8*6) (vF V))
structure ZO(w u:World)(bH nH cH bR nR cR bA nA cA:Nat)(z c op d ra rb imm h:Int):Prop where
 bel:Below w.heap.size w u
 S:Cl u w.heap.size [Vs bH nH cH,Vs bR nR cR]
 A:Cl u (w.heap.size+1) [Vs bA nA cA,Vi z,Vi c]
 I:Cl u (w.heap.size+1+1) [Vi op,Vi d,Vi ra,Vi rb,Vi imm,Vi h]
 R:Cl u (w.heap.size+1+1+1) [Vi 0,.slice none 0 0,Vi 0,Vi 0]
 RF:∀i,u.frozen? ⟨w.heap.size+1+1+1,i,none⟩=false
theorem ZO.below{w u v:World}{bH Q C cR nA cA:Nat}(p:ZO w u bH o Q C J cR K nA cA z c Z d E rb m h)(a:Below u.heap.size u v):ZO w v bH o Q C J cR K nA cA z c Z d E rb m h:=
 ⟨p.bel.trans (a.mono p.bel.size),p.S.below a,p.A.below a,p.I.below a,p.R.below a,fun i=>(a.frozen (p:=⟨w.heap.size+1+1+1,i,none⟩) p.R.1).trans (p.RF i)⟩
theorem MN(w:World)(e o l j p m b n k:Nat){op ra imm:Int}:∃u,(((w.alloc (.cells #[Vs e o l,Vs j p m] 45)).alloc (.cells #[Vs b n k,Vi z,Vi c] 142)).alloc (.cells #[Vi op,Vi d,Vi ra,Vi rb,Vi imm,Vi h] 85)).alloc (.cells #[Vi 0,.slice none 0 0,Vi 0,Vi 0] 192)=u/\ZO w u e o l j p m b n k z c op d ra rb imm h:=by
 have M:=Cl.new (w:=w) (vs:=#[Vs e o l,Vs j p m]) (t:=45);generalize D:w.alloc (.cells #[Vs e o l,Vs j p m] 45)=x at *;have I:x.heap.size=w.heap.size+1:=by rw[<-D];simp
 have K:Bw w x:=by rw[<-D];exact Ah
 have N:=Cl.new (w:=x) (vs:=#[Vs b n k,Vi z,Vi c]) (t:=142);generalize E:x.alloc (.cells #[Vs b n k,Vi z,Vi c] 142)=y at *;have J:y.heap.size=w.heap.size+1+1:=by rw[<-E];simp[I]
 have r:Bw x y:=by rw[<-E];exact Ah
 have A:=Cl.new (w:=y) (vs:=#[Vi op,Vi d,Vi ra,Vi rb,Vi imm,Vi h]) (t:=85);generalize F:y.alloc (.cells #[Vi op,Vi d,Vi ra,Vi rb,Vi imm,Vi h] 85)=v at *;have O:v.heap.size=w.heap.size+1+1+1:=by rw[<-F];simp[J]
 have q:Bw y v:=by rw[<-F];exact Ah
 have B:=Cl.new (w:=v) (vs:=#[Vi 0,.slice none 0 0,Vi 0,Vi 0]) (t:=192);have C:∀i,(v.alloc (.cells #[Vi 0,.slice none 0 0,Vi 0,Vi 0] 192)).frozen? ⟨v.heap.size,i,none⟩=false:=fun i=>by simp[go_sem]
 have a:Bw v (v.alloc (.cells #[Vi 0,.slice none 0 0,Vi 0,Vi 0] 192)):=Ah;have L:=(M.below r).below q;have s:=N.below q;rw[I]at s;rw[J]at A;rw[O]at B C;exact⟨_,rfl,((K.trans (r.mono AB)).trans (q.mono AB)).trans (a.mono AB),L.below a,s.below a,A.below a,B,C⟩
theorem CP{w u:World}{bH Q C cR nA cA:Nat}(p:ZO w u bH o Q C J cR K nA cA z c Z d E rb m h):(u.cell? ⟨w.heap.size,0,none⟩=some (Vs bH o Q)/\u.cell? ⟨w.heap.size,1,none⟩=some (Vs C J cR))/\(u.cell? ⟨w.heap.size+1,0,none⟩=some (Vs K nA cA)/\u.cell? ⟨w.heap.size+1,1,none⟩=some (Vi z)/\u.cell? ⟨w.heap.size+1,2,none⟩=some (Vi c))/\(u.cell? ⟨w.heap.size+1+1+1,0,none⟩=some (Vi 0)/\u.cell? ⟨w.heap.size+1+1+1,1,none⟩=some (.slice none 0 0)/\u.cell? ⟨w.heap.size+1+1+1,2,none⟩=some (Vi 0)/\u.cell? ⟨w.heap.size+1+1+1,3,none⟩=some (Vi 0)):=
 ⟨⟨p.S.2 0 AY,p.S.2 1 AY⟩,⟨p.A.2 0 AY,p.A.2 1 AY,p.A.2 2 AY⟩,p.R.2 0 AY,p.R.2 1 AY,p.R.2 2 AY,p.R.2 3 AY⟩
theorem IC{v:VV}{n:Int}(h:Er v n=true):Bd v:=by
 unfold Er at h;split at h
 ·rename_i a
  have q:=of_decide_eq_true h;exact⟨q.1,q.2.1,AB,AB,AB,AB,Or.inl a⟩
 ·have q:=of_decide_eq_true h
  exact⟨AB,AB,AB,AB,AB,AB,Or.inr q.1⟩
theorem PZ{v:VV}{n:Int}(h:Er v n=true)(a:v.k=1):0<=v.h/\v.h<n:=by
 unfold Er at h;rw[if_neg AB]at h;have q:=of_decide_eq_true h;omega
theorem Ov{S:Nat->HS}{M V:Nat->VV}(h:BQ o S J M K V z c=true):K=8/\o<=8/\∀i,i<8->Er (V i) o=true:=by
 unfold BQ at h;simp only[Bool.and_eq_true]at h;obtain⟨⟨⟨e,a⟩,_⟩,_⟩:=h;have b:=Uj e;unfold Dp at a;rw[Bool.and_eq_true]at a;have d:=of_decide_eq_true a.1;refine⟨d,b,fun i j=>?_⟩;have:=List.all_eq_true.1 a.2 i (List.mem_range.2 AB);exact this
theorem Wu{C:Int}(e:Ar Z d E C m h=true)(o:Z<=28):1<=Z/\0<=d/\d<=7/\0<=E/\E<=7/\0<=C/\C<=7/\0<=h/\h<=7/\ -1000000<=m/\m<=1000000/\(Z=12∨Z=13->0<=m/\m<=63):=by
 unfold Ar at e;have f:∀(u:Bool)(v b a:Int),Da u v b a=true->(b<=v/\v<=a)∨v=0:=fun u v b a h=>by
  unfold Da Dm at h;cases u<;>simp at h<;>omega
 simp only[Bool.and_eq_true]at e;obtain⟨⟨⟨⟨⟨c,j⟩,k⟩,l⟩,n⟩,p⟩:=e;have q:1<=Z:=by unfold Dm at c;simp at c;omega
 have s: -1000000<=Cv Z/\DI Z<=1000000:=by unfold Cv DI;(repeat' split)<;>omega
 have r:Z=12∨Z=13->Cv Z=0/\DI Z=63:=fun h=>by unfold Cv DI;rw[if_pos AB,if_pos h];exact⟨rfl,rfl⟩
 have:=f _ _ _ _ j;have:=f _ _ _ _ k;have:=f _ _ _ _ l;have:=f _ _ _ _ n;have:=f _ _ _ _ p;refine⟨q,AB,AB,AB,AB,AB,AB,AB,AB,AB,AB,fun h=>?_⟩;have:=r h;omega
end Go.Proofs.YtkckomianknjdaaGreat
namespace Go.Proofs.YtkckomianknjdaaGreat
open Go.RowKit
variable {b g o:Nat}{V:Nat->VV}{a:VV}{u w:World}
def fB(w':World)(g cg:Nat)(e:Ending)(err:Int)(V:Nat->VV)(z c:Int):Prop:=
 (err≠0/\e=.returned (.agg #[Vi err,.slice none 0 0,Vi 0,Vi 0]))∨(err=0/\e=.returned (.agg #[Vi 0,Vs g 8 cg,Vi z,Vi c])/\BZ w' g (8*6) (vF V))
def FW(w:World)(b o:Nat)(r:VV):World:=(((((w.setCell (Va b o) (Vi r.k)).setCell (Va b (o+1)) (.bool r.s)).setCell (Va b (o+2)) (Vi r.m)).setCell (Va b (o+3)) (Vi r.h)).setCell (Va b (o+4)) (Vi r.lo)).setCell (Va b (o+5)) (Vi r.hi)
theorem MI(h:BZ w b (8*6) (vF V)){d:Nat}(k:d<8)(r:VV):BZ (FW w b (d*6) r) b (8*6) (vF (GJ V d r)):=by
 refine(BZ.set1 (BZ.set1 (BZ.set1 (BZ.set1 (BZ.set1 (BZ.set1 h (d*6) AB _) (d*6+1) AB _) (d*6+2) AB _) (d*6+3) AB _) (d*6+4) AB _) (d*6+5) AB _).congr (fun i l=>?_);have m:=Nat.div_add_mod i 6;have c:i%6<6:=Nat.mod_lt _ Aa;simp only[vF,GJ];generalize i/6=j at *;generalize i%6=e at *;by_cases a:j=d
 ·subst a
  rw[if_pos rfl];match e,c with
  |0,_=>rw[if_neg AB,if_neg AB,if_neg AB,if_neg AB,if_neg AB,if_pos AB];rfl
  |1,_=>rw[if_neg AB,if_neg AB,if_neg AB,if_neg AB,if_pos AB];rfl
  |2,_=>rw[if_neg AB,if_neg AB,if_neg AB,if_pos AB];rfl
  |3,_=>rw[if_neg AB,if_neg AB,if_pos AB];rfl
  |4,_=>rw[if_neg AB,if_pos AB];rfl
  |5,_=>rw[if_pos AB];rfl
 ·rw[if_neg a]
  iterate 6 rw[if_neg AB]
theorem Nq{B:Nat}{F:World}(h:Below B F w)(a:B<=b)(r:VV):Below B F (FW w b o r):=by
 unfold FW;exact(((((h.setCell a _).setCell a _).setCell a _).setCell a _).setCell a _).setCell a _
theorem ES{c:Nat}{R:List Value}(h:Cl w c R)(a:b≠c)(r:VV):Cl (FW w b o r) c R:=
 ⟨by unfold FW;simpa using h.1,fun i d=>by unfold FW;(iterate 6 refine(World.cell?_setCell_far _ _ _ _ a).trans ?_);exact h.2 i d⟩
theorem Ps{a:Addr}(r:VV):(FW w b o r).frozen? a=w.frozen? a:=by unfold FW;simp
theorem Ta(V:Nat->VV)(d:Nat)(r s:VV):GJ (GJ V d r) d s=GJ V d s:=by funext i;unfold GJ;split<;>rfl
structure Zp(w u:World)(bH nH cH bR nR cR g cg:Nat)(z c op d ra rb imm h:Int)(na nb:Nat)(a b:VV)(V:Nat->VV):Prop where
 bel:Below g w u
 S:Cl u w.heap.size [Vs bH nH cH,Vs bR nR cR]
 A:Cl u (w.heap.size+1) [Vs g 8 cg,Vi z,Vi c]
 I:Cl u (w.heap.size+1+1) [Vi op,Vi d,Vi ra,Vi rb,Vi imm,Vi h]
 R:Cl u (w.heap.size+1+1+1) [Vi 0,.slice none 0 0,Vi 0,Vi 0]
 RF:∀i,u.frozen? ⟨w.heap.size+1+1+1,i,none⟩=false
 a:Cl u na [Vi a.k,.bool a.s,Vi a.m,Vi a.h,Vi a.lo,Vi a.hi]
 b:Cl u nb [Vi b.k,.bool b.s,Vi b.m,Vi b.h,Vi b.lo,Vi b.hi]
 G:BZ u g (8*6) (vF V)
theorem Zp.below{v:World}{bH Q C J cR L:Nat}{z c Z d E rb m h:Int}{N F:Nat}{b:VV}(p:Zp w u bH o Q C J cR g L z c Z d E rb m h N F a b V)(e:Below u.heap.size u v):Zp w v bH o Q C J cR g L z c Z d E rb m h N F a b V:=
 ⟨p.bel.trans (e.mono (Nat.le_of_lt p.G.lt)),p.S.below e,p.A.below e,p.I.below e,p.R.below e,fun i=>(e.frozen (p:=⟨w.heap.size+1+1+1,i,none⟩) p.R.1).trans (p.RF i),p.a.below e,p.b.below e,p.G.below e p.G.lt⟩
theorem Zp.put{bH Q C J cR L:Nat}{z c Z d E rb m h:Int}{N F:Nat}{b:VV}(p:Zp w u bH o Q C J cR g L z c Z d E rb m h N F a b V)(l:g<w.heap.size)(j:w.heap.size<=N)(k:w.heap.size<=F){K:Nat}(e:K<8)(r:VV):Zp w (FW u g (K*6) r) bH o Q C J cR g L z c Z d E rb m h N F a b (GJ V K r):=
 ⟨Nq p.bel BP r,ES p.S AB r,ES p.A AB r,ES p.I AB r,ES p.R AB r,fun i=>(Ps r).trans (p.RF i),ES p.a AB r,ES p.b AB r,MI p.G e r⟩
theorem JN{q:Nat}(h:Cl u q [Vi a.k,.bool a.s,Vi a.m,Vi a.h,Vi a.lo,Vi a.hi]):u.cell? (Va q 0)=some (Vi a.k)/\u.cell? (Va q 1)=some (.bool a.s)/\u.cell? (Va q 2)=some (Vi a.m)/\u.cell? (Va q 3)=some (Vi a.h)/\u.cell? (Va q 4)=some (Vi a.lo)/\u.cell? (Va q 5)=some (Vi a.hi):=
 ⟨h.2 0 AY,h.2 1 AY,h.2 2 AY,h.2 3 AY,h.2 4 AY,h.2 5 AY⟩
theorem CY(h:BZ u g (8*6) (vF V))(i:Nat)(a:i<8):u.cell? (Va g (i*6))=some (Vi (V i).k)/\u.cell? (Va g (i*6+1))=some (.bool (V i).s)/\u.cell? (Va g (i*6+2))=some (Vi (V i).m)/\u.cell? (Va g (i*6+3))=some (Vi (V i).h)/\u.cell? (Va g (i*6+4))=some (Vi (V i).lo)/\u.cell? (Va g (i*6+5))=some (Vi (V i).hi):=
 ⟨(h.cell (i:=i*6+0) AB).trans (congrArg some (Cq V i 0 AB)),(h.cell (i:=i*6+1) AB).trans (congrArg some (Cq V i 1 AB)),(h.cell (i:=i*6+2) AB).trans (congrArg some (Cq V i 2 AB)),(h.cell (i:=i*6+3) AB).trans (congrArg some (Cq V i 3 AB)),(h.cell (i:=i*6+4) AB).trans (congrArg some (Cq V i 4 AB)),(h.cell (i:=i*6+5) AB).trans (congrArg some (Cq V i 5 AB))⟩
theorem TH{A:Nat}{S:Nat->HS}(h:BZ u A (o*3) (Xt S)){q:Nat}(a:q<o):u.cell? (Va A (q*3))=some (Vi (S q).size)/\u.cell? (Va A (q*3+1))=some (.bool (S q).s)/\u.cell? (Va A (q*3+2))=some (.bool (S q).w):=
 ⟨(h.cell (i:=q*3+0) AB).trans (congrArg some (QR S q 0 AB)),(h.cell (i:=q*3+1) AB).trans (congrArg some (QR S q 1 AB)),(h.cell (i:=q*3+2) AB).trans (congrArg some (QR S q 2 AB))⟩
end Go.Proofs.YtkckomianknjdaaGreat
