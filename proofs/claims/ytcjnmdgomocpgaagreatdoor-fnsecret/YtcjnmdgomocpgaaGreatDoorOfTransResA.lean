import Derived.Test.YtcjnmdgomocpgaaGreatDoorOfAbsWalks
set_option maxHeartbeats 8000000
set_option maxRecDepth 20000
namespace Go.Proofs.YtcjnmdgomocpgaaGreatDoor
open Go.RowKit
variable {C Z d h m ra:Int}{a b n p:VV}{u v w:World}
theorem Ue(s:Bool)(m:Int)(w:World):
 Ks 104 #[.bool s,Vi m] w fun e b=>e=.returned (.agg #[Vi 0,.bool s,Vi (Al s m).m,Vi 0,Vi 0,Vi 0])/\b=w.alloc (.cells #[Vi 0,.bool s,Vi (Al s m).m,Vi 0,Vi 0,Vi 0] 47):=by
 by_cases h:m<0∨1099511627776<m
 ·have a:(Al s m).m= -1:=by simp[Al,h]
  rw[a];clear a;by_cases c:m<0
  all_goals
   go_enter Tryz.func104,Tryz.ntmps104;go_wp2;exact mY (.agg #[Vi 0,.bool s,Vi (-1),Vi 0,Vi 0,Vi 0]) (by simp[results,Tryz.results104,go_sem]) ⟨rfl,rfl⟩
 ·have a:(Al s m).m=m:=by simp[Al,h]
  rw[a];clear a;go_enter Tryz.func104,Tryz.ntmps104;go_wp2;exact mY (.agg #[Vi 0,.bool s,Vi m,Vi 0,Vi 0,Vi 0]) (by simp[results,Tryz.results104,go_sem]) ⟨rfl,rfl⟩
theorem BN(s:Bool)(m:Int)(w:World):
 Ks 104 #[.bool s,Vi m] w fun e c=>e=.returned (Al s m).v/\Below w.heap.size w c:=
 (Ue s m w).mono fun _ _⟨a,b⟩=>⟨a,by rw[b];exact Ai⟩
theorem Uh(k:Int)(s:Bool)(m h b a:Int)(w:World):
 Ks 134 #[.agg #[Vi k,.bool s,Vi m,Vi h,Vi b,Vi a]] w fun e c=>e=.returned (Vi (AZ ⟨k,s,m,h,b,a⟩))/\c=w.alloc (.cells #[Vi k,.bool s,Vi m,Vi h,Vi b,Vi a] 47):=by
 go_enter Tryz.func134,Tryz.ntmps134;go_wp2;all_goals(go_ret;refine⟨Ae ?_,rfl⟩;simp_all[AZ])
theorem DI(k:Int)(s:Bool)(m h b a:Int)(w:World):
 Ks 134 #[.agg #[Vi k,.bool s,Vi m,Vi h,Vi b,Vi a]] w fun e j=>e=.returned (Vi (AZ ⟨k,s,m,h,b,a⟩))/\Below w.heap.size w j:=
 (Uh k s m h b a w).mono fun _ _⟨c,d⟩=>⟨c,by rw[d];exact Ai⟩
theorem NI(a b:Int)(w:World)(j:0<=a)(p:a<=1099511627776)(l:0<=b)(r:b<=1099511627776):
 Ks 137 #[Vi a,Vi b] w fun e o=>e=.returned (Vi (Dk a b))/\o=w:=by
 by_cases c:a=0
 ·subst c
  go_enter Tryz.func137,Tryz.ntmps137;go_wp2;go_ret;exact⟨Ae (by simp[Dk]),rfl⟩
 by_cases d:b=0
 ·subst d
  go_enter Tryz.func137,Tryz.ntmps137;go_wp2;go_ret;exact⟨Ae (by simp[Dk]),rfl⟩
 have q:1<=a:=AB;have s:(a==0)=false:=by simp[c]
 have u:(b==0)=false:=by simp[d]
 have B:0<=1099511627776/a:=Int.ediv_nonneg AB j;have C:1099511627776/a<=1099511627776:=Int.ediv_le_self _ AB;by_cases h:1099511627776/a<b
 ·go_enter Tryz.func137,Tryz.ntmps137
  go_wp2;go_ret;exact⟨Ae (by simp[Dk,c,d,h]),rfl⟩
 ·have A:a*b<=1099511627776:=by
   have m:b<=1099511627776/a:=AB;have y:=Int.mul_le_mul_of_nonneg_left m j;have z:=Int.mul_ediv_self_le (x:=1099511627776) (k:=a) AB;omega
  have n:0<=a*b:=Int.mul_nonneg j l;go_enter Tryz.func137,Tryz.ntmps137;go_wp2;go_ret;exact⟨Ae (by simp[Dk,c,d];omega),rfl⟩
theorem Kk(k:Int)(s:Bool)(m h A z:Int)(n:Int)(p:Bool)(o d b a:Int)(w:World):
 Ks 136 #[.agg #[Vi k,.bool s,Vi m,Vi h,Vi A,Vi z],.agg #[Vi n,.bool p,Vi o,Vi d,Vi b,Vi a]] w fun e M=>e=.returned (.bool (decide (0<=AZ ⟨k,s,m,h,A,z⟩/\0<=AZ ⟨n,p,o,d,b,a⟩)))/\Below w.heap.size w M:=by
 obtain⟨x,C⟩:=Au (AZ ⟨k,s,m,h,A,z⟩);obtain⟨y,D⟩:=Au (AZ ⟨n,p,o,d,b,a⟩);have J:=hxy C;have K:=hxy D;rw[C,D];clear C D;go_enter Tryz.func136,Tryz.ntmps136;go_wp2_with fail;obtain⟨u,F,l,E⟩:∃v,(w.alloc (.cells #[Vi k,.bool s,Vi m,Vi h,Vi A,Vi z] 47)).alloc (.cells #[Vi n,.bool p,Vi o,Vi d,Vi b,Vi a] 47)=v/\Bw w v/\Cl v (w.heap.size+1) [Vi n,.bool p,Vi o,Vi d,Vi b,Vi a]:=by
  refine⟨_,rfl,(Ai).alloc AX _,?_⟩;have h:=Cl.new (w:=w.alloc (.cells #[Vi k,.bool s,Vi m,Vi h,Vi A,Vi z] 47)) (vs:=#[Vi n,.bool p,Vi o,Vi d,Vi b,Vi a]) (t:=47);simp only[World.size_alloc]at h;exact h
 rw[F];refine(DI _ _ _ _ _ _ _).mono ?_;rintro e q⟨rfl,j⟩;have B:=hxy (l.trans (j.mono l.size));have c:=E.below j;have N:q.cell? ⟨w.heap.size+1,0,none⟩=some (Vi n):=c.2 0 AX;have O:q.cell? ⟨w.heap.size+1,1,none⟩=some (.bool p):=c.2 1 AX;have Q:q.cell? ⟨w.heap.size+1,2,none⟩=some (Vi o):=c.2 2 AX;have R:q.cell? ⟨w.heap.size+1,3,none⟩=some (Vi d):=c.2 3 AX;have S:q.cell? ⟨w.heap.size+1,4,none⟩=some (Vi b):=c.2 4 AX;have U:q.cell? ⟨w.heap.size+1,5,none⟩=some (Vi a):=c.2 5 AX;clear F l E j c;rw[J.out];by_cases L:0<=x
 ·go_wp2_with fail
  refine(DI _ _ _ _ _ _ _).mono ?_;rintro e X⟨rfl,r⟩;have I:=hxy (B.trans (r.mono B.size));clear r;rw[K.out];go_wp2;go_ret;exact⟨AY (by simp[L]),I⟩
 ·go_wp2
  go_ret;exact⟨AY (by simp;omega),B⟩
theorem SH(a b:Int)(w:World):Ks 140 #[Vi a,Vi b] w fun e c=>e=.returned (Vi (Ic a b))/\c=w:=by
 go_enter Tryz.func140,Tryz.ntmps140;go_wp2;all_goals(go_ret;refine⟨Ae ?_,rfl⟩;simp[Ic]<;>omega)
theorem NG(a b:Int)(w:World):Ks 138 #[Vi a,Vi b] w fun e c=>e=.returned (Vi (Dj a b))/\c=w:=by
 by_cases d:a<0
 ·go_enter Tryz.func138,Tryz.ntmps138
  go_wp2;all_goals(go_ret;refine⟨Ae ?_,rfl⟩;simp[Dj]<;>omega)
 ·by_cases h:0<=b
  ·go_enter Tryz.func138,Tryz.ntmps138
   go_wp2;all_goals(go_ret;refine⟨Ae ?_,rfl⟩;simp[Dj]<;>omega)
  ·go_enter Tryz.func138,Tryz.ntmps138
   go_wp2;all_goals(go_ret;refine⟨Ae ?_,rfl⟩;simp[Dj]<;>omega)
theorem YP{x:Int}{i:Nat}(h:((2^i:Nat):Int)-1<x)(a:x<=1099511627776):i<=40:=by
 by_cases g:i<=40
 ·exact g
 ·have:2^41<=2^i:=Nat.pow_le_pow_right Ad AB
  have:(2:Nat)^41=2199023255552:=Ad;omega
theorem YF{x:Int}{i:Nat}(m:0<=x)(h:x<=((2^i:Nat):Int)-1)(c:i=0∨((2^(i-1):Nat):Int)-1<x):IY x=((2^i:Nat):Int)-1:=by
 obtain⟨n,rfl⟩:∃n:Nat,x=(n:Int):=⟨x.toNat,AB⟩
 have a:n<2^i:=AB;unfold IY;rw[Int.toNat_natCast];have:DZ n=i:=by
  unfold DZ;rcases c with rfl|c
  ·simp at a;simp[a]
  ·have d:2^(i-1)<=n:=AB
   have b:n≠0:=by have:=Nat.two_pow_pos (i-1);omega
   rw[if_neg b];have j:=(Nat.log2_lt b (k:=i)).2 a;have l:=(Nat.le_log2 b (k:=i-1)).2 d;by_cases e:i=0
   ·subst e;simp at a;omega
   ·omega
 rw[this]
theorem Wj(x:Int)(w:World)(r:0<=x)(s:x<=1099511627776):Ks 139 #[Vi x] w fun e q=>e=.returned (Vi (IY x))/\q=w:=by
 go_enter Tryz.func139,Tryz.ntmps139;go_wp2;go_loop [3](fun o=>∃i:Nat,i<=41/\o=Vi (((2^i:Nat):Int)-1)/\(i=0∨((2^(i-1):Nat):Int)-1<x))(fun o=>(2*x+2-intOf o).toNat)
 case atStart=>exact⟨0,AB,rfl,Or.inl rfl⟩
 case round=>
  obtain⟨i,n,rfl,h⟩:=hrel;have l:=hxy h;clear h;have u:1<=2^i:=Nat.two_pow_pos i;have c:2^i<=2^41:=Nat.pow_le_pow_right Ad n;have a:(2:Nat)^41=2199023255552:=Ad;rw[a]at c;clear a;by_cases b:((2^i:Nat):Int)-1<x
  ·have m:=YP b s
   have j:2^(i+1)=2*2^i:=by rw[Nat.pow_succ,Nat.mul_comm]
   have HS:=hxy j;have k:=hxy b;clear j;generalize p:2^i=y at *;go_wp2;go_round
   case rel=>
    refine⟨i+1,AB,?_,Or.inr ?_⟩
    ·rw[HS.out]
     go_num
    ·rw[Nat.add_sub_cancel,p];exact k
   case measure=>simp[intOf];omega
  ·have d:=YF r AB l
   have HD:=hxy d;clear d;generalize 2^i=y at *;go_wp2;go_ret;exact⟨Ae HD.symm,rfl⟩
theorem MC(s:Bool)(w:World):Ks 106 #[.bool s] w fun e a=>e=.returned (Vi (if s then 2 else 1))/\a=w:=by
 cases s;all_goals
  go_enter Tryz.func106,Tryz.ntmps106;go_wp2;go_ret;exact⟨rfl,rfl⟩
def Ho(a b:Int):Int:=if a<0∨b<0 then -1 else a+b
def LY(a b:Int):Int:=if a<0∨b<0∨(0<b/\1099511627776/b<a)then -1 else a*b
def Jc(a b:Int):Int:=if a<0 then b else if b<0 then a else if b<a then b else a
theorem Gw(k:Int)(s:Bool)(m h b a:Int)(w:World):
 Ks 152 #[.agg #[Vi k,.bool s,Vi m,Vi h,Vi b,Vi a]] w fun e c=>e=.returned (Vi (AZ ⟨k,s,m,h,b,a⟩))/\Below w.heap.size w c:=by
 go_enter Tryz.func152,Tryz.ntmps152;go_wp2;all_goals(go_ret;refine⟨Ae ?_,Ai⟩;simp_all[AZ])
theorem EK(s:Bool)(m:Int)(w:World):
 Ks 153 #[.bool s,Vi m] w fun e c=>e=.returned (Al s m).v/\Below w.heap.size w c:=by
 have a:∀b,(Al s m).m=b->(Al s m).v=.agg #[Vi 0,.bool s,Vi b,Vi 0,Vi 0,Vi 0]:=fun b q=>by subst q;rfl
 by_cases h:m<0∨1099511627776<m
 ·rw[a (-1) (by simp[Al,h])]
  clear a;by_cases d:m<0
  all_goals
   go_enter Tryz.func153,Tryz.ntmps153;go_wp2;exact mY (.agg #[Vi 0,.bool s,Vi (-1),Vi 0,Vi 0,Vi 0]) (by simp[results,Tryz.results153,go_sem]) ⟨rfl,Ai⟩
 ·rw[a m (by simp[Al,h])]
  clear a;go_enter Tryz.func153,Tryz.ntmps153;go_wp2;exact mY (.agg #[Vi 0,.bool s,Vi m,Vi 0,Vi 0,Vi 0]) (by simp[results,Tryz.results153,go_sem]) ⟨rfl,Ai⟩
theorem Ip(a b:Int)(w:World)(d: -1<=a)(h:a<=2199023255552)(j: -1000000<=b)(k:b<=1099511627776):
 Ks 161 #[Vi a,Vi b] w fun e c=>e=.returned (Vi (Ho a b))/\c=w:=by
 by_cases l:a<0
 ·go_enter Tryz.func161,Tryz.ntmps161
  go_wp2;all_goals(go_ret;refine⟨Ae ?_,rfl⟩;simp[Ho]<;>omega)
 ·by_cases m:b<0
  ·go_enter Tryz.func161,Tryz.ntmps161
   go_wp2;all_goals(go_ret;refine⟨Ae ?_,rfl⟩;simp[Ho]<;>omega)
  ·go_enter Tryz.func161,Tryz.ntmps161
   go_wp2;all_goals(go_ret;refine⟨Ae ?_,rfl⟩;simp[Ho]<;>omega)
theorem Jr(a b:Int)(w:World):Ks 156 #[Vi a,Vi b] w fun e c=>e=.returned (Vi (Jc a b))/\c=w:=by
 by_cases d:a<0
 ·go_enter Tryz.func156,Tryz.ntmps156
  go_wp2;all_goals(go_ret;refine⟨Ae ?_,rfl⟩;simp[Jc]<;>omega)
 ·by_cases h:b<0
  ·go_enter Tryz.func156,Tryz.ntmps156
   go_wp2;all_goals(go_ret;refine⟨Ae ?_,rfl⟩;simp[Jc]<;>omega)
  ·go_enter Tryz.func156,Tryz.ntmps156
   go_wp2;all_goals(go_ret;refine⟨Ae ?_,rfl⟩;simp[Jc]<;>omega)
theorem JJ(a:Int)(w:World):Ks 150 #[Vi a] w fun e b=>e=.returned (.bool (decide (21<=a/\a<=28)))/\b=w:=by
 go_enter Tryz.func150,Tryz.ntmps150;go_wp2;all_goals(go_ret;refine⟨AY ?_,rfl⟩;simp<;>omega)
theorem Fh(a:Int)(w:World):Ks 128 #[Vi a] w fun e b=>e=.returned (.bool (decide (14<=a/\a<=18)))/\b=w:=by
 go_enter Tryz.func128,Tryz.ntmps128;go_wp2;all_goals(go_ret;refine⟨AY ?_,rfl⟩;simp<;>omega)
theorem IA(s:Bool)(w:World):Ks 129 #[.bool s] w fun e a=>e=.returned (Vi (if s then 2 else 1))/\a=w:=by
 cases s;all_goals
  go_enter Tryz.func129,Tryz.ntmps129;go_wp2;go_ret;exact⟨rfl,rfl⟩
theorem OZ(a b:Int)(w:World)(n: -1<=a)(o:a<=1099511627776)(p: -1<=b)(q:b<=1099511627776):
 Ks 155 #[Vi a,Vi b] w fun e m=>e=.returned (Vi (LY a b))/\m=w:=by
 by_cases c:a<0
 ·go_enter Tryz.func155,Tryz.ntmps155
  go_wp2;all_goals(go_ret;refine⟨Ae ?_,rfl⟩;simp[LY,c])
 by_cases d:b<0
 ·go_enter Tryz.func155,Tryz.ntmps155
  go_wp2;all_goals(go_ret;refine⟨Ae ?_,rfl⟩;simp[LY,d])
 by_cases j:b=0
 ·subst j
  go_enter Tryz.func155,Tryz.ntmps155;go_wp2;all_goals(go_ret;refine⟨Ae ?_,rfl⟩;simp[LY];try omega)
 have r:1<=b:=AB;have u:0<=1099511627776/b:=Int.ediv_nonneg AB AB;have x:1099511627776/b<=1099511627776:=Int.ediv_le_self _ AB;by_cases h:1099511627776/b<a
 ·have k:decide (1099511627776/b<a)=true:=by simp[h]
  go_enter Tryz.func155,Tryz.ntmps155;go_wp2;all_goals(go_ret;refine⟨Ae ?_,rfl⟩;rw[LY,if_pos (Or.inr (Or.inr ⟨AB,h⟩))])
 ·have k:decide (1099511627776/b<a)=false:=by simp;omega
  have s:a*b<=1099511627776:=by
   have c:a<=1099511627776/b:=AB;have d:=Int.mul_le_mul_of_nonneg_right c (show(0:Int)<=b by omega);have j:=Int.ediv_mul_le (1099511627776) (show b≠0 by omega);omega
  have l:0<=a*b:=Int.mul_nonneg AB AB;go_enter Tryz.func155,Tryz.ntmps155;go_wp2;all_goals(go_ret;refine⟨Ae ?_,rfl⟩;rw[LY,if_neg AB])
theorem Js(a:Int)(w:World):Ks 126 #[Vi a] w fun e n=>e=.returned (.bool (decide (a=23∨a=24∨a=27∨a=28)))/\n=w:=by
 by_cases b:a=23
 ·subst b
  go_enter Tryz.func126,Tryz.ntmps126;go_wp2;go_ret;exact⟨rfl,rfl⟩
 by_cases c:a=24
 ·subst c
  go_enter Tryz.func126,Tryz.ntmps126;go_wp2;go_ret;exact⟨rfl,rfl⟩
 by_cases d:a=27
 ·subst d
  go_enter Tryz.func126,Tryz.ntmps126;go_wp2;go_ret;exact⟨rfl,rfl⟩
 by_cases h:a=28
 ·subst h
  go_enter Tryz.func126,Tryz.ntmps126;go_wp2;go_ret;exact⟨rfl,rfl⟩
 have j:(a==23)=false:=by simp[b]
 have k:(a==24)=false:=by simp[c]
 have l:(a==27)=false:=by simp[d]
 have m:(a==28)=false:=by simp[h]
 go_enter Tryz.func126,Tryz.ntmps126;go_wp2;all_goals(go_ret;exact⟨AY (by simp[b,c,d,h]),rfl⟩)
theorem Oa(a:Int)(w:World):Ks 167 #[Vi a] w fun e b=>e=.returned (Vi (if a=21∨a=23∨a=25∨a=27 then 1 else 8))/\b=w:=by
 go_enter Tryz.func167,Tryz.ntmps167;go_wp2;all_goals(go_ret;refine⟨Ae ?_,rfl⟩;simp_all)
def Ow(a:Int)(n:Nat):Int:=if a<0∨1099511627776/2^n<a then -1 else a*2^n
def Kr(a:Int)(n:Nat):Int:=if 0<=a then a/2^n else if 24<=n then 2^(64-n)-1 else -1
theorem jD{n:Nat}(h:24<=n):1<=(2:Int)^(64-n)/\(2:Int)^(64-n)<=1099511627776:=by
 have a:(2:Nat)^(64-n)<=2^40:=Nat.pow_le_pow_right Ad AB;have b:(2:Nat)^40=1099511627776:=Ad;have d:=Nat.two_pow_pos (64-n);have c:(((2:Nat)^(64-n):Nat):Int)=(2:Int)^(64-n):=AX;omega
theorem nJ{a:Int}{n:Nat}(c:0<=a)(h:¬1099511627776/2^n<a):0<=a*2^n/\a*2^n<=1099511627776:=by
 have b:(0:Int)<2^n:=Int.pow_pos Ad;have d:a<=1099511627776/2^n:=AB;have e:=Int.mul_le_mul_of_nonneg_right d (Int.le_of_lt b);have j:=Int.ediv_mul_le (1099511627776) (show(2:Int)^n≠0 by omega);exact⟨Int.mul_nonneg c (Int.le_of_lt b),AB⟩
theorem QV(a:Int)(n:Nat)(w:World)(l:n<=63):
 Ks 159 #[Vi a,Vi n] w fun e k=>e=.returned (Vi (Ow a n))/\k=w:=by
 by_cases d:a<0
 ·have c:decide (a<0)=true:=by simp[d]
  go_enter Tryz.func159,Tryz.ntmps159;go_wp2;all_goals(go_ret;exact⟨Ae (by rw[Ow,if_pos (Or.inl d)]),rfl⟩)
 by_cases b:1099511627776/2^n<a
 ·have c:decide (a<0)=false:=by simp;omega
  have h:decide (1099511627776/2^n<a)=true:=by simp[b]
  go_enter Tryz.func159,Tryz.ntmps159;go_wp2;all_goals(go_ret;exact⟨Ae (by rw[Ow,if_pos (Or.inr b)]),rfl⟩)
 ·have c:decide (a<0)=false:=by simp;omega
  have h:decide (1099511627776/2^n<a)=false:=by simp;omega
  obtain⟨m,o⟩:=nJ AB b;have j:wrap64 (a*2^n)=a*2^n:=by unfold wrap64;omega
  go_enter Tryz.func159,Tryz.ntmps159;go_wp2;all_goals(go_ret;exact⟨Ae (by rw[Ow,if_neg AB];try exact j),rfl⟩)
theorem SK(a:Int)(n:Nat)(w:World)(h:n<=63):
 Ks 160 #[Vi a,Vi n] w fun e d=>e=.returned (Vi (Kr a n))/\d=w:=by
 by_cases c:0<=a
 ·go_enter Tryz.func160,Tryz.ntmps160
  go_wp2;all_goals(go_ret;exact⟨Ae (by rw[Kr,if_pos c]),rfl⟩)
 by_cases b:24<=n
 ·go_enter Tryz.func160,Tryz.ntmps160
  go_wp2;obtain⟨j,k⟩:=jD b;all_goals(go_ret;exact⟨Ae (by rw[Kr,if_neg AB,if_pos b];unfold wrap64;omega),rfl⟩)
 ·go_enter Tryz.func160,Tryz.ntmps160
  go_wp2;all_goals(go_ret;exact⟨Ae (by rw[Kr,if_neg AB,if_neg b]),rfl⟩)
def MH(p n:VV):Prop:=p.k=1/\n.s=false/\0<=AZ n/\p.hi+n.m<=1099511627776
def Q0(p n:VV):Bool:=decide (p.k=1/\n.s=false/\0<=AZ n/\p.hi+n.m<=1099511627776)
theorem Rn(h:MH p n):Q0 p n=true:=decide_eq_true h
theorem uT(h:¬MH p n):Q0 p n=false:=decide_eq_false h
theorem WV(h:Q0 p n=true):MH p n:=by unfold Q0 at h;rw[decide_eq_true_eq]at h;exact h
def lK(p n:VV):VV:=if Q0 p n then{p with hi:=p.hi+n.m}else zV
theorem YR(h:¬MH p n):¬Q0 p n=true:=fun q=>h (WV q)
theorem wu{b:Bool}(h:b=false):¬b=true:=by rw[h];decide
theorem Wy(h:¬MH p n):Value.tuple #[zV.v,.bool false]=.tuple #[(lK p n).v,.bool (Q0 p n)]:=by
 unfold lK;rw[uT h];rfl
theorem ug(h:MH p n):Value.tuple #[VV.v {p with hi:=p.hi+n.m},.bool true]=.tuple #[(lK p n).v,.bool (Q0 p n)]:=by
 unfold lK;rw[Rn h];rfl
structure xK(w u:World)(p n:VV):Prop where
 bel:Below w.heap.size w u
 A:Vb u w.heap.size p
 B:Vb u (w.heap.size+1) n
 R:Vb u (w.heap.size+1+1) zV
theorem xK.below(q:xK w u p n)(a:Below u.heap.size u v):xK w v p n:=⟨q.bel.trans (a.mono q.bel.size),q.A.below a q.A.lt,q.B.below a q.B.lt,q.R.below a q.R.lt⟩
theorem um(w:World)(p n:VV):∃u,((w.alloc (.cells #[Vi p.k,.bool p.s,Vi p.m,Vi p.h,Vi p.lo,Vi p.hi] 47)).alloc (.cells #[Vi n.k,.bool n.s,Vi n.m,Vi n.h,Vi n.lo,Vi n.hi] 47)).alloc (.cells #[Vi 0,.bool false,Vi 0,Vi 0,Vi 0,Vi 0] 47)=u/\xK w u p n:=by
 have b:=Vb.new w p;have a:=Vb.new (w.alloc (.cells #[Vi p.k,.bool p.s,Vi p.m,Vi p.h,Vi p.lo,Vi p.hi] 47)) n;have c:=Vb.new ((w.alloc (.cells #[Vi p.k,.bool p.s,Vi p.m,Vi p.h,Vi p.lo,Vi p.hi] 47)).alloc (.cells #[Vi n.k,.bool n.s,Vi n.m,Vi n.h,Vi n.lo,Vi n.hi] 47)) zV;simp only[World.size_alloc]at a c;refine⟨_,rfl,?_,?_,?_,c⟩
 ·exact((Ai).alloc AX _).alloc (by simp;omega) _
 ·exact(b.below Ai b.lt).below Ai (by simp;omega)
 ·exact a.below Ai a.lt
theorem JG(p n:VV)(w:World)(D:Bd p)(C:Bd n):
 Ks 168 #[.agg #[Vi p.k,.bool p.s,Vi p.m,Vi p.h,Vi p.lo,Vi p.hi],.agg #[Vi n.k,.bool n.s,Vi n.m,Vi n.h,Vi n.lo,Vi n.hi]] w fun e w'=>e=.returned (.tuple #[(lK p n).v,.bool (Q0 p n)])/\Below w.heap.size w w':=by
 have a0:=D.h0;have a1:=D.h1;have n0:=C.m0;have n1:=C.m1;go_enter Tryz.func168,Tryz.ntmps168;go_upto_region 1 with fail;obtain⟨u,E,F⟩:=um w p n;rw[E];have a:=hxy F;clear E F;have L:=a.A.cells;obtain⟨M,r,N,O,Q,S⟩:=a.B.cells;have I:=a.R.cells;have J:=a.R.free;have K:=a.R.lt;by_cases j:p.k=1
 ·have Z:(p.k !=1)=false:=by simp[j]
  have U:=hxy j;clear j;cases c2:n.s with
  |true=>
   rw[c2]at r;have c:Hid (¬MH p n):=fun q=>by have:=q.2.1;rw[c2]at this;cases this
   clear c2;go_wp2;all_goals exact mY (.tuple #[zV.v,.bool false]) (by simp[results,Tryz.results168,go_sem,VV.v,zV, *]) ⟨by first|rfl|exact congrArg Ending.returned (Wy c),Ag a.bel AB zV⟩
  |false=>
   rw[c2]at r;have X:=hxy c2;go_wp2_with fail;refine(Gw n.k false n.m n.h n.lo n.hi _).mono ?_;rintro e v⟨rfl,z⟩;have b:=hxy (a.below z);obtain⟨o,d⟩:=Au (AZ n);have y:=hxy d;rw[show AZ ⟨n.k,false,n.m,n.h,n.lo,n.hi⟩=o from by rw[<-d];rfl];clear z d c2 L M r N O Q S I J K a;have L:=b.A.cells;obtain⟨M,r,N,O,Q,S⟩:=b.B.cells;have I:=b.R.cells;have J:=b.R.free;have K:=b.R.lt;have af:=b.A.free;by_cases l:o<0
   ·have e3:decide (o<0)=true:=by simp[l]
    have c:Hid (¬MH p n):=fun q=>by have:=q.2.2.1;rw[y.out]at this;omega
    clear l;go_wp2;all_goals exact mY (.tuple #[zV.v,.bool false]) (by simp[results,Tryz.results168,go_sem,VV.v,zV, *]) ⟨by first|rfl|exact congrArg Ending.returned (Wy c),Ag b.bel AB zV⟩
   ·have e3:decide (o<0)=false:=by simp;omega
    by_cases x:1099511627776<p.hi+n.m
    ·have e4:decide (1099511627776<p.hi+n.m)=true:=by simp[x]
     have c:Hid (¬MH p n):=fun q=>by have:=q.2.2.2;omega
     clear l x;go_wp2;all_goals exact mY (.tuple #[zV.v,.bool false]) (by simp[results,Tryz.results168,go_sem,VV.v,zV, *]) ⟨by first|rfl|exact congrArg Ending.returned (Wy c),Ag b.bel AB zV⟩
    ·have e4:decide (1099511627776<p.hi+n.m)=false:=by simp;omega
     have Y:Hid (MH p n):=⟨U,X,by rw[y.out];omega,AB⟩
     clear l x;go_wp2;all_goals exact mY (.tuple #[VV.v {p with hi:=p.hi+n.m},.bool true]) (by simp[results,Tryz.results168,go_sem,VV.v, *]) ⟨by first|rfl|exact congrArg Ending.returned (ug Y),by(iterate 6 refine Below.setCell ?_ (show w.heap.size<=w.heap.size+1+1 by omega) _);refine Below.setCell ?_ (show w.heap.size<=w.heap.size by omega) _;exact b.bel⟩
 ·have Z:(p.k !=1)=true:=by simp[j]
  have c:Hid (¬MH p n):=fun q=>j q.1
  clear j;go_wp2;all_goals exact mY (.tuple #[zV.v,.bool false]) (by simp[results,Tryz.results168,go_sem,VV.v,zV, *]) ⟨by first|rfl|exact congrArg Ending.returned (Wy c),Ag a.bel AB zV⟩
structure wM(w u:World)(a b:VV)(fl:Int)(sec:Bool):Prop where
 bel:Below w.heap.size w u
 O:Cl u w.heap.size [Vi a.k,.bool a.s,Vi a.m,Vi a.h,Vi a.lo,Vi a.hi,Vi b.k,.bool b.s,Vi b.m,Vi b.h,Vi b.lo,Vi b.hi,Vi fl,.bool sec]
 OF:∀i,u.frozen? ⟨w.heap.size,i,none⟩=false
 R:Vb u (w.heap.size+1) zV
theorem wM.below{K:Int}{N:Bool}(q:wM w u a b K N)(c:Below u.heap.size u v):wM w v a b K N:=
 ⟨q.bel.trans (c.mono q.bel.size),q.O.below c,fun i=>(c.frozen (p:=⟨w.heap.size,i,none⟩) q.O.1).trans (q.OF i),q.R.below c q.R.lt⟩
theorem WE(w:World)(a b:VV)(d:Int)(c:Bool):∃u,(w.alloc (.cells #[Vi a.k,.bool a.s,Vi a.m,Vi a.h,Vi a.lo,Vi a.hi,Vi b.k,.bool b.s,Vi b.m,Vi b.h,Vi b.lo,Vi b.hi,Vi d,.bool c] 222)).alloc (.cells #[Vi 0,.bool false,Vi 0,Vi 0,Vi 0,Vi 0] 47)=u/\wM w u a b d c:=by
 have e:=Vb.new (w.alloc (.cells #[Vi a.k,.bool a.s,Vi a.m,Vi a.h,Vi a.lo,Vi a.hi,Vi b.k,.bool b.s,Vi b.m,Vi b.h,Vi b.lo,Vi b.hi,Vi d,.bool c] 222)) zV;simp only[World.size_alloc]at e;exact⟨_,rfl,(Ai).alloc AX _,(Cl.new).below Ai,fun i=>by simp[go_sem],e⟩
theorem IQ{K:Int}{N:Bool}(q:wM w u a b K N):u.cell? ⟨w.heap.size,0,none⟩=some (Vi a.k)/\u.cell? ⟨w.heap.size,1,none⟩=some (.bool a.s)/\u.cell? ⟨w.heap.size,2,none⟩=some (Vi a.m)/\u.cell? ⟨w.heap.size,3,none⟩=some (Vi a.h)/\u.cell? ⟨w.heap.size,4,none⟩=some (Vi a.lo)/\u.cell? ⟨w.heap.size,5,none⟩=some (Vi a.hi)/\u.cell? ⟨w.heap.size,6,none⟩=some (Vi b.k)/\u.cell? ⟨w.heap.size,7,none⟩=some (.bool b.s)/\u.cell? ⟨w.heap.size,8,none⟩=some (Vi b.m)/\u.cell? ⟨w.heap.size,9,none⟩=some (Vi b.h)/\u.cell? ⟨w.heap.size,10,none⟩=some (Vi b.lo)/\u.cell? ⟨w.heap.size,11,none⟩=some (Vi b.hi)/\u.cell? ⟨w.heap.size,12,none⟩=some (Vi K)/\u.cell? ⟨w.heap.size,13,none⟩=some (.bool N):=
 ⟨q.O.2 0 AX,q.O.2 1 AX,q.O.2 2 AX,q.O.2 3 AX,q.O.2 4 AX,q.O.2 5 AX,q.O.2 6 AX,q.O.2 7 AX,q.O.2 8 AX,q.O.2 9 AX,q.O.2 10 AX,q.O.2 11 AX,q.O.2 12 AX,q.O.2 13 AX⟩
theorem Xx(a b:VV)(M:Int)(d:Bool)(n:Int)(w:World)(z:Bd a)(n0: -1000000<=n)(n1:n<=1000000):
 Ks 158 #[.agg #[Vi a.k,.bool a.s,Vi a.m,Vi a.h,Vi a.lo,Vi a.hi,Vi b.k,.bool b.s,Vi b.m,Vi b.h,Vi b.lo,Vi b.hi,Vi M,.bool d],Vi n] w fun e j=>e=.returned (if a.k=1 then(if a.lo+n< -1099511627776∨1099511627776<a.hi+n then Al false (-1)else{a with lo:=a.lo+n,hi:=a.hi+n})else Al d (Ho a.m n)).v/\Below w.heap.size w j:=by
 have K:=z.m0;have aa:=z.m1;have Y:=z.l0;have Z:=z.l1;have U:=z.h0;have X:=z.h1;go_enter Tryz.func158,Tryz.ntmps158;go_upto_region 1 with fail;obtain⟨u,N,S⟩:=WE w a b M d;rw[N];have l:=hxy S;clear N S;have o0:=IQ l;have A:=l.R.cells;have B:=l.R.free;have C:=l.R.lt;have of:=l.OF;by_cases y:a.k=1
 ·have e1:(a.k !=1)=false:=by simp[y]
  have D:=hxy y;clear y;by_cases F:a.lo+n< -1099511627776
  ·have e2:decide (a.lo+n< -1099511627776)=true:=by simp[F]
   have I:Hid (a.lo+n< -1099511627776∨1099511627776<a.hi+n):=Or.inl F;clear F;go_wp2_with fail;refine(EK false (-1) _).mono ?_;rintro e v⟨rfl,p⟩;have c:=hxy (l.below p);simp only[VV.v];clear p A B C of;have A:=c.R.cells;have B:=c.R.free;have C:=c.R.lt;go_wp2;exact mY (VV.v (Al false (-1))) (by simp[results,Tryz.results158,go_sem,VV.v, *]) ⟨congrArg (fun x=>Ending.returned (VV.v x)) (by first|rfl|rw[if_pos D.out,if_pos I.out]),Ag c.bel AB _⟩
  ·have e2:decide (a.lo+n< -1099511627776)=false:=by simp;omega
   by_cases J:1099511627776<a.hi+n
   ·have e3:decide (1099511627776<a.hi+n)=true:=by simp[J]
    have I:Hid (a.lo+n< -1099511627776∨1099511627776<a.hi+n):=Or.inr J;clear F J;go_wp2_with fail;refine(EK false (-1) _).mono ?_;rintro e v⟨rfl,p⟩;have c:=hxy (l.below p);simp only[VV.v];clear p A B C of;have A:=c.R.cells;have B:=c.R.free;have C:=c.R.lt;go_wp2;exact mY (VV.v (Al false (-1))) (by simp[results,Tryz.results158,go_sem,VV.v, *]) ⟨congrArg (fun x=>Ending.returned (VV.v x)) (by first|rfl|rw[if_pos D.out,if_pos I.out]),Ag c.bel AB _⟩
   ·have e3:decide (1099511627776<a.hi+n)=false:=by simp;omega
    have I:Hid (¬(a.lo+n< -1099511627776∨1099511627776<a.hi+n)):=fun q=>by omega
    clear F J;go_wp2;exact mY (VV.v {a with lo:=a.lo+n,hi:=a.hi+n}) (by simp[results,Tryz.results158,go_sem,VV.v, *]) ⟨congrArg (fun x=>Ending.returned (VV.v x)) (by first|rfl|rw[D.out]),by(iterate 6 refine Below.setCell ?_ (show w.heap.size<=w.heap.size+1 by omega) _);(iterate 2 refine Below.setCell ?_ (show w.heap.size<=w.heap.size by omega) _);exact l.bel⟩
 ·have e1:(a.k !=1)=true:=by simp[y]
  have D:=hxy y;clear y;go_upto_region 2 with fail;have t2:∀j,Bw u j->j.cell? ⟨w.heap.size,2,none⟩=some (Vi a.m):=fun j h=>(l.O.below h).2 2 AX
  have L:∀j,Bw u j->j.cell? ⟨w.heap.size,13,none⟩=some (.bool d):=fun j h=>(l.O.below h).2 13 AX
  refine BH (T:=fun j=>Bw u j) (s:=8) AV BJ.drew (fun hHeld=>?_);refine NU [0,1,2,3,4,5] ?_;refine Ah (i:=6) rfl AV (fun E o=>?_);go_simp;refine(Ip a.m n _ K AB n0 AB).mono ?_;rintro e j⟨rfl,Q⟩;rw[Q];clear Q;go_wp2_with fail;refine o.out _ _ BJ.drew (fun _=>?_);clear o E;try go_frame
  refine Ah (i:=7) rfl AV (fun E o=>?_);go_simp;refine(EK d (Ho a.m n) _).mono ?_;rintro e v⟨rfl,p⟩;have r:Bw u v:=BJ.drew.trans p;have c:=hxy (l.below r);simp only[VV.v];go_wp2_with fail;refine o.out _ _ r (fun _=>?_);clear o E p r A B C of t2 L;try go_frame
  have A:=c.R.cells;have B:=c.R.free;have C:=c.R.lt;refine BD rfl AV AV (fun E o=>?_)
  go_simp
  refine o.out _ _ ?_
  clear o E
  go_wp2
  exact mY (VV.v (Al d (Ho a.m n))) (by simp[results,Tryz.results158,go_sem,VV.v, *]) ⟨congrArg (fun x=>Ending.returned (VV.v x)) (by first|rfl|rw[if_neg D.out]),Ag c.bel AB _⟩
theorem Nf{v:VV}(h:Bd v): -1<=AZ v/\AZ v<=1099511627776:=by
 have:=h.m0;have:=h.m1;unfold AZ;split<;>constructor<;>omega
theorem ZG(a b:VV)(fl:Int)(j:Bool)(w:World)(ha:Bd a)(d:Bd b):
 Ks 154 #[.agg #[Vi a.k,.bool a.s,Vi a.m,Vi a.h,Vi a.lo,Vi a.hi,Vi b.k,.bool b.s,Vi b.m,Vi b.h,Vi b.lo,Vi b.hi,Vi fl,.bool j]] w fun e c=>e=.returned (if Q0 a b then{a with hi:=a.hi+b.m}else if Q0 b a then{b with hi:=b.hi+a.m}else Al j (Ho (AZ a) (AZ b))).v/\Below w.heap.size w c:=by
 obtain⟨ae,o⟩:=Au ((if Q0 a b then{a with hi:=a.hi+b.m}else if Q0 b a then{b with hi:=b.hi+a.m}else Al j (Ho (AZ a) (AZ b))));rw[o];have HR:=hxy o;have HA:=hxy ha;have HB:=hxy d;clear o ha d;go_enter Tryz.func154,Tryz.ntmps154;go_upto_region 1 with fail;obtain⟨u,hu,pu⟩:=WE w a b fl j;rw[hu];have M:=hxy pu;clear hu pu;have o0:=IQ M;have r0:=M.R.cells;have rf:=M.R.free;have rl:=M.R.lt;go_wp2_with fail;refine(JG a b _ HA HB).mono ?_;obtain⟨z,r⟩:=Au (lK a b);obtain⟨k,I⟩:=Au (Q0 a b);rw[r,I];have X:=hxy r;have E:=hxy I;clear r I;rintro e v⟨rfl,d⟩;have P1:=hxy (M.below d);clear d M;clear o0 r0 rf rl;simp only[VV.v];go_upto_region 2 with fail;obtain⟨x,hx,Z,A⟩:∃y,v.alloc (.cells #[Vi z.k,.bool z.s,Vi z.m,Vi z.h,Vi z.lo,Vi z.hi] 47)=y/\Bw v y/\Vb y v.heap.size z:=⟨_,rfl,Ai,Vb.new v z⟩
 rw[hx];have F:=hxy (P1.below Z);have r:=P1.R.lt;clear hx Z P1;generalize v.heap.size=bJ at *;cases k with
 |true=>
  have aa:bJ≠w.heap.size+1:=AB;have r0:=F.R.cells;have rf:=F.R.free;have rl:=F.R.lt;have j0:=A.cells;have jf:=A.free;have jl:=A.lt;clear A;go_wp2;exact mY (VV.v z) (by simp[results,Tryz.results154,go_sem,VV.v, *]) ⟨congrArg (fun q=>Ending.returned (VV.v q)) (by have hc:=E.out;rw[<-HR.out,<-X.out,lK,if_pos hc,if_pos hc]),Ag F.bel AB _⟩
 |false=>
  clear A r X;have HC:=hxy (wu E);clear E;go_upto_region 4 with fail;have o0:=IQ F;go_wp2_with fail;refine(JG b a _ HB HA).mono ?_;obtain⟨D,r⟩:=Au (lK b a);obtain⟨k,I⟩:=Au (Q0 b a);rw[r,I];have X:=hxy r;have E:=hxy I;clear r I;rintro e y⟨rfl,d⟩;have P3:=hxy (F.below d);clear d F;clear o0;simp only[VV.v];go_upto_region 5 with fail;obtain⟨u,hu,Y,A⟩:∃u,y.alloc (.cells #[Vi D.k,.bool D.s,Vi D.m,Vi D.h,Vi D.lo,Vi D.hi] 47)=u/\Bw y u/\Vb u y.heap.size D:=⟨_,rfl,Ai,Vb.new y D⟩
  rw[hu];have N:=hxy (P3.below Y);have r:=P3.R.lt;clear hu Y P3;generalize y.heap.size=bK at *;cases k with
  |true=>
   have aa:bK≠w.heap.size+1:=AB;have r0:=N.R.cells;have rf:=N.R.free;have rl:=N.R.lt;have j0:=A.cells;have jf:=A.free;have jl:=A.lt;clear A;go_wp2;exact mY (VV.v D) (by simp[results,Tryz.results154,go_sem,VV.v, *]) ⟨congrArg (fun q=>Ending.returned (VV.v q)) (by have hc:=E.out;rw[<-HR.out,<-X.out,lK,if_neg HC.out,if_pos hc,if_pos hc]),Ag N.bel AB _⟩
  |false=>
   clear A r X;have HD:=hxy (wu E);clear E;go_upto_region 7 with fail;have n:∀c,Bw u c->c.cell? ⟨w.heap.size,0,none⟩=some (Vi a.k)/\c.cell? ⟨w.heap.size,1,none⟩=some (.bool a.s)/\c.cell? ⟨w.heap.size,2,none⟩=some (Vi a.m)/\c.cell? ⟨w.heap.size,3,none⟩=some (Vi a.h)/\c.cell? ⟨w.heap.size,4,none⟩=some (Vi a.lo)/\c.cell? ⟨w.heap.size,5,none⟩=some (Vi a.hi)/\c.cell? ⟨w.heap.size,6,none⟩=some (Vi b.k)/\c.cell? ⟨w.heap.size,7,none⟩=some (.bool b.s)/\c.cell? ⟨w.heap.size,8,none⟩=some (Vi b.m)/\c.cell? ⟨w.heap.size,9,none⟩=some (Vi b.h)/\c.cell? ⟨w.heap.size,10,none⟩=some (Vi b.lo)/\c.cell? ⟨w.heap.size,11,none⟩=some (Vi b.hi)/\c.cell? ⟨w.heap.size,12,none⟩=some (Vi fl)/\c.cell? ⟨w.heap.size,13,none⟩=some (.bool j):=fun c h=>IQ (N.below h)
   have t0:=fun c h=>(n c h).1
   have t1:=fun c h=>(n c h).2.1
   have t2:=fun c h=>(n c h).2.2.1
   have t3:=fun c h=>(n c h).2.2.2.1
   have t4:=fun c h=>(n c h).2.2.2.2.1
   have t5:=fun c h=>(n c h).2.2.2.2.2.1
   have t6:=fun c h=>(n c h).2.2.2.2.2.2.1
   have t7:=fun c h=>(n c h).2.2.2.2.2.2.2.1
   have t8:=fun c h=>(n c h).2.2.2.2.2.2.2.2.1
   have t9:=fun c h=>(n c h).2.2.2.2.2.2.2.2.2.1
   have ab:=fun c h=>(n c h).2.2.2.2.2.2.2.2.2.2.1
   have ac:=fun c h=>(n c h).2.2.2.2.2.2.2.2.2.2.2.1
   have ad:=fun c h=>(n c h).2.2.2.2.2.2.2.2.2.2.2.2.2
   clear n;refine BH (T:=fun c=>Bw u c) (s:=10) AV BJ.drew (fun hHeld=>?_);refine NU [0,1,2,3,5,6] ?_;clear t0 t1 t2 t3 t4 t5 t6 t7 t8 t9 ab ac ad;refine Ah (i:=4) rfl AV (fun B l=>?_);go_simp;refine(Gw a.k a.s a.m a.h a.lo a.hi _).mono ?_;rintro e v1⟨rfl,d⟩;have C:Bw u v1:=BJ.drew.trans d;clear d hHeld;obtain⟨O,J⟩:=Au (AZ a);rw[show AZ ⟨a.k,a.s,a.m,a.h,a.lo,a.hi⟩=O from J];have S:=hxy J;clear J;go_wp2_with fail;refine l.out _ _ C (fun _=>?_);clear l B;try go_frame
   refine Ah (i:=7) rfl AV (fun B l=>?_);go_simp;refine(Gw b.k b.s b.m b.h b.lo b.hi _).mono ?_;rintro e v2⟨rfl,d⟩;have p:=C.trans (d.mono C.size);clear d C;obtain⟨Q,K⟩:=Au (AZ b);rw[show AZ ⟨b.k,b.s,b.m,b.h,b.lo,b.hi⟩=Q from K];have U:=hxy K;clear K
   go_wp2_with fail
   refine l.out _ _ p (fun _=>?_)
   clear l B
   try go_frame
   refine Ah (i:=8) rfl AV (fun B l=>?_)
   go_simp
   have qa: -1<=O/\O<=1099511627776:=S.out▸Nf HA
   have qb: -1<=Q/\Q<=1099511627776:=U.out▸Nf HB
   refine(Ip O Q _ qa.1 AB AB qb.2).mono ?_
   rintro e c⟨rfl,hw⟩
   rw[hw]
   clear hw qa qb
   go_wp2_with fail
   refine l.out _ _ p (fun _=>?_)
   clear l B
   try go_frame
   refine Ah (i:=9) rfl AV (fun B l=>?_)
   go_simp
   refine(EK j (Ho O Q) _).mono ?_
   rintro e v3⟨rfl,d⟩
   have L:=p.trans (d.mono p.size)
   have P5:=hxy (N.below L)
   simp only[VV.v]
   go_wp2_with fail
   refine l.out _ _ L (fun _=>?_)
   clear l B d p L
   try go_frame
   have r0:=P5.R.cells
   have rf:=P5.R.free
   have rl:=P5.R.lt
   refine BD rfl AV AV (fun B l=>?_)
   go_simp
   refine l.out _ _ ?_
   clear l B
   go_wp2
   exact mY (VV.v (Al j (Ho O Q))) (by simp[results,Tryz.results154,go_sem,VV.v, *]) ⟨congrArg (fun q=>Ending.returned (VV.v q)) (by rw[<-HR.out,if_neg HC.out,if_neg HD.out,S.out,U.out]),Ag P5.bel AB _⟩
theorem RN(a b:VV)(J:Int)(c:Bool)(w:World):
 Ks 162 #[.agg #[Vi a.k,.bool a.s,Vi a.m,Vi a.h,Vi a.lo,Vi a.hi,Vi b.k,.bool b.s,Vi b.m,Vi b.h,Vi b.lo,Vi b.hi,Vi J,.bool c]] w fun e w'=>e=.returned (if(Cg a b).k=1/\c=true then Al true (-1)else{Cg a b with s:=c}).v/\Below w.heap.size w w':=by
 obtain⟨Z,d⟩:=Au ((if(Cg a b).k=1/\c=true then Al true (-1)else{Cg a b with s:=c}));rw[d];have B:=hxy d;clear d;go_enter Tryz.func162,Tryz.ntmps162;go_upto_region 1 with fail;obtain⟨u,K,N⟩:=WE w a b J c;rw[K];have C:=hxy N;clear K N;have M:=IQ C;go_wp2_with fail;refine(Le a.k a.s a.m a.h a.lo a.hi b.k b.s b.m b.h b.lo b.hi _).mono ?_;rintro e v⟨rfl,o⟩;have D:=hxy (C.below o);obtain⟨j,I⟩:=Au (Cg a b);have A:=hxy I;rw[show Cg ⟨a.k,a.s,a.m,a.h,a.lo,a.hi⟩ ⟨b.k,b.s,b.m,b.h,b.lo,b.hi⟩=j from I];clear o I C M;simp only[VV.v];go_upto_region 2 with fail;obtain⟨x,L,p,U⟩:∃y,v.alloc (.cells #[Vi j.k,.bool j.s,Vi j.m,Vi j.h,Vi j.lo,Vi j.hi] 47)=y/\Bw v y/\Vb y v.heap.size j:=⟨_,rfl,Ai,Vb.new v j⟩
 rw[L];have l:=hxy (D.below p);have E:=hxy U;have hz:=D.R.lt;clear L p U D;generalize v.heap.size=F at *;have M:=IQ l;have O:=l.R.cells;have Q:=l.R.free;have S:=l.R.lt;have j0:=E.cells;have jf:=E.free;have jl:=E.lt;have Y:F≠w.heap.size+1:=AB;by_cases n:j.k=1
 ·have X:(j.k==1)=true:=by simp[n]
  have z:=hxy n;clear n;cases c with
  |true=>
   go_wp2_with fail;refine(EK true (-1) _).mono ?_;rintro e y⟨rfl,o⟩;have r:=hxy (l.below o);simp only[VV.v];clear o O Q S;have O:=r.R.cells;have Q:=r.R.free;have S:=r.R.lt;go_wp2;exact mY (VV.v (Al true (-1))) (by simp[results,Tryz.results162,go_sem,VV.v, *]) ⟨congrArg (fun q=>Ending.returned (VV.v q)) (by have:=B.out;rw[A.out,if_pos ⟨z.out,by first|rfl|trivial⟩]at this;exact this),Ag r.bel AB _⟩
  |false=>
   go_wp2;exact mY (VV.v {j with s:=false}) (by simp[results,Tryz.results162,go_sem,VV.v, *]) ⟨congrArg (fun q=>Ending.returned (VV.v q)) (by have:=B.out;rw[A.out,if_neg AX]at this;exact this),by(iterate 6 refine Below.setCell ?_ (show w.heap.size<=w.heap.size+1 by omega) _);refine Below.setCell ?_ (show w.heap.size<=F by omega) _;exact l.bel⟩
 ·have X:(j.k==1)=false:=by simp[n]
  have z:=hxy n;clear n;go_wp2;exact mY (VV.v {j with s:=c}) (by simp[results,Tryz.results162,go_sem,VV.v, *]) ⟨congrArg (fun q=>Ending.returned (VV.v q)) (by have:=B.out;rw[A.out,if_neg (fun q=>z.out q.1)]at this;exact this),by(iterate 6 refine Below.setCell ?_ (show w.heap.size<=w.heap.size+1 by omega) _);refine Below.setCell ?_ (show w.heap.size<=F by omega) _;exact l.bel⟩
theorem En(n k:Nat):DZ n<=k↔n<2^k:=by
 unfold DZ;by_cases h:n=0
 ·subst h;simp
  exact Nat.two_pow_pos k
 ·rw[if_neg h]
  constructor
  ·intro q;exact(Nat.log2_lt h).1 AB
  ·intro q;have:=(Nat.log2_lt h).2 q;omega
theorem gG(x y:Nat):DZ (x|||y)=DZ (if x>y then x else y):=by
 have a:∀k,x|||y<2^k↔(if x>y then x else y)<2^k:=by
  intro k;constructor
  ·intro h
   have b:x<=x|||y:=Nat.left_le_or;have c:y<=x|||y:=Nat.right_le_or;split<;>omega
  ·intro h
   have b:x<2^k:=by split at h<;>omega
   have c:y<2^k:=by split at h<;>omega
   exact Nat.or_lt_two_pow b c
 refine Nat.le_antisymm ?_ ?_
 ·rw[En,a,<-En];exact BQ
 ·rw[En,<-a,<-En];exact BQ
theorem RP(x y:Nat)(d:x<=1099511627776)(e:y<=1099511627776):bits .or .i64 (x:Int) (y:Int)=((x|||y:Nat):Int):=by
 have c:x|||y<2^41:=Nat.or_lt_two_pow (Nat.lt_of_le_of_lt d Ad) (Nat.lt_of_le_of_lt e Ad);have a:(BitVec.ofInt 64 (x:Int)|||BitVec.ofInt 64 (y:Int)).toNat=x|||y:=by
  rw[BitVec.toNat_or,BitVec.toNat_ofInt,BitVec.toNat_ofInt];congr 1<;>omega
 show IntKind.i64.wrap ((BitVec.ofInt 64 (x:Int)|||BitVec.ofInt 64 (y:Int)).toNat:Nat)=_;have b:(2:Nat)^41=2199023255552:=Ad;rw[a,IntKind.wrap_i64];omega
theorem Ta(x y:Nat)(w:World)(j:x<=1099511627776)(l:y<=1099511627776):
 Ks 157 #[Vi x,Vi y] w fun e m=>e=.returned (Vi (IY (Ic x y)))/\m=w:=by
 have q:=RP x y j l;have b:x|||y<2^41:=Nat.or_lt_two_pow (Nat.lt_of_le_of_lt j Ad) (Nat.lt_of_le_of_lt l Ad);have a:(2:Nat)^41=2199023255552:=Ad;rw[a]at b;clear a;go_enter Tryz.func157,Tryz.ntmps157;go_wp2_with fail;refine(MZ _ _ AB AB).mono ?_;rintro e m⟨rfl,h⟩;rw[h,Int.toNat_natCast];clear h;have d:IY (Ic x y)=((2^DZ (x|||y):Nat):Int)-1:=by
  unfold IY Ic;rw[gG];congr 4
  split<;>split<;>omega
 have p:DZ (x|||y)<=41:=(En _ _).2 (by have a:(2:Nat)^41=2199023255552:=Ad;omega);have o:=hxy d;clear d q b;generalize DZ (x|||y)=k at *;have r:(1:Int)<=2^k/\(2:Int)^k<=2199023255552:=by
  have s:(2:Nat)^k<=2^41:=Nat.pow_le_pow_right Ad p;have u:(2:Nat)^41=2199023255552:=Ad;have z:=Nat.two_pow_pos k;have c:(((2:Nat)^k:Nat):Int)=(2:Int)^k:=AX;omega
 have c:(((2:Nat)^k:Nat):Int)=(2:Int)^k:=AX;have n:=hxy c;clear c;obtain⟨A,B⟩:=r;go_wp2;go_ret;exact⟨Ae (by rw[o.out,n.out];try(unfold wrap64;omega)),rfl⟩
theorem Yp(a b:VV)(w:World)(C:Bd a)(D:Bd b):
 Ks 135 #[.agg #[.int .i64 a.k,.bool a.s,.int .i64 a.m,.int .i64 a.h,.int .i64 a.lo,.int .i64 a.hi],.agg #[.int .i64 b.k,.bool b.s,.int .i64 b.m,.int .i64 b.h,.int .i64 b.lo,.int .i64 b.hi]] w fun e c=>e=.returned (Mg a b).v/\Below w.heap.size w c:=by
 obtain⟨p,q,n,o,d,j,l⟩:=C;obtain⟨A,B,y,z,r,u,x⟩:=D;obtain⟨k,s,m,h,L,J⟩:=a;obtain⟨K,N,M,I,F,E⟩:=b;simp only at *;rcases l with rfl|rfl<;>rcases x with rfl|rfl
 all_goals
  go_enter Tryz.func135,Tryz.ntmps135;go_wp2_with(first|(go_at_call 134;refine(Uh _ _ _ _ _ _ _).mono ?_;rintro e c⟨rfl,rfl⟩;simp only[AZ,if_true,if_neg (show¬(0:Int)=1 by omega)])|(go_at_call 104;refine(Ue _ _ _).mono ?_;rintro e c⟨rfl,rfl⟩))
 all_goals
  refine' bodyPost_ret (v:=_) ?_ rfl ⟨?_,?_⟩;rotate_left 1
  ·simp[results,Tryz.results135,go_sem];rfl
  rotate_left 1
  ·repeat(first|exact Below.refl _ _|refine Below.setCell ?_ AX _|refine Below.alloc ?_ (by simp<;>omega) _)
  ·simp only[Mg,Tv,Al,AZ,VV.v]
   (repeat' split)<;>simp_all<;>omega
theorem EO{p:Prop}(h:p):Hid p:=h
structure Tf(w u:World)(op d ra rb imm h:Int)(a b:VV):Prop where
 bel:Below w.heap.size w u
 I:Cl u w.heap.size [Vi op,Vi d,Vi ra,Vi rb,Vi imm,Vi h]
 A:Vb u (w.heap.size+1) a
 B:Vb u (w.heap.size+1+1) b
 R:Vb u (w.heap.size+1+1+1) zV
 oR:w.heap.size<=w.heap.size+1+1+1
theorem Tf.below(p:Tf w u Z d ra C m h a b)(c:Below u.heap.size u v):Tf w v Z d ra C m h a b:=
 ⟨p.bel.trans (c.mono p.bel.size),p.I.below c,p.A.below c p.A.lt,p.B.below c p.B.lt,p.R.below c p.R.lt,p.oR⟩
theorem Tf.S(p:Tf w u Z d ra C m h a b):Vb u (w.heap.size+1) a/\Vb u (w.heap.size+1+1) b/\u.cell? ⟨w.heap.size,4,none⟩=some (Vi m):=⟨p.A,p.B,p.I.2 4 AX⟩
theorem J9{q b o:Nat}{x:VV}(h:b≠q):(Iy u q x).cell? (Va b o)=u.cell? (Va b o):=by
 have e:∀(v:World)(j:Nat)(y:Value),(v.setCell (Va q j) y).cell? (Va b o)=v.cell? (Va b o):=fun v j y=>World.cell?_setCell_other _ _ _ _ (fun e=>h (congrArg Addr.block e).symm)
 unfold Iy;rw[e,e,e,e,e,e]
theorem Aa{b:Nat}{I:Int}(p:Cl u b [Vi Z,Vi d,Vi I,Vi C,Vi m,Vi h]):u.cell? (Va b 0)=some (Vi Z)/\u.cell? (Va b 1)=some (Vi d)/\u.cell? (Va b 2)=some (Vi I)/\u.cell? (Va b 3)=some (Vi C)/\u.cell? (Va b 4)=some (Vi m)/\u.cell? (Va b 5)=some (Vi h):=
 ⟨p.2 0 AX,p.2 1 AX,p.2 2 AX,p.2 3 AX,p.2 4 AX,p.2 5 AX⟩
abbrev V6(w:World)(b:Nat)(x:VV):Prop:=w.cell? ⟨b,0,none⟩=some (.int .i64 x.k)/\w.cell? ⟨b,1,none⟩=some (.bool x.s)/\w.cell? ⟨b,2,none⟩=some (.int .i64 x.m)/\w.cell? ⟨b,3,none⟩=some (.int .i64 x.h)/\w.cell? ⟨b,4,none⟩=some (.int .i64 x.lo)/\w.cell? ⟨b,5,none⟩=some (.int .i64 x.hi)
theorem Tf.al{op rb imm:Int}(p:Tf w u op d ra rb imm h a b):(u.cell? ⟨w.heap.size,0,none⟩=some (.int .i64 op)/\u.cell? ⟨w.heap.size,1,none⟩=some (.int .i64 d)/\u.cell? ⟨w.heap.size,2,none⟩=some (.int .i64 ra)/\u.cell? ⟨w.heap.size,3,none⟩=some (.int .i64 rb)/\u.cell? ⟨w.heap.size,4,none⟩=some (.int .i64 imm)/\u.cell? ⟨w.heap.size,5,none⟩=some (.int .i64 h))/\V6 u (w.heap.size+1) a/\V6 u (w.heap.size+1+1) b/\V6 u (w.heap.size+1+1+1) zV/\(∀j,u.frozen? ⟨w.heap.size+1+1+1,j,none⟩=false)/\w.heap.size+1+1+1<u.heap.size/\(∀j,u.frozen? ⟨w.heap.size+1,j,none⟩=false):=⟨Aa p.I,p.A.cells,p.B.cells,p.R.cells,p.R.free,p.R.lt,p.A.free⟩
theorem Qa(h:0<=AZ a)(b:Bd a):0<=a.m/\a.m<=1099511627776:=by
 refine⟨?_,b.m1⟩;unfold AZ at h;split at h<;>omega
theorem MJ(i:Int)(w:World)(b:0<=i)(c:i<=63):Ks 118 #[Vi i] w fun e a=>e=.returned (.int .u64 ((2^i.toNat:Nat):Int))/\a=w:=by
 obtain⟨n,rfl⟩:∃n:Nat,i=n:=⟨i.toNat,AB⟩
 exact Y2 n w AB
theorem qj{i:Int}(b:0<=i)(c:i<=40):∃a:Int,((2^i.toNat:Nat):Int)=a/\1<=a/\a<=1099511627776:=by
 refine⟨_,rfl,?_,?_⟩
 ·have:=Nat.two_pow_pos i.toNat;omega
 ·have:2^i.toNat<=2^40:=Nat.pow_le_pow_right Ad AB
  have e:(2:Nat)^40=1099511627776:=Ad;omega
theorem wJ{i:Int}(b:0<=i)(c:i<=63):∃a:Int,((2^i.toNat:Nat):Int)=a/\1<=a/\a<=9223372036854775808:=by
 refine⟨_,rfl,?_,?_⟩
 ·have:=Nat.two_pow_pos i.toNat;omega
 ·have:2^i.toNat<=2^63:=Nat.pow_le_pow_right Ad AB
  have e:(2:Nat)^63=9223372036854775808:=Ad;omega
theorem uM{p:Int}(a:0<=m)(b:m<=1099511627776)(c:1<=p):∃y:Int,m/p=y/\0<=y/\y<=1099511627776:=
 ⟨_,rfl,Int.ediv_nonneg a AB,Int.le_trans (Int.ediv_le_self _ a) b⟩
theorem El(w:World){op rb imm:Int}(a b:VV):∃u,(((w.alloc (.cells #[Vi op,Vi d,Vi ra,Vi rb,Vi imm,Vi h] 99)).alloc (.cells #[Vi a.k,.bool a.s,Vi a.m,Vi a.h,Vi a.lo,Vi a.hi] 47)).alloc (.cells #[Vi b.k,.bool b.s,Vi b.m,Vi b.h,Vi b.lo,Vi b.hi] 47)).alloc (.cells #[Vi 0,.bool false,Vi 0,Vi 0,Vi 0,Vi 0] 47)=u/\Tf w u op d ra rb imm h a b:=by
 have c:=Vb.new (w.alloc (.cells #[Vi op,Vi d,Vi ra,Vi rb,Vi imm,Vi h] 99)) a;have e:=Vb.new ((w.alloc (.cells #[Vi op,Vi d,Vi ra,Vi rb,Vi imm,Vi h] 99)).alloc (.cells #[Vi a.k,.bool a.s,Vi a.m,Vi a.h,Vi a.lo,Vi a.hi] 47)) b;have j:=Vb.new (((w.alloc (.cells #[Vi op,Vi d,Vi ra,Vi rb,Vi imm,Vi h] 99)).alloc (.cells #[Vi a.k,.bool a.s,Vi a.m,Vi a.h,Vi a.lo,Vi a.hi] 47)).alloc (.cells #[Vi b.k,.bool b.s,Vi b.m,Vi b.h,Vi b.lo,Vi b.hi] 47)) zV;simp only[World.size_alloc]at c e j;refine⟨_,rfl,?_,?_,?_,?_,j,AB⟩
 ·exact(((Ai).alloc AX _).alloc (by simp;omega) _).alloc (by simp;omega) _
 ·exact(((Cl.new).below Ai).below Ai).below Ai
 ·exact(c.below Ai c.lt).below Ai AX
 ·exact e.below Ai e.lt
theorem WS(d l n c h:Int)(a b:VV)(s:Bool)(w:World):
 Ks 105 #[.agg #[Vi 1,Vi d,Vi l,Vi n,Vi c,Vi h],.agg #[Vi a.k,.bool a.s,Vi a.m,Vi a.h,Vi a.lo,Vi a.hi],.agg #[Vi b.k,.bool b.s,Vi b.m,Vi b.h,Vi b.lo,Vi b.hi],.bool s] w fun e q=>e=.returned (CQ 1 c a b s).v/\Below w.heap.size w q:=by
 go_enter Tryz.func105,Tryz.ntmps105;go_upto_region 1 with fail;obtain⟨u0,o,p⟩:=El w (op:=1) (d:=d) (ra:=l) (rb:=n) (imm:=c) (h:=h) a b;rw[o];have j:=hxy p;have r:=j.al;go_wp2;exact mY (VV.v a) (by simp[results,Tryz.results105,go_sem,VV.v, *]) ⟨congrArg (fun v=>Ending.returned (VV.v v)) (by simp[CQ]),Ag j.bel j.oR a⟩
theorem VJ(d l n c h:Int)(a b:VV)(s:Bool)(w:World):
 Ks 105 #[.agg #[Vi 2,Vi d,Vi l,Vi n,Vi c,Vi h],.agg #[Vi a.k,.bool a.s,Vi a.m,Vi a.h,Vi a.lo,Vi a.hi],.agg #[Vi b.k,.bool b.s,Vi b.m,Vi b.h,Vi b.lo,Vi b.hi],.bool s] w fun e x=>e=.returned (CQ 2 c a b s).v/\Below w.heap.size w x:=by
 go_enter Tryz.func105,Tryz.ntmps105;go_upto_region 1 with fail;obtain⟨u0,q,u⟩:=El w (op:=2) (d:=d) (ra:=l) (rb:=n) (imm:=c) (h:=h) a b;rw[q];have o:=hxy u;have r:=o.al;go_wp2_with fail;refine(BN false c _).mono ?_;rintro e u1⟨rfl,p⟩;have j:=hxy (o.below p);simp only[VV.v];have r:=j.al;go_wp2;exact mY (VV.v (Al false c)) (by simp[results,Tryz.results105,go_sem,VV.v, *]) ⟨congrArg (fun v=>Ending.returned (VV.v v)) (by simp[CQ]),Ag j.bel j.oR (Al false c)⟩
end Go.Proofs.YtcjnmdgomocpgaaGreatDoor
