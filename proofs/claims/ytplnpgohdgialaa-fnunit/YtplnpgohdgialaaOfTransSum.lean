import Derived.Test.YtplnpgohdgialaaOfTransMath
import Derived.Test.YtplnpgohdgialaaOfValBlock
import Derived.Test.YtplnpgohdgialaaOfCl
set_option maxHeartbeats 2000000
namespace Go.Proofs.Ytplnpgohdgialaa
open Go.RowKit
theorem l4Num_ex(s:Bool)(m:Int)(w:World):
 Calls Try.prog 57 #[.bool s,.int .i64 m] w fun e w'=>e=.returned (.agg #[.int .i64 0,.bool s,.int .i64 (numV s m).m,.int .i64 0,.int .i64 0,.int .i64 0])/\w'=w.alloc (.cells #[.int .i64 0,.bool s,.int .i64 (numV s m).m,.int .i64 0,.int .i64 0,.int .i64 0] 80):=by
 by_cases h:m<0∨1099511627776<m
 ·have hm:(numV s m).m= -1:=by simp[numV,h]
  rw[hm];clear hm;by_cases h1:m<0
  all_goals
   go_enter Try.func57,Try.ntmps57;go_wp2;exact bodyPost_ret (v:=.agg #[.int .i64 0,.bool s,.int .i64 (-1),.int .i64 0,.int .i64 0,.int .i64 0]) (by simp[results,Try.results57,go_sem]) rfl ⟨rfl,rfl⟩
 ·have hm:(numV s m).m=m:=by simp[numV,h]
  rw[hm];clear hm;go_enter Try.func57,Try.ntmps57;go_wp2;exact bodyPost_ret (v:=.agg #[.int .i64 0,.bool s,.int .i64 m,.int .i64 0,.int .i64 0,.int .i64 0]) (by simp[results,Try.results57,go_sem]) rfl ⟨rfl,rfl⟩
theorem l4Num_any(s:Bool)(m:Int)(w:World):
 Calls Try.prog 57 #[.bool s,.int .i64 m] w fun e w'=>e=.returned (numV s m).v/\Below w.heap.size w w':=
 (l4Num_ex s m w).mono fun _ _⟨h1,h2⟩=>⟨h1,by rw[h2];exact(Below.refl _ _).alloc (Nat.le_refl _) _⟩
theorem l4Max_ex(k:Int)(s:Bool)(m h lo hi:Int)(w:World):
 Calls Try.prog 72 #[.agg #[.int .i64 k,.bool s,.int .i64 m,.int .i64 h,.int .i64 lo,.int .i64 hi]] w fun e w'=>e=.returned (.int .i64 (maxV ⟨k,s,m,h,lo,hi⟩))/\w'=w.alloc (.cells #[.int .i64 k,.bool s,.int .i64 m,.int .i64 h,.int .i64 lo,.int .i64 hi] 80):=by
 go_enter Try.func72,Try.ntmps72;go_wp2;all_goals(go_ret;refine⟨ret_int ?_,rfl⟩;simp_all[maxV])
theorem l4Max_any(k:Int)(s:Bool)(m h lo hi:Int)(w:World):
 Calls Try.prog 72 #[.agg #[.int .i64 k,.bool s,.int .i64 m,.int .i64 h,.int .i64 lo,.int .i64 hi]] w fun e w'=>e=.returned (.int .i64 (maxV ⟨k,s,m,h,lo,hi⟩))/\Below w.heap.size w w':=
 (l4Max_ex k s m h lo hi w).mono fun _ _⟨h1,h2⟩=>⟨h1,by rw[h2];exact(Below.refl _ _).alloc (Nat.le_refl _) _⟩
theorem l4Times_any(a b:Int)(w:World)(a0:0<=a)(a1:a<=1099511627776)(b0:0<=b)(b1:b<=1099511627776):
 Calls Try.prog 80 #[.int .i64 a,.int .i64 b] w fun e w'=>e=.returned (.int .i64 (timesI a b))/\w'=w:=by
 by_cases ha:a=0
 ·subst ha
  go_enter Try.func80,Try.ntmps80;go_wp2;go_ret;exact⟨ret_int (by simp[timesI]),rfl⟩
 by_cases hb:b=0
 ·subst hb
  go_enter Try.func80,Try.ntmps80;go_wp2;go_ret;exact⟨ret_int (by simp[timesI]),rfl⟩
 have a2:1<=a:=by omega
 have e1:(a==0)=false:=by simp[ha]
 have e2:(b==0)=false:=by simp[hb]
 have q0:0<=1099511627776/a:=Int.ediv_nonneg (by omega) a0;have q1:1099511627776/a<=1099511627776:=Int.ediv_le_self _ (by omega);by_cases h:1099511627776/a<b
 ·go_enter Try.func80,Try.ntmps80
  go_wp2;go_ret;exact⟨ret_int (by simp[timesI,ha,hb,h]),rfl⟩
 ·have hm:a*b<=1099511627776:=by
   have h1:b<=1099511627776/a:=by omega
   have h2:=Int.mul_le_mul_of_nonneg_left h1 a0;have h3:=Int.mul_ediv_self_le (x:=1099511627776) (k:=a) (by omega);omega
  have hm0:0<=a*b:=Int.mul_nonneg a0 b0;go_enter Try.func80,Try.ntmps80;go_wp2;go_ret;exact⟨ret_int (by simp[timesI,ha,hb];omega),rfl⟩
theorem l4Both_any(k:Int)(s:Bool)(m h lo hi:Int)(k':Int)(s':Bool)(m' h' lo' hi':Int)(w:World):
 Calls Try.prog 79 #[.agg #[.int .i64 k,.bool s,.int .i64 m,.int .i64 h,.int .i64 lo,.int .i64 hi],.agg #[.int .i64 k',.bool s',.int .i64 m',.int .i64 h',.int .i64 lo',.int .i64 hi']] w fun e w'=>e=.returned (.bool (decide (0<=maxV ⟨k,s,m,h,lo,hi⟩/\0<=maxV ⟨k',s',m',h',lo',hi'⟩)))/\Below w.heap.size w w':=by
 obtain⟨x,hx⟩:∃x,maxV ⟨k,s,m,h,lo,hi⟩=x:=⟨_,rfl⟩
 obtain⟨y,hy⟩:∃y,maxV ⟨k',s',m',h',lo',hi'⟩=y:=⟨_,rfl⟩
 have HX:Hid (maxV ⟨k,s,m,h,lo,hi⟩=x):=hx;have HY:Hid (maxV ⟨k',s',m',h',lo',hi'⟩=y):=hy;rw[hx,hy];clear hx hy;go_enter Try.func79,Try.ntmps79;go_wp2_with fail;obtain⟨u,hu,hbu,cu⟩:∃v,(w.alloc (.cells #[.int .i64 k,.bool s,.int .i64 m,.int .i64 h,.int .i64 lo,.int .i64 hi] 80)).alloc (.cells #[.int .i64 k',.bool s',.int .i64 m',.int .i64 h',.int .i64 lo',.int .i64 hi'] 80)=v/\Below w.heap.size w v/\Cl v (w.heap.size+1) [.int .i64 k',.bool s',.int .i64 m',.int .i64 h',.int .i64 lo',.int .i64 hi']:=by
  refine⟨_,rfl,((Below.refl _ _).alloc (Nat.le_refl _) _).alloc (by simp) _,?_⟩;have h:=Cl.new (w:=w.alloc (.cells #[.int .i64 k,.bool s,.int .i64 m,.int .i64 h,.int .i64 lo,.int .i64 hi] 80)) (vs:=#[.int .i64 k',.bool s',.int .i64 m',.int .i64 h',.int .i64 lo',.int .i64 hi']) (t:=80);simp only[World.size_alloc]at h;exact h
 rw[hu];refine(l4Max_any _ _ _ _ _ _ _).mono ?_;rintro e w1⟨rfl,hb1⟩;have B1:Hid (Below w.heap.size w w1):=hbu.trans (hb1.mono hbu.size);have c1:=cu.below hb1;have q0:w1.cell? ⟨w.heap.size+1,0,none⟩=some (.int .i64 k'):=c1.2 0 (by simp);have q1:w1.cell? ⟨w.heap.size+1,1,none⟩=some (.bool s'):=c1.2 1 (by simp);have q2:w1.cell? ⟨w.heap.size+1,2,none⟩=some (.int .i64 m'):=c1.2 2 (by simp);have q3:w1.cell? ⟨w.heap.size+1,3,none⟩=some (.int .i64 h'):=c1.2 3 (by simp);have q4:w1.cell? ⟨w.heap.size+1,4,none⟩=some (.int .i64 lo'):=c1.2 4 (by simp);have q5:w1.cell? ⟨w.heap.size+1,5,none⟩=some (.int .i64 hi'):=c1.2 5 (by simp);clear hu hbu cu hb1 c1;rw[HX.out];by_cases h1:0<=x
 ·go_wp2_with fail
  refine(l4Max_any _ _ _ _ _ _ _).mono ?_;rintro e w2⟨rfl,hb2⟩;have B2:Hid (Below w.heap.size w w2):=B1.out.trans (hb2.mono B1.out.size);clear hb2;rw[HY.out];go_wp2;go_ret;exact⟨ret_bool (by simp[h1]),B2.out⟩
 ·go_wp2
  go_ret;exact⟨ret_bool (by simp;omega),B1.out⟩
theorem l4Bigger_any(a b:Int)(w:World):Calls Try.prog 83 #[.int .i64 a,.int .i64 b] w fun e w'=>e=.returned (.int .i64 (bigI a b))/\w'=w:=by
 go_enter Try.func83,Try.ntmps83;go_wp2;all_goals(go_ret;refine⟨ret_int ?_,rfl⟩;simp[bigI]<;>omega)
theorem l4Least_any(a b:Int)(w:World):Calls Try.prog 81 #[.int .i64 a,.int .i64 b] w fun e w'=>e=.returned (.int .i64 (leastI a b))/\w'=w:=by
 by_cases h1:a<0
 ·go_enter Try.func81,Try.ntmps81
  go_wp2;all_goals(go_ret;refine⟨ret_int ?_,rfl⟩;simp[leastI]<;>omega)
 ·by_cases h2:0<=b
  ·go_enter Try.func81,Try.ntmps81
   go_wp2;all_goals(go_ret;refine⟨ret_int ?_,rfl⟩;simp[leastI]<;>omega)
  ·go_enter Try.func81,Try.ntmps81
   go_wp2;all_goals(go_ret;refine⟨ret_int ?_,rfl⟩;simp[leastI]<;>omega)
theorem ones_step{x:Int}{i:Nat}(h:((2^i:Nat):Int)-1<x)(hx:x<=1099511627776):i<=40:=by
 by_cases g:i<=40
 ·exact g
 ·have:2^41<=2^i:=Nat.pow_le_pow_right (by decide) (by omega)
  have:(2:Nat)^41=2199023255552:=by decide
  omega
theorem ones_done{x:Int}{i:Nat}(x0:0<=x)(h:x<=((2^i:Nat):Int)-1)(hm:i=0∨((2^(i-1):Nat):Int)-1<x):onesI x=((2^i:Nat):Int)-1:=by
 obtain⟨n,rfl⟩:∃n:Nat,x=(n:Int):=⟨x.toNat,by omega⟩
 have hn:n<2^i:=by omega
 unfold onesI;rw[Int.toNat_natCast];have:bitsN n=i:=by
  unfold bitsN;rcases hm with rfl|hm
  ·simp at hn;simp[hn]
  ·have hp:2^(i-1)<=n:=by omega
   have h0:n≠0:=by have:=Nat.two_pow_pos (i-1);omega
   rw[if_neg h0];have h1:=(Nat.log2_lt h0 (k:=i)).2 hn;have h2:=(Nat.le_log2 h0 (k:=i-1)).2 hp;by_cases e:i=0
   ·subst e;simp at hn;omega
   ·omega
 rw[this]
theorem l4Ones_any(x:Int)(w:World)(x0:0<=x)(x1:x<=1099511627776):Calls Try.prog 82 #[.int .i64 x] w fun e w'=>e=.returned (.int .i64 (onesI x))/\w'=w:=by
 go_enter Try.func82,Try.ntmps82;go_wp2;go_loop [3](fun o=>∃i:Nat,i<=41/\o=.int .i64 (((2^i:Nat):Int)-1)/\(i=0∨((2^(i-1):Nat):Int)-1<x))(fun o=>(2*x+2-intOf o).toNat)
 case atStart=>exact⟨0,by omega,rfl,Or.inl rfl⟩
 case round=>
  obtain⟨i,hi,rfl,hm⟩:=hrel;have HM:Hid (i=0∨((2^(i-1):Nat):Int)-1<x):=hm;clear hm;have hp:1<=2^i:=Nat.two_pow_pos i;have hp2:2^i<=2^41:=Nat.pow_le_pow_right (by decide) hi;have e41:(2:Nat)^41=2199023255552:=by decide
  rw[e41]at hp2;clear e41;by_cases hlt:((2^i:Nat):Int)-1<x
  ·have h40:=ones_step hlt x1
   have hs:2^(i+1)=2*2^i:=by rw[Nat.pow_succ,Nat.mul_comm]
   have HS:Hid (2^(i+1)=2*2^i):=hs;have HL:Hid (((2^i:Nat):Int)-1<x):=hlt;clear hs;generalize hy:2^i=y at *;go_wp2;go_round
   case rel=>
    refine⟨i+1,by omega,?_,Or.inr ?_⟩
    ·rw[HS.out]
     go_num
    ·rw[Nat.add_sub_cancel,hy];exact HL.out
   case measure=>simp[intOf];omega
  ·have hd:=ones_done x0 (by omega) HM.out
   have HD:Hid (onesI x=((2^i:Nat):Int)-1):=hd;clear hd;generalize 2^i=y at *;go_wp2;go_ret;exact⟨ret_int HD.out.symm,rfl⟩
theorem l4FlagOf_any(s:Bool)(w:World):Calls Try.prog 68 #[.bool s] w fun e w'=>e=.returned (.int .i64 (if s then 2 else 1))/\w'=w:=by
 cases s;all_goals
  go_enter Try.func68,Try.ntmps68;go_wp2;go_ret;exact⟨rfl,rfl⟩
theorem l4Sum_any(a b:VV)(w:World)(ha:Bd a)(hb:Bd b):
 Calls Try.prog 78 #[.agg #[.int .i64 a.k,.bool a.s,.int .i64 a.m,.int .i64 a.h,.int .i64 a.lo,.int .i64 a.hi],.agg #[.int .i64 b.k,.bool b.s,.int .i64 b.m,.int .i64 b.h,.int .i64 b.lo,.int .i64 b.hi]] w fun e w'=>e=.returned (sumV a b).v/\Below w.heap.size w w':=by
 obtain⟨am0,am1,al0,al1,ah0,ah1,ak⟩:=ha;obtain⟨bm0,bm1,bl0,bl1,bh0,bh1,bk⟩:=hb;obtain⟨k,s,m,h,lo,hi⟩:=a;obtain⟨k',s',m',h',lo',hi'⟩:=b;simp only at *;rcases ak with rfl|rfl<;>rcases bk with rfl|rfl
 all_goals
  go_enter Try.func78,Try.ntmps78;go_wp2_with(first|(go_at_call 72;refine(l4Max_ex _ _ _ _ _ _ _).mono ?_;rintro e w'⟨rfl,rfl⟩;simp only[maxV,if_true,if_neg (show¬(0:Int)=1 by omega)])|(go_at_call 57;refine(l4Num_ex _ _ _).mono ?_;rintro e w'⟨rfl,rfl⟩))
 all_goals
  refine' bodyPost_ret (v:=_) ?_ rfl ⟨?_,?_⟩;rotate_left 1
  ·simp[results,Try.results78,go_sem];rfl
  rotate_left 1
  ·repeat(first|exact Below.refl _ _|refine Below.setCell ?_ (by simp) _|refine Below.alloc ?_ (by simp<;>omega) _)
  ·simp only[sumV,sumP,numV,maxV,VV.v]
   (repeat' split)<;>simp_all<;>omega
end Go.Proofs.Ytplnpgohdgialaa
