import Derived.Test.YtfpeecaaleijcaaGreatDoorOfCl
import Derived.Test.YtfpeecaaleijcaaGreatDoorOfTransMath
import Derived.Test.YtfpeecaaleijcaaGreatDoorOfValBlock
set_option maxHeartbeats 2000000
namespace Go.Proofs.YtfpeecaaleijcaaGreatDoor
open Go.RowKit
theorem Ro(s:Bool)(m:Int)(w:World):
 Calls Tryz.prog 137 #[.bool s,Vi m] w fun e w'=>e=.returned (.agg #[Vi 0,.bool s,Vi (Az s m).m,Vi 0,Vi 0,Vi 0])/\w'=w.alloc (.cells #[Vi 0,.bool s,Vi (Az s m).m,Vi 0,Vi 0,Vi 0] 42):=by
 by_cases h:m<0∨1099511627776<m
 ·have hm:(Az s m).m= -1:=by simp[Az,h]
  rw[hm];clear hm;by_cases h1:m<0
  all_goals
   go_enter Tryz.func137,Tryz.ntmps137;go_wp2;exact bodyPost_ret (v:=.agg #[Vi 0,.bool s,Vi (-1),Vi 0,Vi 0,Vi 0]) (by simp[results,Tryz.results137,go_sem]) rfl ⟨rfl,rfl⟩
 ·have hm:(Az s m).m=m:=by simp[Az,h]
  rw[hm];clear hm;go_enter Tryz.func137,Tryz.ntmps137;go_wp2;exact bodyPost_ret (v:=.agg #[Vi 0,.bool s,Vi m,Vi 0,Vi 0,Vi 0]) (by simp[results,Tryz.results137,go_sem]) rfl ⟨rfl,rfl⟩
theorem Ap(s:Bool)(m:Int)(w:World):
 Calls Tryz.prog 137 #[.bool s,Vi m] w fun e w'=>e=.returned (Az s m).v/\Below w.heap.size w w':=
 (Ro s m w).mono fun _ _⟨h1,h2⟩=>⟨h1,by rw[h2];exact Ak⟩
theorem RJ(k:Int)(s:Bool)(m h lo hi:Int)(w:World):
 Calls Tryz.prog 169 #[.agg #[Vi k,.bool s,Vi m,Vi h,Vi lo,Vi hi]] w fun e w'=>e=.returned (Vi (Ao ⟨k,s,m,h,lo,hi⟩))/\w'=w.alloc (.cells #[Vi k,.bool s,Vi m,Vi h,Vi lo,Vi hi] 42):=by
 go_enter Tryz.func169,Tryz.ntmps169;go_wp2;all_goals(go_ret;refine⟨Bp ?_,rfl⟩;simp_all[Ao])
theorem Cc(k:Int)(s:Bool)(m h lo hi:Int)(w:World):
 Calls Tryz.prog 169 #[.agg #[Vi k,.bool s,Vi m,Vi h,Vi lo,Vi hi]] w fun e w'=>e=.returned (Vi (Ao ⟨k,s,m,h,lo,hi⟩))/\Below w.heap.size w w':=
 (RJ k s m h lo hi w).mono fun _ _⟨h1,h2⟩=>⟨h1,by rw[h2];exact Ak⟩
theorem KZ(a b:Int)(w:World)(a0:0<=a)(a1:a<=1099511627776)(b0:0<=b)(b1:b<=1099511627776):
 Calls Tryz.prog 186 #[Vi a,Vi b] w fun e w'=>e=.returned (Vi (EI a b))/\w'=w:=by
 by_cases ha:a=0
 ·subst ha
  go_enter Tryz.func186,Tryz.ntmps186;go_wp2;go_ret;exact⟨Bp (by simp[EI]),rfl⟩
 by_cases hb:b=0
 ·subst hb
  go_enter Tryz.func186,Tryz.ntmps186;go_wp2;go_ret;exact⟨Bp (by simp[EI]),rfl⟩
 have a2:1<=a:=by omega
 have e1:(a==0)=false:=by simp[ha]
 have e2:(b==0)=false:=by simp[hb]
 have q0:0<=1099511627776/a:=Int.ediv_nonneg (by omega) a0;have q1:1099511627776/a<=1099511627776:=Int.ediv_le_self _ (by omega);by_cases h:1099511627776/a<b
 ·go_enter Tryz.func186,Tryz.ntmps186
  go_wp2;go_ret;exact⟨Bp (by simp[EI,ha,hb,h]),rfl⟩
 ·have hm:a*b<=1099511627776:=by
   have h1:b<=1099511627776/a:=by omega
   have h2:=Int.mul_le_mul_of_nonneg_left h1 a0;have h3:=Int.mul_ediv_self_le (x:=1099511627776) (k:=a) (by omega);omega
  have hm0:0<=a*b:=Int.mul_nonneg a0 b0;go_enter Tryz.func186,Tryz.ntmps186;go_wp2;go_ret;exact⟨Bp (by simp[EI,ha,hb];omega),rfl⟩
theorem Ga(k:Int)(s:Bool)(m h lo hi:Int)(k':Int)(s':Bool)(m' h' lo' hi':Int)(w:World):
 Calls Tryz.prog 185 #[.agg #[Vi k,.bool s,Vi m,Vi h,Vi lo,Vi hi],.agg #[Vi k',.bool s',Vi m',Vi h',Vi lo',Vi hi']] w fun e w'=>e=.returned (.bool (decide (0<=Ao ⟨k,s,m,h,lo,hi⟩/\0<=Ao ⟨k',s',m',h',lo',hi'⟩)))/\Below w.heap.size w w':=by
 obtain⟨x,hx⟩:=Ae (Ao ⟨k,s,m,h,lo,hi⟩);obtain⟨y,hy⟩:=Ae (Ao ⟨k',s',m',h',lo',hi'⟩);have HX:=hxy hx;have HY:=hxy hy;rw[hx,hy];clear hx hy;go_enter Tryz.func185,Tryz.ntmps185;go_wp2_with fail;obtain⟨u,hu,hbu,cu⟩:∃v,(w.alloc (.cells #[Vi k,.bool s,Vi m,Vi h,Vi lo,Vi hi] 42)).alloc (.cells #[Vi k',.bool s',Vi m',Vi h',Vi lo',Vi hi'] 42)=v/\Below w.heap.size w v/\Cl v (w.heap.size+1) [Vi k',.bool s',Vi m',Vi h',Vi lo',Vi hi']:=by
  refine⟨_,rfl,(Ak).alloc (by simp) _,?_⟩;have h:=Cl.new (w:=w.alloc (.cells #[Vi k,.bool s,Vi m,Vi h,Vi lo,Vi hi] 42)) (vs:=#[Vi k',.bool s',Vi m',Vi h',Vi lo',Vi hi']) (t:=42);simp only[World.size_alloc]at h;exact h
 rw[hu];refine(Cc _ _ _ _ _ _ _).mono ?_;rintro e w1⟨rfl,hb1⟩;have B1:=hxy (hbu.trans (hb1.mono hbu.size));have c1:=cu.below hb1;have q0:w1.cell? ⟨w.heap.size+1,0,none⟩=some (Vi k'):=c1.2 0 (by simp);have q1:w1.cell? ⟨w.heap.size+1,1,none⟩=some (.bool s'):=c1.2 1 (by simp);have q2:w1.cell? ⟨w.heap.size+1,2,none⟩=some (Vi m'):=c1.2 2 (by simp);have q3:w1.cell? ⟨w.heap.size+1,3,none⟩=some (Vi h'):=c1.2 3 (by simp);have q4:w1.cell? ⟨w.heap.size+1,4,none⟩=some (Vi lo'):=c1.2 4 (by simp);have q5:w1.cell? ⟨w.heap.size+1,5,none⟩=some (Vi hi'):=c1.2 5 (by simp);clear hu hbu cu hb1 c1;rw[HX.out];by_cases h1:0<=x
 ·go_wp2_with fail
  refine(Cc _ _ _ _ _ _ _).mono ?_;rintro e w2⟨rfl,hb2⟩;have B2:=hxy (B1.out.trans (hb2.mono B1.out.size));clear hb2;rw[HY.out];go_wp2;go_ret;exact⟨Ag (by simp[h1]),B2.out⟩
 ·go_wp2
  go_ret;exact⟨Ag (by simp;omega),B1.out⟩
theorem Jf(a b:Int)(w:World):Calls Tryz.prog 189 #[Vi a,Vi b] w fun e w'=>e=.returned (Vi (JA a b))/\w'=w:=by
 go_enter Tryz.func189,Tryz.ntmps189;go_wp2;all_goals(go_ret;refine⟨Bp ?_,rfl⟩;simp[JA]<;>omega)
theorem Ke(a b:Int)(w:World):Calls Tryz.prog 187 #[Vi a,Vi b] w fun e w'=>e=.returned (Vi (Dz a b))/\w'=w:=by
 by_cases h1:a<0
 ·go_enter Tryz.func187,Tryz.ntmps187
  go_wp2;all_goals(go_ret;refine⟨Bp ?_,rfl⟩;simp[Dz]<;>omega)
 ·by_cases h2:0<=b
  ·go_enter Tryz.func187,Tryz.ntmps187
   go_wp2;all_goals(go_ret;refine⟨Bp ?_,rfl⟩;simp[Dz]<;>omega)
  ·go_enter Tryz.func187,Tryz.ntmps187
   go_wp2;all_goals(go_ret;refine⟨Bp ?_,rfl⟩;simp[Dz]<;>omega)
theorem WM{x:Int}{i:Nat}(h:((2^i:Nat):Int)-1<x)(hx:x<=1099511627776):i<=40:=by
 by_cases g:i<=40
 ·exact g
 ·have:2^41<=2^i:=Nat.pow_le_pow_right (by decide) (by omega)
  have:(2:Nat)^41=2199023255552:=by decide
  omega
theorem WX{x:Int}{i:Nat}(x0:0<=x)(h:x<=((2^i:Nat):Int)-1)(hm:i=0∨((2^(i-1):Nat):Int)-1<x):Iy x=((2^i:Nat):Int)-1:=by
 obtain⟨n,rfl⟩:∃n:Nat,x=(n:Int):=⟨x.toNat,by omega⟩
 have hn:n<2^i:=by omega
 unfold Iy;rw[Int.toNat_natCast];have:ZF n=i:=by
  unfold ZF;rcases hm with rfl|hm
  ·simp at hn;simp[hn]
  ·have hp:2^(i-1)<=n:=by omega
   have h0:n≠0:=by have:=Nat.two_pow_pos (i-1);omega
   rw[if_neg h0];have h1:=(Nat.log2_lt h0 (k:=i)).2 hn;have h2:=(Nat.le_log2 h0 (k:=i-1)).2 hp;by_cases e:i=0
   ·subst e;simp at hn;omega
   ·omega
 rw[this]
theorem Lj(x:Int)(w:World)(x0:0<=x)(x1:x<=1099511627776):Calls Tryz.prog 188 #[Vi x] w fun e w'=>e=.returned (Vi (Iy x))/\w'=w:=by
 go_enter Tryz.func188,Tryz.ntmps188;go_wp2;go_loop [3](fun o=>∃i:Nat,i<=41/\o=Vi (((2^i:Nat):Int)-1)/\(i=0∨((2^(i-1):Nat):Int)-1<x))(fun o=>(2*x+2-intOf o).toNat)
 case atStart=>exact⟨0,by omega,rfl,Or.inl rfl⟩
 case round=>
  obtain⟨i,hi,rfl,hm⟩:=hrel;have HM:=hxy hm;clear hm;have hp:1<=2^i:=Nat.two_pow_pos i;have hp2:2^i<=2^41:=Nat.pow_le_pow_right (by decide) hi;have e41:(2:Nat)^41=2199023255552:=by decide
  rw[e41]at hp2;clear e41;by_cases hlt:((2^i:Nat):Int)-1<x
  ·have h40:=WM hlt x1
   have hs:2^(i+1)=2*2^i:=by rw[Nat.pow_succ,Nat.mul_comm]
   have HS:=hxy hs;have HL:=hxy hlt;clear hs;generalize hy:2^i=y at *;go_wp2;go_round
   case rel=>
    refine⟨i+1,by omega,?_,Or.inr ?_⟩
    ·rw[HS.out]
     go_num
    ·rw[Nat.add_sub_cancel,hy];exact HL.out
   case measure=>simp[intOf];omega
  ·have hd:=WX x0 (by omega) HM.out
   have HD:=hxy hd;clear hd;generalize 2^i=y at *;go_wp2;go_ret;exact⟨Bp HD.out.symm,rfl⟩
theorem J4(s:Bool)(w:World):Calls Tryz.prog 165 #[.bool s] w fun e w'=>e=.returned (Vi (if s then 2 else 1))/\w'=w:=by
 cases s;all_goals
  go_enter Tryz.func165,Tryz.ntmps165;go_wp2;go_ret;exact⟨rfl,rfl⟩
theorem Ou(a b:VV)(w:World)(ha:Bd a)(hb:Bd b):
 Calls Tryz.prog 184 #[.agg #[.int .i64 a.k,.bool a.s,.int .i64 a.m,.int .i64 a.h,.int .i64 a.lo,.int .i64 a.hi],.agg #[.int .i64 b.k,.bool b.s,.int .i64 b.m,.int .i64 b.h,.int .i64 b.lo,.int .i64 b.hi]] w fun e w'=>e=.returned (Pp a b).v/\Below w.heap.size w w':=by
 obtain⟨am0,am1,al0,al1,ah0,ah1,ak⟩:=ha;obtain⟨bm0,bm1,bl0,bl1,bh0,bh1,bk⟩:=hb;obtain⟨k,s,m,h,lo,hi⟩:=a;obtain⟨k',s',m',h',lo',hi'⟩:=b;simp only at *;rcases ak with rfl|rfl<;>rcases bk with rfl|rfl
 all_goals
  go_enter Tryz.func184,Tryz.ntmps184;go_wp2_with(first|(go_at_call 169;refine(RJ _ _ _ _ _ _ _).mono ?_;rintro e w'⟨rfl,rfl⟩;simp only[Ao,if_true,if_neg (show¬(0:Int)=1 by omega)])|(go_at_call 137;refine(Ro _ _ _).mono ?_;rintro e w'⟨rfl,rfl⟩))
 all_goals
  refine' bodyPost_ret (v:=_) ?_ rfl ⟨?_,?_⟩;rotate_left 1
  ·simp[results,Tryz.results184,go_sem];rfl
  rotate_left 1
  ·repeat(first|exact Below.refl _ _|refine Below.setCell ?_ (by simp) _|refine Below.alloc ?_ (by simp<;>omega) _)
  ·simp only[Pp,Xw,Az,Ao,VV.v]
   (repeat' split)<;>simp_all<;>omega
end Go.Proofs.YtfpeecaaleijcaaGreatDoor
