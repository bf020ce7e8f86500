import Derived.Test.YtbahofiiaodpdaaGreatOfValRows
import Derived.Test.YtbahofiiaodpdaaGreatOfAbsWalks
import Derived.Test.YtbahofiiaodpdaaGreatOfCl
set_option maxHeartbeats 2000000
namespace Go.Proofs.YtbahofiiaodpdaaGreat
open Go.RowKit
theorem l4Num_ex(s:Bool)(m:Int)(w:World):
 Calls Tryz.prog 27 #[.bool s,.int .i64 m] w fun e w'=>e=.returned (.agg #[.int .i64 0,.bool s,.int .i64 (numV s m).m,.int .i64 0,.int .i64 0,.int .i64 0])/\w'=w.alloc (.cells #[.int .i64 0,.bool s,.int .i64 (numV s m).m,.int .i64 0,.int .i64 0,.int .i64 0] 62):=by
 by_cases h:m<0∨1099511627776<m
 ·have hm:(numV s m).m= -1:=by simp[numV,h]
  rw[hm];clear hm;by_cases h1:m<0
  all_goals
   go_enter Tryz.func27,Tryz.ntmps27;go_wp2;exact bodyPost_ret (v:=.agg #[.int .i64 0,.bool s,.int .i64 (-1),.int .i64 0,.int .i64 0,.int .i64 0]) (by simp[results,Tryz.results27,go_sem]) rfl ⟨rfl,rfl⟩
 ·have hm:(numV s m).m=m:=by simp[numV,h]
  rw[hm];clear hm;go_enter Tryz.func27,Tryz.ntmps27;go_wp2;exact bodyPost_ret (v:=.agg #[.int .i64 0,.bool s,.int .i64 m,.int .i64 0,.int .i64 0,.int .i64 0]) (by simp[results,Tryz.results27,go_sem]) rfl ⟨rfl,rfl⟩
theorem l4Num_any(s:Bool)(m:Int)(w:World):
 Calls Tryz.prog 27 #[.bool s,.int .i64 m] w fun e w'=>e=.returned (numV s m).v/\Below w.heap.size w w':=
 (l4Num_ex s m w).mono fun _ _⟨h1,h2⟩=>⟨h1,by rw[h2];exact(Below.refl _ _).alloc (Nat.le_refl _) _⟩
theorem l4Max_ex(k:Int)(s:Bool)(m h lo hi:Int)(w:World):
 Calls Tryz.prog 49 #[.agg #[.int .i64 k,.bool s,.int .i64 m,.int .i64 h,.int .i64 lo,.int .i64 hi]] w fun e w'=>e=.returned (.int .i64 (maxV ⟨k,s,m,h,lo,hi⟩))/\w'=w.alloc (.cells #[.int .i64 k,.bool s,.int .i64 m,.int .i64 h,.int .i64 lo,.int .i64 hi] 62):=by
 go_enter Tryz.func49,Tryz.ntmps49;go_wp2;all_goals(go_ret;refine⟨ret_int ?_,rfl⟩;simp_all[maxV])
theorem l4Max_any(k:Int)(s:Bool)(m h lo hi:Int)(w:World):
 Calls Tryz.prog 49 #[.agg #[.int .i64 k,.bool s,.int .i64 m,.int .i64 h,.int .i64 lo,.int .i64 hi]] w fun e w'=>e=.returned (.int .i64 (maxV ⟨k,s,m,h,lo,hi⟩))/\Below w.heap.size w w':=
 (l4Max_ex k s m h lo hi w).mono fun _ _⟨h1,h2⟩=>⟨h1,by rw[h2];exact(Below.refl _ _).alloc (Nat.le_refl _) _⟩
theorem l4Times_any(a b:Int)(w:World)(a0:0<=a)(a1:a<=1099511627776)(b0:0<=b)(b1:b<=1099511627776):
 Calls Tryz.prog 53 #[.int .i64 a,.int .i64 b] w fun e w'=>e=.returned (.int .i64 (timesI a b))/\w'=w:=by
 by_cases ha:a=0
 ·subst ha
  go_enter Tryz.func53,Tryz.ntmps53;go_wp2;go_ret;exact⟨ret_int (by simp[timesI]),rfl⟩
 by_cases hb:b=0
 ·subst hb
  go_enter Tryz.func53,Tryz.ntmps53;go_wp2;go_ret;exact⟨ret_int (by simp[timesI]),rfl⟩
 have a2:1<=a:=by omega
 have e1:(a==0)=false:=by simp[ha]
 have e2:(b==0)=false:=by simp[hb]
 have q0:0<=1099511627776/a:=Int.ediv_nonneg (by omega) a0;have q1:1099511627776/a<=1099511627776:=Int.ediv_le_self _ (by omega);by_cases h:1099511627776/a<b
 ·go_enter Tryz.func53,Tryz.ntmps53
  go_wp2;go_ret;exact⟨ret_int (by simp[timesI,ha,hb,h]),rfl⟩
 ·have hm:a*b<=1099511627776:=by
   have h1:b<=1099511627776/a:=by omega
   have h2:=Int.mul_le_mul_of_nonneg_left h1 a0;have h3:=Int.mul_ediv_self_le (x:=1099511627776) (k:=a) (by omega);omega
  have hm0:0<=a*b:=Int.mul_nonneg a0 b0;go_enter Tryz.func53,Tryz.ntmps53;go_wp2;go_ret;exact⟨ret_int (by simp[timesI,ha,hb];omega),rfl⟩
theorem l4Both_any(k:Int)(s:Bool)(m h lo hi:Int)(k':Int)(s':Bool)(m' h' lo' hi':Int)(w:World):
 Calls Tryz.prog 52 #[.agg #[.int .i64 k,.bool s,.int .i64 m,.int .i64 h,.int .i64 lo,.int .i64 hi],.agg #[.int .i64 k',.bool s',.int .i64 m',.int .i64 h',.int .i64 lo',.int .i64 hi']] w fun e w'=>e=.returned (.bool (decide (0<=maxV ⟨k,s,m,h,lo,hi⟩/\0<=maxV ⟨k',s',m',h',lo',hi'⟩)))/\Below w.heap.size w w':=by
 obtain⟨x,hx⟩:∃x,maxV ⟨k,s,m,h,lo,hi⟩=x:=⟨_,rfl⟩
 obtain⟨y,hy⟩:∃y,maxV ⟨k',s',m',h',lo',hi'⟩=y:=⟨_,rfl⟩
 have HX:Hid (maxV ⟨k,s,m,h,lo,hi⟩=x):=hx;have HY:Hid (maxV ⟨k',s',m',h',lo',hi'⟩=y):=hy;rw[hx,hy];clear hx hy;go_enter Tryz.func52,Tryz.ntmps52;go_wp2_with fail;obtain⟨u,hu,hbu,cu⟩:∃v,(w.alloc (.cells #[.int .i64 k,.bool s,.int .i64 m,.int .i64 h,.int .i64 lo,.int .i64 hi] 62)).alloc (.cells #[.int .i64 k',.bool s',.int .i64 m',.int .i64 h',.int .i64 lo',.int .i64 hi'] 62)=v/\Below w.heap.size w v/\Cl v (w.heap.size+1) [.int .i64 k',.bool s',.int .i64 m',.int .i64 h',.int .i64 lo',.int .i64 hi']:=by
  refine⟨_,rfl,((Below.refl _ _).alloc (Nat.le_refl _) _).alloc (by simp) _,?_⟩;have h:=Cl.new (w:=w.alloc (.cells #[.int .i64 k,.bool s,.int .i64 m,.int .i64 h,.int .i64 lo,.int .i64 hi] 62)) (vs:=#[.int .i64 k',.bool s',.int .i64 m',.int .i64 h',.int .i64 lo',.int .i64 hi']) (t:=62);simp only[World.size_alloc]at h;exact h
 rw[hu];refine(l4Max_any _ _ _ _ _ _ _).mono ?_;rintro e w1⟨rfl,hb1⟩;have B1:Hid (Below w.heap.size w w1):=hbu.trans (hb1.mono hbu.size);have c1:=cu.below hb1;have q0:w1.cell? ⟨w.heap.size+1,0,none⟩=some (.int .i64 k'):=c1.2 0 (by simp);have q1:w1.cell? ⟨w.heap.size+1,1,none⟩=some (.bool s'):=c1.2 1 (by simp);have q2:w1.cell? ⟨w.heap.size+1,2,none⟩=some (.int .i64 m'):=c1.2 2 (by simp);have q3:w1.cell? ⟨w.heap.size+1,3,none⟩=some (.int .i64 h'):=c1.2 3 (by simp);have q4:w1.cell? ⟨w.heap.size+1,4,none⟩=some (.int .i64 lo'):=c1.2 4 (by simp);have q5:w1.cell? ⟨w.heap.size+1,5,none⟩=some (.int .i64 hi'):=c1.2 5 (by simp);clear hu hbu cu hb1 c1;rw[HX.out];by_cases h1:0<=x
 ·go_wp2_with fail
  refine(l4Max_any _ _ _ _ _ _ _).mono ?_;rintro e w2⟨rfl,hb2⟩;have B2:Hid (Below w.heap.size w w2):=B1.out.trans (hb2.mono B1.out.size);clear hb2;rw[HY.out];go_wp2;go_ret;exact⟨ret_bool (by simp[h1]),B2.out⟩
 ·go_wp2
  go_ret;exact⟨ret_bool (by simp;omega),B1.out⟩
theorem l4Bigger_any(a b:Int)(w:World):Calls Tryz.prog 56 #[.int .i64 a,.int .i64 b] w fun e w'=>e=.returned (.int .i64 (bigI a b))/\w'=w:=by
 go_enter Tryz.func56,Tryz.ntmps56;go_wp2;all_goals(go_ret;refine⟨ret_int ?_,rfl⟩;simp[bigI]<;>omega)
theorem l4Least_any(a b:Int)(w:World):Calls Tryz.prog 54 #[.int .i64 a,.int .i64 b] w fun e w'=>e=.returned (.int .i64 (leastI a b))/\w'=w:=by
 by_cases h1:a<0
 ·go_enter Tryz.func54,Tryz.ntmps54
  go_wp2;all_goals(go_ret;refine⟨ret_int ?_,rfl⟩;simp[leastI]<;>omega)
 ·by_cases h2:0<=b
  ·go_enter Tryz.func54,Tryz.ntmps54
   go_wp2;all_goals(go_ret;refine⟨ret_int ?_,rfl⟩;simp[leastI]<;>omega)
  ·go_enter Tryz.func54,Tryz.ntmps54
   go_wp2;all_goals(go_ret;refine⟨ret_int ?_,rfl⟩;simp[leastI]<;>omega)
theorem ones_step{x:Int}{i:Nat}(h:((2^i:Nat):Int)-1<x)(hx:x<=1099511627776):i<=40:=by
 by_cases g:i<=40
 ·exact g
 ·have:2^41<=2^i:=Nat.pow_le_pow_right (by decide) (by omega)
  have:(2:Nat)^41=2199023255552:=by decide
  omega
theorem ones_done{x:Int}{i:Nat}(x0:0<=x)(h:x<=((2^i:Nat):Int)-1)(hm:i=0∨((2^(i-1):Nat):Int)-1<x):onesI x=((2^i:Nat):Int)-1:=by
 obtain⟨n,rfl⟩:∃n:Nat,x=(n:Int):=⟨x.toNat,by omega⟩
 have hn:n<2^i:=by omega
 unfold onesI;rw[Int.toNat_natCast];have:bitsN n=i:=by
  unfold bitsN;rcases hm with rfl|hm
  ·simp at hn;simp[hn]
  ·have hp:2^(i-1)<=n:=by omega
   have h0:n≠0:=by have:=Nat.two_pow_pos (i-1);omega
   rw[if_neg h0];have h1:=(Nat.log2_lt h0 (k:=i)).2 hn;have h2:=(Nat.le_log2 h0 (k:=i-1)).2 hp;by_cases e:i=0
   ·subst e;simp at hn;omega
   ·omega
 rw[this]
theorem l4Ones_any(x:Int)(w:World)(x0:0<=x)(x1:x<=1099511627776):Calls Tryz.prog 55 #[.int .i64 x] w fun e w'=>e=.returned (.int .i64 (onesI x))/\w'=w:=by
 go_enter Tryz.func55,Tryz.ntmps55;go_wp2;go_loop [3](fun o=>∃i:Nat,i<=41/\o=.int .i64 (((2^i:Nat):Int)-1)/\(i=0∨((2^(i-1):Nat):Int)-1<x))(fun o=>(2*x+2-intOf o).toNat)
 case atStart=>exact⟨0,by omega,rfl,Or.inl rfl⟩
 case round=>
  obtain⟨i,hi,rfl,hm⟩:=hrel;have HM:Hid (i=0∨((2^(i-1):Nat):Int)-1<x):=hm;clear hm;have hp:1<=2^i:=Nat.two_pow_pos i;have hp2:2^i<=2^41:=Nat.pow_le_pow_right (by decide) hi;have e41:(2:Nat)^41=2199023255552:=by decide
  rw[e41]at hp2;clear e41;by_cases hlt:((2^i:Nat):Int)-1<x
  ·have h40:=ones_step hlt x1
   have hs:2^(i+1)=2*2^i:=by rw[Nat.pow_succ,Nat.mul_comm]
   have HS:Hid (2^(i+1)=2*2^i):=hs;have HL:Hid (((2^i:Nat):Int)-1<x):=hlt;clear hs;generalize hy:2^i=y at *;go_wp2;go_round
   case rel=>
    refine⟨i+1,by omega,?_,Or.inr ?_⟩
    ·rw[HS.out]
     go_num
    ·rw[Nat.add_sub_cancel,hy];exact HL.out
   case measure=>simp[intOf];omega
  ·have hd:=ones_done x0 (by omega) HM.out
   have HD:Hid (onesI x=((2^i:Nat):Int)-1):=hd;clear hd;generalize 2^i=y at *;go_wp2;go_ret;exact⟨ret_int HD.out.symm,rfl⟩
theorem l4FlagOf_any(s:Bool)(w:World):Calls Tryz.prog 29 #[.bool s] w fun e w'=>e=.returned (.int .i64 (if s then 2 else 1))/\w'=w:=by
 cases s;all_goals
  go_enter Tryz.func29,Tryz.ntmps29;go_wp2;go_ret;exact⟨rfl,rfl⟩
theorem l4Sum_any(a b:VV)(w:World)(ha:Bd a)(hb:Bd b):
 Calls Tryz.prog 51 #[.agg #[.int .i64 a.k,.bool a.s,.int .i64 a.m,.int .i64 a.h,.int .i64 a.lo,.int .i64 a.hi],.agg #[.int .i64 b.k,.bool b.s,.int .i64 b.m,.int .i64 b.h,.int .i64 b.lo,.int .i64 b.hi]] w fun e w'=>e=.returned (sumV a b).v/\Below w.heap.size w w':=by
 obtain⟨am0,am1,al0,al1,ah0,ah1,ak⟩:=ha;obtain⟨bm0,bm1,bl0,bl1,bh0,bh1,bk⟩:=hb;obtain⟨k,s,m,h,lo,hi⟩:=a;obtain⟨k',s',m',h',lo',hi'⟩:=b;simp only at *;rcases ak with rfl|rfl<;>rcases bk with rfl|rfl
 all_goals
  go_enter Tryz.func51,Tryz.ntmps51;go_wp2_with(first|(go_at_call 49;refine(l4Max_ex _ _ _ _ _ _ _).mono ?_;rintro e w'⟨rfl,rfl⟩;simp only[maxV,if_true,if_neg (show¬(0:Int)=1 by omega)])|(go_at_call 27;refine(l4Num_ex _ _ _).mono ?_;rintro e w'⟨rfl,rfl⟩))
 all_goals
  refine' bodyPost_ret (v:=_) ?_ rfl ⟨?_,?_⟩;rotate_left 1
  ·simp[results,Tryz.results51,go_sem];rfl
  rotate_left 1
  ·repeat(first|exact Below.refl _ _|refine Below.setCell ?_ (by simp) _|refine Below.alloc ?_ (by simp<;>omega) _)
  ·simp only[sumV,sumP,numV,maxV,VV.v]
   (repeat' split)<;>simp_all<;>omega
structure ResP(w u:World)(op d ra rb imm h:Int)(a b:VV):Prop where
 bel:Below w.heap.size w u
 I:Cl u w.heap.size [.int .i64 op,.int .i64 d,.int .i64 ra,.int .i64 rb,.int .i64 imm,.int .i64 h]
 A:Vb u (w.heap.size+1) a
 B:Vb u (w.heap.size+1+1) b
 R:Vb u (w.heap.size+1+1+1) zV
 oR:w.heap.size<=w.heap.size+1+1+1
theorem ResP.below{w u v:World}{op d ra rb imm h:Int}{a b:VV}(p:ResP w u op d ra rb imm h a b)(hb:Below u.heap.size u v):ResP w v op d ra rb imm h a b:=
 ⟨p.bel.trans (hb.mono p.bel.size),p.I.below hb,p.A.below hb p.A.lt,p.B.below hb p.B.lt,p.R.below hb p.R.lt,p.oR⟩
theorem ResP.S{w u:World}{op d ra rb imm h:Int}{a b:VV}(p:ResP w u op d ra rb imm h a b):Vb u (w.heap.size+1) a/\Vb u (w.heap.size+1+1) b/\u.cell? ⟨w.heap.size,4,none⟩=some (.int .i64 imm):=⟨p.A,p.B,p.I.2 4 (by simp)⟩
theorem cell_putV{u:World}{q b o:Nat}{x:VV}(h:b≠q):(putV u q x).cell? ⟨b,o,none⟩=u.cell? ⟨b,o,none⟩:=by
 have e:∀(v:World)(j:Nat)(y:Value),(v.setCell ⟨q,j,none⟩ y).cell? ⟨b,o,none⟩=v.cell? ⟨b,o,none⟩:=fun v j y=>World.cell?_setCell_other _ _ _ _ (fun e=>h (congrArg Addr.block e).symm)
 unfold putV;rw[e,e,e,e,e,e]
theorem ins_cells{u:World}{b:Nat}{op d ra rb imm h:Int}(p:Cl u b [.int .i64 op,.int .i64 d,.int .i64 ra,.int .i64 rb,.int .i64 imm,.int .i64 h]):u.cell? ⟨b,0,none⟩=some (.int .i64 op)/\u.cell? ⟨b,1,none⟩=some (.int .i64 d)/\u.cell? ⟨b,2,none⟩=some (.int .i64 ra)/\u.cell? ⟨b,3,none⟩=some (.int .i64 rb)/\u.cell? ⟨b,4,none⟩=some (.int .i64 imm)/\u.cell? ⟨b,5,none⟩=some (.int .i64 h):=
 ⟨p.2 0 (by simp),p.2 1 (by simp),p.2 2 (by simp),p.2 3 (by simp),p.2 4 (by simp),p.2 5 (by simp)⟩
theorem max_m{a:VV}(h:0<=maxV a)(ha:Bd a):0<=a.m/\a.m<=1099511627776:=by
 refine⟨?_,ha.m1⟩;unfold maxV at h;split at h<;>omega
theorem l1Pow_int(i:Int)(w:World)(h0:0<=i)(h1:i<=63):Calls Tryz.prog 57 #[.int .i64 i] w fun e w'=>e=.returned (.int .u64 ((2^i.toNat:Nat):Int))/\w'=w:=by
 obtain⟨n,rfl⟩:∃n:Nat,i=n:=⟨i.toNat,by omega⟩
 exact l1Pow_any n w (by omega)
theorem pow40{i:Int}(h0:0<=i)(h1:i<=40):∃pw:Int,((2^i.toNat:Nat):Int)=pw/\1<=pw/\pw<=1099511627776:=by
 refine⟨_,rfl,?_,?_⟩
 ·have:=Nat.two_pow_pos i.toNat;omega
 ·have:2^i.toNat<=2^40:=Nat.pow_le_pow_right (by decide) (by omega)
  have e:(2:Nat)^40=1099511627776:=by decide
  omega
theorem pow63{i:Int}(h0:0<=i)(h1:i<=63):∃pw:Int,((2^i.toNat:Nat):Int)=pw/\1<=pw/\pw<=9223372036854775808:=by
 refine⟨_,rfl,?_,?_⟩
 ·have:=Nat.two_pow_pos i.toNat;omega
 ·have:2^i.toNat<=2^63:=Nat.pow_le_pow_right (by decide) (by omega)
  have e:(2:Nat)^63=9223372036854775808:=by decide
  omega
theorem quo_le{m p:Int}(h0:0<=m)(h1:m<=1099511627776)(hp:1<=p):∃y:Int,m/p=y/\0<=y/\y<=1099511627776:=
 ⟨_,rfl,Int.ediv_nonneg h0 (by omega),Int.le_trans (Int.ediv_le_self _ h0) h1⟩
theorem res_pre(w:World){op d ra rb imm h:Int}(a b:VV):∃u,(((w.alloc (.cells #[.int .i64 op,.int .i64 d,.int .i64 ra,.int .i64 rb,.int .i64 imm,.int .i64 h] 30)).alloc (.cells #[.int .i64 a.k,.bool a.s,.int .i64 a.m,.int .i64 a.h,.int .i64 a.lo,.int .i64 a.hi] 62)).alloc (.cells #[.int .i64 b.k,.bool b.s,.int .i64 b.m,.int .i64 b.h,.int .i64 b.lo,.int .i64 b.hi] 62)).alloc (.cells #[.int .i64 0,.bool false,.int .i64 0,.int .i64 0,.int .i64 0,.int .i64 0] 62)=u/\ResP w u op d ra rb imm h a b:=by
 have e1:=Vb.new (w.alloc (.cells #[.int .i64 op,.int .i64 d,.int .i64 ra,.int .i64 rb,.int .i64 imm,.int .i64 h] 30)) a;have e2:=Vb.new ((w.alloc (.cells #[.int .i64 op,.int .i64 d,.int .i64 ra,.int .i64 rb,.int .i64 imm,.int .i64 h] 30)).alloc (.cells #[.int .i64 a.k,.bool a.s,.int .i64 a.m,.int .i64 a.h,.int .i64 a.lo,.int .i64 a.hi] 62)) b;have e3:=Vb.new (((w.alloc (.cells #[.int .i64 op,.int .i64 d,.int .i64 ra,.int .i64 rb,.int .i64 imm,.int .i64 h] 30)).alloc (.cells #[.int .i64 a.k,.bool a.s,.int .i64 a.m,.int .i64 a.h,.int .i64 a.lo,.int .i64 a.hi] 62)).alloc (.cells #[.int .i64 b.k,.bool b.s,.int .i64 b.m,.int .i64 b.h,.int .i64 b.lo,.int .i64 b.hi] 62)) zV;simp only[World.size_alloc]at e1 e2 e3;refine⟨_,rfl,?_,?_,?_,?_,e3,by omega⟩
 ·exact((((Below.refl _ _).alloc (Nat.le_refl _) _).alloc (by simp) _).alloc (by simp;omega) _).alloc (by simp;omega) _
 ·exact(((Cl.new).below ((Below.refl _ _).alloc (Nat.le_refl _) _)).below ((Below.refl _ _).alloc (Nat.le_refl _) _)).below ((Below.refl _ _).alloc (Nat.le_refl _) _)
 ·exact(e1.below ((Below.refl _ _).alloc (Nat.le_refl _) _) e1.lt).below ((Below.refl _ _).alloc (Nat.le_refl _) _) (by simp)
 ·exact e2.below ((Below.refl _ _).alloc (Nat.le_refl _) _) e2.lt
theorem ResP.all{w u:World}{op d ra rb imm h:Int}{a b:VV}(p:ResP w u op d ra rb imm h a b):
 (u.cell? ⟨w.heap.size,0,none⟩=some (.int .i64 op)/\u.cell? ⟨w.heap.size,1,none⟩=some (.int .i64 d)/\u.cell? ⟨w.heap.size,2,none⟩=some (.int .i64 ra)/\u.cell? ⟨w.heap.size,3,none⟩=some (.int .i64 rb)/\u.cell? ⟨w.heap.size,4,none⟩=some (.int .i64 imm)/\u.cell? ⟨w.heap.size,5,none⟩=some (.int .i64 h))/\(u.cell? ⟨w.heap.size+1,0,none⟩=some (.int .i64 a.k)/\u.cell? ⟨w.heap.size+1,1,none⟩=some (.bool a.s)/\u.cell? ⟨w.heap.size+1,2,none⟩=some (.int .i64 a.m)/\u.cell? ⟨w.heap.size+1,3,none⟩=some (.int .i64 a.h)/\u.cell? ⟨w.heap.size+1,4,none⟩=some (.int .i64 a.lo)/\u.cell? ⟨w.heap.size+1,5,none⟩=some (.int .i64 a.hi))/\(u.cell? ⟨w.heap.size+1+1,0,none⟩=some (.int .i64 b.k)/\u.cell? ⟨w.heap.size+1+1,1,none⟩=some (.bool b.s)/\u.cell? ⟨w.heap.size+1+1,2,none⟩=some (.int .i64 b.m)/\u.cell? ⟨w.heap.size+1+1,3,none⟩=some (.int .i64 b.h)/\u.cell? ⟨w.heap.size+1+1,4,none⟩=some (.int .i64 b.lo)/\u.cell? ⟨w.heap.size+1+1,5,none⟩=some (.int .i64 b.hi))/\(u.cell? ⟨w.heap.size+1+1+1,0,none⟩=some (.int .i64 zV.k)/\u.cell? ⟨w.heap.size+1+1+1,1,none⟩=some (.bool zV.s)/\u.cell? ⟨w.heap.size+1+1+1,2,none⟩=some (.int .i64 zV.m)/\u.cell? ⟨w.heap.size+1+1+1,3,none⟩=some (.int .i64 zV.h)/\u.cell? ⟨w.heap.size+1+1+1,4,none⟩=some (.int .i64 zV.lo)/\u.cell? ⟨w.heap.size+1+1+1,5,none⟩=some (.int .i64 zV.hi))/\(∀i,u.frozen? ⟨w.heap.size+1+1+1,i,none⟩=false)/\w.heap.size+1+1+1<u.heap.size/\∀i,u.frozen? ⟨w.heap.size+1,i,none⟩=false:=⟨ins_cells p.I,p.A.cells,p.B.cells,p.R.cells,p.R.free,p.R.lt,p.A.free⟩
end Go.Proofs.YtbahofiiaodpdaaGreat
