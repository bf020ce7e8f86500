import Derived.Test.YtbahofiiaodpdaaGreatOfTransResA
import Derived.Test.YtbahofiiaodpdaaGreatOfLen64
import Derived.Test.YtbahofiiaodpdaaGreatOfAbsWalks
set_option maxHeartbeats 8000000
set_option maxRecDepth 20000
namespace Go.Proofs.YtbahofiiaodpdaaGreat
open Go.RowKit
def sumI(a b:Int):Int:=if a<0∨b<0 then -1 else a+b
def prodI(a b:Int):Int:=if a<0∨b<0∨(0<b/\1099511627776/b<a)then -1 else a*b
def smallI(a b:Int):Int:=if a<0 then b else if b<0 then a else if b<a then b else a
theorem maxOf_any(k:Int)(s:Bool)(m h lo hi:Int)(w:World):
 Calls Tryz.prog 84 #[.agg #[.int .i64 k,.bool s,.int .i64 m,.int .i64 h,.int .i64 lo,.int .i64 hi]] w fun e w'=>e=.returned (.int .i64 (maxV ⟨k,s,m,h,lo,hi⟩))/\Below w.heap.size w w':=by
 go_enter Tryz.func84,Tryz.ntmps84;go_wp2;all_goals(go_ret;refine⟨ret_int ?_,(Below.refl _ _).alloc (Nat.le_refl _) _⟩;simp_all[maxV])
theorem number_any(s:Bool)(m:Int)(w:World):
 Calls Tryz.prog 85 #[.bool s,.int .i64 m] w fun e w'=>e=.returned (numV s m).v/\Below w.heap.size w w':=by
 have key:∀m',(numV s m).m=m'->(numV s m).v=.agg #[.int .i64 0,.bool s,.int .i64 m',.int .i64 0,.int .i64 0,.int .i64 0]:=fun m' q=>by subst q;rfl
 by_cases h:m<0∨1099511627776<m
 ·rw[key (-1) (by simp[numV,h])]
  clear key;by_cases h1:m<0
  all_goals
   go_enter Tryz.func85,Tryz.ntmps85;go_wp2;exact bodyPost_ret (v:=.agg #[.int .i64 0,.bool s,.int .i64 (-1),.int .i64 0,.int .i64 0,.int .i64 0]) (by simp[results,Tryz.results85,go_sem]) rfl ⟨rfl,(Below.refl _ _).alloc (Nat.le_refl _) _⟩
 ·rw[key m (by simp[numV,h])]
  clear key;go_enter Tryz.func85,Tryz.ntmps85;go_wp2;exact bodyPost_ret (v:=.agg #[.int .i64 0,.bool s,.int .i64 m,.int .i64 0,.int .i64 0,.int .i64 0]) (by simp[results,Tryz.results85,go_sem]) rfl ⟨rfl,(Below.refl _ _).alloc (Nat.le_refl _) _⟩
theorem sumMax_any(a b:Int)(w:World)(a0: -1<=a)(a1:a<=2199023255552)(b0: -1000000<=b)(b1:b<=1099511627776):
 Calls Tryz.prog 93 #[.int .i64 a,.int .i64 b] w fun e w'=>e=.returned (.int .i64 (sumI a b))/\w'=w:=by
 by_cases h1:a<0
 ·go_enter Tryz.func93,Tryz.ntmps93
  go_wp2;all_goals(go_ret;refine⟨ret_int ?_,rfl⟩;simp[sumI]<;>omega)
 ·by_cases h2:b<0
  ·go_enter Tryz.func93,Tryz.ntmps93
   go_wp2;all_goals(go_ret;refine⟨ret_int ?_,rfl⟩;simp[sumI]<;>omega)
  ·go_enter Tryz.func93,Tryz.ntmps93
   go_wp2;all_goals(go_ret;refine⟨ret_int ?_,rfl⟩;simp[sumI]<;>omega)
theorem smallerMax_any(a b:Int)(w:World):Calls Tryz.prog 88 #[.int .i64 a,.int .i64 b] w fun e w'=>e=.returned (.int .i64 (smallI a b))/\w'=w:=by
 by_cases h1:a<0
 ·go_enter Tryz.func88,Tryz.ntmps88
  go_wp2;all_goals(go_ret;refine⟨ret_int ?_,rfl⟩;simp[smallI]<;>omega)
 ·by_cases h2:b<0
  ·go_enter Tryz.func88,Tryz.ntmps88
   go_wp2;all_goals(go_ret;refine⟨ret_int ?_,rfl⟩;simp[smallI]<;>omega)
  ·go_enter Tryz.func88,Tryz.ntmps88
   go_wp2;all_goals(go_ret;refine⟨ret_int ?_,rfl⟩;simp[smallI]<;>omega)
theorem tr_isAccess_any(op:Int)(w:World):Calls Tryz.prog 82 #[.int .i64 op] w fun e w'=>e=.returned (.bool (decide (21<=op/\op<=28)))/\w'=w:=by
 go_enter Tryz.func82,Tryz.ntmps82;go_wp2;all_goals(go_ret;refine⟨ret_bool ?_,rfl⟩;simp<;>omega)
theorem tr_setsFlags_any(op:Int)(w:World):Calls Tryz.prog 68 #[.int .i64 op] w fun e w'=>e=.returned (.bool (decide (14<=op/\op<=18)))/\w'=w:=by
 go_enter Tryz.func68,Tryz.ntmps68;go_wp2;all_goals(go_ret;refine⟨ret_bool ?_,rfl⟩;simp<;>omega)
theorem tr_flagOf_any(s:Bool)(w:World):Calls Tryz.prog 69 #[.bool s] w fun e w'=>e=.returned (.int .i64 (if s then 2 else 1))/\w'=w:=by
 cases s;all_goals
  go_enter Tryz.func69,Tryz.ntmps69;go_wp2;go_ret;exact⟨rfl,rfl⟩
theorem productMax_any(a b:Int)(w:World)(a0: -1<=a)(a1:a<=1099511627776)(b0: -1<=b)(b1:b<=1099511627776):
 Calls Tryz.prog 87 #[.int .i64 a,.int .i64 b] w fun e w'=>e=.returned (.int .i64 (prodI a b))/\w'=w:=by
 by_cases h1:a<0
 ·go_enter Tryz.func87,Tryz.ntmps87
  go_wp2;all_goals(go_ret;refine⟨ret_int ?_,rfl⟩;simp[prodI,h1])
 by_cases h2:b<0
 ·go_enter Tryz.func87,Tryz.ntmps87
  go_wp2;all_goals(go_ret;refine⟨ret_int ?_,rfl⟩;simp[prodI,h2])
 by_cases h3:b=0
 ·subst h3
  go_enter Tryz.func87,Tryz.ntmps87;go_wp2;all_goals(go_ret;refine⟨ret_int ?_,rfl⟩;simp[prodI];try omega)
 have b2:1<=b:=by omega
 have q0:0<=1099511627776/b:=Int.ediv_nonneg (by omega) (by omega);have q1:1099511627776/b<=1099511627776:=Int.ediv_le_self _ (by omega);by_cases h:1099511627776/b<a
 ·have e1:decide (1099511627776/b<a)=true:=by simp[h]
  go_enter Tryz.func87,Tryz.ntmps87;go_wp2;all_goals(go_ret;refine⟨ret_int ?_,rfl⟩;rw[prodI,if_pos (Or.inr (Or.inr ⟨by omega,h⟩))])
 ·have e1:decide (1099511627776/b<a)=false:=by simp;omega
  have hm:a*b<=1099511627776:=by
   have h1:a<=1099511627776/b:=by omega
   have h2:=Int.mul_le_mul_of_nonneg_right h1 (show(0:Int)<=b by omega);have h3:=Int.ediv_mul_le (1099511627776) (show b≠0 by omega);omega
  have hm0:0<=a*b:=Int.mul_nonneg (by omega) (by omega);go_enter Tryz.func87,Tryz.ntmps87;go_wp2;all_goals(go_ret;refine⟨ret_int ?_,rfl⟩;rw[prodI,if_neg (by omega)])
theorem tr_isStore_any(op:Int)(w:World):Calls Tryz.prog 66 #[.int .i64 op] w fun e w'=>e=.returned (.bool (decide (op=23∨op=24∨op=27∨op=28)))/\w'=w:=by
 by_cases h23:op=23
 ·subst h23
  go_enter Tryz.func66,Tryz.ntmps66;go_wp2;go_ret;exact⟨rfl,rfl⟩
 by_cases h24:op=24
 ·subst h24
  go_enter Tryz.func66,Tryz.ntmps66;go_wp2;go_ret;exact⟨rfl,rfl⟩
 by_cases h27:op=27
 ·subst h27
  go_enter Tryz.func66,Tryz.ntmps66;go_wp2;go_ret;exact⟨rfl,rfl⟩
 by_cases h28:op=28
 ·subst h28
  go_enter Tryz.func66,Tryz.ntmps66;go_wp2;go_ret;exact⟨rfl,rfl⟩
 have e23:(op==23)=false:=by simp[h23]
 have e24:(op==24)=false:=by simp[h24]
 have e27:(op==27)=false:=by simp[h27]
 have e28:(op==28)=false:=by simp[h28]
 go_enter Tryz.func66,Tryz.ntmps66;go_wp2;all_goals(go_ret;exact⟨ret_bool (by simp[h23,h24,h27,h28]),rfl⟩)
theorem tr_widthOf_any(op:Int)(w:World):Calls Tryz.prog 130 #[.int .i64 op] w fun e w'=>e=.returned (.int .i64 (if op=21∨op=23∨op=25∨op=27 then 1 else 8))/\w'=w:=by
 go_enter Tryz.func130,Tryz.ntmps130;go_wp2;all_goals(go_ret;refine⟨ret_int ?_,rfl⟩;simp_all)
def leftI(a:Int)(n:Nat):Int:=if a<0∨1099511627776/2^n<a then -1 else a*2^n
def rightI(a:Int)(n:Nat):Int:=if 0<=a then a/2^n else if 24<=n then 2^(64-n)-1 else -1
theorem pow_le40{n:Nat}(h:24<=n):1<=(2:Int)^(64-n)/\(2:Int)^(64-n)<=1099511627776:=by
 have h1:(2:Nat)^(64-n)<=2^40:=Nat.pow_le_pow_right (by decide) (by omega);have h2:(2:Nat)^40=1099511627776:=by decide
 have h3:=Nat.two_pow_pos (64-n);have c:(((2:Nat)^(64-n):Nat):Int)=(2:Int)^(64-n):=by simp
 omega
theorem left_le{a:Int}{n:Nat}(h0:0<=a)(h:¬1099511627776/2^n<a):0<=a*2^n/\a*2^n<=1099511627776:=by
 have hp:(0:Int)<2^n:=Int.pow_pos (by decide);have h1:a<=1099511627776/2^n:=by omega
 have h2:=Int.mul_le_mul_of_nonneg_right h1 (Int.le_of_lt hp);have h3:=Int.ediv_mul_le (1099511627776) (show(2:Int)^n≠0 by omega);exact⟨Int.mul_nonneg h0 (Int.le_of_lt hp),by omega⟩
theorem leftMax_any(a:Int)(n:Nat)(w:World)(hn:n<=63):
 Calls Tryz.prog 91 #[.int .i64 a,.int .i64 n] w fun e w'=>e=.returned (.int .i64 (leftI a n))/\w'=w:=by
 by_cases h1:a<0
 ·have e1:decide (a<0)=true:=by simp[h1]
  go_enter Tryz.func91,Tryz.ntmps91;go_wp2;all_goals(go_ret;exact⟨ret_int (by rw[leftI,if_pos (Or.inl h1)]),rfl⟩)
 by_cases h2:1099511627776/2^n<a
 ·have e1:decide (a<0)=false:=by simp;omega
  have e2:decide (1099511627776/2^n<a)=true:=by simp[h2]
  go_enter Tryz.func91,Tryz.ntmps91;go_wp2;all_goals(go_ret;exact⟨ret_int (by rw[leftI,if_pos (Or.inr h2)]),rfl⟩)
 ·have e1:decide (a<0)=false:=by simp;omega
  have e2:decide (1099511627776/2^n<a)=false:=by simp;omega
  obtain⟨q0,q1⟩:=left_le (by omega) h2;have e3:wrap64 (a*2^n)=a*2^n:=by unfold wrap64;omega
  go_enter Tryz.func91,Tryz.ntmps91;go_wp2;all_goals(go_ret;exact⟨ret_int (by rw[leftI,if_neg (by omega)];try exact e3),rfl⟩)
theorem rightMax_any(a:Int)(n:Nat)(w:World)(hn:n<=63):
 Calls Tryz.prog 92 #[.int .i64 a,.int .i64 n] w fun e w'=>e=.returned (.int .i64 (rightI a n))/\w'=w:=by
 by_cases h1:0<=a
 ·go_enter Tryz.func92,Tryz.ntmps92
  go_wp2;all_goals(go_ret;exact⟨ret_int (by rw[rightI,if_pos h1]),rfl⟩)
 by_cases h2:24<=n
 ·go_enter Tryz.func92,Tryz.ntmps92
  go_wp2;obtain⟨q0,q1⟩:=pow_le40 h2;all_goals(go_ret;exact⟨ret_int (by rw[rightI,if_neg (by omega),if_pos h2];unfold wrap64;omega),rfl⟩)
 ·go_enter Tryz.func92,Tryz.ntmps92
  go_wp2;all_goals(go_ret;exact⟨ret_int (by rw[rightI,if_neg (by omega),if_neg h2]),rfl⟩)
def ppOK(p n:VV):Prop:=p.k=1/\n.s=false/\0<=maxV n/\p.hi+n.m<=1099511627776
def ppB(p n:VV):Bool:=decide (p.k=1/\n.s=false/\0<=maxV n/\p.hi+n.m<=1099511627776)
theorem ppB_yes{p n:VV}(h:ppOK p n):ppB p n=true:=decide_eq_true h
theorem ppB_no{p n:VV}(h:¬ppOK p n):ppB p n=false:=decide_eq_false h
theorem ppB_ok{p n:VV}(h:ppB p n=true):ppOK p n:=by unfold ppB at h;rw[decide_eq_true_eq]at h;exact h
def ppV(p n:VV):VV:=if ppB p n then{p with hi:=p.hi+n.m}else zV
theorem ppB_nt{p n:VV}(h:¬ppOK p n):¬ppB p n=true:=fun q=>h (ppB_ok q)
theorem notB{b:Bool}(h:b=false):¬b=true:=by rw[h];decide
theorem pp_no{p n:VV}(h:¬ppOK p n):Value.tuple #[zV.v,.bool false]=.tuple #[(ppV p n).v,.bool (ppB p n)]:=by
 unfold ppV;rw[ppB_no h];rfl
theorem pp_yes{p n:VV}(h:ppOK p n):Value.tuple #[VV.v {p with hi:=p.hi+n.m},.bool true]=.tuple #[(ppV p n).v,.bool (ppB p n)]:=by
 unfold ppV;rw[ppB_yes h];rfl
structure PPP(w u:World)(p n:VV):Prop where
 bel:Below w.heap.size w u
 A:Vb u w.heap.size p
 B:Vb u (w.heap.size+1) n
 R:Vb u (w.heap.size+1+1) zV
theorem PPP.below{w u v:World}{p n:VV}(q:PPP w u p n)(hb:Below u.heap.size u v):PPP w v p n:=⟨q.bel.trans (hb.mono q.bel.size),q.A.below hb q.A.lt,q.B.below hb q.B.lt,q.R.below hb q.R.lt⟩
theorem pp_pre(w:World)(p n:VV):∃u,((w.alloc (.cells #[.int .i64 p.k,.bool p.s,.int .i64 p.m,.int .i64 p.h,.int .i64 p.lo,.int .i64 p.hi] 62)).alloc (.cells #[.int .i64 n.k,.bool n.s,.int .i64 n.m,.int .i64 n.h,.int .i64 n.lo,.int .i64 n.hi] 62)).alloc (.cells #[.int .i64 0,.bool false,.int .i64 0,.int .i64 0,.int .i64 0,.int .i64 0] 62)=u/\PPP w u p n:=by
 have e1:=Vb.new w p;have e2:=Vb.new (w.alloc (.cells #[.int .i64 p.k,.bool p.s,.int .i64 p.m,.int .i64 p.h,.int .i64 p.lo,.int .i64 p.hi] 62)) n;have e3:=Vb.new ((w.alloc (.cells #[.int .i64 p.k,.bool p.s,.int .i64 p.m,.int .i64 p.h,.int .i64 p.lo,.int .i64 p.hi] 62)).alloc (.cells #[.int .i64 n.k,.bool n.s,.int .i64 n.m,.int .i64 n.h,.int .i64 n.lo,.int .i64 n.hi] 62)) zV;simp only[World.size_alloc]at e2 e3;refine⟨_,rfl,?_,?_,?_,e3⟩
 ·exact(((Below.refl _ _).alloc (Nat.le_refl _) _).alloc (by simp) _).alloc (by simp;omega) _
 ·exact(e1.below ((Below.refl _ _).alloc (Nat.le_refl _) _) e1.lt).below ((Below.refl _ _).alloc (Nat.le_refl _) _) (by simp;omega)
 ·exact e2.below ((Below.refl _ _).alloc (Nat.le_refl _) _) e2.lt
theorem pointerPlus_any(p n:VV)(w:World)(hp:Bd p)(hn:Bd n):
 Calls Tryz.prog 131 #[.agg #[.int .i64 p.k,.bool p.s,.int .i64 p.m,.int .i64 p.h,.int .i64 p.lo,.int .i64 p.hi],.agg #[.int .i64 n.k,.bool n.s,.int .i64 n.m,.int .i64 n.h,.int .i64 n.lo,.int .i64 n.hi]] w fun e w'=>e=.returned (.tuple #[(ppV p n).v,.bool (ppB p n)])/\Below w.heap.size w w':=by
 have a0:=hp.h0;have a1:=hp.h1;have n0:=hn.m0;have n1:=hn.m1;go_enter Tryz.func131,Tryz.ntmps131;go_upto_region 1 with fail;obtain⟨u,hu,pu⟩:=pp_pre w p n;rw[hu];have P0:Hid (PPP w u p n):=pu;clear hu pu;obtain⟨x0,x1,x2,x3,x4,x5⟩:=P0.out.A.cells;obtain⟨y0,y1,y2,y3,y4,y5⟩:=P0.out.B.cells;obtain⟨r0,r1,r2,r3,r4,r5⟩:=P0.out.R.cells;have rf:=P0.out.R.free;have rl:=P0.out.R.lt;by_cases c1:p.k=1
 ·have e1:(p.k !=1)=false:=by simp[c1]
  have C1:Hid (p.k=1):=c1;clear c1;cases c2:n.s with
  |true=>
   rw[c2]at y1;have HN:Hid (¬ppOK p n):=fun q=>by have:=q.2.1;rw[c2]at this;cases this
   clear c2;go_wp2;all_goals exact bodyPost_ret (v:=.tuple #[zV.v,.bool false]) (by simp[results,Tryz.results131,go_sem,VV.v,zV, *]) rfl ⟨by first|rfl|exact congrArg Ending.returned (pp_no HN.out),below_putV P0.out.bel (by omega) zV⟩
  |false=>
   rw[c2]at y1;have C2:Hid (n.s=false):=c2;go_wp2_with fail;refine(maxOf_any n.k false n.m n.h n.lo n.hi _).mono ?_;rintro e v⟨rfl,hb⟩;have P1:Hid (PPP w v p n):=P0.out.below hb;obtain⟨mx,hmx⟩:∃mx,maxV n=mx:=⟨_,rfl⟩
   have HX:Hid (maxV n=mx):=hmx;rw[show maxV ⟨n.k,false,n.m,n.h,n.lo,n.hi⟩=mx from by rw[<-hmx];rfl];clear hb hmx c2 x0 x1 x2 x3 x4 x5 y0 y1 y2 y3 y4 y5 r0 r1 r2 r3 r4 r5 rf rl P0;obtain⟨x0,x1,x2,x3,x4,x5⟩:=P1.out.A.cells;obtain⟨y0,y1,y2,y3,y4,y5⟩:=P1.out.B.cells;obtain⟨r0,r1,r2,r3,r4,r5⟩:=P1.out.R.cells;have rf:=P1.out.R.free;have rl:=P1.out.R.lt;have af:=P1.out.A.free;by_cases c3:mx<0
   ·have e3:decide (mx<0)=true:=by simp[c3]
    have HN:Hid (¬ppOK p n):=fun q=>by have:=q.2.2.1;rw[HX.out]at this;omega
    clear c3;go_wp2;all_goals exact bodyPost_ret (v:=.tuple #[zV.v,.bool false]) (by simp[results,Tryz.results131,go_sem,VV.v,zV, *]) rfl ⟨by first|rfl|exact congrArg Ending.returned (pp_no HN.out),below_putV P1.out.bel (by omega) zV⟩
   ·have e3:decide (mx<0)=false:=by simp;omega
    by_cases c4:1099511627776<p.hi+n.m
    ·have e4:decide (1099511627776<p.hi+n.m)=true:=by simp[c4]
     have HN:Hid (¬ppOK p n):=fun q=>by have:=q.2.2.2;omega
     clear c3 c4;go_wp2;all_goals exact bodyPost_ret (v:=.tuple #[zV.v,.bool false]) (by simp[results,Tryz.results131,go_sem,VV.v,zV, *]) rfl ⟨by first|rfl|exact congrArg Ending.returned (pp_no HN.out),below_putV P1.out.bel (by omega) zV⟩
    ·have e4:decide (1099511627776<p.hi+n.m)=false:=by simp;omega
     have HY:Hid (ppOK p n):=⟨C1.out,C2.out,by rw[HX.out];omega,by omega⟩
     clear c3 c4;go_wp2;all_goals exact bodyPost_ret (v:=.tuple #[VV.v {p with hi:=p.hi+n.m},.bool true]) (by simp[results,Tryz.results131,go_sem,VV.v, *]) rfl ⟨by first|rfl|exact congrArg Ending.returned (pp_yes HY.out),by(iterate 6 refine Below.setCell ?_ (show w.heap.size<=w.heap.size+1+1 by omega) _);refine Below.setCell ?_ (show w.heap.size<=w.heap.size by omega) _;exact P1.out.bel⟩
 ·have e1:(p.k !=1)=true:=by simp[c1]
  have HN:Hid (¬ppOK p n):=fun q=>c1 q.1
  clear c1;go_wp2;all_goals exact bodyPost_ret (v:=.tuple #[zV.v,.bool false]) (by simp[results,Tryz.results131,go_sem,VV.v,zV, *]) rfl ⟨by first|rfl|exact congrArg Ending.returned (pp_no HN.out),below_putV P0.out.bel (by omega) zV⟩
structure OpP(w u:World)(a b:VV)(fl:Int)(sec:Bool):Prop where
 bel:Below w.heap.size w u
 O:Cl u w.heap.size [.int .i64 a.k,.bool a.s,.int .i64 a.m,.int .i64 a.h,.int .i64 a.lo,.int .i64 a.hi,.int .i64 b.k,.bool b.s,.int .i64 b.m,.int .i64 b.h,.int .i64 b.lo,.int .i64 b.hi,.int .i64 fl,.bool sec]
 OF:∀i,u.frozen? ⟨w.heap.size,i,none⟩=false
 R:Vb u (w.heap.size+1) zV
theorem OpP.below{w u v:World}{a b:VV}{fl:Int}{sec:Bool}(q:OpP w u a b fl sec)(hb:Below u.heap.size u v):OpP w v a b fl sec:=
 ⟨q.bel.trans (hb.mono q.bel.size),q.O.below hb,fun i=>(hb.frozen (p:=⟨w.heap.size,i,none⟩) q.O.1).trans (q.OF i),q.R.below hb q.R.lt⟩
theorem op_pre(w:World)(a b:VV)(fl:Int)(sec:Bool):∃u,(w.alloc (.cells #[.int .i64 a.k,.bool a.s,.int .i64 a.m,.int .i64 a.h,.int .i64 a.lo,.int .i64 a.hi,.int .i64 b.k,.bool b.s,.int .i64 b.m,.int .i64 b.h,.int .i64 b.lo,.int .i64 b.hi,.int .i64 fl,.bool sec] 112)).alloc (.cells #[.int .i64 0,.bool false,.int .i64 0,.int .i64 0,.int .i64 0,.int .i64 0] 62)=u/\OpP w u a b fl sec:=by
 have e2:=Vb.new (w.alloc (.cells #[.int .i64 a.k,.bool a.s,.int .i64 a.m,.int .i64 a.h,.int .i64 a.lo,.int .i64 a.hi,.int .i64 b.k,.bool b.s,.int .i64 b.m,.int .i64 b.h,.int .i64 b.lo,.int .i64 b.hi,.int .i64 fl,.bool sec] 112)) zV;simp only[World.size_alloc]at e2;exact⟨_,rfl,((Below.refl _ _).alloc (Nat.le_refl _) _).alloc (by simp) _,(Cl.new).below ((Below.refl _ _).alloc (Nat.le_refl _) _),fun i=>by simp[go_sem],e2⟩
theorem op_cells{w u:World}{a b:VV}{fl:Int}{sec:Bool}(q:OpP w u a b fl sec):u.cell? ⟨w.heap.size,0,none⟩=some (.int .i64 a.k)/\u.cell? ⟨w.heap.size,1,none⟩=some (.bool a.s)/\u.cell? ⟨w.heap.size,2,none⟩=some (.int .i64 a.m)/\u.cell? ⟨w.heap.size,3,none⟩=some (.int .i64 a.h)/\u.cell? ⟨w.heap.size,4,none⟩=some (.int .i64 a.lo)/\u.cell? ⟨w.heap.size,5,none⟩=some (.int .i64 a.hi)/\u.cell? ⟨w.heap.size,6,none⟩=some (.int .i64 b.k)/\u.cell? ⟨w.heap.size,7,none⟩=some (.bool b.s)/\u.cell? ⟨w.heap.size,8,none⟩=some (.int .i64 b.m)/\u.cell? ⟨w.heap.size,9,none⟩=some (.int .i64 b.h)/\u.cell? ⟨w.heap.size,10,none⟩=some (.int .i64 b.lo)/\u.cell? ⟨w.heap.size,11,none⟩=some (.int .i64 b.hi)/\u.cell? ⟨w.heap.size,12,none⟩=some (.int .i64 fl)/\u.cell? ⟨w.heap.size,13,none⟩=some (.bool sec):=
 ⟨q.O.2 0 (by simp),q.O.2 1 (by simp),q.O.2 2 (by simp),q.O.2 3 (by simp),q.O.2 4 (by simp),q.O.2 5 (by simp),q.O.2 6 (by simp),q.O.2 7 (by simp),q.O.2 8 (by simp),q.O.2 9 (by simp),q.O.2 10 (by simp),q.O.2 11 (by simp),q.O.2 12 (by simp),q.O.2 13 (by simp)⟩
theorem moved_any(a b:VV)(fl:Int)(sec:Bool)(n:Int)(w:World)(ha:Bd a)(n0: -1000000<=n)(n1:n<=1000000):
 Calls Tryz.prog 90 #[.agg #[.int .i64 a.k,.bool a.s,.int .i64 a.m,.int .i64 a.h,.int .i64 a.lo,.int .i64 a.hi,.int .i64 b.k,.bool b.s,.int .i64 b.m,.int .i64 b.h,.int .i64 b.lo,.int .i64 b.hi,.int .i64 fl,.bool sec],.int .i64 n] w fun e w'=>e=.returned (if a.k=1 then(if a.lo+n< -1099511627776∨1099511627776<a.hi+n then numV false (-1)else{a with lo:=a.lo+n,hi:=a.hi+n})else numV sec (sumI a.m n)).v/\Below w.heap.size w w':=by
 have am0:=ha.m0;have am1:=ha.m1;have al0:=ha.l0;have al1:=ha.l1;have ah0:=ha.h0;have ah1:=ha.h1;go_enter Tryz.func90,Tryz.ntmps90;go_upto_region 1 with fail;obtain⟨u,hu,pu⟩:=op_pre w a b fl sec;rw[hu];have P0:Hid (OpP w u a b fl sec):=pu;clear hu pu;obtain⟨o0,o1,o2,o3,o4,o5,o6,o7,o8,o9,o10,o11,o12,o13⟩:=op_cells P0.out;obtain⟨r0,r1,r2,r3,r4,r5⟩:=P0.out.R.cells;have rf:=P0.out.R.free;have rl:=P0.out.R.lt;have of:=P0.out.OF;by_cases c1:a.k=1
 ·have e1:(a.k !=1)=false:=by simp[c1]
  have C1:Hid (a.k=1):=c1;clear c1;by_cases c2:a.lo+n< -1099511627776
  ·have e2:decide (a.lo+n< -1099511627776)=true:=by simp[c2]
   have HQ:Hid (a.lo+n< -1099511627776∨1099511627776<a.hi+n):=Or.inl c2;clear c2;go_wp2_with fail;refine(number_any false (-1) _).mono ?_;rintro e v⟨rfl,hb⟩;have P1:Hid (OpP w v a b fl sec):=P0.out.below hb;simp only[VV.v];clear hb r0 r1 r2 r3 r4 r5 rf rl of;obtain⟨r0,r1,r2,r3,r4,r5⟩:=P1.out.R.cells;have rf:=P1.out.R.free;have rl:=P1.out.R.lt;go_wp2;exact bodyPost_ret (v:=VV.v (numV false (-1))) (by simp[results,Tryz.results90,go_sem,VV.v, *]) rfl ⟨congrArg (fun x=>Ending.returned (VV.v x)) (by first|rfl|rw[if_pos C1.out,if_pos HQ.out]),below_putV P1.out.bel (by omega) _⟩
  ·have e2:decide (a.lo+n< -1099511627776)=false:=by simp;omega
   by_cases c3:1099511627776<a.hi+n
   ·have e3:decide (1099511627776<a.hi+n)=true:=by simp[c3]
    have HQ:Hid (a.lo+n< -1099511627776∨1099511627776<a.hi+n):=Or.inr c3;clear c2 c3;go_wp2_with fail;refine(number_any false (-1) _).mono ?_;rintro e v⟨rfl,hb⟩;have P1:Hid (OpP w v a b fl sec):=P0.out.below hb;simp only[VV.v];clear hb r0 r1 r2 r3 r4 r5 rf rl of;obtain⟨r0,r1,r2,r3,r4,r5⟩:=P1.out.R.cells;have rf:=P1.out.R.free;have rl:=P1.out.R.lt;go_wp2
    exact bodyPost_ret (v:=VV.v (numV false (-1))) (by simp[results,Tryz.results90,go_sem,VV.v, *]) rfl ⟨congrArg (fun x=>Ending.returned (VV.v x)) (by first|rfl|rw[if_pos C1.out,if_pos HQ.out]),below_putV P1.out.bel (by omega) _⟩
   ·have e3:decide (1099511627776<a.hi+n)=false:=by simp;omega
    have HQ:Hid (¬(a.lo+n< -1099511627776∨1099511627776<a.hi+n)):=fun q=>by omega
    clear c2 c3
    go_wp2
    exact bodyPost_ret (v:=VV.v {a with lo:=a.lo+n,hi:=a.hi+n}) (by simp[results,Tryz.results90,go_sem,VV.v, *]) rfl ⟨congrArg (fun x=>Ending.returned (VV.v x)) (by first|rfl|rw[C1.out]),by(iterate 6 refine Below.setCell ?_ (show w.heap.size<=w.heap.size+1 by omega) _);(iterate 2 refine Below.setCell ?_ (show w.heap.size<=w.heap.size by omega) _);exact P0.out.bel⟩
 ·have e1:(a.k !=1)=true:=by simp[c1]
  have C1:Hid (¬a.k=1):=c1
  clear c1
  go_upto_region 2 with fail
  have t2:∀w',Below u.heap.size u w'->w'.cell? ⟨w.heap.size,2,none⟩=some (.int .i64 a.m):=fun w' h=>(P0.out.O.below h).2 2 (by simp)
  have t13:∀w',Below u.heap.size u w'->w'.cell? ⟨w.heap.size,13,none⟩=some (.bool sec):=fun w' h=>(P0.out.O.below h).2 13 (by simp)
  refine wp_region_L (T:=fun w'=>Below u.heap.size u w') (s:=8) (by kernel_rfl) (Below.refl _ _).drew (fun hHeld=>?_)
  refine wpAnyL_ta 0 rfl ?_
  refine wpAnyL_ta 1 rfl ?_
  refine wpAnyL_ta 2 rfl ?_
  refine wpAnyL_ta 3 rfl ?_
  refine wpAnyL_ta 4 rfl ?_
  refine wpAnyL_ta 5 rfl ?_
  refine wpAnyL_call (i:=6) rfl (by kernel_rfl) (fun KK hK=>?_)
  go_simp
  refine(sumMax_any a.m n _ am0 (by omega) n0 (by omega)).mono ?_
  rintro e w'⟨rfl,hw⟩
  rw[hw]
  clear hw
  go_wp2_with fail
  refine hK.out _ _ (Below.refl _ _).drew (fun _=>?_)
  clear hK KK
  try go_frame
  refine wpAnyL_call (i:=7) rfl (by kernel_rfl) (fun KK hK=>?_)
  go_simp
  refine(number_any sec (sumI a.m n) _).mono ?_
  rintro e v⟨rfl,hb⟩
  have hbv:Below u.heap.size u v:=(Below.refl _ _).drew.trans hb
  have P1:Hid (OpP w v a b fl sec):=P0.out.below hbv
  simp only[VV.v]
  go_wp2_with fail
  refine hK.out _ _ hbv (fun _=>?_)
  clear hK KK hb hbv r0 r1 r2 r3 r4 r5 rf rl of t2 t13
  try go_frame
  obtain⟨r0,r1,r2,r3,r4,r5⟩:=P1.out.R.cells
  have rf:=P1.out.R.free
  have rl:=P1.out.R.lt
  refine wpAnyL_store rfl (by kernel_rfl) (by kernel_rfl) (fun KK hK=>?_)
  go_simp
  refine hK.out _ _ ?_
  clear hK KK
  go_wp2
  exact bodyPost_ret (v:=VV.v (numV sec (sumI a.m n))) (by simp[results,Tryz.results90,go_sem,VV.v, *]) rfl ⟨congrArg (fun x=>Ending.returned (VV.v x)) (by first|rfl|rw[if_neg C1.out]),below_putV P1.out.bel (by omega) _⟩
theorem maxV_bd{v:VV}(h:Bd v): -1<=maxV v/\maxV v<=1099511627776:=by
 have:=h.m0;have:=h.m1;unfold maxV;split<;>constructor<;>omega
theorem added_any(a b:VV)(fl:Int)(sec:Bool)(w:World)(ha:Bd a)(hb:Bd b):
 Calls Tryz.prog 86 #[.agg #[.int .i64 a.k,.bool a.s,.int .i64 a.m,.int .i64 a.h,.int .i64 a.lo,.int .i64 a.hi,.int .i64 b.k,.bool b.s,.int .i64 b.m,.int .i64 b.h,.int .i64 b.lo,.int .i64 b.hi,.int .i64 fl,.bool sec]] w fun e w'=>e=.returned (if ppB a b then{a with hi:=a.hi+b.m}else if ppB b a then{b with hi:=b.hi+a.m}else numV sec (sumI (maxV a) (maxV b))).v/\Below w.heap.size w w':=by
 obtain⟨res,hres⟩:∃r,(if ppB a b then{a with hi:=a.hi+b.m}else if ppB b a then{b with hi:=b.hi+a.m}else numV sec (sumI (maxV a) (maxV b)))=r:=⟨_,rfl⟩
 rw[hres];have HR:Hid ((if ppB a b then{a with hi:=a.hi+b.m}else if ppB b a then{b with hi:=b.hi+a.m}else numV sec (sumI (maxV a) (maxV b)))=res):=hres;have HA:Hid (Bd a):=ha;have HB:Hid (Bd b):=hb;clear hres ha hb;go_enter Tryz.func86,Tryz.ntmps86;go_upto_region 1 with fail;obtain⟨u,hu,pu⟩:=op_pre w a b fl sec;rw[hu];have P0:Hid (OpP w u a b fl sec):=pu;clear hu pu;obtain⟨o0,o1,o2,o3,o4,o5,o6,o7,o8,o9,o10,o11,o12,o13⟩:=op_cells P0.out;obtain⟨r0,r1,r2,r3,r4,r5⟩:=P0.out.R.cells;have rf:=P0.out.R.free;have rl:=P0.out.R.lt;go_wp2_with fail;refine(pointerPlus_any a b _ HA.out HB.out).mono ?_;obtain⟨z,hz⟩:∃z,ppV a b=z:=⟨_,rfl⟩
 obtain⟨k,hk⟩:∃k,ppB a b=k:=⟨_,rfl⟩
 rw[hz,hk];have HZ:Hid (ppV a b=z):=hz;have HK:Hid (ppB a b=k):=hk;clear hz hk;rintro e v⟨rfl,hb⟩;have P1:Hid (OpP w v a b fl sec):=P0.out.below hb;clear hb P0;clear o0 o1 o2 o3 o4 o5 o6 o7 o8 o9 o10 o11 o12 o13 r0 r1 r2 r3 r4 r5 rf rl;simp only[VV.v];go_upto_region 2 with fail;obtain⟨x,hx,hbx,vz⟩:∃y,v.alloc (.cells #[.int .i64 z.k,.bool z.s,.int .i64 z.m,.int .i64 z.h,.int .i64 z.lo,.int .i64 z.hi] 62)=y/\Below v.heap.size v y/\Vb y v.heap.size z:=⟨_,rfl,(Below.refl _ _).alloc (Nat.le_refl _) _,Vb.new v z⟩
 rw[hx];have P2:Hid (OpP w x a b fl sec):=P1.out.below hbx;have hz:w.heap.size+1<v.heap.size:=P1.out.R.lt;clear hx hbx P1;generalize v.heap.size=bJ at *;cases k with
 |true=>
  have hne:bJ≠w.heap.size+1:=by omega
  obtain⟨r0,r1,r2,r3,r4,r5⟩:=P2.out.R.cells;have rf:=P2.out.R.free;have rl:=P2.out.R.lt;obtain⟨j0,j1,j2,j3,j4,j5⟩:=vz.cells;have jf:=vz.free;have jl:=vz.lt;clear vz;go_wp2;exact bodyPost_ret (v:=VV.v z) (by simp[results,Tryz.results86,go_sem,VV.v, *]) rfl ⟨congrArg (fun q=>Ending.returned (VV.v q)) (by have hc:=HK.out;rw[<-HR.out,<-HZ.out,ppV,if_pos hc,if_pos hc]),below_putV P2.out.bel (by omega) _⟩
 |false=>
  clear vz hz HZ;have HC:Hid (¬ppB a b=true):=notB HK.out;clear HK;go_upto_region 4 with fail;obtain⟨o0,o1,o2,o3,o4,o5,o6,o7,o8,o9,o10,o11,o12,o13⟩:=op_cells P2.out;go_wp2_with fail;refine(pointerPlus_any b a _ HB.out HA.out).mono ?_;obtain⟨z2,hz⟩:∃z2,ppV b a=z2:=⟨_,rfl⟩
  obtain⟨k,hk⟩:∃k,ppB b a=k:=⟨_,rfl⟩
  rw[hz,hk];have HZ:Hid (ppV b a=z2):=hz;have HK:Hid (ppB b a=k):=hk;clear hz hk;rintro e y⟨rfl,hb⟩;have P3:Hid (OpP w y a b fl sec):=P2.out.below hb;clear hb P2;clear o0 o1 o2 o3 o4 o5 o6 o7 o8 o9 o10 o11 o12 o13;simp only[VV.v];go_upto_region 5 with fail;obtain⟨u,hu,hbu,vz⟩:∃u,y.alloc (.cells #[.int .i64 z2.k,.bool z2.s,.int .i64 z2.m,.int .i64 z2.h,.int .i64 z2.lo,.int .i64 z2.hi] 62)=u/\Below y.heap.size y u/\Vb u y.heap.size z2:=⟨_,rfl,(Below.refl _ _).alloc (Nat.le_refl _) _,Vb.new y z2⟩
  rw[hu];have P4:Hid (OpP w u a b fl sec):=P3.out.below hbu;have hz:w.heap.size+1<y.heap.size:=P3.out.R.lt;clear hu hbu P3;generalize y.heap.size=bK at *;cases k with
  |true=>
   have hne:bK≠w.heap.size+1:=by omega
   obtain⟨r0,r1,r2,r3,r4,r5⟩:=P4.out.R.cells;have rf:=P4.out.R.free;have rl:=P4.out.R.lt;obtain⟨j0,j1,j2,j3,j4,j5⟩:=vz.cells;have jf:=vz.free;have jl:=vz.lt;clear vz;go_wp2;exact bodyPost_ret (v:=VV.v z2) (by simp[results,Tryz.results86,go_sem,VV.v, *]) rfl ⟨congrArg (fun q=>Ending.returned (VV.v q)) (by have hc:=HK.out;rw[<-HR.out,<-HZ.out,ppV,if_neg HC.out,if_pos hc,if_pos hc]),below_putV P4.out.bel (by omega) _⟩
  |false=>
   clear vz hz HZ
   have HD:Hid (¬ppB b a=true):=notB HK.out
   clear HK
   go_upto_region 7 with fail
   have tc:∀w',Below u.heap.size u w'->w'.cell? ⟨w.heap.size,0,none⟩=some (.int .i64 a.k)/\w'.cell? ⟨w.heap.size,1,none⟩=some (.bool a.s)/\w'.cell? ⟨w.heap.size,2,none⟩=some (.int .i64 a.m)/\w'.cell? ⟨w.heap.size,3,none⟩=some (.int .i64 a.h)/\w'.cell? ⟨w.heap.size,4,none⟩=some (.int .i64 a.lo)/\w'.cell? ⟨w.heap.size,5,none⟩=some (.int .i64 a.hi)/\w'.cell? ⟨w.heap.size,6,none⟩=some (.int .i64 b.k)/\w'.cell? ⟨w.heap.size,7,none⟩=some (.bool b.s)/\w'.cell? ⟨w.heap.size,8,none⟩=some (.int .i64 b.m)/\w'.cell? ⟨w.heap.size,9,none⟩=some (.int .i64 b.h)/\w'.cell? ⟨w.heap.size,10,none⟩=some (.int .i64 b.lo)/\w'.cell? ⟨w.heap.size,11,none⟩=some (.int .i64 b.hi)/\w'.cell? ⟨w.heap.size,12,none⟩=some (.int .i64 fl)/\w'.cell? ⟨w.heap.size,13,none⟩=some (.bool sec):=fun w' h=>op_cells (P4.out.below h)
   have t0:=fun w' h=>(tc w' h).1
   have t1:=fun w' h=>(tc w' h).2.1
   have t2:=fun w' h=>(tc w' h).2.2.1
   have t3:=fun w' h=>(tc w' h).2.2.2.1
   have t4:=fun w' h=>(tc w' h).2.2.2.2.1
   have t5:=fun w' h=>(tc w' h).2.2.2.2.2.1
   have t6:=fun w' h=>(tc w' h).2.2.2.2.2.2.1
   have t7:=fun w' h=>(tc w' h).2.2.2.2.2.2.2.1
   have t8:=fun w' h=>(tc w' h).2.2.2.2.2.2.2.2.1
   have t9:=fun w' h=>(tc w' h).2.2.2.2.2.2.2.2.2.1
   have t10:=fun w' h=>(tc w' h).2.2.2.2.2.2.2.2.2.2.1
   have t11:=fun w' h=>(tc w' h).2.2.2.2.2.2.2.2.2.2.2.1
   have t13:=fun w' h=>(tc w' h).2.2.2.2.2.2.2.2.2.2.2.2.2
   clear tc
   refine wp_region_L (T:=fun w'=>Below u.heap.size u w') (s:=10) (by kernel_rfl) (Below.refl _ _).drew (fun hHeld=>?_)
   refine wpAnyL_ta 0 rfl ?_
   refine wpAnyL_ta 1 rfl ?_
   refine wpAnyL_ta 2 rfl ?_
   refine wpAnyL_ta 3 rfl ?_
   refine wpAnyL_ta 5 rfl ?_
   refine wpAnyL_ta 6 rfl ?_
   clear t0 t1 t2 t3 t4 t5 t6 t7 t8 t9 t10 t11 t13
   refine wpAnyL_call (i:=4) rfl (by kernel_rfl) (fun KK hK=>?_)
   go_simp
   refine(maxOf_any a.k a.s a.m a.h a.lo a.hi _).mono ?_
   rintro e v1⟨rfl,hb⟩
   have hv1:Below u.heap.size u v1:=(Below.refl _ _).drew.trans hb
   clear hb hHeld
   obtain⟨ma,hma⟩:∃m,maxV a=m:=⟨_,rfl⟩
   rw[show maxV ⟨a.k,a.s,a.m,a.h,a.lo,a.hi⟩=ma from hma]
   have HMA:Hid (maxV a=ma):=hma
   clear hma
   go_wp2_with fail
   refine hK.out _ _ hv1 (fun _=>?_)
   clear hK KK
   try go_frame
   refine wpAnyL_call (i:=7) rfl (by kernel_rfl) (fun KK hK=>?_)
   go_simp
   refine(maxOf_any b.k b.s b.m b.h b.lo b.hi _).mono ?_
   rintro e v2⟨rfl,hb⟩
   have hv2:Below u.heap.size u v2:=hv1.trans (hb.mono hv1.size)
   clear hb hv1
   obtain⟨mb,hmb⟩:∃m,maxV b=m:=⟨_,rfl⟩
   rw[show maxV ⟨b.k,b.s,b.m,b.h,b.lo,b.hi⟩=mb from hmb]
   have HMB:Hid (maxV b=mb):=hmb
   clear hmb
   go_wp2_with fail
   refine hK.out _ _ hv2 (fun _=>?_)
   clear hK KK
   try go_frame
   refine wpAnyL_call (i:=8) rfl (by kernel_rfl) (fun KK hK=>?_)
   go_simp
   have qa: -1<=ma/\ma<=1099511627776:=HMA.out▸maxV_bd HA.out
   have qb: -1<=mb/\mb<=1099511627776:=HMB.out▸maxV_bd HB.out
   refine(sumMax_any ma mb _ qa.1 (by omega) (by omega) qb.2).mono ?_
   rintro e w'⟨rfl,hw⟩
   rw[hw]
   clear hw qa qb
   go_wp2_with fail
   refine hK.out _ _ hv2 (fun _=>?_)
   clear hK KK
   try go_frame
   refine wpAnyL_call (i:=9) rfl (by kernel_rfl) (fun KK hK=>?_)
   go_simp
   refine(number_any sec (sumI ma mb) _).mono ?_
   rintro e v3⟨rfl,hb⟩
   have hv3:Below u.heap.size u v3:=hv2.trans (hb.mono hv2.size)
   have P5:Hid (OpP w v3 a b fl sec):=P4.out.below hv3
   simp only[VV.v]
   go_wp2_with fail
   refine hK.out _ _ hv3 (fun _=>?_)
   clear hK KK hb hv2 hv3
   try go_frame
   obtain⟨r0,r1,r2,r3,r4,r5⟩:=P5.out.R.cells
   have rf:=P5.out.R.free
   have rl:=P5.out.R.lt
   refine wpAnyL_store rfl (by kernel_rfl) (by kernel_rfl) (fun KK hK=>?_)
   go_simp
   refine hK.out _ _ ?_
   clear hK KK
   go_wp2
   exact bodyPost_ret (v:=VV.v (numV sec (sumI ma mb))) (by simp[results,Tryz.results86,go_sem,VV.v, *]) rfl ⟨congrArg (fun q=>Ending.returned (VV.v q)) (by rw[<-HR.out,if_neg HC.out,if_neg HD.out,HMA.out,HMB.out]),below_putV P5.out.bel (by omega) _⟩
theorem selected_any(a b:VV)(fl:Int)(sec:Bool)(w:World):
 Calls Tryz.prog 94 #[.agg #[.int .i64 a.k,.bool a.s,.int .i64 a.m,.int .i64 a.h,.int .i64 a.lo,.int .i64 a.hi,.int .i64 b.k,.bool b.s,.int .i64 b.m,.int .i64 b.h,.int .i64 b.lo,.int .i64 b.hi,.int .i64 fl,.bool sec]] w fun e w'=>e=.returned (if(joinV a b).k=1/\sec=true then numV true (-1)else{joinV a b with s:=sec}).v/\Below w.heap.size w w':=by
 obtain⟨res,hres⟩:∃r,(if(joinV a b).k=1/\sec=true then numV true (-1)else{joinV a b with s:=sec})=r:=⟨_,rfl⟩
 rw[hres];have HR:Hid ((if(joinV a b).k=1/\sec=true then numV true (-1)else{joinV a b with s:=sec})=res):=hres;clear hres;go_enter Tryz.func94,Tryz.ntmps94;go_upto_region 1 with fail;obtain⟨u,hu,pu⟩:=op_pre w a b fl sec;rw[hu];have P0:Hid (OpP w u a b fl sec):=pu;clear hu pu;obtain⟨o0,o1,o2,o3,o4,o5,o6,o7,o8,o9,o10,o11,o12,o13⟩:=op_cells P0.out;go_wp2_with fail;refine(implJoin_any a.k a.s a.m a.h a.lo a.hi b.k b.s b.m b.h b.lo b.hi _).mono ?_;rintro e v⟨rfl,hb⟩;have P1:Hid (OpP w v a b fl sec):=P0.out.below hb;obtain⟨j,hj⟩:∃j,joinV a b=j:=⟨_,rfl⟩
 have HJ:Hid (joinV a b=j):=hj;rw[show joinV ⟨a.k,a.s,a.m,a.h,a.lo,a.hi⟩ ⟨b.k,b.s,b.m,b.h,b.lo,b.hi⟩=j from hj];clear hb hj P0 o0 o1 o2 o3 o4 o5 o6 o7 o8 o9 o10 o11 o12 o13;simp only[VV.v];go_upto_region 2 with fail;obtain⟨x,hx,hbx,vj⟩:∃y,v.alloc (.cells #[.int .i64 j.k,.bool j.s,.int .i64 j.m,.int .i64 j.h,.int .i64 j.lo,.int .i64 j.hi] 62)=y/\Below v.heap.size v y/\Vb y v.heap.size j:=⟨_,rfl,(Below.refl _ _).alloc (Nat.le_refl _) _,Vb.new v j⟩
 rw[hx];have P2:Hid (OpP w x a b fl sec):=P1.out.below hbx;have VJ:Hid (Vb x v.heap.size j):=vj;have hz:w.heap.size+1<v.heap.size:=P1.out.R.lt;clear hx hbx vj P1;generalize v.heap.size=bJ at *;obtain⟨o0,o1,o2,o3,o4,o5,o6,o7,o8,o9,o10,o11,o12,o13⟩:=op_cells P2.out;obtain⟨r0,r1,r2,r3,r4,r5⟩:=P2.out.R.cells;have rf:=P2.out.R.free;have rl:=P2.out.R.lt;obtain⟨j0,j1,j2,j3,j4,j5⟩:=VJ.out.cells;have jf:=VJ.out.free;have jl:=VJ.out.lt;have hne:bJ≠w.heap.size+1:=by omega
 by_cases c1:j.k=1
 ·have e1:(j.k==1)=true:=by simp[c1]
  have C1:Hid (j.k=1):=c1;clear c1;cases sec with
  |true=>
   go_wp2_with fail;refine(number_any true (-1) _).mono ?_;rintro e y⟨rfl,hb⟩;have P3:Hid (OpP w y a b fl true):=P2.out.below hb;simp only[VV.v];clear hb r0 r1 r2 r3 r4 r5 rf rl;obtain⟨r0,r1,r2,r3,r4,r5⟩:=P3.out.R.cells;have rf:=P3.out.R.free;have rl:=P3.out.R.lt;go_wp2;exact bodyPost_ret (v:=VV.v (numV true (-1))) (by simp[results,Tryz.results94,go_sem,VV.v, *]) rfl ⟨congrArg (fun q=>Ending.returned (VV.v q)) (by have:=HR.out;rw[HJ.out,if_pos ⟨C1.out,by first|rfl|trivial⟩]at this;exact this),below_putV P3.out.bel (by omega) _⟩
  |false=>
   go_wp2;exact bodyPost_ret (v:=VV.v {j with s:=false}) (by simp[results,Tryz.results94,go_sem,VV.v, *]) rfl ⟨congrArg (fun q=>Ending.returned (VV.v q)) (by have:=HR.out;rw[HJ.out,if_neg (by simp)]at this;exact this),by(iterate 6 refine Below.setCell ?_ (show w.heap.size<=w.heap.size+1 by omega) _);refine Below.setCell ?_ (show w.heap.size<=bJ by omega) _;exact P2.out.bel⟩
 ·have e1:(j.k==1)=false:=by simp[c1]
  have C1:Hid (¬j.k=1):=c1;clear c1;go_wp2;exact bodyPost_ret (v:=VV.v {j with s:=sec}) (by simp[results,Tryz.results94,go_sem,VV.v, *]) rfl ⟨congrArg (fun q=>Ending.returned (VV.v q)) (by have:=HR.out;rw[HJ.out,if_neg (fun q=>C1.out q.1)]at this;exact this),by(iterate 6 refine Below.setCell ?_ (show w.heap.size<=w.heap.size+1 by omega) _);refine Below.setCell ?_ (show w.heap.size<=bJ by omega) _;exact P2.out.bel⟩
theorem bitsN_le_iff(n k:Nat):bitsN n<=k↔n<2^k:=by
 unfold bitsN;by_cases h:n=0
 ·subst h;simp
  exact Nat.two_pow_pos k
 ·rw[if_neg h]
  constructor
  ·intro q;exact(Nat.log2_lt h).1 (by omega)
  ·intro q;have:=(Nat.log2_lt h).2 q;omega
theorem bitsN_or(x y:Nat):bitsN (x|||y)=bitsN (if x>y then x else y):=by
 have key:∀k,x|||y<2^k↔(if x>y then x else y)<2^k:=by
  intro k;constructor
  ·intro h
   have h1:x<=x|||y:=Nat.left_le_or;have h2:y<=x|||y:=Nat.right_le_or;split<;>omega
  ·intro h
   have h1:x<2^k:=by split at h<;>omega
   have h2:y<2^k:=by split at h<;>omega
   exact Nat.or_lt_two_pow h1 h2
 refine Nat.le_antisymm ?_ ?_
 ·rw[bitsN_le_iff,key,<-bitsN_le_iff];exact Nat.le_refl _
 ·rw[bitsN_le_iff,<-key,<-bitsN_le_iff];exact Nat.le_refl _
theorem i64_or_small(x y:Nat)(hx:x<=1099511627776)(hy:y<=1099511627776):bits .or .i64 (x:Int) (y:Int)=((x|||y:Nat):Int):=by
 have h41:x|||y<2^41:=Nat.or_lt_two_pow (Nat.lt_of_le_of_lt hx (by decide)) (Nat.lt_of_le_of_lt hy (by decide));have key:(BitVec.ofInt 64 (x:Int)|||BitVec.ofInt 64 (y:Int)).toNat=x|||y:=by
  rw[BitVec.toNat_or,BitVec.toNat_ofInt,BitVec.toNat_ofInt];congr 1<;>omega
 show IntKind.i64.wrap ((BitVec.ofInt 64 (x:Int)|||BitVec.ofInt 64 (y:Int)).toNat:Nat)=_;have e41:(2:Nat)^41=2199023255552:=by decide
 rw[key,IntKind.wrap_i64];omega
theorem bitsMax_any(x y:Nat)(w:World)(hx:x<=1099511627776)(hy:y<=1099511627776):
 Calls Tryz.prog 89 #[.int .i64 x,.int .i64 y] w fun e w'=>e=.returned (.int .i64 (onesI (bigI x y)))/\w'=w:=by
 have ho:=i64_or_small x y hx hy;have h41:x|||y<2^41:=Nat.or_lt_two_pow (Nat.lt_of_le_of_lt hx (by decide)) (Nat.lt_of_le_of_lt hy (by decide));have e41:(2:Nat)^41=2199023255552:=by decide
 rw[e41]at h41;clear e41;go_enter Tryz.func89,Tryz.ntmps89;go_wp2_with fail;refine(len64_any _ _ (by omega) (by omega)).mono ?_;rintro e w'⟨rfl,hw⟩;rw[hw,Int.toNat_natCast];clear hw;have hE:onesI (bigI x y)=((2^bitsN (x|||y):Nat):Int)-1:=by
  unfold onesI bigI;rw[bitsN_or];congr 4
  split<;>split<;>omega
 have hB:bitsN (x|||y)<=41:=(bitsN_le_iff _ _).2 (by have e41:(2:Nat)^41=2199023255552:=by decide
                                                     omega)
 have HE:Hid (onesI (bigI x y)=((2^bitsN (x|||y):Nat):Int)-1):=hE;clear hE ho h41;generalize bitsN (x|||y)=k at *;have hp:(1:Int)<=2^k/\(2:Int)^k<=2199023255552:=by
  have h1:(2:Nat)^k<=2^41:=Nat.pow_le_pow_right (by decide) hB;have h2:(2:Nat)^41=2199023255552:=by decide
  have h3:=Nat.two_pow_pos k;have c:(((2:Nat)^k:Nat):Int)=(2:Int)^k:=by simp
  omega
 have c:(((2:Nat)^k:Nat):Int)=(2:Int)^k:=by simp
 have HC:Hid ((((2:Nat)^k:Nat):Int)=(2:Int)^k):=c;clear c;obtain⟨p0,p1⟩:=hp;go_wp2;go_ret;exact⟨ret_int (by rw[HE.out,HC.out];try(unfold wrap64;omega)),rfl⟩
end Go.Proofs.YtbahofiiaodpdaaGreat
