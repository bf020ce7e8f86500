import Derived.Test.YtbahofiiaodpdaaGreatOfTransRofC
import Derived.Test.YtbahofiiaodpdaaGreatOfTransBits
import Derived.Test.YtbahofiiaodpdaaGreatOfAbsWalks
import Derived.Test.YtbahofiiaodpdaaGreatTransAft
import Derived.Test.YtbahofiiaodpdaaGreatOfTransOpsC
import Derived.Test.YtbahofiiaodpdaaGreatOfTransOpsF
import Derived.Test.YtbahofiiaodpdaaGreatOfTransRofF
import Derived.Test.YtbahofiiaodpdaaGreatOfTransRofI
import Derived.Test.YtbahofiiaodpdaaGreatOfInsSame
import Derived.Deep.Cut
import Derived.Deep.DeepCutAuto
set_option maxHeartbeats 8000000
set_option maxRecDepth 20000
namespace Go.Proofs.YtbahofiiaodpdaaGreat
open Go.RowKit
theorem bd_of_good{v:VV}{n:Int}(h:goodB v n=true):Bd v:=by
 unfold goodB at h;split at h
 ·rename_i hk
  have q:=of_decide_eq_true h;exact⟨q.1,q.2.1,by omega,by omega,by omega,by omega,Or.inl hk⟩
 ·have q:=of_decide_eq_true h
  exact⟨by omega,by omega,by omega,by omega,by omega,by omega,Or.inr q.1⟩
theorem pub_of_good{v:VV}{n:Int}(h:goodB v n=true)(hk:v.k=1):v.s=false:=by
 unfold goodB at h;rw[if_neg (by omega)]at h;exact(of_decide_eq_true h).2.1
theorem heap_of_good{v:VV}{n:Int}(h:goodB v n=true)(hk:v.k=1):0<=v.h/\v.h<n:=by
 unfold goodB at h;rw[if_neg (by omega)]at h;have q:=of_decide_eq_true h;omega
theorem bd_zV:Bd zV:=⟨by simp[zV],by simp[zV],by simp[zV],by simp[zV],by simp[zV],by simp[zV],Or.inl rfl⟩
theorem maxV_pos{v:VV}(h:0<=maxV v):v.k≠1/\maxV v=v.m:=by
 unfold maxV at *;split at h
 ·omega
 ·rename_i hk
  exact⟨hk,if_neg hk⟩
theorem numV_no{s:Bool}{m:Int}(h:m<0∨1099511627776<m):numV s m=numV s (-1):=by simp[numV,h]
theorem sumI_no{a b:Int}(h:a<0∨b<0):sumI a b= -1:=if_pos h
theorem sumI_yes{a b:Int}(h:¬(a<0∨b<0)):sumI a b=a+b:=if_neg h
theorem same_add(a b:VV):addV a b (a.s||b.s)=sumV a b:=by
 unfold addV sumV sumP;by_cases hb:b.k=1
 ·have mb:maxV b= -1:=by simp[maxV,hb]
  rw[if_pos hb,if_neg (c:=ppB a b=true) (fun q=>by have:=(ppB_ok q).2.2.1;omega),sumI_no (by omega)];by_cases h1:ppOK b a
  ·rw[if_pos (ppB_yes h1),if_pos ⟨h1.1,h1.2.2.1,h1.2.1,h1.2.2.2⟩]
  ·rw[if_neg (ppB_nt h1),if_neg (c:=b.k=1/\0<=maxV a/\a.s=false/\b.hi+a.m<=1099511627776) (fun q=>h1 ⟨q.1,q.2.2.1,q.2.1,q.2.2.2⟩),if_neg (by omega),Bool.or_comm]
 ·rw[if_neg hb,if_neg (c:=ppB b a=true) (fun q=>hb (ppB_ok q).1)]
  by_cases h1:ppOK a b
  ·rw[if_pos (ppB_yes h1),if_pos ⟨h1.1,h1.2.2.1,h1.2.1,h1.2.2.2⟩]
  ·rw[if_neg (ppB_nt h1),if_neg (c:=a.k=1/\0<=maxV b/\b.s=false/\a.hi+b.m<=1099511627776) (fun q=>h1 ⟨q.1,q.2.2.1,q.2.1,q.2.2.2⟩)]
   by_cases h2:0<=maxV a/\0<=maxV b
   ·have ma:=(maxV_pos h2.1).2
    have mb:=(maxV_pos h2.2).2;rw[if_pos h2,sumI_yes (by omega),ma,mb]
   ·rw[if_neg h2,sumI_no (by omega)]
theorem mul_div_lt{a b:Int}(ha:0<a)(hb:0<b):(1099511627776/a<b)↔(1099511627776/b<a):=by
 rw[Int.ediv_lt_iff_lt_mul ha,Int.ediv_lt_iff_lt_mul hb,Int.mul_comm]
theorem same_mul{i:Int}(a b:VV)(s:Bool):numV s (prodI (maxV a) (maxV b))=resV 5 i a b s:=by
 simp only[resV,Int.reduceEq,if_false,if_true,or_self];by_cases h:0<=maxV a/\0<=maxV b
 ·have ka:a.k≠1:=(maxV_pos (by omega)).1
  have kb:b.k≠1:=(maxV_pos (by omega)).1;have ma:maxV a=a.m:=by simp[maxV,ka]
  have mb:maxV b=b.m:=by simp[maxV,kb]
  rw[if_pos h,ma,mb];rw[ma,mb]at h;unfold prodI timesI;by_cases h0:a.m=0∨b.m=0
  ·rw[if_pos h0]
   rcases h0 with h0|h0
   ·rw[h0]
    by_cases h1:0<b.m
    ·have:(0:Int)<=1099511627776/b.m:=Int.ediv_nonneg (by decide) (by omega)
     rw[if_neg (by omega),Int.zero_mul]
    ·rw[if_neg (by omega),Int.zero_mul]
   ·rw[h0,if_neg (by omega),Int.mul_zero]
  ·rw[if_neg h0]
   have pa:0<a.m:=by omega
   have pb:0<b.m:=by omega
   by_cases h1:1099511627776/a.m<b.m
   ·rw[if_pos h1,if_pos (Or.inr (Or.inr ⟨pb,(mul_div_lt pa pb).1 h1⟩)),numV_no (m:=1099511627777) (by omega)]
   ·have h2:=mt (mul_div_lt pa pb).2 h1
    rw[if_neg h1,if_neg (by omega)]
 ·rw[if_neg h]
  unfold prodI;rw[if_pos (by omega)]
theorem same_and{i:Int}(a b:VV)(s:Bool):numV s (smallI (maxV a) (maxV b))=resV 6 i a b s:=by
 simp only[resV,Int.reduceEq,if_false,if_true,or_self];congr 1
 unfold smallI leastI
 (repeat' split)<;>omega
theorem same_or{i:Int}(a b:VV)(s:Bool)(op:Int)(h:op=7∨op=8):numV s (orI (maxV a) (maxV b))=resV op i a b s:=by
 have e:resV op i a b s=resV 7 i a b s:=by rcases h with rfl|rfl<;>rfl
 rw[e];simp only[resV,Int.reduceEq,if_false,if_true,or_self,true_or];unfold orI;by_cases h:0<=maxV a/\0<=maxV b
 ·have ka:a.k≠1:=(maxV_pos (by omega)).1
  have kb:b.k≠1:=(maxV_pos (by omega)).1;have ma:maxV a=a.m:=by simp[maxV,ka]
  have mb:maxV b=b.m:=by simp[maxV,kb]
  rw[if_pos h,if_neg (by omega),ma,mb]
 ·rw[if_neg h,if_pos (by omega)]
theorem same_mov{i:Int}(a b:VV)(s:Bool)(h:a.k=1->s=false):movV a s i=resV 10 i a b s:=by
 simp only[resV,Int.reduceEq,if_false,if_true,or_self];unfold movV sumI;by_cases ka:a.k=1
 ·have ma:maxV a= -1:=by simp[maxV,ka]
  rw[if_pos ka,h ka,ma];by_cases h1:a.lo+i< -1099511627776∨1099511627776<a.hi+i
  ·rw[if_pos h1,if_neg (by omega),if_neg (by omega)]
  ·rw[if_neg h1,if_pos (by omega)]
 ·have ma:maxV a=a.m:=by simp[maxV,ka]
  rw[if_neg ka,ma,if_neg (c:=a.k=1/\_) (fun q=>ka q.1)];by_cases h1:0<=a.m/\0<=i
  ·rw[if_pos h1,if_neg (by omega)]
  ·rw[if_neg h1,if_pos (by omega)]
theorem same_andi{i:Int}(a b:VV)(s:Bool):numV s (smallI (maxV a) i)=resV 11 i a b s:=by
 simp only[resV,Int.reduceEq,if_false,if_true,or_self];unfold smallI leastI;by_cases h1:maxV a<0
 ·by_cases h2:i<0
  ·rw[if_pos h1,if_pos (Or.inl h2),numV_no (Or.inl h1),numV_no (Or.inl h2)]
  ·rw[if_pos h1,if_neg (by omega)]
 ·rw[if_neg h1]
  congr 1
  (repeat' split)<;>omega
theorem same_shl{i:Int}(a b:VV)(s:Bool)(_i0:0<=i):numV s (leftI (maxV a) i.toNat)=resV 12 i a b s:=by
 simp only[resV,Int.reduceEq,if_false,if_true,or_self];have hp:((2^i.toNat:Nat):Int)=(2:Int)^i.toNat:=by simp
 have pp:(0:Int)<2^i.toNat:=Int.pow_pos (by decide);unfold leftI;by_cases h0:maxV a=0
 ·have:(0:Int)<=1099511627776/2^i.toNat:=Int.ediv_nonneg (by decide) (by omega)
  rw[if_pos h0,h0,if_neg (by omega),Int.zero_mul]
 ·rw[if_neg h0]
  by_cases h1:maxV a<0
  ·rw[if_pos (Or.inl h1),if_neg (by omega)]
  ·have ka:a.k≠1:=(maxV_pos (by omega)).1
   have ma:maxV a=a.m:=by simp[maxV,ka]
   rw[ma]at h0 h1⊢;by_cases h2:i<=40
   ·rw[if_pos (c:=0<a.m/\i<=40) ⟨by omega,h2⟩,hp]
    unfold timesI;generalize hq:(2:Int)^i.toNat=p at *;rw[if_neg (c:=a.m=0∨p=0) (by omega)];by_cases h3:1099511627776/a.m<p
    ·rw[if_pos h3,if_pos (c:=a.m<0∨1099511627776/p<a.m) (Or.inr ((mul_div_lt (by omega) pp).1 h3)),numV_no (m:=1099511627777) (by omega)]
    ·have h4:=mt (mul_div_lt (a:=a.m) (by omega) pp).2 h3
     rw[if_neg h3,if_neg (c:=a.m<0∨1099511627776/p<a.m) (by omega)]
   ·have h41:2^41<=2^i.toNat:=Nat.pow_le_pow_right (by decide) (by omega)
    have h42:2199023255552<=(2:Int)^i.toNat:=by rw[<-hp];exact Int.ofNat_le.2 h41
    have h43:(1099511627776:Int)/2^i.toNat=0:=Int.ediv_eq_zero_of_lt (by decide) (by omega);rw[if_neg (c:=0<a.m/\i<=40) (by omega),if_pos (c:=a.m<0∨1099511627776/2^i.toNat<a.m) (Or.inr (by rw[h43];omega))]
theorem same_shr{i:Int}(a b:VV)(s:Bool)(i0:0<=i)(i1:i<=63):numV s (rightI (maxV a) i.toNat)=resV 13 i a b s:=by
 simp only[resV,Int.reduceEq,if_false,if_true,or_self];unfold rightI;by_cases h1:0<=maxV a
 ·have ka:a.k≠1:=(maxV_pos (by omega)).1
  have ma:maxV a=a.m:=by simp[maxV,ka]
  rw[if_pos h1,if_pos h1,ma];simp
 ·rw[if_neg h1,if_neg h1]
  by_cases h2:24<=i
  ·rw[if_pos h2,if_pos (by omega),show(64-i).toNat=64-i.toNat by omega]
   simp
  ·rw[if_neg h2,if_neg (by omega)]
theorem same_adc{i:Int}(a b:VV)(s:Bool):numV s (sumI (sumI (maxV a) (maxV b)) 1)=resV 15 i a b s:=by
 simp only[resV,Int.reduceEq,if_false,if_true,or_self];unfold sumI;by_cases h:0<=maxV a/\0<=maxV b
 ·have ka:a.k≠1:=(maxV_pos (by omega)).1
  have kb:b.k≠1:=(maxV_pos (by omega)).1;have ma:maxV a=a.m:=by simp[maxV,ka]
  have mb:maxV b=b.m:=by simp[maxV,kb]
  rw[if_pos h,ma,mb];rw[ma,mb]at h;rw[if_neg (c:=a.m<0∨b.m<0) (by omega),if_neg (by omega)]
 ·rw[if_neg h,if_pos (c:=maxV a<0∨maxV b<0) (by omega),if_pos (by omega)]
def pickV(a b:VV)(f:Int):VV:={(if f=2/\(joinV a b).k=1 then numV true (-1)else joinV a b)with s:=(if f=2/\(joinV a b).k=1 then numV true (-1)else joinV a b).s||decide (f=2)}
theorem same_sel(a b:VV)(f:Int)(pa:a.k=1->a.s=false)(pb:b.k=1->b.s=false):selV a b (a.s||b.s||decide (f=2))=pickV a b f:=by
 unfold selV pickV;by_cases hj:a.k=1/\b.k=1/\a.h=b.h
 ·have sa:=pa hj.1
  have sb:=pb hj.2.1;have hk:(joinV a b).k=1:=by simp[joinV,hj]
  have hs:(joinV a b).s=false:=by simp[joinV,hj]
  by_cases hf:f=2
  ·simp[hf,hk,numV]
  ·simp[hf,hk,hs,sa,sb]
 ·have hk:(joinV a b).k=0:=by simp only[joinV,if_neg hj];split<;>rfl
  have hs:(joinV a b).s=(a.s||b.s):=by simp only[joinV,if_neg hj];split<;>rfl
  simp[hk,hs]
def opA(V:Nat->VV)(op:Int)(i:Nat):VV:=if bitB op 2 then V i else zV
def opB(V:Nat->VV)(op:Int)(i:Nat):VV:=if bitB op 4 then V i else zV
def opF(op z c:Int):Int:=if op=19 then z else if op=15∨op=20 then c else 1
def secB(V:Nat->VV)(op z c:Int)(ia ib:Nat):Bool:=(opA V op ia).s||(opB V op ib).s||decide (opF op z c=2)
def trR(op imm:Int)(a b:VV)(sec:Bool)(fl:Int)(g:HS):VV:=
 if op=19∨op=20 then pickV a b fl else if op=21∨op=25 then numV g.s 255 else if op=22∨op=26 then numV g.s (-1)else resV op imm a b sec
theorem ops_1_28{op:Int}(o1:1<=op)(o28:op<=28):op=1∨op=2∨op=3∨op=4∨op=5∨op=6∨op=7∨op=8∨op=9∨op=10∨op=11∨op=12∨op=13∨op=14∨op=15∨op=16∨op=17∨op=18∨op=19∨op=20∨op=21∨op=22∨op=23∨op=24∨op=25∨op=26∨op=27∨op=28:=by omega
theorem operandsOf_any(V:Nat->VV)(z c:Int)(FA:Array Value)(hF:FA=facA V z c)(op d imm h:Int)(ia ib:Nat)(ha:ia<8)(hb:ib<8)(o1:1<=op)(o28:op<=28)(w:World):
 Calls Tryz.prog 64 #[.agg FA,.agg #[.int .i64 op,.int .i64 d,.int .i64 (ia:Int),.int .i64 (ib:Int),.int .i64 imm,.int .i64 h]] w fun e w'=>e=.returned (.agg (oL (opA V op ia) (opB V op ib) (opF op z c) (secB V op z c ia ib)).toArray)/\Below w.heap.size w w':=by
 rcases ops_1_28 o1 o28 with rfl|rfl|rfl|rfl|rfl|rfl|rfl|rfl|rfl|rfl|rfl|rfl|rfl|rfl|rfl|rfl|rfl|rfl|rfl|rfl|rfl|rfl|rfl|rfl|rfl|rfl|rfl|rfl
 ·have h:=operandsOf_TF V z c FA hF 1 d (ib:Int) imm h ia ha (by kernel_rfl) (by kernel_rfl) (by decide) (by decide) (by decide) w
  have eA:bitB 1 2=true:=by kernel_rfl
  have eB:bitB 1 4=false:=by kernel_rfl
  simpa[secB,opA,opB,opF,eA,eB,zV]using h
 ·have h:=operandsOf_FF V z c FA hF 2 d (ia:Int) (ib:Int) imm h (by kernel_rfl) (by kernel_rfl) (by decide) (by decide) (by decide) w
  have eA:bitB 2 2=false:=by kernel_rfl
  have eB:bitB 2 4=false:=by kernel_rfl
  simpa[secB,opA,opB,opF,eA,eB,zV]using h
 ·have h:=operandsOf_TT V z c FA hF 3 d imm h ia ha ib hb (by kernel_rfl) (by kernel_rfl) (by decide) (by decide) (by decide) w
  have eA:bitB 3 2=true:=by kernel_rfl
  have eB:bitB 3 4=true:=by kernel_rfl
  simpa[secB,opA,opB,opF,eA,eB,zV]using h
 ·have h:=operandsOf_TT V z c FA hF 4 d imm h ia ha ib hb (by kernel_rfl) (by kernel_rfl) (by decide) (by decide) (by decide) w
  have eA:bitB 4 2=true:=by kernel_rfl
  have eB:bitB 4 4=true:=by kernel_rfl
  simpa[secB,opA,opB,opF,eA,eB,zV]using h
 ·have h:=operandsOf_TT V z c FA hF 5 d imm h ia ha ib hb (by kernel_rfl) (by kernel_rfl) (by decide) (by decide) (by decide) w
  have eA:bitB 5 2=true:=by kernel_rfl
  have eB:bitB 5 4=true:=by kernel_rfl
  simpa[secB,opA,opB,opF,eA,eB,zV]using h
 ·have h:=operandsOf_TT V z c FA hF 6 d imm h ia ha ib hb (by kernel_rfl) (by kernel_rfl) (by decide) (by decide) (by decide) w
  have eA:bitB 6 2=true:=by kernel_rfl
  have eB:bitB 6 4=true:=by kernel_rfl
  simpa[secB,opA,opB,opF,eA,eB,zV]using h
 ·have h:=operandsOf_TT V z c FA hF 7 d imm h ia ha ib hb (by kernel_rfl) (by kernel_rfl) (by decide) (by decide) (by decide) w
  have eA:bitB 7 2=true:=by kernel_rfl
  have eB:bitB 7 4=true:=by kernel_rfl
  simpa[secB,opA,opB,opF,eA,eB,zV]using h
 ·have h:=operandsOf_TT V z c FA hF 8 d imm h ia ha ib hb (by kernel_rfl) (by kernel_rfl) (by decide) (by decide) (by decide) w
  have eA:bitB 8 2=true:=by kernel_rfl
  have eB:bitB 8 4=true:=by kernel_rfl
  simpa[secB,opA,opB,opF,eA,eB,zV]using h
 ·have h:=operandsOf_TT V z c FA hF 9 d imm h ia ha ib hb (by kernel_rfl) (by kernel_rfl) (by decide) (by decide) (by decide) w
  have eA:bitB 9 2=true:=by kernel_rfl
  have eB:bitB 9 4=true:=by kernel_rfl
  simpa[secB,opA,opB,opF,eA,eB,zV]using h
 ·have h:=operandsOf_TF V z c FA hF 10 d (ib:Int) imm h ia ha (by kernel_rfl) (by kernel_rfl) (by decide) (by decide) (by decide) w
  have eA:bitB 10 2=true:=by kernel_rfl
  have eB:bitB 10 4=false:=by kernel_rfl
  simpa[secB,opA,opB,opF,eA,eB,zV]using h
 ·have h:=operandsOf_TF V z c FA hF 11 d (ib:Int) imm h ia ha (by kernel_rfl) (by kernel_rfl) (by decide) (by decide) (by decide) w
  have eA:bitB 11 2=true:=by kernel_rfl
  have eB:bitB 11 4=false:=by kernel_rfl
  simpa[secB,opA,opB,opF,eA,eB,zV]using h
 ·have h:=operandsOf_TF V z c FA hF 12 d (ib:Int) imm h ia ha (by kernel_rfl) (by kernel_rfl) (by decide) (by decide) (by decide) w
  have eA:bitB 12 2=true:=by kernel_rfl
  have eB:bitB 12 4=false:=by kernel_rfl
  simpa[secB,opA,opB,opF,eA,eB,zV]using h
 ·have h:=operandsOf_TF V z c FA hF 13 d (ib:Int) imm h ia ha (by kernel_rfl) (by kernel_rfl) (by decide) (by decide) (by decide) w
  have eA:bitB 13 2=true:=by kernel_rfl
  have eB:bitB 13 4=false:=by kernel_rfl
  simpa[secB,opA,opB,opF,eA,eB,zV]using h
 ·have h:=operandsOf_TT V z c FA hF 14 d imm h ia ha ib hb (by kernel_rfl) (by kernel_rfl) (by decide) (by decide) (by decide) w
  have eA:bitB 14 2=true:=by kernel_rfl
  have eB:bitB 14 4=true:=by kernel_rfl
  simpa[secB,opA,opB,opF,eA,eB,zV]using h
 ·have h:=operandsOf_TTc V z c FA hF 15 d imm h ia ha ib hb (by kernel_rfl) (by kernel_rfl) (by decide) (by decide) w
  have eA:bitB 15 2=true:=by kernel_rfl
  have eB:bitB 15 4=true:=by kernel_rfl
  simpa[secB,opA,opB,opF,eA,eB,zV]using h
 ·have h:=operandsOf_TT V z c FA hF 16 d imm h ia ha ib hb (by kernel_rfl) (by kernel_rfl) (by decide) (by decide) (by decide) w
  have eA:bitB 16 2=true:=by kernel_rfl
  have eB:bitB 16 4=true:=by kernel_rfl
  simpa[secB,opA,opB,opF,eA,eB,zV]using h
 ·have h:=operandsOf_TT V z c FA hF 17 d imm h ia ha ib hb (by kernel_rfl) (by kernel_rfl) (by decide) (by decide) (by decide) w
  have eA:bitB 17 2=true:=by kernel_rfl
  have eB:bitB 17 4=true:=by kernel_rfl
  simpa[secB,opA,opB,opF,eA,eB,zV]using h
 ·have h:=operandsOf_TF V z c FA hF 18 d (ib:Int) imm h ia ha (by kernel_rfl) (by kernel_rfl) (by decide) (by decide) (by decide) w
  have eA:bitB 18 2=true:=by kernel_rfl
  have eB:bitB 18 4=false:=by kernel_rfl
  simpa[secB,opA,opB,opF,eA,eB,zV]using h
 ·have h:=operandsOf_TTz V z c FA hF 19 d imm h ia ha ib hb (by kernel_rfl) (by kernel_rfl) (by decide) w
  have eA:bitB 19 2=true:=by kernel_rfl
  have eB:bitB 19 4=true:=by kernel_rfl
  simpa[secB,opA,opB,opF,eA,eB,zV]using h
 ·have h:=operandsOf_TTd V z c FA hF 20 d imm h ia ha ib hb (by kernel_rfl) (by kernel_rfl) (by decide) (by decide) (by decide) w
  have eA:bitB 20 2=true:=by kernel_rfl
  have eB:bitB 20 4=true:=by kernel_rfl
  simpa[secB,opA,opB,opF,eA,eB,zV]using h
 ·have h:=operandsOf_TF V z c FA hF 21 d (ib:Int) imm h ia ha (by kernel_rfl) (by kernel_rfl) (by decide) (by decide) (by decide) w
  have eA:bitB 21 2=true:=by kernel_rfl
  have eB:bitB 21 4=false:=by kernel_rfl
  simpa[secB,opA,opB,opF,eA,eB,zV]using h
 ·have h:=operandsOf_TF V z c FA hF 22 d (ib:Int) imm h ia ha (by kernel_rfl) (by kernel_rfl) (by decide) (by decide) (by decide) w
  have eA:bitB 22 2=true:=by kernel_rfl
  have eB:bitB 22 4=false:=by kernel_rfl
  simpa[secB,opA,opB,opF,eA,eB,zV]using h
 ·have h:=operandsOf_TF V z c FA hF 23 d (ib:Int) imm h ia ha (by kernel_rfl) (by kernel_rfl) (by decide) (by decide) (by decide) w
  have eA:bitB 23 2=true:=by kernel_rfl
  have eB:bitB 23 4=false:=by kernel_rfl
  simpa[secB,opA,opB,opF,eA,eB,zV]using h
 ·have h:=operandsOf_TF V z c FA hF 24 d (ib:Int) imm h ia ha (by kernel_rfl) (by kernel_rfl) (by decide) (by decide) (by decide) w
  have eA:bitB 24 2=true:=by kernel_rfl
  have eB:bitB 24 4=false:=by kernel_rfl
  simpa[secB,opA,opB,opF,eA,eB,zV]using h
 ·have h:=operandsOf_TT V z c FA hF 25 d imm h ia ha ib hb (by kernel_rfl) (by kernel_rfl) (by decide) (by decide) (by decide) w
  have eA:bitB 25 2=true:=by kernel_rfl
  have eB:bitB 25 4=true:=by kernel_rfl
  simpa[secB,opA,opB,opF,eA,eB,zV]using h
 ·have h:=operandsOf_TT V z c FA hF 26 d imm h ia ha ib hb (by kernel_rfl) (by kernel_rfl) (by decide) (by decide) (by decide) w
  have eA:bitB 26 2=true:=by kernel_rfl
  have eB:bitB 26 4=true:=by kernel_rfl
  simpa[secB,opA,opB,opF,eA,eB,zV]using h
 ·have h:=operandsOf_TT V z c FA hF 27 d imm h ia ha ib hb (by kernel_rfl) (by kernel_rfl) (by decide) (by decide) (by decide) w
  have eA:bitB 27 2=true:=by kernel_rfl
  have eB:bitB 27 4=true:=by kernel_rfl
  simpa[secB,opA,opB,opF,eA,eB,zV]using h
 ·have h:=operandsOf_TT V z c FA hF 28 d imm h ia ha ib hb (by kernel_rfl) (by kernel_rfl) (by decide) (by decide) (by decide) w
  have eA:bitB 28 2=true:=by kernel_rfl
  have eB:bitB 28 4=true:=by kernel_rfl
  simpa[secB,opA,opB,opF,eA,eB,zV]using h
theorem resultOf_any(op d ra rb imm:Int)(q:Nat)(a b:VV)(fl:Int)(sec:Bool)(w:World)(ha:Bd a)(hb:Bd b)(pa:a.k=1->a.s=false)(pb:b.k=1->b.s=false)(hsec:sec=(a.s||b.s||decide (fl=2)))(hfl:op≠19->op≠20->op≠15->fl=1)(hb0:op=10->b.s=false)(bH cH nH:Nat)(S:Nat->HS)(lH:nH<=1048576)(hq:21<=op->q<nH)(hh:Arr w bH (nH*3) (hsF S))(n0: -1000000<=imm)(n1:imm<=1000000)(n2:op=12∨op=13->0<=imm/\imm<=63)
 (hop:(1<=op/\op<=16)∨(19<=op/\op<=22)∨op=25∨op=26):
 Calls Tryz.prog 67 #[.agg #[.int .i64 op,.int .i64 d,.int .i64 ra,.int .i64 rb,.int .i64 imm,.int .i64 (q:Int)],.agg #[.int .i64 a.k,.bool a.s,.int .i64 a.m,.int .i64 a.h,.int .i64 a.lo,.int .i64 a.hi,.int .i64 b.k,.bool b.s,.int .i64 b.m,.int .i64 b.h,.int .i64 b.lo,.int .i64 b.hi,.int .i64 fl,.bool sec],.slice (some ⟨bH,0,none⟩) nH cH] w fun e w'=>e=.returned (trR op imm a b sec fl (S q)).v/\Below w.heap.size w w':=by
 have hop':op=1∨op=2∨op=3∨op=4∨op=5∨op=6∨op=7∨op=8∨op=9∨op=10∨op=11∨op=12∨op=13∨op=14∨op=15∨op=16∨op=19∨op=20∨op=21∨op=22∨op=25∨op=26:=by omega
 rcases hop' with rfl|rfl|rfl|rfl|rfl|rfl|rfl|rfl|rfl|rfl|rfl|rfl|rfl|rfl|rfl|rfl|rfl|rfl|rfl|rfl|rfl|rfl
 ·have h:=resultOf_1 d ra rb imm (q:Int) a b fl sec (.slice (some ⟨bH,0,none⟩) nH cH) w ha hb
  exact h
 ·have h:=resultOf_2 d ra rb imm (q:Int) a b fl sec (.slice (some ⟨bH,0,none⟩) nH cH) w ha hb
  exact h
 ·have h:=resultOf_3 d ra rb imm (q:Int) a b fl sec (.slice (some ⟨bH,0,none⟩) nH cH) w ha hb
  have f1:=hfl (by decide) (by decide) (by decide);have e:addV a b sec=resV 3 imm a b sec:=by rw[hsec,f1];simpa[resV]using same_add a b
  rw[e]at h;exact h
 ·have h:=resultOf_4 d ra rb imm (q:Int) a b fl sec (.slice (some ⟨bH,0,none⟩) nH cH) w ha hb
  exact h
 ·have h:=resultOf_5 d ra rb imm (q:Int) a b fl sec (.slice (some ⟨bH,0,none⟩) nH cH) w ha hb
  rw[same_mul (i:=imm) a b sec]at h;exact h
 ·have h:=resultOf_6 d ra rb imm (q:Int) a b fl sec (.slice (some ⟨bH,0,none⟩) nH cH) w ha hb
  rw[same_and (i:=imm) a b sec]at h;exact h
 ·have h:=resultOf_7 d ra rb imm (q:Int) a b fl sec (.slice (some ⟨bH,0,none⟩) nH cH) w ha hb
  rw[same_or (i:=imm) a b sec 7 (by decide)]at h;exact h
 ·have h:=resultOf_8 d ra rb imm (q:Int) a b fl sec (.slice (some ⟨bH,0,none⟩) nH cH) w ha hb
  rw[same_or (i:=imm) a b sec 8 (by decide)]at h;exact h
 ·have h:=resultOf_9 d ra rb imm (q:Int) a b fl sec (.slice (some ⟨bH,0,none⟩) nH cH) w ha hb
  exact h
 ·have h:=resultOf_10 d ra rb imm (q:Int) a b fl sec (.slice (some ⟨bH,0,none⟩) nH cH) w ha hb n0 n1
  have f1:=hfl (by decide) (by decide) (by decide);rw[same_mov a b sec (fun k=>by rw[hsec,pa k,hb0 rfl,f1];rfl)]at h;exact h
 ·have h:=resultOf_11 d ra rb imm (q:Int) a b fl sec (.slice (some ⟨bH,0,none⟩) nH cH) w ha hb
  rw[same_andi (i:=imm) a b sec]at h;exact h
 ·have h:=resultOf_12 d ra rb imm (q:Int) a b fl sec (.slice (some ⟨bH,0,none⟩) nH cH) w ha hb (n2 (by decide)).1 (n2 (by decide)).2
  rw[same_shl a b sec (n2 (by decide)).1]at h;exact h
 ·have h:=resultOf_13 d ra rb imm (q:Int) a b fl sec (.slice (some ⟨bH,0,none⟩) nH cH) w ha hb (n2 (by decide)).1 (n2 (by decide)).2
  rw[same_shr a b sec (n2 (by decide)).1 (n2 (by decide)).2]at h;exact h
 ·have h:=resultOf_14 d ra rb imm (q:Int) a b fl sec (.slice (some ⟨bH,0,none⟩) nH cH) w ha hb
  have f1:=hfl (by decide) (by decide) (by decide);have e:addV a b sec=resV 14 imm a b sec:=by rw[hsec,f1];simpa[resV]using same_add a b
  rw[e]at h;exact h
 ·have h:=resultOf_15 d ra rb imm (q:Int) a b fl sec (.slice (some ⟨bH,0,none⟩) nH cH) w ha hb
  rw[same_adc (i:=imm) a b sec]at h;exact h
 ·have h:=resultOf_16 d ra rb imm (q:Int) a b fl sec (.slice (some ⟨bH,0,none⟩) nH cH) w ha hb
  exact h
 ·have h:=resultOf_19 d ra rb imm (q:Int) a b fl sec (.slice (some ⟨bH,0,none⟩) nH cH) w ha hb
  rw[hsec,same_sel a b fl pa pb,<-hsec]at h;exact h
 ·have h:=resultOf_20 d ra rb imm (q:Int) a b fl sec (.slice (some ⟨bH,0,none⟩) nH cH) w ha hb
  rw[hsec,same_sel a b fl pa pb,<-hsec]at h;exact h
 ·exact resultOf_21 d ra rb imm a b fl sec w ha hb bH cH nH q S lH (hq (by decide)) hh
 ·exact resultOf_22 d ra rb imm a b fl sec w ha hb bH cH nH q S lH (hq (by decide)) hh
 ·exact resultOf_25 d ra rb imm a b fl sec w ha hb bH cH nH q S lH (hq (by decide)) hh
 ·exact resultOf_26 d ra rb imm a b fl sec w ha hb bH cH nH q S lH (hq (by decide)) hh
def wrB(op:Int):Bool:=bitB op 1&&!decide (op=23∨op=24∨op=27∨op=28)
def fgB(op:Int):Bool:=decide (14<=op/\op<=18)
theorem opA_good{V:Nat->VV}{op n:Int}{i:Nat}(g:goodB (V i) n=true):Bd (opA V op i)/\((opA V op i).k=1->(opA V op i).s=false)/\((opA V op i).k=1->0<=(opA V op i).h/\(opA V op i).h<n):=by
 unfold opA;split
 ·exact⟨bd_of_good g,pub_of_good g,heap_of_good g⟩
 ·exact⟨bd_zV,fun _=>rfl,fun h=>absurd h (by decide)⟩
theorem opB_good{V:Nat->VV}{op n:Int}{i:Nat}(g:goodB (V i) n=true):Bd (opB V op i)/\((opB V op i).k=1->(opB V op i).s=false):=by
 unfold opB;split
 ·exact⟨bd_of_good g,pub_of_good g⟩
 ·exact⟨bd_zV,fun _=>rfl⟩
theorem acc_ptr{op imm h:Int}{a b x:VV}{g:HS}(e:accI op imm h a b x g=0):a.k=1/\a.h=h:=by
 unfold accI at e;by_cases h1:a.k=1
 ·rw[if_neg (by simp[h1])]at e
  by_cases h2:a.h=h
  ·exact⟨h1,h2⟩
  ·rw[if_pos h2]at e;omega
 ·rw[if_pos h1]at e;omega
theorem wr_ops{op:Int}(o1:1<=op)(o28:op<=28)(h:wrB op=true):(1<=op/\op<=16)∨(19<=op/\op<=22)∨op=25∨op=26:=by
 rcases ops_1_28 o1 o28 with rfl|rfl|rfl|rfl|rfl|rfl|rfl|rfl|rfl|rfl|rfl|rfl|rfl|rfl|rfl|rfl|rfl|rfl|rfl|rfl|rfl|rfl|rfl|rfl|rfl|rfl|rfl|rfl;all_goals first|omega|(exfalso;revert h;decide)
theorem ref_acc{op fl:Int}{sec:Bool}{r:Int}(o21:21<=op)(o28:op<=28)(h:refI op fl sec r=0):r=0:=by
 unfold refI at h;by_cases h1:fl=0
 ·rw[if_pos h1]at h;omega
 ·rw[if_neg h1,if_neg (by omega),if_pos ⟨o21,o28⟩]at h;exact h
theorem after_all(V:Nat->VV)(z c:Int)(FA:Array Value)(hF:FA=facA V z c)(op imm:Int)(di ia ib q:Nat)(hd:di<8)(ha:ia<8)(hb:ib<8)(o1:1<=op)(o28:op<=28)(n0: -1000000<=imm)(n1:imm<=1000000)(n2:op=12∨op=13->0<=imm/\imm<=63)(bH cH nH:Nat)(S:Nat->HS)(lH:nH<=1048576)(G:∀i,i<8->goodB (V i) nH=true)(w:World)(hh:Arr w bH (nH*3) (hsF S)):
 Calls Tryz.prog 33 #[.agg FA,.agg #[.int .i64 op,.int .i64 (di:Int),.int .i64 (ia:Int),.int .i64 (ib:Int),.int .i64 imm,.int .i64 (q:Int)],.slice (some ⟨bH,0,none⟩) nH cH] w fun e w'=>e=.returned (aftT V z c di (trR op imm (opA V op ia) (opB V op ib) (secB V op z c ia ib) (opF op z c) (S q)) (refI op (opF op z c) (secB V op z c ia ib) (accI op imm (q:Int) (opA V op ia) (opB V op ib) (V di) (S q))) (wrB op) (fgB op) (secB V op z c ia ib))/\Below w.heap.size w w':=by
 obtain⟨bA,pA,hA⟩:=opA_good (op:=op) (G ia ha);obtain⟨bB,pB⟩:=opB_good (op:=op) (G ib hb);refine after_any V z c FA hF op (ia:Int) (ib:Int) imm (q:Int) di hd (opA V op ia) (opB V op ib) (opF op z c) (secB V op z c ia ib) (.slice (some ⟨bH,0,none⟩) nH cH) _ _ (wrB op) (fgB op) w ?_ ?_ ?_ rfl rfl
 ·intro w' _
  exact operandsOf_any V z c FA hF op (di:Int) imm (q:Int) ia ib ha hb o1 o28 w'
 ·intro w' hw'
  refine refusal_any V z c FA hF op (di:Int) (ia:Int) (ib:Int) imm (q:Int) _ _ _ _ _ _ w' (fun _ _ w'' hw''=>?_);have hb2:=hw'.trans (hw''.mono hw'.size);exact refAcc_any V z c FA hF op (ia:Int) (ib:Int) imm di q hd _ _ _ _ bH cH nH S w'' lH (fun k e=>by have:=hA k;omega) (hh.below hb2 hh.lt) bA bB n0 n1
 ·intro hr hw w' hw'
  refine resultOf_any op (di:Int) (ia:Int) (ib:Int) imm q _ _ _ _ w' bA bB pA pB rfl (fun h1 h2 h3=>?_) (fun h1=>?_) bH cH nH S lH (fun h21=>?_) (hh.below hw' hh.lt) n0 n1 n2 (wr_ops o1 o28 hw)
  ·unfold opF;rw[if_neg h1,if_neg (by omega)]
  ·subst h1;rfl
  ·have e:=acc_ptr (ref_acc h21 o28 hr)
   have:=hA e.1;omega
end Go.Proofs.YtbahofiiaodpdaaGreat
namespace Go.Proofs.YtbahofiiaodpdaaGreat
open Go.RowKit Go.Deep
def TrAns(w w':World)(e:Ending)(err:Int)(V:Nat->VV)(z c:Int):Prop:=
 (err≠0/\e=.returned (.agg #[.int .i64 err,.slice none 0 0,.int .i64 0,.int .i64 0]))∨(err=0/\∃g cg,w.heap.size<=g/\e=.returned (.agg #[.int .i64 0,.slice (some ⟨g,0,none⟩) 8 cg,.int .i64 z,.int .i64 c])/\Arr w' g (8*6) (vF V))
def trE(nH:Nat)(S:Nat->HS)(nR:Nat)(V0:Nat->VV)(nA:Nat)(V:Nat->VV)(z c op d ra rb imm h:Int):Int:=
 if absOK nH S nR V0 nA V z c=true/\implIns op d ra rb imm h=true/\op<=28 then refI op (opF op z c) (secB V op z c ra.toNat rb.toNat) (accI op imm h (opA V op ra.toNat) (opB V op rb.toNat) (V d.toNat) (S h.toNat))else 11
def trW(S:Nat->HS)(V:Nat->VV)(z c op d ra rb imm h:Int):Nat->VV:=
 if wrB op then updV V d.toNat (trR op imm (opA V op ra.toNat) (opB V op rb.toNat) (secB V op z c ra.toNat rb.toNat) (opF op z c) (S h.toNat))else V
def trZ(V:Nat->VV)(z c op ra rb x:Int):Int:=if fgB op then(if secB V op z c ra.toNat rb.toNat then 2 else 1)else x
structure ItP(w u:World)(bH nH cH bR nR cR bA nA cA:Nat)(z c op d ra rb imm h:Int):Prop where
 bel:Below w.heap.size w u
 S:Cl u w.heap.size [.slice (some ⟨bH,0,none⟩) nH cH,.slice (some ⟨bR,0,none⟩) nR cR]
 A:Cl u (w.heap.size+1) [.slice (some ⟨bA,0,none⟩) nA cA,.int .i64 z,.int .i64 c]
 I:Cl u (w.heap.size+1+1) [.int .i64 op,.int .i64 d,.int .i64 ra,.int .i64 rb,.int .i64 imm,.int .i64 h]
 R:Cl u (w.heap.size+1+1+1) [.int .i64 0,.slice none 0 0,.int .i64 0,.int .i64 0]
 RF:∀i,u.frozen? ⟨w.heap.size+1+1+1,i,none⟩=false
theorem ItP.below{w u v:World}{bH nH cH bR nR cR bA nA cA:Nat}{z c op d ra rb imm h:Int}(p:ItP w u bH nH cH bR nR cR bA nA cA z c op d ra rb imm h)(hb:Below u.heap.size u v):ItP w v bH nH cH bR nR cR bA nA cA z c op d ra rb imm h:=
 ⟨p.bel.trans (hb.mono p.bel.size),p.S.below hb,p.A.below hb,p.I.below hb,p.R.below hb,fun i=>(hb.frozen (p:=⟨w.heap.size+1+1+1,i,none⟩) p.R.1).trans (p.RF i)⟩
theorem it_pre(w:World)(bH nH cH bR nR cR bA nA cA:Nat){z c op d ra rb imm h:Int}:∃u,(((w.alloc (.cells #[.slice (some ⟨bH,0,none⟩) nH cH,.slice (some ⟨bR,0,none⟩) nR cR] 26)).alloc (.cells #[.slice (some ⟨bA,0,none⟩) nA cA,.int .i64 z,.int .i64 c] 28)).alloc (.cells #[.int .i64 op,.int .i64 d,.int .i64 ra,.int .i64 rb,.int .i64 imm,.int .i64 h] 30)).alloc (.cells #[.int .i64 0,.slice none 0 0,.int .i64 0,.int .i64 0] 34)=u/\ItP w u bH nH cH bR nR cR bA nA cA z c op d ra rb imm h:=by
 have e0:=Cl.new (w:=w) (vs:=#[.slice (some ⟨bH,0,none⟩) nH cH,.slice (some ⟨bR,0,none⟩) nR cR]) (t:=26);generalize hx:w.alloc (.cells #[.slice (some ⟨bH,0,none⟩) nH cH,.slice (some ⟨bR,0,none⟩) nR cR] 26)=x at *;have s0:x.heap.size=w.heap.size+1:=by rw[<-hx];simp
 have b0:Below w.heap.size w x:=by rw[<-hx];exact(Below.refl _ _).alloc (Nat.le_refl _) _
 clear hx;have e1:=Cl.new (w:=x) (vs:=#[.slice (some ⟨bA,0,none⟩) nA cA,.int .i64 z,.int .i64 c]) (t:=28);generalize hy:x.alloc (.cells #[.slice (some ⟨bA,0,none⟩) nA cA,.int .i64 z,.int .i64 c] 28)=y at *;have s1:y.heap.size=w.heap.size+1+1:=by rw[<-hy];simp[s0]
 have b1:Below x.heap.size x y:=by rw[<-hy];exact(Below.refl _ _).alloc (Nat.le_refl _) _
 clear hy;have e2:=Cl.new (w:=y) (vs:=#[.int .i64 op,.int .i64 d,.int .i64 ra,.int .i64 rb,.int .i64 imm,.int .i64 h]) (t:=30);generalize hz:y.alloc (.cells #[.int .i64 op,.int .i64 d,.int .i64 ra,.int .i64 rb,.int .i64 imm,.int .i64 h] 30)=v at *;have s2:v.heap.size=w.heap.size+1+1+1:=by rw[<-hz];simp[s1]
 have b2:Below y.heap.size y v:=by rw[<-hz];exact(Below.refl _ _).alloc (Nat.le_refl _) _
 clear hz;have e3:=Cl.new (w:=v) (vs:=#[.int .i64 0,.slice none 0 0,.int .i64 0,.int .i64 0]) (t:=34);have f3:∀i,(v.alloc (.cells #[.int .i64 0,.slice none 0 0,.int .i64 0,.int .i64 0] 34)).frozen? ⟨v.heap.size,i,none⟩=false:=fun i=>by simp[go_sem]
 have b3:Below v.heap.size v (v.alloc (.cells #[.int .i64 0,.slice none 0 0,.int .i64 0,.int .i64 0] 34)):=(Below.refl _ _).alloc (Nat.le_refl _) _;have c0:=(e0.below b1).below b2;have c1:=e1.below b2;rw[s0]at c1;rw[s1]at e2;rw[s2]at e3 f3;exact⟨_,rfl,((b0.trans (b1.mono (by omega))).trans (b2.mono (by omega))).trans (b3.mono (by omega)),c0.below b3,c1.below b3,e2.below b3,e3,f3⟩
theorem it_cells{w u:World}{bH nH cH bR nR cR bA nA cA:Nat}{z c op d ra rb imm h:Int}(p:ItP w u bH nH cH bR nR cR bA nA cA z c op d ra rb imm h):(u.cell? ⟨w.heap.size,0,none⟩=some (.slice (some ⟨bH,0,none⟩) nH cH)/\u.cell? ⟨w.heap.size,1,none⟩=some (.slice (some ⟨bR,0,none⟩) nR cR))/\(u.cell? ⟨w.heap.size+1,0,none⟩=some (.slice (some ⟨bA,0,none⟩) nA cA)/\u.cell? ⟨w.heap.size+1,1,none⟩=some (.int .i64 z)/\u.cell? ⟨w.heap.size+1,2,none⟩=some (.int .i64 c))/\(u.cell? ⟨w.heap.size+1+1+1,0,none⟩=some (.int .i64 0)/\u.cell? ⟨w.heap.size+1+1+1,1,none⟩=some (.slice none 0 0)/\u.cell? ⟨w.heap.size+1+1+1,2,none⟩=some (.int .i64 0)/\u.cell? ⟨w.heap.size+1+1+1,3,none⟩=some (.int .i64 0)):=
 ⟨⟨p.S.2 0 (by simp),p.S.2 1 (by simp)⟩,⟨p.A.2 0 (by simp),p.A.2 1 (by simp),p.A.2 2 (by simp)⟩,p.R.2 0 (by simp),p.R.2 1 (by simp),p.R.2 2 (by simp),p.R.2 3 (by simp)⟩
theorem aft_parts(V:Nat->VV)(z c:Int)(di:Nat)(R:VV)(r:Int)(wr fg sec:Bool):∃W zz cc,aftT V z c di R r wr fg sec=.tuple #[.agg (facA W zz cc),.int .i64 r]/\(r=0->W=(if wr then updV V di R else V)/\zz=(if fg then(if sec then 2 else 1)else z)/\cc=(if fg then(if sec then 2 else 1)else c)):=by
 unfold aftT;by_cases h:r=0
 ·rw[if_neg (by simp[h]),h]
  exact⟨_,_,_,rfl,fun _=>⟨rfl,rfl,rfl⟩⟩
 ·rw[if_pos h]
  exact⟨_,_,_,rfl,fun e=>absurd e h⟩
theorem ins_nats{op d ra rb imm h:Int}(e:implIns op d ra rb imm h=true)(o:op<=28):1<=op/\0<=d/\d<=7/\0<=ra/\ra<=7/\0<=rb/\rb<=7/\0<=h/\h<=7/\ -1000000<=imm/\imm<=1000000/\(op=12∨op=13->0<=imm/\imm<=63):=by
 unfold implIns at e;have f:∀(u:Bool)(v lo hi:Int),fieldB u v lo hi=true->(lo<=v/\v<=hi)∨v=0:=fun u v lo hi h=>by
  unfold fieldB inB at h;cases u<;>simp at h<;>omega
 simp only[Bool.and_eq_true]at e;obtain⟨⟨⟨⟨⟨e1,e2⟩,e3⟩,e4⟩,e5⟩,e6⟩:=e;have g1:1<=op:=by unfold inB at e1;simp at e1;omega
 have i1: -1000000<=immLo op/\immHi op<=1000000:=by unfold immLo immHi;(repeat' split)<;>omega
 have i2:op=12∨op=13->immLo op=0/\immHi op=63:=fun h=>by unfold immLo immHi;rw[if_pos (by omega),if_pos h];exact⟨rfl,rfl⟩
 have:=f _ _ _ _ e2;have:=f _ _ _ _ e3;have:=f _ _ _ _ e4;have:=f _ _ _ _ e5;have:=f _ _ _ _ e6;refine⟨g1,by omega,by omega,by omega,by omega,by omega,by omega,by omega,by omega,by omega,by omega,fun h=>?_⟩;have:=i2 h;omega
theorem good_regs{nH nR nA:Nat}{S:Nat->HS}{V0 V:Nat->VV}{z c:Int}(h:absOK nH S nR V0 nA V z c=true):nA=8/\nH<=8/\∀i,i<8->goodB (V i) nH=true:=by
 unfold absOK at h;simp only[Bool.and_eq_true]at h;obtain⟨⟨⟨hs,hg⟩,_⟩,_⟩:=h;have h8:=sig_le8 hs;unfold goodAll at hg;rw[Bool.and_eq_true]at hg;have hn:=of_decide_eq_true hg.1;refine⟨hn,h8,fun i hi=>?_⟩;have:=List.all_eq_true.1 hg.2 i (List.mem_range.2 (by omega));exact this
theorem implTransfer_any(bH cH nH:Nat)(S:Nat->HS)(bR cR nR:Nat)(V0:Nat->VV)(bA cA nA:Nat)(V:Nat->VV)(z c op d ra rb imm h:Int)(w:World)(lH:nH<=1048576)(lR:nR<=1048576)(lA:nA<=1048576)(h1:SigCp w bH nH S bR nR V0)(h2:Arr w bA (nA*6) (vF V)):
 Calls Tryz.prog 6 #[.agg #[.slice (some ⟨bH,0,none⟩) nH cH,.slice (some ⟨bR,0,none⟩) nR cR],.agg #[.slice (some ⟨bA,0,none⟩) nA cA,.int .i64 z,.int .i64 c],.agg #[.int .i64 op,.int .i64 d,.int .i64 ra,.int .i64 rb,.int .i64 imm,.int .i64 h]] w fun e w'=>TrAns w w' e (trE nH S nR V0 nA V z c op d ra rb imm h) (trW S V z c op d ra rb imm h) (trZ V z c op ra rb z) (trZ V z c op ra rb c)/\Below w.heap.size w w':=by
 have H1:Hid (SigCp w bH nH S bR nR V0):=h1
 have H2:Hid (Arr w bA (nA*6) (vF V)):=h2
 clear h1 h2
 obtain⟨err,herr⟩:∃x,trE nH S nR V0 nA V z c op d ra rb imm h=x:=⟨_,rfl⟩
 obtain⟨W1,hW1⟩:∃x,trW S V z c op d ra rb imm h=x:=⟨_,rfl⟩
 obtain⟨z1,hz1⟩:∃x,trZ V z c op ra rb z=x:=⟨_,rfl⟩
 obtain⟨c1,hc1⟩:∃x,trZ V z c op ra rb c=x:=⟨_,rfl⟩
 rw[herr,hW1,hz1,hc1]
 have HE:Hid (trE nH S nR V0 nA V z c op d ra rb imm h=err):=herr
 have HW1:Hid (trW S V z c op d ra rb imm h=W1):=hW1
 have HZ1:Hid (trZ V z c op ra rb z=z1):=hz1
 have HC1:Hid (trZ V z c op ra rb c=c1):=hc1
 clear herr hW1 hz1 hc1
 go_enter Tryz.func6,Tryz.ntmps6
 go_upto_region 1 with fail
 obtain⟨u,hu,pu⟩:=it_pre w bH nH cH bR nR cR bA nA cA (z:=z) (c:=c) (op:=op) (d:=d) (ra:=ra) (rb:=rb) (imm:=imm) (h:=h)
 rw[hu]
 have P0:Hid (ItP w u bH nH cH bR nR cR bA nA cA z c op d ra rb imm h):=pu
 clear hu pu
 obtain⟨⟨s0,s1⟩,⟨a0,a1,a2⟩,r0,r1,r2,r3⟩:=it_cells P0.out
 obtain⟨i0,i1,i2,i3,i4,i5⟩:=ins_cells P0.out.I
 have rf:=P0.out.RF
 have rl:=P0.out.R.1
 go_wp2_with fail
 refine(implAbs_any bH cH nH S bR cR nR V0 bA cA nA V z c u lH lR lA (H1.out.below P0.out.bel) (H2.out.below P0.out.bel H2.out.lt)).mono ?_
 rintro e u1⟨rfl,hb⟩
 have P1:Hid (ItP w u1 bH nH cH bR nR cR bA nA cA z c op d ra rb imm h):=P0.out.below hb
 clear hb P0
 clear s0 s1 a0 a1 a2 r0 r1 r2 r3 i0 i1 i2 i3 i4 i5 rf rl
 cases hok:absOK nH S nR V0 nA V z c with
 |false=>
  obtain⟨⟨s0,s1⟩,⟨a0,a1,a2⟩,r0,r1,r2,r3⟩:=it_cells P1.out
  obtain⟨i0,i1,i2,i3,i4,i5⟩:=ins_cells P1.out.I
  have rf:=P1.out.RF
  have rl:=P1.out.R.1
  go_wp2
  refine bodyPost_ret (v:=.agg #[.int .i64 11,.slice none 0 0,.int .i64 0,.int .i64 0]) (by simp[results,Tryz.results6,go_sem, *]) rfl ⟨Or.inl ⟨?_,?_⟩,?_⟩
  ·rw[<-HE.out,trE,if_neg (fun x=>by rw[hok]at x;exact absurd x.1 (by decide))];decide
  ·rw[<-HE.out,trE,if_neg (fun x=>by rw[hok]at x;exact absurd x.1 (by decide))]
  ·(iterate 4 refine Below.setCell ?_ (show w.heap.size<=w.heap.size+1+1+1 by omega) _)
   exact P1.out.bel
 |true=>
 have HOK:Hid (absOK nH S nR V0 nA V z c=true):=hok
 clear hok
 obtain⟨⟨s0,s1⟩,⟨a0,a1,a2⟩,r0,r1,r2,r3⟩:=it_cells P1.out
 obtain⟨i0,i1,i2,i3,i4,i5⟩:=ins_cells P1.out.I
 have rf:=P1.out.RF
 have rl:=P1.out.R.1
 go_wp2_with fail
 refine(implIns_any op d ra rb imm h _).mono ?_
 rintro e u2⟨rfl,hb⟩
 have P2:Hid (ItP w u2 bH nH cH bR nR cR bA nA cA z c op d ra rb imm h):=P1.out.below hb
 clear hb P1
 clear s0 s1 a0 a1 a2 r0 r1 r2 r3 i0 i1 i2 i3 i4 i5 rf rl
 cases hik:implIns op d ra rb imm h with
 |false=>
  obtain⟨⟨s0,s1⟩,⟨a0,a1,a2⟩,r0,r1,r2,r3⟩:=it_cells P2.out
  obtain⟨i0,i1,i2,i3,i4,i5⟩:=ins_cells P2.out.I
  have rf:=P2.out.RF
  have rl:=P2.out.R.1
  go_wp2
  refine bodyPost_ret (v:=.agg #[.int .i64 11,.slice none 0 0,.int .i64 0,.int .i64 0]) (by simp[results,Tryz.results6,go_sem, *]) rfl ⟨Or.inl ⟨?_,?_⟩,?_⟩
  ·rw[<-HE.out,trE,if_neg (fun x=>by rw[hik]at x;exact absurd x.2.1 (by decide))];decide
  ·rw[<-HE.out,trE,if_neg (fun x=>by rw[hik]at x;exact absurd x.2.1 (by decide))]
  ·(iterate 4 refine Below.setCell ?_ (show w.heap.size<=w.heap.size+1+1+1 by omega) _)
   exact P2.out.bel
 |true=>
 have HIK:Hid (implIns op d ra rb imm h=true):=hik
 clear hik
 by_cases c28:op<=28
 rotate_left
 ·have e28:decide (op>28)=true:=by simp;omega
  have e28':decide (28<op)=true:=by simp;omega
  obtain⟨⟨s0,s1⟩,⟨a0,a1,a2⟩,r0,r1,r2,r3⟩:=it_cells P2.out
  obtain⟨i0,i1,i2,i3,i4,i5⟩:=ins_cells P2.out.I
  have rf:=P2.out.RF
  have rl:=P2.out.R.1
  go_wp2
  refine bodyPost_ret (v:=.agg #[.int .i64 11,.slice none 0 0,.int .i64 0,.int .i64 0]) (by simp[results,Tryz.results6,go_sem, *]) rfl ⟨Or.inl ⟨?_,?_⟩,?_⟩
  ·rw[<-HE.out,trE,if_neg (fun x=>by have:=x.2.2;omega)];decide
  ·rw[<-HE.out,trE,if_neg (fun x=>by have:=x.2.2;omega)]
  ·(iterate 4 refine Below.setCell ?_ (show w.heap.size<=w.heap.size+1+1+1 by omega) _)
   exact P2.out.bel
 have e28:decide (28<op)=false:=by simp;omega
 obtain⟨rfl,h8,G⟩:=good_regs HOK.out
 obtain⟨o1,d0,d7,ra0,ra7,rb0,rb7,h0,h7,n0,n1,n2⟩:=ins_nats HIK.out c28
 obtain⟨di,rfl⟩:∃k:Nat,d=(k:Int):=⟨d.toNat,by omega⟩
 obtain⟨ia,rfl⟩:∃k:Nat,ra=(k:Int):=⟨ra.toNat,by omega⟩
 obtain⟨ib,rfl⟩:∃k:Nat,rb=(k:Int):=⟨rb.toNat,by omega⟩
 obtain⟨q,rfl⟩:∃k:Nat,h=(k:Int):=⟨h.toNat,by omega⟩
 have HG:Hid (∀i,i<8->goodB (V i) nH=true):=G
 have HN2:Hid (op=12∨op=13->0<=imm/\imm<=63):=n2
 clear G n2
 obtain⟨FA,hFA⟩:∃x,facA V z c=x:=⟨_,rfl⟩
 have HF:Hid (facA V z c=FA):=hFA
 clear hFA
 obtain⟨Z0,hZ0⟩:∃x,facA (fun _=>zV) 0 0=x:=⟨_,rfl⟩
 have HZ:Hid (facA (fun _=>zV) 0 0=Z0):=hZ0
 clear hZ0
 have hrr:trE nH S nR V0 8 V z c op (di:Int) (ia:Int) (ib:Int) imm (q:Int)=refI op (opF op z c) (secB V op z c ia ib) (accI op imm (q:Int) (opA V op ia) (opB V op ib) (V di) (S q)):=by rw[trE,if_pos ⟨HOK.out,HIK.out,c28⟩];rfl
 obtain⟨W,zz,cc,hT,hW⟩:=aft_parts V z c di (trR op imm (opA V op ia) (opB V op ib) (secB V op z c ia ib) (opF op z c) (S q)) (refI op (opF op z c) (secB V op z c ia ib) (accI op imm (q:Int) (opA V op ia) (opB V op ib) (V di) (S q))) (wrB op) (fgB op) (secB V op z c ia ib)
 rw[<-hrr,HE.out]at hT hW
 have HRR:Hid (_=err):=hrr.symm.trans HE.out
 clear hrr
 have HT:Hid _:=hT
 have HWW:Hid (err=0->W=trW S V z c op (di:Int) (ia:Int) (ib:Int) imm (q:Int)/\zz=trZ V z c op (ia:Int) (ib:Int) z/\cc=trZ V z c op (ia:Int) (ib:Int) c):=hW
 clear hT hW
 obtain⟨FB,hFB⟩:∃x,facA W zz cc=x:=⟨_,rfl⟩
 have HFB:Hid (facA W zz cc=FB):=hFB
 clear hFB
 obtain⟨⟨s0,s1⟩,⟨a0,a1,a2⟩,r0,r1,r2,r3⟩:=it_cells P2.out
 obtain⟨i0,i1,i2,i3,i4,i5⟩:=ins_cells P2.out.I
 have rf:=P2.out.RF
 have rl:=P2.out.R.1
 go_upto_region 3 with fail
 clear s0 s1 a0 a1 a2 r0 r1 r2 r3 i0 i1 i2 i3 i4 i5 rf rl
 have s0:∀w',Below u2.heap.size u2 w'->w'.cell? ⟨w.heap.size,0,none⟩=some (.slice (some ⟨bH,0,none⟩) nH cH):=fun w' h=>(P2.out.S.below h).2 0 (by simp)
 have a0:∀w',Below u2.heap.size u2 w'->w'.cell? ⟨w.heap.size+1,0,none⟩=some (.slice (some ⟨bA,0,none⟩) 8 cA):=fun w' h=>(P2.out.A.below h).2 0 (by simp)
 have a1:∀w',Below u2.heap.size u2 w'->w'.cell? ⟨w.heap.size+1,1,none⟩=some (.int .i64 z):=fun w' h=>(P2.out.A.below h).2 1 (by simp)
 have a2:∀w',Below u2.heap.size u2 w'->w'.cell? ⟨w.heap.size+1,2,none⟩=some (.int .i64 c):=fun w' h=>(P2.out.A.below h).2 2 (by simp)
 have i0:∀w',Below u2.heap.size u2 w'->w'.cell? ⟨w.heap.size+1+1,0,none⟩=some (.int .i64 op):=fun w' h=>(P2.out.I.below h).2 0 (by simp)
 have i1:∀w',Below u2.heap.size u2 w'->w'.cell? ⟨w.heap.size+1+1,1,none⟩=some (.int .i64 (di:Int)):=fun w' h=>(P2.out.I.below h).2 1 (by simp)
 have i2:∀w',Below u2.heap.size u2 w'->w'.cell? ⟨w.heap.size+1+1,2,none⟩=some (.int .i64 (ia:Int)):=fun w' h=>(P2.out.I.below h).2 2 (by simp)
 have i3:∀w',Below u2.heap.size u2 w'->w'.cell? ⟨w.heap.size+1+1,3,none⟩=some (.int .i64 (ib:Int)):=fun w' h=>(P2.out.I.below h).2 3 (by simp)
 have i4:∀w',Below u2.heap.size u2 w'->w'.cell? ⟨w.heap.size+1+1,4,none⟩=some (.int .i64 imm):=fun w' h=>(P2.out.I.below h).2 4 (by simp)
 have i5:∀w',Below u2.heap.size u2 w'->w'.cell? ⟨w.heap.size+1+1,5,none⟩=some (.int .i64 (q:Int)):=fun w' h=>(P2.out.I.below h).2 5 (by simp)
 go_cut [7,8](fun s7 s8 wx=>∃nb:Nat,s7=.pointer (some ⟨nb,0,none⟩)/\s8=.int .i64 err/\Below u2.heap.size u2 wx/\u2.heap.size<=nb/\Arr wx nb 50 (fF W zz cc))
 case first=>
  refine wp_region_held_drew (S:=fun w'=>Below u2.heap.size u2 w') (by kernel_rfl) (Below.refl _ _).drew (fun hd0=>?_)
  generalize u2.drew=v0 at hd0⊢
  refine wpAnyH_ta 0 rfl ?_
  refine wpAnyH_ta 2 rfl ?_
  refine wpAnyH_ta 3 rfl ?_
  refine wpAnyH_ta 4 rfl ?_
  refine wpAnyH_ready (rs:=[1,9]) (by kernel_rfl) (by simp) ?_
  refine AllReadyH.cons rfl (fun KK hK=>?_) (AllReadyH.cons rfl (fun KK hK=>?_) AllReadyH.nil)
  ·go_simp
   refine(factsOf_any bA cA V z c _ ((H2.out.below P2.out.bel H2.out.lt).below hd0 (Nat.lt_of_lt_of_le H2.out.lt P2.out.bel.size))).mono ?_
   rintro e v1⟨rfl,hb⟩
   have Bv1:Below u2.heap.size u2 v1:=hd0.trans (hb.mono hd0.size)
   rw[HF.out]
   go_wp2_with fail
   refine hK.out _ _ Bv1 (fun hHeld=>?_)
   clear hK KK
   try simp only[Act.put,List.getElem_toArray,List.getElem_cons_zero,List.getElem_cons_succ,List.setIfInBounds_toArray,List.set_cons_zero,List.set_cons_succ]
   refine wpAnyH_ready (rs:=[5,9]) (by kernel_rfl) (by simp) ?_
   refine AllReadyH.cons rfl (fun KK hK=>?_) (AllReadyH.cons rfl (fun KK hK=>?_) AllReadyH.nil)
   ·go_simp
    refine(after_all V z c FA HF.out.symm op imm di ia ib q (by omega) (by omega) (by omega) o1 c28 n0 n1 HN2.out bH cH nH S lH HG.out _ ((H1.out.h.below P2.out.bel H1.out.h.lt).below Bv1 (Nat.lt_of_lt_of_le H1.out.h.lt P2.out.bel.size))).mono ?_
    rintro e v2⟨rfl,hb⟩
    have Bv2:Below u2.heap.size u2 v2:=Bv1.trans (hb.mono Bv1.size)
    rw[HRR.out,HT.out,HFB.out]
    go_wp2_with fail
    refine hK.out _ _ Bv2 (fun hHeld=>?_)
    clear hK KK
    try simp only[Act.put,List.getElem_toArray,List.getElem_cons_zero,List.getElem_cons_succ,List.setIfInBounds_toArray,List.set_cons_zero,List.set_cons_succ]
    refine wpAnyH_ta 6 rfl ?_
    refine wpAnyH_ta 7 rfl ?_
    refine wpAnyH_ta 8 rfl ?_
    refine wpAnyH_ready (rs:=[9]) (by kernel_rfl) (by simp) ?_
    refine AllReadyH.cons rfl (fun KK hK=>?_) AllReadyH.nil
    go_simp
    rw[zero_fac,HZ.out]
    obtain⟨v3,hx,Bv3,Av3⟩:∃x,v2.alloc (.cells Z0 70)=x/\Below u2.heap.size u2 x/\Arr x v2.heap.size 50 (fF (fun _=>zV) 0 0):=⟨_,rfl,Bv2.alloc Bv2.size _,by rw[<-HZ.out];exact Arr.newFirst v2 50 _ _⟩
    rw[hx]
    clear hx
    have Nv3:u2.heap.size<=v2.heap.size:=Bv2.size
    generalize v2.heap.size=nb at *
    have lv3:=Av3.lt
    refine hK.out _ _ Bv3 (fun hHeld=>?_)
    clear hK KK
    try simp only[Act.put,List.getElem_toArray,List.getElem_cons_zero,List.getElem_cons_succ,List.setIfInBounds_toArray,List.set_cons_zero,List.set_cons_succ]
    refine wpAnyH_ready (rs:=[10]) (by kernel_rfl) (by simp) ?_
    refine AllReadyH.cons rfl (fun KK hK=>?_) AllReadyH.nil
    refine if_in (by kernel_rfl) ?_
    refine wpL_store_facts (.tmp 7) (.tmp 31) rfl nb W (fun _=>zV) zz cc 0 0 rfl FB HFB.out.symm rfl Av3 ?_
    intro w' hA hb _
    have B9:Below u2.heap.size u2 w':=Bv3.trans (hb.mono Nv3)
    refine hK.out _ _ B9 (fun hHeld=>?_)
    clear hK KK
    simp only[Act.put,List.getElem_toArray,List.getElem_cons_zero,List.getElem_cons_succ]
    refine wpAnyH_ta 11 rfl ?_
    refine wpAnyH_done (by kernel_rfl) ?_ _
    clear s0 a0 a1 a2 i0 i1 i2 i3 i4 i5
    go_wp2_with fail
    go_meet
    exact⟨nb,rfl,rfl,B9,Nv3,hA⟩
   ·go_simp
    rw[zero_fac,HZ.out]
    obtain⟨v4,hx,Bv4,Av4⟩:∃x,v1.alloc (.cells Z0 70)=x/\Below u2.heap.size u2 x/\Arr x v1.heap.size 50 (fF (fun _=>zV) 0 0):=⟨_,rfl,Bv1.alloc Bv1.size _,by rw[<-HZ.out];exact Arr.newFirst v1 50 _ _⟩
    rw[hx]
    clear hx
    have Nv4:u2.heap.size<=v1.heap.size:=Bv1.size
    generalize v1.heap.size=nb at *
    have lv4:=Av4.lt
    refine hK.out _ _ Bv4 (fun hHeld=>?_)
    clear hK KK
    try simp only[Act.put,List.getElem_toArray,List.getElem_cons_zero,List.getElem_cons_succ,List.setIfInBounds_toArray,List.set_cons_zero,List.set_cons_succ]
    refine wpAnyH_ready (rs:=[5]) (by kernel_rfl) (by simp) ?_
    refine AllReadyH.cons rfl (fun KK hK=>?_) AllReadyH.nil
    go_simp
    refine(after_all V z c FA HF.out.symm op imm di ia ib q (by omega) (by omega) (by omega) o1 c28 n0 n1 HN2.out bH cH nH S lH HG.out _ ((H1.out.h.below P2.out.bel H1.out.h.lt).below Bv4 (Nat.lt_of_lt_of_le H1.out.h.lt P2.out.bel.size))).mono ?_
    rintro e v5⟨rfl,hb⟩
    have Bv5:Below u2.heap.size u2 v5:=Bv4.trans (hb.mono Bv4.size)
    rw[HRR.out,HT.out,HFB.out]
    go_wp2_with fail
    refine hK.out _ _ Bv5 (fun hHeld=>?_)
    clear hK KK
    try simp only[Act.put,List.getElem_toArray,List.getElem_cons_zero,List.getElem_cons_succ,List.setIfInBounds_toArray,List.set_cons_zero,List.set_cons_succ]
    have AA:=Av4.below hb Av4.lt
    refine wpAnyH_ta 6 rfl ?_
    refine wpAnyH_ta 7 rfl ?_
    refine wpAnyH_ta 8 rfl ?_
    refine wpAnyH_ready (rs:=[10]) (by kernel_rfl) (by simp) ?_
    refine AllReadyH.cons rfl (fun KK hK=>?_) AllReadyH.nil
    refine if_in (by kernel_rfl) ?_
    refine wpL_store_facts (.tmp 7) (.tmp 31) rfl nb W (fun _=>zV) zz cc 0 0 rfl FB HFB.out.symm rfl AA ?_
    intro w' hA hb _
    have B9:Below u2.heap.size u2 w':=Bv5.trans (hb.mono Nv4)
    refine hK.out _ _ B9 (fun hHeld=>?_)
    clear hK KK
    simp only[Act.put,List.getElem_toArray,List.getElem_cons_zero,List.getElem_cons_succ]
    refine wpAnyH_ta 11 rfl ?_
    refine wpAnyH_done (by kernel_rfl) ?_ _
    clear s0 a0 a1 a2 i0 i1 i2 i3 i4 i5
    go_wp2_with fail
    go_meet
    exact⟨nb,rfl,rfl,B9,Nv4,hA⟩
  ·go_simp
   rw[zero_fac,HZ.out]
   obtain⟨v6,hx,Bv6,Av6⟩:∃x,v0.alloc (.cells Z0 70)=x/\Below u2.heap.size u2 x/\Arr x v0.heap.size 50 (fF (fun _=>zV) 0 0):=⟨_,rfl,hd0.alloc hd0.size _,by rw[<-HZ.out];exact Arr.newFirst v0 50 _ _⟩
   rw[hx]
   clear hx
   have Nv6:u2.heap.size<=v0.heap.size:=hd0.size
   generalize v0.heap.size=nb at *
   have lv6:=Av6.lt
   refine hK.out _ _ Bv6 (fun hHeld=>?_)
   clear hK KK
   try simp only[Act.put,List.getElem_toArray,List.getElem_cons_zero,List.getElem_cons_succ,List.setIfInBounds_toArray,List.set_cons_zero,List.set_cons_succ]
   refine wpAnyH_ready (rs:=[1]) (by kernel_rfl) (by simp) ?_
   refine AllReadyH.cons rfl (fun KK hK=>?_) AllReadyH.nil
   go_simp
   refine(factsOf_any bA cA V z c _ ((H2.out.below P2.out.bel H2.out.lt).below Bv6 (Nat.lt_of_lt_of_le H2.out.lt P2.out.bel.size))).mono ?_
   rintro e v7⟨rfl,hb⟩
   have Bv7:Below u2.heap.size u2 v7:=Bv6.trans (hb.mono Bv6.size)
   rw[HF.out]
   go_wp2_with fail
   refine hK.out _ _ Bv7 (fun hHeld=>?_)
   clear hK KK
   try simp only[Act.put,List.getElem_toArray,List.getElem_cons_zero,List.getElem_cons_succ,List.setIfInBounds_toArray,List.set_cons_zero,List.set_cons_succ]
   have AA:=Av6.below hb Av6.lt
   clear hb
   refine wpAnyH_ready (rs:=[5]) (by kernel_rfl) (by simp) ?_
   refine AllReadyH.cons rfl (fun KK hK=>?_) AllReadyH.nil
   go_simp
   refine(after_all V z c FA HF.out.symm op imm di ia ib q (by omega) (by omega) (by omega) o1 c28 n0 n1 HN2.out bH cH nH S lH HG.out _ ((H1.out.h.below P2.out.bel H1.out.h.lt).below Bv7 (Nat.lt_of_lt_of_le H1.out.h.lt P2.out.bel.size))).mono ?_
   rintro e v8⟨rfl,hb⟩
   have Bv8:Below u2.heap.size u2 v8:=Bv7.trans (hb.mono Bv7.size)
   rw[HRR.out,HT.out,HFB.out]
   go_wp2_with fail
   refine hK.out _ _ Bv8 (fun hHeld=>?_)
   clear hK KK
   try simp only[Act.put,List.getElem_toArray,List.getElem_cons_zero,List.getElem_cons_succ,List.setIfInBounds_toArray,List.set_cons_zero,List.set_cons_succ]
   have AB:=AA.below hb AA.lt
   refine wpAnyH_ta 6 rfl ?_
   refine wpAnyH_ta 7 rfl ?_
   refine wpAnyH_ta 8 rfl ?_
   refine wpAnyH_ready (rs:=[10]) (by kernel_rfl) (by simp) ?_
   refine AllReadyH.cons rfl (fun KK hK=>?_) AllReadyH.nil
   refine if_in (by kernel_rfl) ?_
   refine wpL_store_facts (.tmp 7) (.tmp 31) rfl nb W (fun _=>zV) zz cc 0 0 rfl FB HFB.out.symm rfl AB ?_
   intro w' hA hb _
   have B9:Below u2.heap.size u2 w':=Bv8.trans (hb.mono Nv6)
   refine hK.out _ _ B9 (fun hHeld=>?_)
   clear hK KK
   simp only[Act.put,List.getElem_toArray,List.getElem_cons_zero,List.getElem_cons_succ]
   refine wpAnyH_ta 11 rfl ?_
   refine wpAnyH_done (by kernel_rfl) ?_ _
   clear s0 a0 a1 a2 i0 i1 i2 i3 i4 i5
   go_wp2_with fail
   go_meet
   exact⟨nb,rfl,rfl,B9,Nv6,hA⟩
 clear s0 a0 a1 a2 i0 i1 i2 i3 i4 i5
 case rest=>
  obtain⟨nb,rfl,rfl,hb,hnb,hA⟩:=hcut
  have P3:Hid (ItP w wc bH nH cH bR nR cR bA 8 cA z c op (di:Int) (ia:Int) (ib:Int) imm (q:Int)):=P2.out.below hb
  have HA3:Hid (Arr wc nb 50 (fF W zz cc)):=hA
  clear hb hA P2 hnb
  obtain⟨⟨s0,s1⟩,⟨a0,a1,a2⟩,r0,r1,r2,r3⟩:=it_cells P3.out
  obtain⟨i0,i1,i2,i3,i4,i5⟩:=ins_cells P3.out.I
  have rf:=P3.out.RF
  have rl:=P3.out.R.1
  by_cases he:err=0
  rotate_left
  ·have ee:(err !=0)=true:=by simp[he]
   have HNE:Hid (err≠0):=he
   clear he
   go_wp2
   refine bodyPost_ret (v:=.agg #[.int .i64 err,.slice none 0 0,.int .i64 0,.int .i64 0]) (by simp[results,Tryz.results6,go_sem, *]) rfl ⟨Or.inl ⟨HNE.out,rfl⟩,?_⟩
   (iterate 4 refine Below.setCell ?_ (show w.heap.size<=w.heap.size+1+1+1 by omega) _)
   exact P3.out.bel
  have ee:(err !=0)=false:=by simp[he]
  have HEQ:Hid (err=0):=he
  clear he
  go_wp2_with(refine wpList_load_facts rfl (.tmp 7) rfl nb rfl W zz cc FB HFB.out.symm HA3.out ?_)
  refine(absOf_any W zz cc FB HFB.out.symm wc).mono ?_
  rintro e u4⟨g,cg,hg,rfl,hb,hA⟩
  have P4:Hid (ItP w u4 bH nH cH bR nR cR bA 8 cA z c op (di:Int) (ia:Int) (ib:Int) imm (q:Int)):=P3.out.below hb
  have HA4:Hid (Arr u4 g (8*6) (vF W)):=hA
  have hg4:w.heap.size+1+1+1<g:=Nat.lt_of_lt_of_le P3.out.R.1 hg
  clear hb hA hg P3 HA3
  clear s0 s1 a0 a1 a2 r0 r1 r2 r3 i0 i1 i2 i3 i4 i5 rf rl
  obtain⟨⟨s0,s1⟩,⟨a0,a1,a2⟩,r0,r1,r2,r3⟩:=it_cells P4.out
  obtain⟨i0,i1,i2,i3,i4,i5⟩:=ins_cells P4.out.I
  have rf:=P4.out.RF
  have rl:=P4.out.R.1
  go_wp2
  refine bodyPost_ret (v:=.agg #[.int .i64 0,.slice (some ⟨g,0,none⟩) 8 cg,.int .i64 zz,.int .i64 cc]) (by simp[results,Tryz.results6,go_sem, *]) rfl ⟨Or.inr ⟨HEQ.out,g,cg,by omega,?_,?_⟩,?_⟩
  ·rw[(HWW.out HEQ.out).2.1,(HWW.out HEQ.out).2.2,HZ1.out,HC1.out]
  ·rw[<-HW1.out,<-(HWW.out HEQ.out).1]
   iterate 4 refine Arr.other ?_ (by simp;omega) _
   exact HA4.out
  ·(iterate 4 refine Below.setCell ?_ (show w.heap.size<=w.heap.size+1+1+1 by omega) _)
   exact P4.out.bel
end Go.Proofs.YtbahofiiaodpdaaGreat
