import Derived.Test.YtpbceodheeepoaaGreatMem
import Derived.Test.YtpbceodheeepoaaGreatRows
import Derived.WalkKit
import Derived.WalkSpells
import Derived.WalkLawsBesides
import Derived.Deep.Cut
import Derived.Test.YtpbceodheeepoaaGreatOfCoreF
set_option maxHeartbeats 1000000
set_option maxRecDepth 20000
namespace Go.Proofs.YtpbceodheeepoaaGreat
open Go.RowKit
theorem grown_set{w w1:World}{r:Option Nat}(h:w.grownBy w1 r){a:Addr}(ha:w.heap.size<=a.block)(v:Value):w.grownBy (w1.setCell a v) r:=
 ⟨h.os,h.tape,h.output,by simpa using h.size,fun k hk hne=>(heap_setCell_other _ _ _ _ (by omega)).trans (h.block k hk hne)⟩
theorem row_type{w:World}{base e size n cap g:Nat}{xs:List Value}(h:w.ownsRow base e size (.slice (some ⟨g,0,none⟩) n cap) n xs):∃cur,w.heap[g]?=some (.cells cur e (0,0)):=by
 rcases h.2 with⟨q,_⟩|⟨g',cap',cur,q,_,hg,_⟩
 ·cases q
 ·simp only[Value.slice.injEq,Option.some.injEq,Addr.mk.injEq,and_true,true_and]at q
  rw[q.1];exact⟨cur,hg⟩
theorem l1Fault_any(aR:Option Addr)(nR cR:Nat)(z c hz hc:Bool)(aH:Option Addr)(nH cH:Nat)(pc st:Int)(aO:Option Addr)(nO cO:Nat)(w:World):
 Calls Tryz.prog 71 #[.agg #[.slice aR nR cR,.bool z,.bool c,.bool hz,.bool hc,.slice aH nH cH,.int .i64 pc,.int .i64 st,.slice aO nO cO]] w fun e w'=>
  e=.returned (.agg #[.slice aR nR cR,.bool z,.bool c,.bool hz,.bool hc,.slice aH nH cH,.int .i64 pc,.int .i64 2,.slice aO nO cO])/\Below w.heap.size w w':=by
 go_enter Tryz.func71,Tryz.ntmps71;go_wp2;refine bodyPost_ret (v:=.agg #[.slice aR nR cR,.bool z,.bool c,.bool hz,.bool hc,.slice aH nH cH,.int .i64 pc,.int .i64 2,.slice aO nO cO]) (by simp[results,Tryz.results71,go_sem]) rfl ⟨rfl,?_⟩;repeat'(first|exact(Below.refl _ _).alloc (Nat.le_refl _) _|refine Below.setCell ?_ (by simp) _|refine Below.alloc ?_ (by simp) _)
theorem l1SetFlags_any(aR:Option Addr)(nR cR:Nat)(z c hz hc:Bool)(aH:Option Addr)(nH cH:Nat)(pc st:Int)(aO:Option Addr)(nO cO:Nat)(d:Int)(k:Bool)(w:World):
 Calls Tryz.prog 126 #[.agg #[.slice aR nR cR,.bool z,.bool c,.bool hz,.bool hc,.slice aH nH cH,.int .i64 pc,.int .i64 st,.slice aO nO cO],.int .u64 d,.bool k] w fun e w'=>
  e=.returned (.agg #[.slice aR nR cR,.bool (decide (d=0)),.bool k,.bool true,.bool true,.slice aH nH cH,.int .i64 pc,.int .i64 st,.slice aO nO cO])/\Below w.heap.size w w':=by
 go_enter Tryz.func126,Tryz.ntmps126;go_wp2;refine bodyPost_ret (v:=.agg #[.slice aR nR cR,.bool (decide (d=0)),.bool k,.bool true,.bool true,.slice aH nH cH,.int .i64 pc,.int .i64 st,.slice aO nO cO]) (by simp[results,Tryz.results126,go_sem];rfl) rfl ⟨rfl,?_⟩;repeat'(first|exact(Below.refl _ _).alloc (Nat.le_refl _) _|refine Below.setCell ?_ (by simp) _|refine Below.alloc ?_ (by simp) _)
theorem l1Cond_any(aR:Option Addr)(nR cR:Nat)(z c hz hc:Bool)(aH:Option Addr)(nH cH:Nat)(pc st:Int)(aO:Option Addr)(nO cO:Nat)(k:Int)(w:World):
 Calls Tryz.prog 72 #[.agg #[.slice aR nR cR,.bool z,.bool c,.bool hz,.bool hc,.slice aH nH cH,.int .i64 pc,.int .i64 st,.slice aO nO cO],.int .i64 k] w fun e w'=>
  e=.returned (.tuple (if k<=2 then#[.bool hz,.bool (z==decide (k=1))]else#[.bool hc,.bool (c==decide (k=3))]))/\Below w.heap.size w w':=by
 go_enter Tryz.func72,Tryz.ntmps72;by_cases hk:k<=2
 ·go_wp2
  go_region;all_goals
   go_wp2;refine bodyPost_ret (v:=_) (by simp[results,Tryz.results72,go_sem];rfl) rfl ⟨by simp;rfl,((Below.refl _ _).alloc (Nat.le_refl _) _).drew⟩
 ·go_wp2
  go_region;all_goals
   go_wp2;refine bodyPost_ret (v:=_) (by simp[results,Tryz.results72,go_sem];rfl) rfl ⟨by simp;rfl,((Below.refl _ _).alloc (Nat.le_refl _) _).drew⟩
theorem l1See_any(base:Nat)(xs:List Value)(aR:Option Addr)(nR cR:Nat)(z c hz hc:Bool)(aH:Option Addr)(nH cH:Nat)(pc st:Int)(aO:Option Addr)(n cO:Nat)(kind val:Int)(w:World)(hn:n<=1048576)(hbase:base<=w.heap.size)(hown:w.ownsRow base 77 2 (.slice aO n cO) n xs):
 Calls Tryz.prog 73 #[.agg #[.slice aR nR cR,.bool z,.bool c,.bool hz,.bool hc,.slice aH nH cH,.int .i64 pc,.int .i64 st,.slice aO n cO],.int .i64 kind,.int .u64 val] w fun e w'=>
  ∃g cap,e=.returned (.agg #[.slice aR nR cR,.bool z,.bool c,.bool hz,.bool hc,.slice aH nH cH,.int .i64 pc,.int .i64 st,.slice (some ⟨g,0,none⟩) (n+1) cap])/\
   w'.ownsRow base 77 2 (.slice (some ⟨g,0,none⟩) (n+1) cap) (n+1) (xs++[.int .i64 kind,.int .u64 val])/\w.grownBy w' (Value.slice aO n cO).ownBlock:=by
 obtain⟨i0,hi,hz0,hz1,hz2⟩:=info_parts see_info;have HO:Hid (w.ownsRow base 77 2 (.slice aO n cO) n xs):=hown;clear hown;go_enter Tryz.func73,Tryz.ntmps73;go_wp2_with(first|(at_builtin;refine wpList_append_own _ rfl _ _ 26 rfl base 77 i0 (.agg #[.int .i64 0,.int .u64 0]) 2 16 Tryz.underlying26 hi hz0 hz1 hz2 rfl (by decide) _ n xs rfl (((HO.out.alloc _).alloc _).alloc _) ⟨w.heap.size+1+1,0,none⟩ 1 1 [.int .i64 kind,.int .u64 val] rfl rfl ?c1 ?c2 ?c3 ?c4 ?c5 ?_)|go_in)
 case c1=>
  intro j u hj;match j,hj with
  |0,hj=>simp at hj;subst hj;simp[Addr.add,go_sem]
  |1,hj=>simp at hj;subst hj;simp[Addr.add,go_sem]
 case c2=>
  intro u hu;simp at hu;rcases hu with rfl|rfl<;>rfl
 case c3=>unfold maxLen;omega
 case c4=>omega
 case c5=>simp;omega
 ·intro v' w1 hown1 hgrow _
  obtain⟨g,cap,hv⟩:=row_shape hown1;subst hv;have hne:∀k,k=w.heap.size∨k=w.heap.size+1->some k≠(Value.slice aO n cO).ownBlock:=by
   intro k hk e;have:=(HO.out.lt k e.symm).2;omega
  have z0:w.heap.size+2<w1.heap.size:=by have:=hgrow.size;simp at this;omega
  have q:∀o,w1.cell? ⟨w.heap.size,o,none⟩=(w.alloc (.cells #[.slice aR nR cR,.bool z,.bool c,.bool hz,.bool hc,.slice aH nH cH,.int .i64 pc,.int .i64 st,.slice aO n cO] 28)).cell? ⟨w.heap.size,o,none⟩:=fun o=>(World.cell?_of_block (a:=⟨w.heap.size,o,none⟩) (hgrow.block w.heap.size (by simp;omega) (hne _ (.inl rfl)))).trans (by simp[go_sem])
  have q0:=(q 0).trans (by simp[go_sem]:_=some (Value.slice aR nR cR));have q1:=(q 1).trans (by simp[go_sem]:_=some (Value.bool z));have q2:=(q 2).trans (by simp[go_sem]:_=some (Value.bool c));have q3:=(q 3).trans (by simp[go_sem]:_=some (Value.bool hz));have q4:=(q 4).trans (by simp[go_sem]:_=some (Value.bool hc));have q5:=(q 5).trans (by simp[go_sem]:_=some (Value.slice aH nH cH));have q6:=(q 6).trans (by simp[go_sem]:_=some (Value.int .i64 pc));have q7:=(q 7).trans (by simp[go_sem]:_=some (Value.int .i64 st));have q8:=(q 8).trans (by simp[go_sem]:_=some (Value.slice aO n cO));have qf:∀o,w1.frozen? ⟨w.heap.size,o,none⟩=false:=fun o=>(World.frozen?_of_block (a:=⟨w.heap.size,o,none⟩) (hgrow.block w.heap.size (by simp;omega) (hne _ (.inl rfl)))).trans (by simp[go_sem])
  have p:∀o,w1.cell? ⟨w.heap.size+1,o,none⟩=((w.alloc (.cells #[.slice aR nR cR,.bool z,.bool c,.bool hz,.bool hc,.slice aH nH cH,.int .i64 pc,.int .i64 st,.slice aO n cO] 28)).alloc (.cells #[.slice none 0 0,.bool false,.bool false,.bool false,.bool false,.slice none 0 0,.int .i64 0,.int .i64 0,.slice none 0 0] 28)).cell? ⟨w.heap.size+1,o,none⟩:=fun o=>(World.cell?_of_block (a:=⟨w.heap.size+1,o,none⟩) (hgrow.block (w.heap.size+1) (by simp) (hne _ (.inr rfl)))).trans (by simp[go_sem])
  have p0:=(p 0).trans (by simp[go_sem]:_=some (Value.slice none 0 0));have p1:=(p 1).trans (by simp[go_sem]:_=some (Value.bool false));have p2:=(p 2).trans (by simp[go_sem]:_=some (Value.bool false));have p3:=(p 3).trans (by simp[go_sem]:_=some (Value.bool false));have p4:=(p 4).trans (by simp[go_sem]:_=some (Value.bool false));have p5:=(p 5).trans (by simp[go_sem]:_=some (Value.slice none 0 0));have p6:=(p 6).trans (by simp[go_sem]:_=some (Value.int .i64 0));have p7:=(p 7).trans (by simp[go_sem]:_=some (Value.int .i64 0));have p8:=(p 8).trans (by simp[go_sem]:_=some (Value.slice none 0 0));have pf:∀o,w1.frozen? ⟨w.heap.size+1,o,none⟩=false:=fun o=>(World.frozen?_of_block (a:=⟨w.heap.size+1,o,none⟩) (hgrow.block (w.heap.size+1) (by simp) (hne _ (.inr rfl)))).trans (by simp[go_sem])
  have HG:Hid (w.grownBy w1 (Value.slice aO n cO).ownBlock):=⟨hgrow.os,hgrow.tape,hgrow.output,Nat.le_trans (by simp;omega) hgrow.size,fun k hk hne=>(hgrow.block k (by simp;omega) hne).trans ((heap_below _ _ k (by simp;omega)).trans ((heap_below _ _ k (by simp;omega)).trans (heap_below w _ k hk)))⟩
  have HO1:Hid (w1.ownsRow base 77 2 (.slice (some ⟨g,0,none⟩) (n+1) cap) (n+1) (xs++[.int .i64 kind,.int .u64 val])):=hown1;have hgn:g≠w.heap.size/\g≠w.heap.size+1:=by
   have hb:=row_type hown1;constructor
   ·rintro rfl
    have e1:=hgrow.block w.heap.size (by simp;omega) (hne _ (.inl rfl));rw[heap_below _ _ _ (by simp;omega),heap_below _ _ _ (by simp),heap_alloc_new]at e1;obtain⟨cur,hc⟩:=hb;rw[hc]at e1;simp at e1
   ·rintro rfl
    have e1:=hgrow.block (w.heap.size+1) (by simp) (hne _ (.inr rfl));rw[heap_below _ _ _ (by simp)]at e1;have e2:=heap_alloc_new (w.alloc (.cells #[.slice aR nR cR,.bool z,.bool c,.bool hz,.bool hc,.slice aH nH cH,.int .i64 pc,.int .i64 st,.slice aO n cO] 28)) (.cells #[.slice none 0 0,.bool false,.bool false,.bool false,.bool false,.slice none 0 0,.int .i64 0,.int .i64 0,.slice none 0 0] 28);simp only[World.size_alloc]at e2;obtain⟨cur,hc⟩:=hb;rw[hc,e2]at e1;simp at e1
  clear hown1 hgrow hi hz0 hz1 hz2 q p;go_wp2;refine bodyPost_ret (v:=.agg #[.slice aR nR cR,.bool z,.bool c,.bool hz,.bool hc,.slice aH nH cH,.int .i64 pc,.int .i64 st,.slice (some ⟨g,0,none⟩) (n+1) cap]) (by simp[results,Tryz.results73,go_sem,p0,p1,p2,p3,p4,p5,p6,p7,p8]) rfl ⟨g,cap,rfl,?_,?_⟩
  ·iterate 10 refine ownsRow_setCell_other ?_ (by simp[Value.ownBlock];omega) _
   exact HO1.out
  ·iterate 10 refine grown_set ?_ (by simp) _
   exact HG.out
def bitsN(x:Nat):Nat:=if x=0 then 0 else Nat.log2 x+1
theorem bitsN_half{x:Nat}(h:0<x):bitsN x=bitsN (x/2)+1:=by
 unfold bitsN;rw[if_neg (by omega),Nat.log2_def];by_cases h2:2<=x
 ·rw[if_pos h2,if_neg (by omega)]
 ·rw[if_neg h2,if_pos (by omega)]
theorem bitsN_shift(k:Nat):∀x,2^k<=x->bitsN x=bitsN (x/2^k)+k:=by
 induction k with
 |zero=>intro x _;simp
 |succ k ih=>
  intro x hx;have h0:0<x:=Nat.lt_of_lt_of_le (Nat.two_pow_pos _) hx;have h1:2^k<=x/2:=by rw[Nat.le_div_iff_mul_le (by decide)];rw[Nat.pow_succ]at hx;exact hx
  rw[bitsN_half h0,ih _ h1,Nat.div_div_eq_div_mul,Nat.pow_succ,Nat.mul_comm 2 (2^k)];omega
theorem bitsN_le{x:Nat}(h:x<18446744073709551616):bitsN x<=64:=by
 unfold bitsN;by_cases h0:x=0
 ·simp[h0]
 ·rw[if_neg h0]
  have:=(Nat.log2_lt h0 (k:=64)).2 (by simpa using h);omega
theorem l1Pow_any(n:Nat)(w:World)(hn:n<=63):
 Calls Tryz.prog 125 #[.int .i64 n] w fun e w'=>e=.returned (.int .u64 ((2^n:Nat):Int))/\w'=w:=by
 go_enter Tryz.func125,Tryz.ntmps125;go_wp2;go_loop [3,4](fun x i=>∃k:Nat,k<=n/\i=.int .i64 k/\x=.int .u64 ((2^k:Nat):Int))(fun _ i=>n-(intOf i).toNat)
 case atStart=>exact⟨0,Nat.zero_le _,rfl,rfl⟩
 case round=>
  obtain⟨k,hk,rfl,rfl⟩:=hrel;by_cases hlt:k<n
  ·have hp:2^k<=2^62:=Nat.pow_le_pow_right (by decide) (by omega)
   have hs:2^(k+1)=2*2^k:=by rw[Nat.pow_succ,Nat.mul_comm]
   have HS:Hid (2^(k+1)=2*2^k):=hs;clear hs;generalize 2^k=y at *;go_wp2;go_round
   case rel=>
    refine⟨k+1,by omega,by go_num,?_⟩;rw[HS.out];go_num
   case measure=>simp[intOf];omega
  ·go_wp2
   go_ret;obtain rfl:k=n:=by omega
   exact⟨rfl,rfl⟩
theorem l1Bits_any(x:Nat)(w:World)(hx:x<18446744073709551616):
 Calls Tryz.prog 124 #[.int .u64 x] w fun e w'=>e=.returned (.int .u64 (bitsN x))/\w'=w:=by
 have hB:=bitsN_le hx;go_enter Tryz.func124,Tryz.ntmps124;go_wp2;go_loop [0,3](fun y i=>∃k m:Nat,y=.int .u64 k/\i=.int .u64 m/\m+bitsN k=bitsN x/\k<=x)(fun y _=>(intOf y).toNat)
 case atStart=>exact⟨x,0,rfl,rfl,by simp,Nat.le_refl _⟩
 case round=>
  obtain⟨k,m,rfl,rfl,hm,hk⟩:=hrel;by_cases hlt:0<k
  ·have h2:=bitsN_half hlt
   generalize bitsN k=bk at *;go_wp2;go_round
   case rel=>exact⟨k/2,m+1,by go_num,by go_num,by omega,by omega⟩
   case measure=>simp[intOf];omega
  ·obtain rfl:k=0:=by omega
   have hb0:bitsN 0=0:=rfl;rw[hb0]at hm;go_wp2;go_ret;exact⟨by rw[<-hm];rfl,rfl⟩
theorem bitsI(k:Nat)(x:Int)(h0:0<=x)(h:2^k<=x.toNat):bitsN x.toNat=bitsN (x/((2^k:Nat):Int)).toNat+k:=by
 rw[bitsN_shift k _ h];congr 2
 obtain⟨n,rfl⟩:=Int.eq_ofNat_of_zero_le h0;rw[<-Int.natCast_ediv,Int.toNat_natCast,Int.toNat_natCast]
theorem tab_bits:∀j:Nat,(h:j<256)->((⟨#[0,1,2,2,3,3,3,3,4,4,4,4,4,4,4,4,5,5,5,5,5,5,5,5,5,5,5,5,5,5,5,5,6,6,6,6,6,6,6,6,6,6,6,6,6,6,6,6,6,6,6,6,6,6,6,6,6,6,6,6,6,6,6,6,7,7,7,7,7,7,7,7,7,7,7,7,7,7,7,7,7,7,7,7,7,7,7,7,7,7,7,7,7,7,7,7,7,7,7,7,7,7,7,7,7,7,7,7,7,7,7,7,7,7,7,7,7,7,7,7,7,7,7,7,7,7,7,7,8,8,8,8,8,8,8,8,8,8,8,8,8,8,8,8,8,8,8,8,8,8,8,8,8,8,8,8,8,8,8,8,8,8,8,8,8,8,8,8,8,8,8,8,8,8,8,8,8,8,8,8,8,8,8,8,8,8,8,8,8,8,8,8,8,8,8,8,8,8,8,8,8,8,8,8,8,8,8,8,8,8,8,8,8,8,8,8,8,8,8,8,8,8,8,8,8,8,8,8,8,8,8,8,8,8,8,8,8,8,8,8,8,8,8,8,8,8,8,8,8,8,8,8,8,8,8,8]⟩:ByteArray)[j]'h).toNat=bitsN j:=by decide+kernel
theorem bits_byte{j:Nat}(h:j<256):bitsN j<=8:=by
 unfold bitsN;by_cases h0:j=0
 ·simp[h0]
 ·rw[if_neg h0]
  have:=(Nat.log2_lt h0 (k:=8)).2 (by simpa using h);omega
theorem len64_any(x:Int)(w:World)(h0:0<=x)(hx:x<18446744073709551616):
 Calls Tryz.prog 134 #[.int .u64 x] w fun e w'=>e=.returned (.int .i64 (bitsN x.toNat))/\w'=w:=by
 go_enter Tryz.func134,Tryz.ntmps134;by_cases h32:4294967296<=x
 ·have e32:=bitsI 32 x (by omega) (by simp;omega)
  have HE32:Hid (bitsN x.toNat=bitsN (x/(4294967296:Int)).toNat+32):=e32;clear e32;go_upto_region 4 with fail;have l32:0<=x/(4294967296:Int):=by omega
  have m32:x/(4294967296:Int)<4294967296:=by omega
  generalize hy32:x/(4294967296:Int)=y32 at *;clear hy32;by_cases h16:65536<=y32
  ·have e16:=bitsI 16 y32 (by omega) (by simp;omega)
   have HE16:Hid (bitsN y32.toNat=bitsN (y32/(65536:Int)).toNat+16):=e16;clear e16;go_upto_region 7 with fail;have l16:0<=y32/(65536:Int):=by omega
   have m16:y32/(65536:Int)<65536:=by omega
   generalize hy16:y32/(65536:Int)=y16 at *;clear hy16;by_cases h8:256<=y16
   ·have e8:=bitsI 8 y16 (by omega) (by simp;omega)
    have HE8:Hid (bitsN y16.toNat=bitsN (y16/(256:Int)).toNat+8):=e8;clear e8;go_upto_region 10 with fail;have l8:0<=y16/(256:Int):=by omega
    have m8:y16/(256:Int)<256:=by omega
    generalize hy8:y16/(256:Int)=y8 at *;clear hy8;go_upto_region 10 with fail;have hk:=tab_bits y8.toNat (by omega);have hk8:=bits_byte (j:=y8.toNat) (by omega);go_wp2;go_ret;refine⟨ret_int ?_,rfl⟩;first|rfl|(have q1:=HE32.out;have q2:=HE16.out;have q3:=HE8.out;omega)|(have q1:=HE32.out;have q2:=HE16.out;omega)|(have q1:=HE32.out;have q3:=HE8.out;omega)|(have q2:=HE16.out;have q3:=HE8.out;omega)|(have q1:=HE32.out;omega)|(have q2:=HE16.out;omega)|(have q3:=HE8.out;omega)
   ·go_upto_region 10 with fail
    have hk:=tab_bits y16.toNat (by omega);have hk8:=bits_byte (j:=y16.toNat) (by omega);go_wp2;go_ret;refine⟨ret_int ?_,rfl⟩;first|rfl|(have q1:=HE32.out;have q2:=HE16.out;have q3:=HE8.out;omega)|(have q1:=HE32.out;have q2:=HE16.out;omega)|(have q1:=HE32.out;have q3:=HE8.out;omega)|(have q2:=HE16.out;have q3:=HE8.out;omega)|(have q1:=HE32.out;omega)|(have q2:=HE16.out;omega)|(have q3:=HE8.out;omega)
  ·by_cases h8:256<=y32
   ·have e8:=bitsI 8 y32 (by omega) (by simp;omega)
    have HE8:Hid (bitsN y32.toNat=bitsN (y32/(256:Int)).toNat+8):=e8;clear e8;go_upto_region 10 with fail;have l8:0<=y32/(256:Int):=by omega
    have m8:y32/(256:Int)<256:=by omega
    generalize hy8:y32/(256:Int)=y8 at *;clear hy8;go_upto_region 10 with fail;have hk:=tab_bits y8.toNat (by omega);have hk8:=bits_byte (j:=y8.toNat) (by omega);go_wp2;go_ret;refine⟨ret_int ?_,rfl⟩;first|rfl|(have q1:=HE32.out;have q2:=HE16.out;have q3:=HE8.out;omega)|(have q1:=HE32.out;have q2:=HE16.out;omega)|(have q1:=HE32.out;have q3:=HE8.out;omega)|(have q2:=HE16.out;have q3:=HE8.out;omega)|(have q1:=HE32.out;omega)|(have q2:=HE16.out;omega)|(have q3:=HE8.out;omega)
   ·go_upto_region 10 with fail
    have hk:=tab_bits y32.toNat (by omega);have hk8:=bits_byte (j:=y32.toNat) (by omega);go_wp2;go_ret;refine⟨ret_int ?_,rfl⟩;first|rfl|(have q1:=HE32.out;have q2:=HE16.out;have q3:=HE8.out;omega)|(have q1:=HE32.out;have q2:=HE16.out;omega)|(have q1:=HE32.out;have q3:=HE8.out;omega)|(have q2:=HE16.out;have q3:=HE8.out;omega)|(have q1:=HE32.out;omega)|(have q2:=HE16.out;omega)|(have q3:=HE8.out;omega)
 ·by_cases h16:65536<=x
  ·have e16:=bitsI 16 x (by omega) (by simp;omega)
   have HE16:Hid (bitsN x.toNat=bitsN (x/(65536:Int)).toNat+16):=e16;clear e16;go_upto_region 7 with fail;have l16:0<=x/(65536:Int):=by omega
   have m16:x/(65536:Int)<65536:=by omega
   generalize hy16:x/(65536:Int)=y16 at *;clear hy16;by_cases h8:256<=y16
   ·have e8:=bitsI 8 y16 (by omega) (by simp;omega)
    have HE8:Hid (bitsN y16.toNat=bitsN (y16/(256:Int)).toNat+8):=e8;clear e8;go_upto_region 10 with fail;have l8:0<=y16/(256:Int):=by omega
    have m8:y16/(256:Int)<256:=by omega
    generalize hy8:y16/(256:Int)=y8 at *;clear hy8;go_upto_region 10 with fail;have hk:=tab_bits y8.toNat (by omega);have hk8:=bits_byte (j:=y8.toNat) (by omega);go_wp2;go_ret;refine⟨ret_int ?_,rfl⟩;first|rfl|(have q1:=HE32.out;have q2:=HE16.out;have q3:=HE8.out;omega)|(have q1:=HE32.out;have q2:=HE16.out;omega)|(have q1:=HE32.out;have q3:=HE8.out;omega)|(have q2:=HE16.out;have q3:=HE8.out;omega)|(have q1:=HE32.out;omega)|(have q2:=HE16.out;omega)|(have q3:=HE8.out;omega)
   ·go_upto_region 10 with fail
    have hk:=tab_bits y16.toNat (by omega);have hk8:=bits_byte (j:=y16.toNat) (by omega);go_wp2;go_ret;refine⟨ret_int ?_,rfl⟩;first|rfl|(have q1:=HE32.out;have q2:=HE16.out;have q3:=HE8.out;omega)|(have q1:=HE32.out;have q2:=HE16.out;omega)|(have q1:=HE32.out;have q3:=HE8.out;omega)|(have q2:=HE16.out;have q3:=HE8.out;omega)|(have q1:=HE32.out;omega)|(have q2:=HE16.out;omega)|(have q3:=HE8.out;omega)
  ·by_cases h8:256<=x
   ·have e8:=bitsI 8 x (by omega) (by simp;omega)
    have HE8:Hid (bitsN x.toNat=bitsN (x/(256:Int)).toNat+8):=e8;clear e8;go_upto_region 10 with fail;have l8:0<=x/(256:Int):=by omega
    have m8:x/(256:Int)<256:=by omega
    generalize hy8:x/(256:Int)=y8 at *;clear hy8;go_upto_region 10 with fail;have hk:=tab_bits y8.toNat (by omega);have hk8:=bits_byte (j:=y8.toNat) (by omega);go_wp2;go_ret;refine⟨ret_int ?_,rfl⟩;first|rfl|(have q1:=HE32.out;have q2:=HE16.out;have q3:=HE8.out;omega)|(have q1:=HE32.out;have q2:=HE16.out;omega)|(have q1:=HE32.out;have q3:=HE8.out;omega)|(have q2:=HE16.out;have q3:=HE8.out;omega)|(have q1:=HE32.out;omega)|(have q2:=HE16.out;omega)|(have q3:=HE8.out;omega)
   ·go_upto_region 10 with fail
    have hk:=tab_bits x.toNat (by omega);have hk8:=bits_byte (j:=x.toNat) (by omega);go_wp2;go_ret;refine⟨ret_int ?_,rfl⟩;first|rfl|(have q1:=HE32.out;have q2:=HE16.out;have q3:=HE8.out;omega)|(have q1:=HE32.out;have q2:=HE16.out;omega)|(have q1:=HE32.out;have q3:=HE8.out;omega)|(have q2:=HE16.out;have q3:=HE8.out;omega)|(have q1:=HE32.out;omega)|(have q2:=HE16.out;omega)|(have q3:=HE8.out;omega)
end Go.Proofs.YtpbceodheeepoaaGreat
