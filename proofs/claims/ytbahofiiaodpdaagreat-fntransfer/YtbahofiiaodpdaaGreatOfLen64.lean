import Derived.Test.YtbahofiiaodpdaaGreatMem
import Derived.Test.YtbahofiiaodpdaaGreatRows
import Derived.WalkKit
import Derived.WalkSpells
import Derived.WalkLawsBesides
import Derived.Deep.Cut
import Derived.Test.YtbahofiiaodpdaaGreatOfCl
set_option maxHeartbeats 1000000
set_option maxRecDepth 20000
namespace Go.Proofs.YtbahofiiaodpdaaGreat
open Go.RowKit
theorem row_type{w:World}{base e size n cap g:Nat}{xs:List Value}(h:w.ownsRow base e size (.slice (some ⟨g,0,none⟩) n cap) n xs):∃cur,w.heap[g]?=some (.cells cur e (0,0)):=by
 rcases h.2 with⟨q,_⟩|⟨g',cap',cur,q,_,hg,_⟩
 ·cases q
 ·simp only[Value.slice.injEq,Option.some.injEq,Addr.mk.injEq,and_true,true_and]at q
  rw[q.1];exact⟨cur,hg⟩
def bitsN(x:Nat):Nat:=if x=0 then 0 else Nat.log2 x+1
theorem bitsN_half{x:Nat}(h:0<x):bitsN x=bitsN (x/2)+1:=by
 unfold bitsN;rw[if_neg (by omega),Nat.log2_def];by_cases h2:2<=x
 ·rw[if_pos h2,if_neg (by omega)]
 ·rw[if_neg h2,if_pos (by omega)]
theorem bitsN_shift(k:Nat):∀x,2^k<=x->bitsN x=bitsN (x/2^k)+k:=by
 induction k with
 |zero=>intro x _;simp
 |succ k ih=>
  intro x hx;have h0:0<x:=Nat.lt_of_lt_of_le (Nat.two_pow_pos _) hx;have h1:2^k<=x/2:=by rw[Nat.le_div_iff_mul_le (by decide)];rw[Nat.pow_succ]at hx;exact hx
  rw[bitsN_half h0,ih _ h1,Nat.div_div_eq_div_mul,Nat.pow_succ,Nat.mul_comm 2 (2^k)];omega
theorem bitsN_le{x:Nat}(h:x<18446744073709551616):bitsN x<=64:=by
 unfold bitsN;by_cases h0:x=0
 ·simp[h0]
 ·rw[if_neg h0]
  have:=(Nat.log2_lt h0 (k:=64)).2 (by simpa using h);omega
theorem l1Pow_any(n:Nat)(w:World)(hn:n<=63):
 Calls Tryz.prog 57 #[.int .i64 n] w fun e w'=>e=.returned (.int .u64 ((2^n:Nat):Int))/\w'=w:=by
 go_enter Tryz.func57,Tryz.ntmps57;go_wp2;go_loop [3,4](fun x i=>∃k:Nat,k<=n/\i=.int .i64 k/\x=.int .u64 ((2^k:Nat):Int))(fun _ i=>n-(intOf i).toNat)
 case atStart=>exact⟨0,Nat.zero_le _,rfl,rfl⟩
 case round=>
  obtain⟨k,hk,rfl,rfl⟩:=hrel;by_cases hlt:k<n
  ·have hp:2^k<=2^62:=Nat.pow_le_pow_right (by decide) (by omega)
   have hs:2^(k+1)=2*2^k:=by rw[Nat.pow_succ,Nat.mul_comm]
   have HS:Hid (2^(k+1)=2*2^k):=hs;clear hs;generalize 2^k=y at *;go_wp2;go_round
   case rel=>
    refine⟨k+1,by omega,by go_num,?_⟩;rw[HS.out];go_num
   case measure=>simp[intOf];omega
  ·go_wp2
   go_ret;obtain rfl:k=n:=by omega
   exact⟨rfl,rfl⟩
theorem bitsI(k:Nat)(x:Int)(h0:0<=x)(h:2^k<=x.toNat):bitsN x.toNat=bitsN (x/((2^k:Nat):Int)).toNat+k:=by
 rw[bitsN_shift k _ h];congr 2
 obtain⟨n,rfl⟩:=Int.eq_ofNat_of_zero_le h0;rw[<-Int.natCast_ediv,Int.toNat_natCast,Int.toNat_natCast]
theorem tab_bits:∀j:Nat,(h:j<256)->((⟨#[0,1,2,2,3,3,3,3,4,4,4,4,4,4,4,4,5,5,5,5,5,5,5,5,5,5,5,5,5,5,5,5,6,6,6,6,6,6,6,6,6,6,6,6,6,6,6,6,6,6,6,6,6,6,6,6,6,6,6,6,6,6,6,6,7,7,7,7,7,7,7,7,7,7,7,7,7,7,7,7,7,7,7,7,7,7,7,7,7,7,7,7,7,7,7,7,7,7,7,7,7,7,7,7,7,7,7,7,7,7,7,7,7,7,7,7,7,7,7,7,7,7,7,7,7,7,7,7,8,8,8,8,8,8,8,8,8,8,8,8,8,8,8,8,8,8,8,8,8,8,8,8,8,8,8,8,8,8,8,8,8,8,8,8,8,8,8,8,8,8,8,8,8,8,8,8,8,8,8,8,8,8,8,8,8,8,8,8,8,8,8,8,8,8,8,8,8,8,8,8,8,8,8,8,8,8,8,8,8,8,8,8,8,8,8,8,8,8,8,8,8,8,8,8,8,8,8,8,8,8,8,8,8,8,8,8,8,8,8,8,8,8,8,8,8,8,8,8,8,8,8,8,8,8,8,8]⟩:ByteArray)[j]'h).toNat=bitsN j:=by decide+kernel
theorem bits_byte{j:Nat}(h:j<256):bitsN j<=8:=by
 unfold bitsN;by_cases h0:j=0
 ·simp[h0]
 ·rw[if_neg h0]
  have:=(Nat.log2_lt h0 (k:=8)).2 (by simpa using h);omega
theorem len64_any(x:Int)(w:World)(h0:0<=x)(hx:x<18446744073709551616):
 Calls Tryz.prog 132 #[.int .u64 x] w fun e w'=>e=.returned (.int .i64 (bitsN x.toNat))/\w'=w:=by
 go_enter Tryz.func132,Tryz.ntmps132;by_cases h32:4294967296<=x
 ·have e32:=bitsI 32 x (by omega) (by simp;omega)
  have HE32:Hid (bitsN x.toNat=bitsN (x/(4294967296:Int)).toNat+32):=e32;clear e32;go_upto_region 4 with fail;have l32:0<=x/(4294967296:Int):=by omega
  have m32:x/(4294967296:Int)<4294967296:=by omega
  generalize hy32:x/(4294967296:Int)=y32 at *;clear hy32;by_cases h16:65536<=y32
  ·have e16:=bitsI 16 y32 (by omega) (by simp;omega)
   have HE16:Hid (bitsN y32.toNat=bitsN (y32/(65536:Int)).toNat+16):=e16;clear e16;go_upto_region 7 with fail;have l16:0<=y32/(65536:Int):=by omega
   have m16:y32/(65536:Int)<65536:=by omega
   generalize hy16:y32/(65536:Int)=y16 at *;clear hy16;by_cases h8:256<=y16
   ·have e8:=bitsI 8 y16 (by omega) (by simp;omega)
    have HE8:Hid (bitsN y16.toNat=bitsN (y16/(256:Int)).toNat+8):=e8;clear e8;go_upto_region 10 with fail;have l8:0<=y16/(256:Int):=by omega
    have m8:y16/(256:Int)<256:=by omega
    generalize hy8:y16/(256:Int)=y8 at *;clear hy8;go_upto_region 10 with fail;have hk:=tab_bits y8.toNat (by omega);have hk8:=bits_byte (j:=y8.toNat) (by omega);go_wp2;go_ret;refine⟨ret_int ?_,rfl⟩;first|rfl|(have q1:=HE32.out;have q2:=HE16.out;have q3:=HE8.out;omega)|(have q1:=HE32.out;have q2:=HE16.out;omega)|(have q1:=HE32.out;have q3:=HE8.out;omega)|(have q2:=HE16.out;have q3:=HE8.out;omega)|(have q1:=HE32.out;omega)|(have q2:=HE16.out;omega)|(have q3:=HE8.out;omega)
   ·go_upto_region 10 with fail
    have hk:=tab_bits y16.toNat (by omega);have hk8:=bits_byte (j:=y16.toNat) (by omega);go_wp2;go_ret;refine⟨ret_int ?_,rfl⟩;first|rfl|(have q1:=HE32.out;have q2:=HE16.out;have q3:=HE8.out;omega)|(have q1:=HE32.out;have q2:=HE16.out;omega)|(have q1:=HE32.out;have q3:=HE8.out;omega)|(have q2:=HE16.out;have q3:=HE8.out;omega)|(have q1:=HE32.out;omega)|(have q2:=HE16.out;omega)|(have q3:=HE8.out;omega)
  ·by_cases h8:256<=y32
   ·have e8:=bitsI 8 y32 (by omega) (by simp;omega)
    have HE8:Hid (bitsN y32.toNat=bitsN (y32/(256:Int)).toNat+8):=e8;clear e8;go_upto_region 10 with fail;have l8:0<=y32/(256:Int):=by omega
    have m8:y32/(256:Int)<256:=by omega
    generalize hy8:y32/(256:Int)=y8 at *;clear hy8;go_upto_region 10 with fail;have hk:=tab_bits y8.toNat (by omega);have hk8:=bits_byte (j:=y8.toNat) (by omega);go_wp2;go_ret;refine⟨ret_int ?_,rfl⟩;first|rfl|(have q1:=HE32.out;have q2:=HE16.out;have q3:=HE8.out;omega)|(have q1:=HE32.out;have q2:=HE16.out;omega)|(have q1:=HE32.out;have q3:=HE8.out;omega)|(have q2:=HE16.out;have q3:=HE8.out;omega)|(have q1:=HE32.out;omega)|(have q2:=HE16.out;omega)|(have q3:=HE8.out;omega)
   ·go_upto_region 10 with fail
    have hk:=tab_bits y32.toNat (by omega);have hk8:=bits_byte (j:=y32.toNat) (by omega);go_wp2;go_ret;refine⟨ret_int ?_,rfl⟩;first|rfl|(have q1:=HE32.out;have q2:=HE16.out;have q3:=HE8.out;omega)|(have q1:=HE32.out;have q2:=HE16.out;omega)|(have q1:=HE32.out;have q3:=HE8.out;omega)|(have q2:=HE16.out;have q3:=HE8.out;omega)|(have q1:=HE32.out;omega)|(have q2:=HE16.out;omega)|(have q3:=HE8.out;omega)
 ·by_cases h16:65536<=x
  ·have e16:=bitsI 16 x (by omega) (by simp;omega)
   have HE16:Hid (bitsN x.toNat=bitsN (x/(65536:Int)).toNat+16):=e16;clear e16;go_upto_region 7 with fail;have l16:0<=x/(65536:Int):=by omega
   have m16:x/(65536:Int)<65536:=by omega
   generalize hy16:x/(65536:Int)=y16 at *;clear hy16;by_cases h8:256<=y16
   ·have e8:=bitsI 8 y16 (by omega) (by simp;omega)
    have HE8:Hid (bitsN y16.toNat=bitsN (y16/(256:Int)).toNat+8):=e8;clear e8;go_upto_region 10 with fail;have l8:0<=y16/(256:Int):=by omega
    have m8:y16/(256:Int)<256:=by omega
    generalize hy8:y16/(256:Int)=y8 at *;clear hy8;go_upto_region 10 with fail;have hk:=tab_bits y8.toNat (by omega);have hk8:=bits_byte (j:=y8.toNat) (by omega);go_wp2;go_ret;refine⟨ret_int ?_,rfl⟩;first|rfl|(have q1:=HE32.out;have q2:=HE16.out;have q3:=HE8.out;omega)|(have q1:=HE32.out;have q2:=HE16.out;omega)|(have q1:=HE32.out;have q3:=HE8.out;omega)|(have q2:=HE16.out;have q3:=HE8.out;omega)|(have q1:=HE32.out;omega)|(have q2:=HE16.out;omega)|(have q3:=HE8.out;omega)
   ·go_upto_region 10 with fail
    have hk:=tab_bits y16.toNat (by omega);have hk8:=bits_byte (j:=y16.toNat) (by omega);go_wp2;go_ret;refine⟨ret_int ?_,rfl⟩;first|rfl|(have q1:=HE32.out;have q2:=HE16.out;have q3:=HE8.out;omega)|(have q1:=HE32.out;have q2:=HE16.out;omega)|(have q1:=HE32.out;have q3:=HE8.out;omega)|(have q2:=HE16.out;have q3:=HE8.out;omega)|(have q1:=HE32.out;omega)|(have q2:=HE16.out;omega)|(have q3:=HE8.out;omega)
  ·by_cases h8:256<=x
   ·have e8:=bitsI 8 x (by omega) (by simp;omega)
    have HE8:Hid (bitsN x.toNat=bitsN (x/(256:Int)).toNat+8):=e8;clear e8;go_upto_region 10 with fail;have l8:0<=x/(256:Int):=by omega
    have m8:x/(256:Int)<256:=by omega
    generalize hy8:x/(256:Int)=y8 at *;clear hy8;go_upto_region 10 with fail;have hk:=tab_bits y8.toNat (by omega);have hk8:=bits_byte (j:=y8.toNat) (by omega);go_wp2;go_ret;refine⟨ret_int ?_,rfl⟩;first|rfl|(have q1:=HE32.out;have q2:=HE16.out;have q3:=HE8.out;omega)|(have q1:=HE32.out;have q2:=HE16.out;omega)|(have q1:=HE32.out;have q3:=HE8.out;omega)|(have q2:=HE16.out;have q3:=HE8.out;omega)|(have q1:=HE32.out;omega)|(have q2:=HE16.out;omega)|(have q3:=HE8.out;omega)
   ·go_upto_region 10 with fail
    have hk:=tab_bits x.toNat (by omega);have hk8:=bits_byte (j:=x.toNat) (by omega);go_wp2;go_ret;refine⟨ret_int ?_,rfl⟩;first|rfl|(have q1:=HE32.out;have q2:=HE16.out;have q3:=HE8.out;omega)|(have q1:=HE32.out;have q2:=HE16.out;omega)|(have q1:=HE32.out;have q3:=HE8.out;omega)|(have q2:=HE16.out;have q3:=HE8.out;omega)|(have q1:=HE32.out;omega)|(have q2:=HE16.out;omega)|(have q3:=HE8.out;omega)
end Go.Proofs.YtbahofiiaodpdaaGreat
