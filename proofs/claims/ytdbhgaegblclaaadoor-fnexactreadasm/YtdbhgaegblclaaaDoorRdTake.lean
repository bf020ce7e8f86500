import Derived.Test.YtdbhgaegblclaaaDoorRdRows
import Derived.Test.YtdbhgaegblclaaaDoorOfFlatAny
set_option maxHeartbeats 1600000
set_option maxRecDepth 20000
namespace Go.Proofs.YtdbhgaegblclaaaDoor
open Go.RowKit
theorem stB_list(l:List UInt8):(stB l).data.toList=l:=rfl
theorem at_byte{w:World}{b o:Nat}{l:List UInt8}(h:At w b o l.length (numF .u8 (bF l))){k:Nat}(hk:k<l.length):w.cell? ⟨b,o+k,none⟩=some (.int .u8 ((l.getD k 0).toNat:Int)):=h.cell hk
theorem at_drop{w:World}{b o:Nat}{l:List UInt8}(h:At w b o l.length (numF .u8 (bF l)))(k:Nat)(hk:k<=l.length):At w b (o+k) (l.drop k).length (numF .u8 (bF (l.drop k))):=
 ⟨h.1,fun i hi=>by
   rw[List.length_drop]at hi;rw[show o+k+i=o+(k+i)by omega,h.2 (k+i) (by omega)];unfold numF bF;rw[drop_at]⟩
theorem at_take{w:World}{b o:Nat}{l:List UInt8}(h:At w b o l.length (numF .u8 (bF l)))(k:Nat):At w b o (l.take k).length (numF .u8 (bF (l.take k))):=
 ⟨h.1,fun i hi=>by
   rw[List.length_take]at hi;rw[h.2 i (by omega)];unfold numF bF;congr 2
   simp only[List.getD_eq_getElem?_getD];rw[List.getElem?_take,if_pos (by omega)]⟩
theorem countDigits_any(b o cap:Nat)(l:List UInt8)(w:World)(hl:(l.length:Int)<=1048576)(hat:At w b o l.length (numF .u8 (bF l))):
 Calls Tryd.prog 88 #[.slice (some ⟨b,o,none⟩) l.length cap] w fun e w'=>e=.returned (.int .i64 (pre isDg l:Int))/\w'=w:=by
 have HA:Hid (At w b o l.length (numF .u8 (bF l))):=hat;clear hat;go_enter Tryd.func88,Tryd.ntmps88;go_wp2_with fail;go_loopw [3](fun jv wr=>wr=w/\∃j:Nat,j<=l.length/\j<=pre isDg l/\jv=.int .i64 j)(fun jv _=>l.length-(intOf jv).toNat)
 case atStart=>exact⟨rfl,0,Nat.zero_le _,Nat.zero_le _,rfl⟩
 case round=>
  obtain⟨hw,j,hj,hp,rfl⟩:=hrel;rw[hw];clear hw;have HP:Hid (j<=pre isDg l):=hp;clear hp;by_cases hlt:j<l.length
  ·have hl1:(j:Int)<l.length:=by omega
   obtain⟨c,hc⟩:∃c,l.getD j 0=c:=⟨_,rfl⟩
   have g0:w.cell? ⟨b,o+j,none⟩=some (.int .u8 (c.toNat:Int)):=by rw[<-hc];exact at_byte HA.out hlt
   have HST:Hid ((isDg c=true->j+1<=pre isDg l)/\(isDg c=false->pre isDg l=j)):=(by rw[<-hc];exact pre_step isDg l j HP.out hlt:(isDg c=true->j+1<=pre isDg l)/\(isDg c=false->pre isDg l=j))
   clear hc;by_cases h48:48<=c.toNat
   ·have k48:(48:Int)<=(c.toNat:Int):=by omega
    by_cases h57:c.toNat<=57
    ·have k57:(c.toNat:Int)<=57:=by omega
     have HS:Hid (j+1<=pre isDg l):=HST.out.1 (by simp[isDg,h48,h57]);go_wp2_with fail;go_roundw
     case rel=>exact⟨trivial,j+1,by omega,HS.out,by go_num⟩
     case measure=>simp[intOf];omega
    ·have k57:¬(c.toNat:Int)<=57:=by omega
     have HS:Hid (pre isDg l=j):=HST.out.2 (by simp[isDg,h57]);go_wp2_with fail;go_ret;exact⟨by rw[HS.out];rfl,rfl⟩
   ·have k48:¬(48:Int)<=(c.toNat:Int):=by omega
    have HS:Hid (pre isDg l=j):=HST.out.2 (by simp[isDg,h48]);go_wp2_with fail;go_ret;exact⟨by rw[HS.out];rfl,rfl⟩
  ·have hl1:¬(j:Int)<l.length:=by omega
   have HS:Hid (pre isDg l=j):=pre_all isDg l j HP.out (by omega);go_wp2_with fail;go_ret;exact⟨by rw[HS.out];rfl,rfl⟩
def TakeR(r:Option (Int×Nat))(b o n cap:Nat)(e:Ending):Prop:=
 match r with
 |some (v,k)=>∃o',e=.returned (.tuple #[.int .i64 v,.slice (some ⟨b,o',none⟩) (n-k) (cap-k),.bool true])/\(o'=o+k∨n-k=0)
 |none=>e=.returned (.tuple #[.int .i64 0,.slice (some ⟨b,o,none⟩) n cap,.bool false])
theorem takeNumber_any(b o cap:Nat)(l:List UInt8)(w:World)(hl:(l.length:Int)<=1048576)(hcap:l.length<=cap)(hat:At w b o l.length (numF .u8 (bF l))):
 Calls Tryd.prog 83 #[.slice (some ⟨b,o,none⟩) l.length cap] w fun e w'=>TakeR (numAt l) b o l.length cap e/\Below w.heap.size w w':=by
 have HA:Hid (At w b o l.length (numF .u8 (bF l))):=hat;clear hat;go_enter Tryd.func83,Tryd.ntmps83;go_wp2_with fail;refine(countDigits_any b o cap l w hl HA.out).mono ?_;rintro e w1⟨rfl,hw1⟩;rw[hw1];clear hw1;obtain⟨k,hk⟩:∃k,pre isDg l=k:=⟨_,rfl⟩
 have hkl:k<=l.length:=by rw[<-hk];exact pre_le isDg l
 have HK:Hid (pre isDg l=k):=hk;rw[hk];clear hk;obtain⟨bd,hbd⟩:∃b,decide (k=0∨9<k∨(1<k/\(l.getD 0 0).toNat=48))=b:=⟨_,rfl⟩
 have HBD:Hid (decide (k=0∨9<k∨(1<k/\(l.getD 0 0).toNat=48))=bd):=hbd;clear hbd;go_upto_region 2 with fail;go_cut [26](fun b wx=>wx=w/\b=.bool bd)
 case first=>
  by_cases h0:k=0
  ·have e0:((k:Int)==0)=true:=by rw[beq_iff_eq];omega
   have e:Hid (true=bd):=(by rw[<-HBD.out];simp[h0]:true=bd)
   go_wp2_with fail;go_meet;exact⟨rfl,congrArg Value.bool e.out⟩
  have e0:((k:Int)==0)=false:=by rw[beq_eq_false_iff_ne];omega
  by_cases h9:9<k
  ·have e1:(9:Int)<k:=by omega
   have e:Hid (true=bd):=(by rw[<-HBD.out];simp[h9]:true=bd)
   go_wp2_with fail;go_meet;exact⟨rfl,congrArg Value.bool e.out⟩
  have e1:¬(9:Int)<k:=by omega
  by_cases h1:1<k
  ·have e2:(1:Int)<k:=by omega
   have hl0:(0:Int)<l.length:=by omega
   obtain⟨c,hc⟩:∃c,l.getD 0 0=c:=⟨_,rfl⟩
   have g0:w.cell? ⟨b,o,none⟩=some (.int .u8 (c.toNat:Int)):=by rw[<-hc];exact at_byte HA.out (k:=0) (by omega)
   have e:((c.toNat:Int)==48)=bd:=by
    rw[<-HBD.out,hc];by_cases h48:c.toNat=48
    ·simp[h48,h0,h9,h1]
    ·have:¬(c.toNat:Int)=48:=by omega
     simp[h48,h0,h9,this]
   clear hc;go_wp2_with fail;go_meet;exact⟨rfl,rfl⟩
  ·have e2:¬(1:Int)<k:=by omega
   have e:Hid (false=bd):=(by rw[<-HBD.out];simp[h0,h9,h1]:false=bd)
   go_wp2_with fail;go_meet;exact⟨rfl,congrArg Value.bool e.out⟩
 case rest=>
 obtain⟨hw,rfl⟩:=hcut;rw[hw];clear hw;cases bd with
 |true=>
  have HN:Hid (numAt l=none):=(by unfold numAt;rw[HK.out,if_pos (by simpa using HBD.out)]:numAt l=none)
  go_wp2_with fail;go_ret3;refine⟨?_,Below.refl _ _⟩;rw[HN.out];rfl
 |false=>
  have hnb:¬(k=0∨9<k∨(1<k/\(l.getD 0 0).toNat=48)):=by simpa using HBD.out
  have HN:Hid (numAt l=some (valN (l.take k),k)):=(by unfold numAt;rw[HK.out,if_neg hnb]:numAt l=some (valN (l.take k),k))
  have hk9:k<=9:=by omega
  have hkc:(k:Int)<=cap:=by omega
  have hkl1:(k:Int)<=l.length:=by omega
  clear hnb HBD;go_wp2_with fail;go_loopw [6,8,32](fun xv _ jv wr=>wr=w/\∃j:Nat,j<=k/\jv=.int .i64 j/\xv=.int .i64 (valN (l.take j)))(fun _ _ jv _=>k-(intOf jv).toNat)
  case atStart=>exact⟨rfl,0,Nat.zero_le _,rfl,rfl⟩
  case round=>
   obtain⟨hw,j,hj,rfl,rfl⟩:=hrel;rw[hw];clear hw;by_cases hlt:j<k
   ·have hl1:(j:Int)<k:=by omega
    obtain⟨c,hc⟩:∃c,l.getD j 0=c:=⟨_,rfl⟩
    have g0:w.cell? ⟨b,o+j,none⟩=some (.int .u8 (c.toNat:Int)):=by rw[<-hc];exact at_byte HA.out (by omega)
    have hdg:=pre_mem isDg l j (by rw[HK.out];exact hlt);rw[hc]at hdg;have hcb:48<=c.toNat/\c.toNat<=57:=by simpa[isDg]using hdg
    obtain⟨x,hx⟩:∃x,valN (l.take j)=x:=⟨_,rfl⟩
    have hxb:0<=x/\x<=1000000000:=by
     have:=valN_bound l j (by rw[HK.out];omega);rw[hx]at this;have h10:(10:Int)^j<=10^9:=by
      have h1:(10:Int)^j*10^(9-j)=10^9:=by rw[<-Int.pow_add];congr 1;omega
      have h2:=Int.pow_pos (n:=10) (m:=9-j) (by decide);have h3:=Int.pow_pos (n:=10) (m:=j) (by decide);have h4:=Int.mul_le_mul_of_nonneg_left (show(1:Int)<=10^(9-j)by omega) (show(0:Int)<=10^j by omega);omega
     omega
    have HX:Hid (valN (l.take j)=x):=hx;have HC:Hid (l.getD j 0=c):=hc;rw[hx];have w1:IntKind.u8.wrap ((c.toNat:Int)-48)=(c.toNat:Int)-48:=u8_id (by omega) (by omega);have w2:IntKind.i64.wrap (x*10)=x*10:=i64_idR (by omega) (by omega);have w3:IntKind.i64.wrap ((c.toNat:Int)-48)=(c.toNat:Int)-48:=i64_idR (by omega) (by omega);have w4:IntKind.i64.wrap (x*10+((c.toNat:Int)-48))=x*10+((c.toNat:Int)-48):=i64_idR (by omega) (by omega);clear hx hc hdg;go_wp2_with fail;go_roundw
    case rel=>
     refine⟨trivial,j+1,by omega,by go_num,?_⟩;rw[valN_step l j (by omega),HX.out,HC.out]
    case measure=>simp[intOf];omega
   ·obtain rfl:j=k:=by omega
    obtain⟨x,hx⟩:∃x,valN (l.take j)=x:=⟨_,rfl⟩
    have HX:Hid (valN (l.take j)=x):=hx;rw[hx];clear hx;by_cases hjc:j=cap
    ·have hc1:(j:Int)=cap:=by omega
     have hj0:l.length-j=0:=by omega
     subst hjc;go_wp2_with fail;go_quiet(fail);go_wp2_with fail;go_ret3;refine⟨?_,below_drewN (Below.refl _ _) _⟩;rw[HN.out,HX.out];exact⟨o,by rw[hj0,Nat.sub_self];rfl,.inr hj0⟩
    ·have hc1:¬(j:Int)=cap:=by omega
     go_wp2_with fail;go_quiet(fail);go_wp2_with fail;go_ret3;refine⟨?_,below_drewN (Below.refl _ _) _⟩;rw[HN.out,HX.out];exact⟨o+j,rfl,.inl rfl⟩
theorem canStand_any(x:NV)(w:World):
 Calls Tryd.prog 84 #[.agg (nvA x)] w fun e w'=>e=.returned (.bool (canS x))/\Below w.heap.size w w':=by
 have HB:Hid (∀o,Below w.heap.size w (w.alloc o)):=fun o=>(Below.refl _ _).alloc (Nat.le_refl _) _
 cases hj:jumpB x.op with
 |true=>
  have HC:Hid (canS x=implIns x.op x.d x.a x.b 0 x.h):=(by unfold canS;rw[hj];rfl:canS x=implIns x.op x.d x.a x.b 0 x.h)
  unfold nvA;go_enter Tryd.func84,Tryd.ntmps84;go_wp2_with(first|(go_at_call 38;refine(jumpI_any _ _).mono ?_;rintro e w2⟨rfl,hw2⟩;rw[hw2,hj];clear hw2));refine(implIns_any x.op x.d x.a x.b 0 x.h _).mono ?_;rintro e w2⟨rfl,hb2⟩;have hb3:=(HB.out _).trans (hb2.mono (HB.out _).size);go_wp2_with fail;go_ret;exact⟨by rw[HC.out];rfl,hb3⟩
 |false=>
  have HC:Hid (canS x=implIns x.op x.d x.a x.b x.imm x.h):=(by unfold canS;rw[hj];rfl:canS x=implIns x.op x.d x.a x.b x.imm x.h)
  unfold nvA;go_enter Tryd.func84,Tryd.ntmps84;go_wp2_with(first|(go_at_call 38;refine(jumpI_any _ _).mono ?_;rintro e w2⟨rfl,hw2⟩;rw[hw2,hj];clear hw2));refine(implIns_any x.op x.d x.a x.b x.imm x.h _).mono ?_;rintro e w2⟨rfl,hb2⟩;have hb3:=(HB.out _).trans (hb2.mono (HB.out _).size);go_wp2_with fail;go_ret;exact⟨by rw[HC.out];rfl,hb3⟩
end Go.Proofs.YtdbhgaegblclaaaDoor
