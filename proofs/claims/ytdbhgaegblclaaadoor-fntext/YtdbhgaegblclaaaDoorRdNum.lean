import Derived.Test.YtdbhgaegblclaaaDoorRdMath2
import Derived.Deep.DeepCutAuto
import Derived.OwnWalk
set_option maxHeartbeats 3200000
set_option maxRecDepth 20000
namespace Go.Proofs.YtdbhgaegblclaaaDoor
open Go.RowKit
def sgI(ng:Bool):Int:=if ng=true then -1 else 1
def numG(ng:Bool)(l:List UInt8):Option (Int×Nat):=
 if ng=true then(match numAt l with|some (v,n)=>if v=0 then none else some (-v,n+1)|none=>none)else numAt l
def NumR(r:Option (Int×Nat))(i:Nat)(e:Ending):Prop:=
 match r with
 |some (v,n)=>e=.returned (.tuple #[.bool true,.int .i64 v,.int .i64 ((i:Int)+n)])
 |none=>∃j:Int,e=.returned (.tuple #[.bool false,.int .i64 0,.int .i64 j])
theorem str_at(s:ByteArray)(k:Nat)(h:k<s.size):s[k]=s.data.toList.getD k 0:=by
 rw[List.getD_eq_getElem?_getD,List.getElem?_eq_getElem (by simpa using h)];rfl
theorem drop_at(l:List UInt8)(f k:Nat):(l.drop f).getD k 0=l.getD (f+k) 0:=by
 simp[List.getD_eq_getElem?_getD]
theorem u8_id{x:Int}(h0:0<=x)(h1:x<256):IntKind.u8.wrap x=x:=by
 simp[IntKind.wrap,IntKind.bits,IntKind.signed];omega
theorem i64_idR{x:Int}(h0:0<=x)(h1:x<4611686018427387904):IntKind.i64.wrap x=x:=by
 rw[IntKind.wrap_i64];omega
theorem sgI_lt(ng:Bool):(sgI ng<0)↔ng=true:=by cases ng<;>simp[sgI]
theorem number_any(s:ByteArray)(i:Nat)(sg:Bool)(w:World)(hs:(s.size:Int)<=200000)(hi:i<=s.size):
 Calls Tryd.prog 75 #[.string s,.int .i64 i,.bool sg,.int .i64 9] w fun e w'=>NumR (numS sg (s.data.toList.drop i)) i e/\w'=w:=by
 have HLL:Hid (s.data.toList.length=s.size):=(by simp:s.data.toList.length=s.size)
 go_enter Tryd.func75,Tryd.ntmps75;obtain⟨ng,hng⟩:∃ng:Bool,(sg&&decide ((s.data.toList.drop i).head?.map UInt8.toNat=some 45))=ng:=⟨_,rfl⟩
 have HNG:Hid ((sg&&decide ((s.data.toList.drop i).head?.map UInt8.toNat=some 45))=ng):=hng;clear hng;go_upto_region 3 with fail;go_cut [28](fun b wx=>wx=w/\b=.bool ng)
 case first=>
  cases sg with
  |false=>
   have e:Hid (false=ng):=(by rw[<-HNG.out];rfl:false=ng)
   go_wp2_with fail;go_meet;exact⟨rfl,congrArg Value.bool e.out⟩
  |true=>
   by_cases hlt:i<s.size
   ·have hl1:(i:Int)<s.size:=by omega
    obtain⟨c,hc⟩:∃c,s[i]=c:=⟨_,rfl⟩
    have hcc:∀h,s[i]'h=c:=fun _=>hc
    have hhd:(s.data.toList.drop i).head?.map UInt8.toNat=some c.toNat:=by
     rw[List.head?_drop,List.getElem?_eq_getElem (by rw[HLL.out];omega)];show some (s[i]).toNat=_;rw[hc]
    have HH:Hid ((s.data.toList.drop i).head?.map UInt8.toNat=some c.toNat):=hhd;clear hhd hc;have e:((c.toNat:Int)==45)=ng:=by
     rw[<-HNG.out,HH.out];by_cases h45:c.toNat=45
     ·simp[h45]
     ·have:¬(c.toNat:Int)=45:=by omega
      simp[h45,this]
    go_wp2_with fail;go_meet;exact⟨rfl,rfl⟩
   ·have hl1:¬(i:Int)<s.size:=by omega
    have e:Hid (false=ng):=(by
     rw[<-HNG.out,List.drop_eq_nil_of_le (by rw[HLL.out];omega)];rfl:false=ng)
    go_wp2_with fail;go_meet;exact⟨rfl,congrArg Value.bool e.out⟩
 case rest=>
 obtain⟨hw,rfl⟩:=hcut;rw[hw];clear hw;obtain⟨f,hfi⟩:∃f:Nat,(f:Int)=i+(if ng=true then 1 else 0):=⟨i+(if ng=true then 1 else 0),by split<;>simp⟩
 have hnum:numS sg (s.data.toList.drop i)=numG ng (s.data.toList.drop f)/\f<=s.size:=by
  have h1:=HNG.out;cases ng with
  |true=>
   simp only[Bool.and_eq_true,decide_eq_true_eq]at h1;have hf:f=i+1:=by simp at hfi;omega
   subst hf;have hlt:i<s.size:=by
    by_cases hlt:i<s.size
    ·exact hlt
    ·rw[List.drop_eq_nil_of_le (by rw[HLL.out];omega)]at h1;cases h1.2
   refine⟨?_,by omega⟩;unfold numS numG;rw[if_pos h1,if_pos rfl,List.tail_drop];rcases numAt (List.drop (i+1) s.data.toList)with _|⟨v,n⟩<;>rfl
  |false=>
   have hf:f=i:=by simp at hfi;omega
   subst hf;refine⟨?_,hi⟩;unfold numS numG;rw[if_neg,if_neg (by simp)];intro h;rw[h.1,h.2]at h1;simp at h1
 obtain⟨hnum,hf⟩:=hnum;have HFI0:Hid ((f:Int)=i+(if ng=true then 1 else 0)):=hfi;have HN0:Hid (numS sg (s.data.toList.drop i)=numG ng (s.data.toList.drop f)):=hnum;clear hfi hnum;go_upto_if 28 with fail;go_cut [11,12](fun sv fv wx=>wx=w/\sv=.int .i64 (sgI ng)/\fv=.int .i64 f)
 case first=>
  cases ng with
  |true=>
   go_wp2_with fail;go_meet;exact⟨rfl,rfl,congrArg (Value.int .i64) (by have:=HFI0.out;simp at this;omega)⟩
  |false=>
   go_wp2_with fail;go_meet;exact⟨rfl,rfl,congrArg (Value.int .i64) (by have:=HFI0.out;simp at this;omega)⟩
 case rest=>
  obtain⟨hw,rfl,rfl⟩:=hcut;rw[hw];clear hw;have hfi:=HFI0.out;have hnum:=HN0.out;clear HFI0 HN0 HNG;obtain⟨l,hl⟩:∃l,s.data.toList.drop f=l:=⟨_,rfl⟩
  have hln:l.length=s.size-f:=by rw[<-hl,List.length_drop,HLL.out]
  have HAT:Hid (∀j,f<=j->j<s.size->∀h,s[j]'h=l.getD (j-f) 0):=fun j h0 h1 h2=>by rw[<-hl,drop_at,show f+(j-f)=j by omega];exact str_at s j h1
  rw[hl]at hnum;have HN:Hid (numS sg (s.data.toList.drop i)=numG ng l):=hnum;have HFI:Hid ((f:Int)=i+(if ng=true then 1 else 0)):=hfi;have HLN:Hid (l.length=s.size-f):=hln;have hpl:Hid (pre isDg l<=l.length):=pre_le isDg l;clear hl HLL hnum hfi hln;go_wp2_with fail;go_loopw [13,14](fun jv xv wr=>wr=w/\∃j:Nat,f<=j/\j<=s.size/\j<=f+10/\j-f<=pre isDg l/\jv=.int .i64 j/\xv=.int .i64 (valN (l.take (j-f))))(fun jv _ _=>s.size-(intOf jv).toNat)
  case atStart=>exact⟨rfl,f,Nat.le_refl _,hf,by omega,by omega,rfl,by simp[valN]⟩
  case round=>
   obtain⟨hw,j,hj0,hj1,hj2,hj3,rfl,rfl⟩:=hrel;rw[hw];clear hw;obtain⟨x,hx⟩:∃x,valN (l.take (j-f))=x:=⟨_,rfl⟩
   have hxb:0<=x/\x<=10000000000:=by
    have:=valN_bound l (j-f) hj3;rw[hx]at this;have h10:(10:Int)^(j-f)<=10^10:=by
     have h1:(10:Int)^(j-f)*10^(10-(j-f))=10^10:=by rw[<-Int.pow_add];congr 1;omega
     have h2:=Int.pow_pos (n:=10) (m:=10-(j-f)) (by decide);have h3:=Int.pow_pos (n:=10) (m:=j-f) (by decide);have h4:=Int.mul_le_mul_of_nonneg_left (show(1:Int)<=10^(10-(j-f))by omega) (show(0:Int)<=10^(j-f)by omega);omega
    omega
   have HX:Hid (valN (l.take (j-f))=x):=hx;have HP3:Hid (j-f<=pre isDg l):=hj3;rw[hx];clear hx hj3;obtain⟨lc,hlc⟩:∃lc,(decide (j<s.size)&&isDg (l.getD (j-f) 0)&&decide (j-f<=9))=lc:=⟨_,rfl⟩
   have HLC:Hid ((decide (j<s.size)&&isDg (l.getD (j-f) 0)&&decide (j-f<=9))=lc):=hlc;clear hlc;go_upto_region 8 with fail;go_cut [54](fun b wx=>wx=w/\b=.bool lc)
   case first=>
    by_cases hlt:j<s.size
    ·have hl1:(j:Int)<s.size:=by omega
     obtain⟨c,hc⟩:∃c,l.getD (j-f) 0=c:=⟨_,rfl⟩
     have hcc:∀h,s[j]'h=c:=fun h=>(HAT.out j hj0 hlt h).trans hc
     have HC:Hid (l.getD (j-f) 0=c):=hc;clear hc;by_cases h48:48<=c.toNat
     ·have k48:(48:Int)<=(c.toNat:Int):=by omega
      by_cases h57:c.toNat<=57
      ·have k57:(c.toNat:Int)<=57:=by omega
       have e:decide ((j:Int)-f<=9)=lc:=by
        have:=HLC.out;rw[HC.out]at this;simp[isDg,hlt,h48,h57]at this;rw[<-this];simp;omega
       go_wp2_with fail;go_meet;exact⟨rfl,rfl⟩
      ·have k57:¬(c.toNat:Int)<=57:=by omega
       have e:Hid (false=lc):=(by
        have:=HLC.out;rw[HC.out]at this;simp[isDg,h57]at this;exact this.symm:false=lc)
       go_wp2_with fail;go_meet;exact⟨rfl,congrArg Value.bool e.out⟩
     ·have k48:¬(48:Int)<=(c.toNat:Int):=by omega
      have e:Hid (false=lc):=(by
       have:=HLC.out;rw[HC.out]at this;simp[isDg,h48]at this;exact this.symm:false=lc)
      go_wp2_with fail;go_meet;exact⟨rfl,congrArg Value.bool e.out⟩
    ·have hl1:¬(j:Int)<s.size:=by omega
     have e:Hid (false=lc):=(by
      have:=HLC.out;simp[hlt]at this;exact this.symm:false=lc)
     go_wp2_with fail;go_meet;exact⟨rfl,congrArg Value.bool e.out⟩
   case rest=>
    obtain⟨hw,rfl⟩:=hcut;rw[hw];clear hw;cases lc with
    |true=>
     have h1:=HLC.out;simp only[Bool.and_eq_true,decide_eq_true_eq]at h1;obtain⟨⟨hlt,hdg⟩,h9⟩:=h1;obtain⟨c,hc⟩:∃c,l.getD (j-f) 0=c:=⟨_,rfl⟩
     have hcc:∀h,s[j]'h=c:=fun h=>(HAT.out j hj0 hlt h).trans hc
     have HC:Hid (l.getD (j-f) 0=c):=hc;have hcb:48<=c.toNat/\c.toNat<=57:=by rw[hc]at hdg;simpa[isDg]using hdg
     have HD:Hid (isDg (l.getD (j-f) 0)=true):=hdg;have hl1:(j:Int)<s.size:=by omega
     have w1:IntKind.u8.wrap ((c.toNat:Int)-48)=(c.toNat:Int)-48:=u8_id (by omega) (by omega);have w2:IntKind.i64.wrap (10*x)=10*x:=i64_idR (by omega) (by omega);have w3:IntKind.i64.wrap ((c.toNat:Int)-48)=(c.toNat:Int)-48:=i64_idR (by omega) (by omega);have w4:IntKind.i64.wrap (10*x+((c.toNat:Int)-48))=10*x+((c.toNat:Int)-48):=i64_idR (by omega) (by omega);clear hc hdg HLC;go_wp2_with fail;go_roundw
     case rel=>
      have hpl':=hpl.out;have hln:=HLN.out;refine⟨trivial,j+1,by omega,by omega,by omega,?_,by go_num,?_⟩
      ·have:=(pre_step isDg l (j-f) HP3.out (by omega)).1 HD.out
       omega
      ·rw[show j+1-f=(j-f)+1 by omega,valN_step l (j-f) (by omega),HX.out,HC.out]
       congr 1
       omega
     case measure=>simp[intOf];omega
    |false=>
     obtain⟨k,hk⟩:∃k:Nat,j-f=k:=⟨_,rfl⟩
     have HK:Hid (j=f+k):=(by omega:j=f+k)
     have hkp:(k<=9/\pre isDg l=k)∨(k=10/\10<=pre isDg l):=by
      have hpl':=hpl.out;have hln:=HLN.out;have h3:=HP3.out;have h4:=HLC.out;rw[hk]at h3 h4;by_cases h9:k<=9
      ·left
       refine⟨h9,?_⟩;by_cases hlt:j<s.size
       ·simp[hlt,h9]at h4
        exact(pre_step isDg l k h3 (by omega)).2 h4
       ·omega
      ·right;omega
     have HKP:Hid ((k<=9/\pre isDg l=k)∨(k=10/\10<=pre isDg l)):=hkp;have k10:k<=10:=by omega
     have HX2:Hid (valN (l.take k)=x):=(by rw[<-hk];exact HX.out:valN (l.take k)=x)
     clear hkp HLC HX HP3;obtain⟨bd,hbd⟩:∃bd,(decide (k=0)||decide (9<k)||(decide ((l.getD 0 0).toNat=48)&&(decide (1<k)||ng)))=bd:=⟨_,rfl⟩
     have HBD:Hid ((decide (k=0)||decide (9<k)||(decide ((l.getD 0 0).toNat=48)&&(decide (1<k)||ng)))=bd):=hbd;clear hbd hk;go_upto_region 11 with fail;go_cut [90](fun b wx=>wx=w/\b=.bool bd)
     case first=>
      by_cases h0:k=0
      ·have e0:((j:Int)==f)=true:=by have:=HK.out;rw[beq_iff_eq];omega
       have e:Hid (true=bd):=(by rw[<-HBD.out];simp[h0]:true=bd)
       go_wp2_with fail;go_meet;exact⟨rfl,congrArg Value.bool e.out⟩
      have e0:((j:Int)==f)=false:=by have:=HK.out;rw[beq_eq_false_iff_ne];omega
      by_cases h9:9<k
      ·have e1:(9:Int)<(j:Int)-f:=by have:=HK.out;omega
       have e:Hid (true=bd):=(by rw[<-HBD.out];simp[h9]:true=bd)
       go_wp2_with fail;go_meet;exact⟨rfl,congrArg Value.bool e.out⟩
      have e1:¬(9:Int)<(j:Int)-f:=by have:=HK.out;omega
      have hf1:f<s.size:=by have:=HK.out;omega
      have hf2:(f:Int)<s.size:=by omega
      obtain⟨c,hc⟩:∃c,l.getD 0 0=c:=⟨_,rfl⟩
      have hcc:∀h,s[f]'h=c:=fun h=>((HAT.out f (Nat.le_refl _) hf1 h).trans (by rw[Nat.sub_self])).trans hc
      have HC:Hid (l.getD 0 0=c):=hc;clear hc;by_cases h48:c.toNat=48
      ·have e2:((c.toNat:Int)==48)=true:=by rw[h48];rfl
       by_cases h1:1<k
       ·have e3:(1:Int)<(j:Int)-f:=by have:=HK.out;omega
        have e:Hid (true=bd):=(by rw[<-HBD.out,HC.out];simp[h48,h1]:true=bd)
        go_wp2_with fail;go_meet;exact⟨rfl,congrArg Value.bool e.out⟩
       ·have e3:¬(1:Int)<(j:Int)-f:=by have:=HK.out;omega
        have e:Hid (ng=bd):=(by rw[<-HBD.out,HC.out];simp[h48,h1,h0,h9]:ng=bd)
        cases ng with
        |true=>
         have e4:sgI true<0:=by decide
         go_wp2_with fail;go_meet;exact⟨rfl,congrArg Value.bool e.out⟩
        |false=>
         have e4:¬sgI false<0:=by decide
         go_wp2_with fail;go_meet;exact⟨rfl,congrArg Value.bool e.out⟩
      ·have e2:((c.toNat:Int)==48)=false:=by rw[beq_eq_false_iff_ne];omega
       have e:Hid (false=bd):=(by rw[<-HBD.out,HC.out];simp[h48,h0,h9]:false=bd)
       go_wp2_with fail;go_meet;exact⟨rfl,congrArg Value.bool e.out⟩
     case rest=>
      obtain⟨hw,rfl⟩:=hcut;rw[hw];clear hw;cases bd with
      |true=>
       have hno:numG ng l=none:=by
        have h1:=HBD.out;have h2:=HKP.out;simp only[Bool.or_eq_true,Bool.and_eq_true,decide_eq_true_eq]at h1;cases hna:numAt l with
        |none=>unfold numG;rw[hna];split<;>rfl
        |some p=>
         obtain⟨v,n⟩:=p;obtain⟨b0,b1,b2,b3,b4,b5,b6⟩:=num_bound hna;have hkn:k=n:=by omega
         have h48:(l.getD 0 0).toNat=48:=by omega
         have hng:ng=true:=by
          rcases h1 with h1|h1
          ·omega
          ·rcases h1.2 with h3|h3
           ·exfalso
            unfold numAt at hna;rw[if_pos (by right;right;exact⟨by omega,h48⟩)]at hna;cases hna
           ·exact h3
         unfold numG;rw[hna,hng,if_pos rfl];simp only;rw[if_pos (b6.2 h48)]
       have HNO:Hid (numS sg (s.data.toList.drop i)=none):=(HN.out.trans hno:numS sg (s.data.toList.drop i)=none)
       clear hno;go_wp2_with fail;go_ret3;refine⟨?_,rfl⟩;rw[HNO.out];exact⟨_,rfl⟩
      |false=>
       have hyes:numG ng l=some (sgI ng*x,k+(if ng=true then 1 else 0))/\k<=9:=by
        have h1:=HBD.out;have h2:=HKP.out;simp only[Bool.or_eq_false_iff,Bool.and_eq_false_iff,decide_eq_false_iff_not]at h1;have hk9:pre isDg l=k:=by omega
        have hna:numAt l=some (x,k):=by
         unfold numAt;rw[hk9,if_neg,HX2.out];intro h;rcases h with h|h|h
         ·omega
         ·omega
         ·rcases h1.2 with h3|h3
          ·exact h3 h.2
          ·exact h3.1 h.1
        obtain⟨b0,b1,b2,b3,b4,b5,b6⟩:=num_bound hna;refine⟨?_,by omega⟩;unfold numG;rw[hna];cases ng with
        |true=>
         simp only[if_true];rw[if_neg]
         ·congr 2;unfold sgI;simp
         ·intro hv
          have:=b6.1 hv;rcases h1.2 with h3|h3
          ·exact h3 this
          ·simp at h3
        |false=>simp[sgI]
       have HY:Hid (numS sg (s.data.toList.drop i)=some (sgI ng*x,k+(if ng=true then 1 else 0))):=(HN.out.trans hyes.1:numS sg (s.data.toList.drop i)=some (sgI ng*x,k+(if ng=true then 1 else 0)))
       clear hyes;have w5:IntKind.i64.wrap (sgI ng*x)=sgI ng*x:=by cases ng<;>(simp[sgI];rw[IntKind.wrap_i64];omega)
       go_wp2_with fail;go_ret3;refine⟨?_,rfl⟩;rw[HY.out];show _=_;have e:(j:Int)=(i:Int)+((k+(if ng=true then 1 else 0):Nat):Int):=by
        have h1:=HFI.out;have h2:=HK.out;cases ng with
        |true=>simp at h1⊢;omega
        |false=>simp at h1⊢;omega
       rw[<-e];rfl
end Go.Proofs.YtdbhgaegblclaaaDoor
