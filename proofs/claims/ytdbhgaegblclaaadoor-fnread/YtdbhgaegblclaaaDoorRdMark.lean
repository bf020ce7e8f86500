import Derived.Test.YtdbhgaegblclaaaDoorRdIns
set_option maxHeartbeats 3200000
set_option maxRecDepth 20000
namespace Go.Proofs.YtdbhgaegblclaaaDoor
open Go.RowKit
def MarkR(r:Option NV)(e:Ending):Prop:=
 match r with
 |some x=>e=.returned (.tuple #[.bool true,.int .i64 x.imm])
 |none=>∃n:Int,e=.returned (.tuple #[.bool false,.int .i64 n])
theorem drop_one(l:List UInt8)(k:Nat)(c:UInt8):l.drop k=[c]↔k+1=l.length/\l.getD k 0=c:=by
 constructor
 ·intro h
  have h1:=congrArg List.length h;rw[List.length_drop]at h1;simp only[List.length_cons,List.length_nil]at h1;refine⟨by omega,?_⟩;have h2:=congrArg (fun x:List UInt8=>x.getD 0 0) h;simp only[drop_at]at h2;simpa using h2
 ·rintro⟨h1,h2⟩
  rw[List.drop_eq_getElem_cons (by omega),List.drop_eq_nil_of_le (by omega)];rw[List.getD_eq_getElem?_getD,List.getElem?_eq_getElem (by omega)]at h2;simp only[Option.getD_some]at h2;rw[h2]
theorem mark_0(s:ByteArray)(w:World)(hs:(s.size:Int)<=200000):
 Calls Tryd.prog 50 #[.string s,.int .i64 0] w fun e w'=>MarkR (fit (ptL 0 64) s.data.toList nv0) e/\w'=w:=by
 have HLS:Hid (s.data.toList.length=s.size):=(by simp:s.data.toList.length=s.size)
 have HM:Hid (fit (ptL 0 64) s.data.toList nv0=if s.data.toList.take (lbF 0).length=lbF 0 then(match numAt (s.data.toList.drop (lbF 0).length)with|some (v,n)=>if s.data.toList.drop ((lbF 0).length+n)=[58]then some {nv0 with imm:=v}else none|none=>none)else none):=mark_same 0 (by omega) s.data.toList;obtain⟨ht,hht⟩:∃b,decide (s.data.toList.take (lbF 0).length=lbF 0)=b:=⟨_,rfl⟩
 have HHT:Hid (decide (s.data.toList.take (lbF 0).length=lbF 0)=ht):=hht;clear hht;go_enter Tryd.func50,Tryd.ntmps50;go_upto_region 4 with fail;go_cut [24](fun b wx=>wx=w/\b=.bool (!ht))
 case first=>
  by_cases hfs:2<=s.size
  ·have hf1:¬(s.size:Int)<2:=by omega
   have hf2:(2:Int)<=s.size:=by omega
   go_wp2_with fail;go_meet;refine⟨rfl,congrArg Value.bool ?_⟩;rw[<-HHT.out];simp only[ByteArray.toList_eq,ext_take];show(!(s.data.toList.take 2==lbF 0))=_;congr 1
   rw[Bool.eq_iff_iff];simp only[beq_iff_eq,decide_eq_true_eq];exact Iff.rfl
  ·have hf1:(s.size:Int)<2:=by omega
   have e:Hid (true=!ht):=(by
    rw[<-HHT.out];have:¬s.data.toList.take (lbF 0).length=lbF 0:=by
     intro h;have h3:=congrArg List.length h;rw[List.length_take,HLS.out,show(lbF 0).length=2 from rfl]at h3;omega
    simp[this]:true=!ht)
   go_wp2_with fail;go_meet;exact⟨rfl,congrArg Value.bool e.out⟩
 case rest=>
 obtain⟨hw,rfl⟩:=hcut;rw[hw];clear hw;cases ht with
 |false=>
  have hno:fit (ptL 0 64) s.data.toList nv0=none:=by rw[HM.out,if_neg (by simpa using HHT.out)]
  have HNO:Hid (fit (ptL 0 64) s.data.toList nv0=none):=hno;clear hno;go_wp2_with fail;go_ret2;refine⟨?_,rfl⟩;rw[HNO.out];exact⟨0,rfl⟩
 |true=>
  have htk:s.data.toList.take (lbF 0).length=lbF 0:=by simpa using HHT.out
  have hfs:2<=s.size:=by
   have h3:=congrArg List.length htk;rw[List.length_take,HLS.out,show(lbF 0).length=2 from rfl]at h3;omega
  have HM2:Hid (fit (ptL 0 64) s.data.toList nv0=match numS false (s.data.toList.drop 2)with|some (v,n)=>if s.data.toList.drop (2+n)=[58]then some {nv0 with imm:=v}else none|none=>none):=(by
   rw[HM.out,if_pos htk];have:numS false (s.data.toList.drop 2)=numAt (s.data.toList.drop 2):=by unfold numS;rw[if_neg (by simp)]
   rw[this];rfl:fit (ptL 0 64) s.data.toList nv0=match numS false (s.data.toList.drop 2)with|some (v,n)=>if s.data.toList.drop (2+n)=[58]then some {nv0 with imm:=v}else none|none=>none)
  clear HM htk;go_upto_region 6 with fail;go_wp2_with fail;refine(number_any s 2 false w hs hfs).mono ?_;rintro e w2⟨hn,hw2⟩;rw[hw2];clear hw2;rcases hnum:numS false (s.data.toList.drop 2)with _|⟨v,m⟩
  ·rw[hnum]at hn
   obtain⟨j,rfl⟩:=hn;have HNO:Hid (fit (ptL 0 64) s.data.toList nv0=none):=(by rw[HM2.out,hnum]:fit (ptL 0 64) s.data.toList nv0=none)
   clear hnum;go_wp2_with fail;go_ret2;refine⟨?_,rfl⟩;rw[HNO.out];exact⟨0,rfl⟩
  ·rw[hnum]at hn
   have hml:2+m<=s.size:=by
    have:=num_len hnum;rw[List.length_drop,HLS.out]at this;omega
   have hn':e=.returned (.tuple #[.bool true,.int .i64 v,.int .i64 (((2+m:Nat):Int))]):=hn.trans (by rw[Int.natCast_add]);subst hn';obtain⟨k,hk⟩:∃k,2+m=k:=⟨_,rfl⟩
   have HM3:Hid (fit (ptL 0 64) s.data.toList nv0=if s.data.toList.drop k=[58]then some {nv0 with imm:=v}else none):=(by rw[HM2.out,hnum,<-hk]:fit (ptL 0 64) s.data.toList nv0=if s.data.toList.drop k=[58]then some {nv0 with imm:=v}else none)
   rw[hk]at hml⊢;clear hn hnum hk HM2;have HO:Hid (s.data.toList.drop k=[58]↔k+1=s.size/\s.data.toList.getD k 0=58):=(by rw[drop_one,HLS.out]:s.data.toList.drop k=[58]↔k+1=s.size/\s.data.toList.getD k 0=58)
   by_cases hk1:k+1=s.size
   ·have e1:((k:Int)==(s.size:Int)-1)=true:=by rw[beq_iff_eq];omega
    have hkl:(k:Int)<s.size:=by omega
    obtain⟨c,hc⟩:∃c,s.data.toList.getD k 0=c:=⟨_,rfl⟩
    have hcc:∀h,s[k]'h=c:=fun h=>(str_at s k (by omega)).trans hc
    have HC:Hid (s.data.toList.getD k 0=c):=hc;have HK1:Hid (k+1=s.size):=hk1;clear hc hk1;by_cases h58:c=58
    ·subst h58
     have e2:(((58:UInt8).toNat:Int)==58)=true:=rfl;go_wp2_with fail;go_ret2;refine⟨?_,rfl⟩;rw[HM3.out,if_pos (HO.out.2 ⟨HK1.out,HC.out⟩)];rfl
    ·have e2:((c.toNat:Int)==58)=false:=u8_ne (n:=58) (by omega) h58
     have HNE:Hid (¬c=58):=h58;clear h58;go_wp2_with fail;go_ret2;refine⟨?_,rfl⟩;rw[HM3.out,if_neg (fun h=>HNE.out (HC.out.symm.trans (HO.out.1 h).2))];exact⟨v,rfl⟩
   ·have e1:((k:Int)==(s.size:Int)-1)=false:=by rw[beq_eq_false_iff_ne];omega
    have HK1:Hid (¬k+1=s.size):=hk1;clear hk1;go_wp2_with fail;go_ret2;refine⟨?_,rfl⟩;rw[HM3.out,if_neg (fun h=>HK1.out (HO.out.1 h).1)];exact⟨v,rfl⟩
theorem mark_1(s:ByteArray)(w:World)(hs:(s.size:Int)<=200000):
 Calls Tryd.prog 50 #[.string s,.int .i64 1] w fun e w'=>MarkR (fit (ptL 1 64) s.data.toList nv0) e/\w'=w:=by
 have HLS:Hid (s.data.toList.length=s.size):=(by simp:s.data.toList.length=s.size)
 have HM:Hid (fit (ptL 1 64) s.data.toList nv0=if s.data.toList.take (lbF 1).length=lbF 1 then(match numAt (s.data.toList.drop (lbF 1).length)with|some (v,n)=>if s.data.toList.drop ((lbF 1).length+n)=[58]then some {nv0 with imm:=v}else none|none=>none)else none):=mark_same 1 (by omega) s.data.toList;obtain⟨ht,hht⟩:∃b,decide (s.data.toList.take (lbF 1).length=lbF 1)=b:=⟨_,rfl⟩
 have HHT:Hid (decide (s.data.toList.take (lbF 1).length=lbF 1)=ht):=hht;clear hht;go_enter Tryd.func50,Tryd.ntmps50;go_upto_region 4 with fail;go_cut [24](fun b wx=>wx=w/\b=.bool (!ht))
 case first=>
  by_cases hfs:1<=s.size
  ·have hf1:¬(s.size:Int)<1:=by omega
   have hf2:(1:Int)<=s.size:=by omega
   go_wp2_with fail;go_meet;refine⟨rfl,congrArg Value.bool ?_⟩;rw[<-HHT.out];simp only[ByteArray.toList_eq,ext_take];show(!(s.data.toList.take 1==lbF 1))=_;congr 1
   rw[Bool.eq_iff_iff];simp only[beq_iff_eq,decide_eq_true_eq];exact Iff.rfl
  ·have hf1:(s.size:Int)<1:=by omega
   have e:Hid (true=!ht):=(by
    rw[<-HHT.out];have:¬s.data.toList.take (lbF 1).length=lbF 1:=by
     intro h;have h3:=congrArg List.length h;rw[List.length_take,HLS.out,show(lbF 1).length=1 from rfl]at h3;omega
    simp[this]:true=!ht)
   go_wp2_with fail;go_meet;exact⟨rfl,congrArg Value.bool e.out⟩
 case rest=>
 obtain⟨hw,rfl⟩:=hcut;rw[hw];clear hw;cases ht with
 |false=>
  have hno:fit (ptL 1 64) s.data.toList nv0=none:=by rw[HM.out,if_neg (by simpa using HHT.out)]
  have HNO:Hid (fit (ptL 1 64) s.data.toList nv0=none):=hno;clear hno;go_wp2_with fail;go_ret2;refine⟨?_,rfl⟩;rw[HNO.out];exact⟨0,rfl⟩
 |true=>
  have htk:s.data.toList.take (lbF 1).length=lbF 1:=by simpa using HHT.out
  have hfs:1<=s.size:=by
   have h3:=congrArg List.length htk;rw[List.length_take,HLS.out,show(lbF 1).length=1 from rfl]at h3;omega
  have HM2:Hid (fit (ptL 1 64) s.data.toList nv0=match numS false (s.data.toList.drop 1)with|some (v,n)=>if s.data.toList.drop (1+n)=[58]then some {nv0 with imm:=v}else none|none=>none):=(by
   rw[HM.out,if_pos htk];have:numS false (s.data.toList.drop 1)=numAt (s.data.toList.drop 1):=by unfold numS;rw[if_neg (by simp)]
   rw[this];rfl:fit (ptL 1 64) s.data.toList nv0=match numS false (s.data.toList.drop 1)with|some (v,n)=>if s.data.toList.drop (1+n)=[58]then some {nv0 with imm:=v}else none|none=>none)
  clear HM htk;go_upto_region 6 with fail;go_wp2_with fail;refine(number_any s 1 false w hs hfs).mono ?_;rintro e w2⟨hn,hw2⟩;rw[hw2];clear hw2;rcases hnum:numS false (s.data.toList.drop 1)with _|⟨v,m⟩
  ·rw[hnum]at hn
   obtain⟨j,rfl⟩:=hn;have HNO:Hid (fit (ptL 1 64) s.data.toList nv0=none):=(by rw[HM2.out,hnum]:fit (ptL 1 64) s.data.toList nv0=none)
   clear hnum;go_wp2_with fail;go_ret2;refine⟨?_,rfl⟩;rw[HNO.out];exact⟨0,rfl⟩
  ·rw[hnum]at hn
   have hml:1+m<=s.size:=by
    have:=num_len hnum;rw[List.length_drop,HLS.out]at this;omega
   have hn':e=.returned (.tuple #[.bool true,.int .i64 v,.int .i64 (((1+m:Nat):Int))]):=hn.trans (by rw[Int.natCast_add]);subst hn';obtain⟨k,hk⟩:∃k,1+m=k:=⟨_,rfl⟩
   have HM3:Hid (fit (ptL 1 64) s.data.toList nv0=if s.data.toList.drop k=[58]then some {nv0 with imm:=v}else none):=(by rw[HM2.out,hnum,<-hk]:fit (ptL 1 64) s.data.toList nv0=if s.data.toList.drop k=[58]then some {nv0 with imm:=v}else none)
   rw[hk]at hml⊢;clear hn hnum hk HM2;have HO:Hid (s.data.toList.drop k=[58]↔k+1=s.size/\s.data.toList.getD k 0=58):=(by rw[drop_one,HLS.out]:s.data.toList.drop k=[58]↔k+1=s.size/\s.data.toList.getD k 0=58)
   by_cases hk1:k+1=s.size
   ·have e1:((k:Int)==(s.size:Int)-1)=true:=by rw[beq_iff_eq];omega
    have hkl:(k:Int)<s.size:=by omega
    obtain⟨c,hc⟩:∃c,s.data.toList.getD k 0=c:=⟨_,rfl⟩
    have hcc:∀h,s[k]'h=c:=fun h=>(str_at s k (by omega)).trans hc
    have HC:Hid (s.data.toList.getD k 0=c):=hc;have HK1:Hid (k+1=s.size):=hk1;clear hc hk1;by_cases h58:c=58
    ·subst h58
     have e2:(((58:UInt8).toNat:Int)==58)=true:=rfl;go_wp2_with fail;go_ret2;refine⟨?_,rfl⟩;rw[HM3.out,if_pos (HO.out.2 ⟨HK1.out,HC.out⟩)];rfl
    ·have e2:((c.toNat:Int)==58)=false:=u8_ne (n:=58) (by omega) h58
     have HNE:Hid (¬c=58):=h58;clear h58;go_wp2_with fail;go_ret2;refine⟨?_,rfl⟩;rw[HM3.out,if_neg (fun h=>HNE.out (HC.out.symm.trans (HO.out.1 h).2))];exact⟨v,rfl⟩
   ·have e1:((k:Int)==(s.size:Int)-1)=false:=by rw[beq_eq_false_iff_ne];omega
    have HK1:Hid (¬k+1=s.size):=hk1;clear hk1;go_wp2_with fail;go_ret2;refine⟨?_,rfl⟩;rw[HM3.out,if_neg (fun h=>HK1.out (HO.out.1 h).1)];exact⟨v,rfl⟩
theorem mark_any(s:ByteArray)(d:Int)(w:World)(hs:(s.size:Int)<=200000)(hd:d=0∨d=1):
 Calls Tryd.prog 50 #[.string s,.int .i64 d] w fun e w'=>MarkR (fit (ptL d 64) s.data.toList nv0) e/\w'=w:=by
 rcases hd with rfl|rfl
 ·exact mark_0 s w hs
 ·exact mark_1 s w hs
end Go.Proofs.YtdbhgaegblclaaaDoor
