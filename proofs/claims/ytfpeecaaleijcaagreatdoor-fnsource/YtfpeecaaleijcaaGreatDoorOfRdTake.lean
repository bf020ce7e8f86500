import Derived.Test.YtfpeecaaleijcaaGreatDoorOfCl
import Derived.Test.YtfpeecaaleijcaaGreatDoorOfPzNum
import Derived.Deep.DeepCutAuto
import Derived.OwnWalk
import Derived.Deep.QuietTactic
import Derived.BigQuiet
import Derived.Test.YtfpeecaaleijcaaGreatDoorOfAsmForm
import Derived.Laws.BytesArg
import Derived.Test.YtfpeecaaleijcaaGreatDoorOfInsSame
import Derived.Deep.RegionWith
import Derived.BigRegion
set_option maxHeartbeats 1600000
set_option maxRecDepth 20000
namespace Go.Proofs.YtfpeecaaleijcaaGreatDoor
open Go.RowKit
variable {cs:Array Value}{l:List UInt8}{b o p:Nat}{t:TypeId}{w:World}
theorem drop_at(l:List UInt8)(f k:Nat):(l.drop f).getD k 0=l.getD (f+k) 0:=by
 simp
theorem fK{x:Int}(h0:0<=x)(h1:x<256):IntKind.u8.wrap x=x:=by
 simp[IntKind.wrap,IntKind.bits,IntKind.signed];omega
theorem LC{x:Int}(h0:0<=x)(h1:x<4611686018427387904):IntKind.i64.wrap x=x:=by
 rw[IntKind.wrap_i64];omega
def gZ(x:NV):Array Value:=#[Vi x.op,Vi x.d,Vi x.a,Vi x.b,Vi x.imm,Vi x.h]
theorem AV{fz:Nat×Nat}(h:w.heap[p]?=some (.cells cs t fz))(j:Nat):w.cell? (Va p j)=cs[j]?:=by
 unfold World.cell?;simp only[h];rfl
theorem dz{v0 v1 v2 v3 v4:Value}(h:w.heap[p]?=some (.cells #[v0,v1,v2,v3,v4] t)):w.cell? ⟨p,0,none⟩=some v0/\w.cell? ⟨p,1,none⟩=some v1/\w.cell? ⟨p,2,none⟩=some v2/\w.cell? ⟨p,3,none⟩=some v3/\w.cell? ⟨p,4,none⟩=some v4:=
 ⟨AV h 0,AV h 1,AV h 2,AV h 3,AV h 4⟩
theorem jD{v0 v1 v2 v3 v4 v5 v6 v7:Value}(h:w.heap[p]?=some (.cells #[v0,v1,v2,v3,v4,v5,v6,v7] t)):w.cell? ⟨p,0,none⟩=some v0/\w.cell? ⟨p,1,none⟩=some v1/\w.cell? ⟨p,2,none⟩=some v2/\w.cell? ⟨p,3,none⟩=some v3/\w.cell? ⟨p,4,none⟩=some v4/\w.cell? ⟨p,5,none⟩=some v5/\w.cell? ⟨p,6,none⟩=some v6/\w.cell? ⟨p,7,none⟩=some v7:=
 ⟨AV h 0,AV h 1,AV h 2,AV h 3,AV h 4,AV h 5,AV h 6,AV h 7⟩
theorem EY(h:w.heap[p]?=some (.cells cs t))(j:Nat):w.frozen? (Va p j)=false:=by
 unfold World.frozen?;simp[h]
theorem Ho(h:w.heap[p]?=some (.cells cs t))(j:Nat)(v:Value):(w.setCell (Va p j) v).heap[p]?=some (.cells (cs.setIfInBounds j v) t):=by
 unfold World.setCell;rw[Array.getElem?_modify,if_pos rfl,h];rfl
theorem Yh{q:Nat}{o:Obj}(h:w.heap[p]?=some o)(hne:p≠q)(j:Nat)(v:Value):(w.setCell (Va q j) v).heap[p]?=some o:=by
 rw[heap_setCell_other _ _ _ _ hne];exact h
theorem bE{c:UInt8}{n:Nat}(hn:n<256)(h:c≠UInt8.ofNat n):((c.toNat:Int)==(n:Int))=false:=by
 rw[beq_eq_false_iff_ne];intro e;apply h;apply UInt8.toNat_inj.1;rw[UInt8.toNat_ofNat_of_lt' hn];omega
theorem Y1(s:ByteArray)(n:Nat):(s.extract n s.size).data.toList=s.data.toList.drop n:=by
 simp only[ByteArray.data_extract,Array.toList_extract];rw[List.extract_eq_take_drop,List.take_of_length_le];simp
def Ck(l:List UInt8):ByteArray:=⟨l.toArray⟩
theorem Jh(l:List UInt8):(Ck l).data.toList=l:=rfl
theorem GY(h:At w b o l.length (EG .u8 (bF l))){k:Nat}(hk:k<l.length):w.cell? (Va b (o+k))=some (.int .u8 ((l.getD k 0).toNat:Int)):=h.cell hk
theorem VR(h:At w b o l.length (EG .u8 (bF l)))(k:Nat)(hk:k<=l.length):At w b (o+k) (l.drop k).length (EG .u8 (bF (l.drop k))):=
 ⟨h.1,fun i hi=>by
   rw[List.length_drop]at hi;rw[show o+k+i=o+(k+i)by omega,h.2 (k+i) (by omega)];unfold EG bF;rw[drop_at]⟩
theorem VP(h:At w b o l.length (EG .u8 (bF l)))(k:Nat):At w b o (l.take k).length (EG .u8 (bF (l.take k))):=
 ⟨h.1,fun i hi=>by
   rw[List.length_take]at hi;rw[h.2 i (by omega)];unfold EG bF;congr 2
   simp only[jJ];rw[List.getElem?_take,if_pos (by omega)]⟩
theorem Kq(b o cap:Nat)(l:List UInt8)(w:World)(hl:(l.length:Int)<=1048576)(hat:At w b o l.length (EG .u8 (bF l))):
 Calls Tryz.prog 154 #[.slice (some ⟨b,o,none⟩) l.length cap] w fun e w'=>e=.returned (Vi (pre Be l:Int))/\w'=w:=by
 have HA:=hxy hat;clear hat;go_enter Tryz.func154,Tryz.ntmps154;go_wp2_with fail;go_loopw [3](fun jv wr=>wr=w/\∃j:Nat,j<=l.length/\j<=pre Be l/\jv=Vi j)(fun jv _=>l.length-(intOf jv).toNat)
 case atStart=>exact⟨rfl,0,Nat.zero_le _,Nat.zero_le _,rfl⟩
 case round=>
  obtain⟨hw,j,hj,hp,rfl⟩:=hrel;rw[hw];clear hw;have HP:=hxy hp;clear hp;by_cases hlt:j<l.length
  ·have hl1:(j:Int)<l.length:=by omega
   obtain⟨c,hc⟩:=Ae (l.getD j 0);have g0:w.cell? (Va b (o+j))=some (.int .u8 (c.toNat:Int)):=by rw[<-hc];exact GY HA.out hlt
   have HST:Hid ((Be c=true->j+1<=pre Be l)/\(Be c=false->pre Be l=j)):=(by rw[<-hc];exact Ji Be l j HP.out hlt:(Be c=true->j+1<=pre Be l)/\(Be c=false->pre Be l=j))
   clear hc;by_cases h48:48<=c.toNat
   ·have k48:(48:Int)<=(c.toNat:Int):=by omega
    by_cases h57:c.toNat<=57
    ·have k57:(c.toNat:Int)<=57:=by omega
     have HS:Hid (j+1<=pre Be l):=HST.out.1 (by simp[Be,h48,h57]);go_wp2_with fail;go_roundw
     case rel=>exact⟨trivial,j+1,by omega,HS.out,by go_num⟩
     case measure=>simp[intOf];omega
    ·have k57:¬(c.toNat:Int)<=57:=by omega
     have HS:Hid (pre Be l=j):=HST.out.2 (by simp[Be,h57]);go_wp2_with fail;go_ret;exact⟨by rw[HS.out];rfl,rfl⟩
   ·have k48:¬(48:Int)<=(c.toNat:Int):=by omega
    have HS:Hid (pre Be l=j):=HST.out.2 (by simp[Be,h48]);go_wp2_with fail;go_ret;exact⟨by rw[HS.out];rfl,rfl⟩
  ·have hl1:¬(j:Int)<l.length:=by omega
   have HS:Hid (pre Be l=j):=U1 Be l j HP.out (by omega);go_wp2_with fail;go_ret;exact⟨by rw[HS.out];rfl,rfl⟩
def eP(r:Option (Int×Nat))(b o n cap:Nat)(e:Ending):Prop:=
 match r with
 |some (v,k)=>∃o',e=.returned (.tuple #[Vi v,.slice (some ⟨b,o',none⟩) (n-k) (cap-k),.bool true])/\(o'=o+k∨n-k=0)
 |none=>e=.returned (.tuple #[Vi 0,.slice (some ⟨b,o,none⟩) n cap,.bool false])
theorem FR(b o cap:Nat)(l:List UInt8)(w:World)(hl:(l.length:Int)<=1048576)(hcap:l.length<=cap)(hat:At w b o l.length (EG .u8 (bF l))):
 Calls Tryz.prog 126 #[.slice (some ⟨b,o,none⟩) l.length cap] w fun e w'=>eP (DT l) b o l.length cap e/\Below w.heap.size w w':=by
 have HA:=hxy hat;clear hat;go_enter Tryz.func126,Tryz.ntmps126;go_wp2_with fail;refine(Kq b o cap l w hl HA.out).mono ?_;rintro e w1⟨rfl,hw1⟩;rw[hw1];clear hw1;obtain⟨k,hk⟩:=Ae (pre Be l);have hkl:k<=l.length:=by rw[<-hk];exact Fq Be l
 have HK:=hxy hk;rw[hk];clear hk;obtain⟨bd,hbd⟩:=Ae (decide (k=0∨9<k∨(1<k/\(l.getD 0 0).toNat=48)));have HBD:=hxy hbd;clear hbd;go_upto_region 2 with fail;go_cut [26](fun b wx=>wx=w/\b=.bool bd)
 case first=>
  by_cases h0:k=0
  ·have e0:((k:Int)==0)=true:=by rw[beq_iff_eq];omega
   have e:Hid (true=bd):=(by rw[<-HBD.out];simp[h0]:true=bd)
   go_wp2_with fail;go_meet;exact⟨rfl,congrArg Value.bool e.out⟩
  have e0:((k:Int)==0)=false:=by rw[beq_eq_false_iff_ne];omega
  by_cases h9:9<k
  ·have e1:(9:Int)<k:=by omega
   have e:Hid (true=bd):=(by rw[<-HBD.out];simp[h9]:true=bd)
   go_wp2_with fail;go_meet;exact⟨rfl,congrArg Value.bool e.out⟩
  have e1:¬(9:Int)<k:=by omega
  by_cases h1:1<k
  ·have e2:(1:Int)<k:=by omega
   have hl0:(0:Int)<l.length:=by omega
   obtain⟨c,hc⟩:=Ae (l.getD 0 0);have g0:w.cell? (Va b o)=some (.int .u8 (c.toNat:Int)):=by rw[<-hc];exact GY HA.out (k:=0) (by omega)
   have e:((c.toNat:Int)==48)=bd:=by
    rw[<-HBD.out,hc];by_cases h48:c.toNat=48
    ·simp[h48,h0,h9,h1]
    ·have:¬(c.toNat:Int)=48:=by omega
     simp[h48,h0,h9,this]
   clear hc;go_wp2_with fail;go_meet;exact⟨rfl,rfl⟩
  ·have e2:¬(1:Int)<k:=by omega
   have e:Hid (false=bd):=(by rw[<-HBD.out];simp[h0,h9,h1]:false=bd)
   go_wp2_with fail;go_meet;exact⟨rfl,congrArg Value.bool e.out⟩
 case rest=>
 obtain⟨hw,rfl⟩:=hcut;rw[hw];clear hw;cases bd with
 |true=>
  have HN:Hid (DT l=none):=(by unfold DT;rw[HK.out,if_pos (by simpa using HBD.out)]:DT l=none)
  go_wp2_with fail;go_ret3;refine⟨?_,Below.refl _ _⟩;rw[HN.out];rfl
 |false=>
  have hnb:¬(k=0∨9<k∨(1<k/\(l.getD 0 0).toNat=48)):=by simpa using HBD.out
  have HN:Hid (DT l=some (DU (l.take k),k)):=(by unfold DT;rw[HK.out,if_neg hnb]:DT l=some (DU (l.take k),k))
  have hk9:k<=9:=by omega
  have hkc:(k:Int)<=cap:=by omega
  have hkl1:(k:Int)<=l.length:=by omega
  clear hnb HBD;go_wp2_with fail;go_loopw [6,8,32](fun xv _ jv wr=>wr=w/\∃j:Nat,j<=k/\jv=Vi j/\xv=Vi (DU (l.take j)))(fun _ _ jv _=>k-(intOf jv).toNat)
  case atStart=>exact⟨rfl,0,Nat.zero_le _,rfl,rfl⟩
  case round=>
   obtain⟨hw,j,hj,rfl,rfl⟩:=hrel;rw[hw];clear hw;by_cases hlt:j<k
   ·have hl1:(j:Int)<k:=by omega
    obtain⟨c,hc⟩:=Ae (l.getD j 0);have g0:w.cell? (Va b (o+j))=some (.int .u8 (c.toNat:Int)):=by rw[<-hc];exact GY HA.out (by omega)
    have hdg:=Jd Be l j (by rw[HK.out];exact hlt);rw[hc]at hdg;have hcb:48<=c.toNat/\c.toNat<=57:=by simpa[Be]using hdg
    obtain⟨x,hx⟩:=Ae (DU (l.take j));have hxb:0<=x/\x<=1000000000:=by
     have:=FV l j (by rw[HK.out];omega);rw[hx]at this;have h10:(10:Int)^j<=10^9:=by
      have h1:(10:Int)^j*10^(9-j)=10^9:=by rw[<-Int.pow_add];congr 1;omega
      have h2:=Int.pow_pos (n:=10) (m:=9-j) (by decide);have h3:=Int.pow_pos (n:=10) (m:=j) (by decide);have h4:=Int.mul_le_mul_of_nonneg_left (show(1:Int)<=10^(9-j)by omega) (show(0:Int)<=10^j by omega);omega
     omega
    have HX:=hxy hx;have HC:=hxy hc;rw[hx];have w1:IntKind.u8.wrap ((c.toNat:Int)-48)=(c.toNat:Int)-48:=fK (by omega) (by omega);have w2:IntKind.i64.wrap (x*10)=x*10:=LC (by omega) (by omega);have w3:IntKind.i64.wrap ((c.toNat:Int)-48)=(c.toNat:Int)-48:=LC (by omega) (by omega);have w4:IntKind.i64.wrap (x*10+((c.toNat:Int)-48))=x*10+((c.toNat:Int)-48):=LC (by omega) (by omega);clear hx hc hdg;go_wp2_with fail;go_roundw
    case rel=>
     refine⟨trivial,j+1,by omega,by go_num,?_⟩;rw[IK l j (by omega),HX.out,HC.out]
    case measure=>simp[intOf];omega
   ·obtain rfl:j=k:=by omega
    obtain⟨x,hx⟩:=Ae (DU (l.take j));have HX:=hxy hx;rw[hx];clear hx;by_cases hjc:j=cap
    ·have hc1:(j:Int)=cap:=by omega
     have hj0:l.length-j=0:=by omega
     subst hjc;go_wp2_with fail;go_quiet(fail);go_wp2_with fail;go_ret3;refine⟨?_,below_drewN (Below.refl _ _) _⟩;rw[HN.out,HX.out];exact⟨o,by rw[hj0,Nat.sub_self];rfl,.inr hj0⟩
    ·have hc1:¬(j:Int)=cap:=by omega
     go_wp2_with fail;go_quiet(fail);go_wp2_with fail;go_ret3;refine⟨?_,below_drewN (Below.refl _ _) _⟩;rw[HN.out,HX.out];exact⟨o+j,rfl,.inl rfl⟩
theorem QU(x:NV)(w:World):
 Calls Tryz.prog 127 #[.agg (gZ x)] w fun e w'=>e=.returned (.bool (Hq x))/\Below w.heap.size w w':=by
 have HB:Hid (∀o,Below w.heap.size w (w.alloc o)):=fun o=>Ak
 cases hj:Ce x.op with
 |true=>
  have HC:Hid (Hq x=Ar x.op x.d x.a x.b 0 x.h):=(by unfold Hq;rw[hj];rfl:Hq x=Ar x.op x.d x.a x.b 0 x.h)
  unfold gZ;go_enter Tryz.func127,Tryz.ntmps127;go_wp2_with(first|(go_at_call 155;refine(OY _ _).mono ?_;rintro e w2⟨rfl,hw2⟩;rw[hw2,hj];clear hw2));refine(G8 x.op x.d x.a x.b 0 x.h _).mono ?_;rintro e w2⟨rfl,hb2⟩;have hb3:=(HB.out _).trans (hb2.mono (HB.out _).size);go_wp2_with fail;go_ret;exact⟨by rw[HC.out];rfl,hb3⟩
 |false=>
  have HC:Hid (Hq x=Ar x.op x.d x.a x.b x.imm x.h):=(by unfold Hq;rw[hj];rfl:Hq x=Ar x.op x.d x.a x.b x.imm x.h)
  unfold gZ;go_enter Tryz.func127,Tryz.ntmps127;go_wp2_with(first|(go_at_call 155;refine(OY _ _).mono ?_;rintro e w2⟨rfl,hw2⟩;rw[hw2,hj];clear hw2));refine(G8 x.op x.d x.a x.b x.imm x.h _).mono ?_;rintro e w2⟨rfl,hb2⟩;have hb3:=(HB.out _).trans (hb2.mono (HB.out _).size);go_wp2_with fail;go_ret;exact⟨by rw[HC.out];rfl,hb3⟩
end Go.Proofs.YtfpeecaaleijcaaGreatDoor
