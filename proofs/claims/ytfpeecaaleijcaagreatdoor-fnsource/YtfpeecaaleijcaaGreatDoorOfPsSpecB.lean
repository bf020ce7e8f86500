import Derived.Test.YtfpeecaaleijcaaGreatDoorOfUnitMeasure
import Derived.Test.YtfpeecaaleijcaaGreatDoorOfAsmProg
import Derived.Test.YtfpeecaaleijcaaGreatDoorOfValBlock
import Derived.Test.YtfpeecaaleijcaaGreatDoorOfCl
import Derived.Deep.DeepCutAuto
import Derived.Laws.IdiomStrings
set_option maxHeartbeats 32000000
set_option maxRecDepth 20000
namespace Go.Proofs.YtfpeecaaleijcaaGreatDoor
open Go.RowKit
variable {d:Int}{bH n nH nR np:Nat}{S:Nat->HS}{Pv:Nat->PV}{V:Nat->VV}{s:SV}{u:World}
def bs(l:List UInt8):ByteArray:=⟨l.toArray⟩
theorem CB(a b:List UInt8):bs a++bs b=bs (a++b):=ByteArray.ext (by simp[bs])
theorem Cy(l:List UInt8):(bs l).size=l.length:=by simp[bs,ByteArray.size]
theorem Ps(s:ByteArray):bs s.data.toList=s:=by cases s;simp[bs]
theorem Zh(l:List UInt8):(bs l).data.toList=l:=by simp[bs]
def EP(c:Int):List UInt8:=if c=1 then[122]else if c=2 then[110,122]else if c=3 then[99]else[110,99]
def Ey(s:SV):List UInt8:=(Fb 1 s.op s.d s.a s.b s.imm s.h).data.toList
def Gy(s:SV):List UInt8:=(if s.k=3 then[119,104,105,108,101,32]else[105,102,32])++EP s.cond++[10]
def EZ(s:SV):List UInt8:=[99,97,108,108,32]++Lib.itoa s.proc++[10]
def Dc:List UInt8:=[101,108,115,101,10]
def EO:List UInt8:=[101,110,100,10]
def Dm(L:Nat->SV)(i te:Nat):List UInt8:=
 if _h:i<te then
  if _hs:i+1+(L i).thn.toNat+(L i).els.toNat<=te then
   if(L i).k=1 then Ey (L i)++[10]++Dm L (i+1+(L i).thn.toNat+(L i).els.toNat) te
   else if(L i).k=4 then EZ (L i)++Dm L (i+1+(L i).thn.toNat+(L i).els.toNat) te
   else Gy (L i)++Dm L (i+1) (i+1+(L i).thn.toNat)++(if 0<(L i).els then Dc++Dm L (i+1+(L i).thn.toNat) (i+1+(L i).thn.toNat+(L i).els.toNat)else[])++EO++Dm L (i+1+(L i).thn.toNat+(L i).els.toNat) te
  else[]
 else[]
section
variable{L:Nat->SV}{i te:Nat}
theorem J5(h:¬i<te):Dm L i te=[]:=by rw[Dm,dif_neg h]
theorem U3(h:i<te)(hs:i+1+(L i).thn.toNat+(L i).els.toNat<=te)(k:(L i).k=1):Dm L i te=Ey (L i)++[10]++Dm L (i+1+(L i).thn.toNat+(L i).els.toNat) te:=by rw[Dm,dif_pos h,dif_pos hs,if_pos k]
theorem U9(h:i<te)(hs:i+1+(L i).thn.toNat+(L i).els.toNat<=te)(k:(L i).k=4):Dm L i te=EZ (L i)++Dm L (i+1+(L i).thn.toNat+(L i).els.toNat) te:=by rw[Dm,dif_pos h,dif_pos hs,if_neg (by omega),if_pos k]
theorem Oy(h:i<te)(hs:i+1+(L i).thn.toNat+(L i).els.toNat<=te)(k:(L i).k=2∨(L i).k=3):Dm L i te=Gy (L i)++Dm L (i+1) (i+1+(L i).thn.toNat)++(if 0<(L i).els then Dc++Dm L (i+1+(L i).thn.toNat) (i+1+(L i).thn.toNat+(L i).els.toNat)else[])++EO++Dm L (i+1+(L i).thn.toNat+(L i).els.toNat) te:=by rw[Dm,dif_pos h,dif_pos hs,if_neg (by omega),if_neg (by omega)]
end
theorem Py:∀(k n:Nat),n<10^(k+1)->(Lib.decDigits n).length<=k+1
 |0,n,h=>by rw[Lib.decDigits,dif_pos (by omega)];simp
 |k+1,n,h=>by
  rw[Lib.decDigits];by_cases h1:n<10
  ·rw[dif_pos h1];simp
  ·rw[dif_neg h1]
   have:=Py k (n/10) (by rw[Nat.pow_succ]at h;omega);simp;omega
theorem El(x:Int)(h:x.natAbs<10000000000000000):(Lib.itoa x).length<=17:=by
 unfold Lib.itoa;split
 ·have:=Py 15 x.natAbs (by omega)
  simp;omega
 ·have:=Py 15 x.toNat (by omega)
  omega
theorem DN(x:Int)(h:x.natAbs<10000000000000000):(Cn x).size<=17:=by
 have:=El x h;simpa[Cn,ByteArray.size]using this
theorem KC{op a b imm h:Int}(hh:Ar op d a b imm h=true):1<=op/\op<=34/\d.natAbs<=1000000/\a.natAbs<=1000000/\b.natAbs<=1000000/\imm.natAbs<=1000000/\h.natAbs<=1000000:=by
 unfold Ar at hh;simp only[Bool.and_eq_true]at hh;obtain⟨⟨⟨⟨⟨h0,h1⟩,h2⟩,h3⟩,h4⟩,h5⟩:=hh;have fb:∀(u:Bool)(v lo hi:Int),C8 u v lo hi=true->((lo<=v/\v<=hi)∨v=0):=fun u v lo hi hh=>by
  unfold C8 at hh;cases u with
  |true=>simp[Ec]at hh;exact .inl hh
  |false=>simp at hh;exact .inr hh
 have k0:1<=op/\op<=34:=by simpa[Ec]using h0
 have k1:=fb _ _ _ _ h1;have k2:=fb _ _ _ _ h2;have k3:=fb _ _ _ _ h3;have k4:=fb _ _ _ _ h4;have k5:=fb _ _ _ _ h5;have i1: -1000000<=CX op:=by unfold CX;split<;>omega
 have i2:Ca op<=1000000:=by
  unfold Ca;split
  ·omega
  ·split<;>omega
 omega
theorem MH{op dd a b imm h:Int}(hh:Ar op dd a b imm h=true):(Fb d op dd a b imm h).size<=530:=by
 obtain⟨_,_,h1,h2,h3,h4,h5⟩:=KC hh;have hf:∀c,(Ka dd a b imm h c).size<=17:=fun c=>by
  unfold Ka;repeat' apply Jl
  ·exact DN _ (by omega)
  ·exact DN _ (by omega)
  ·exact DN _ (by omega)
  ·exact DN _ (by omega)
  ·exact DN _ (by omega)
  ·exact DN _ (by omega)
  ·show 1<=17;omega
 have k3:=Oh (Ka dd a b imm h) 17 hf (Kv d op).data.toList (Nh d op);have k4:=Ov d op;have k5:=Mw op;have k6:(Nh d op).size<=11:=by
  unfold Nh;apply Jl
  ·omega
  ·simp only[ByteArray.size_append]
   show(J9 op).size+1<=11;omega
 have k7:(Kv d op).data.toList.length=(Kv d op).size:=rfl;unfold Fb;omega
theorem NT{procs:Int}(h:BG s procs=true)(k:s.k=1):Ar s.op s.d s.a s.b s.imm s.h=true/\s.op<29:=by
 unfold BG at h;rw[if_pos k]at h;simp only[Bool.and_eq_true,decide_eq_true_eq]at h;exact⟨h.1,h.2.1⟩
theorem Xa{procs:Int}(h:BG s procs=true)(k:s.k=1):(Ey s).length<=530:=MH (NT h k).1
theorem Oa{procs:Int}(h:BG s procs=true)(k:s.k=4)(hp:procs<=100):(EZ s).length<=40:=by
 have h1:=Jv h k;have:=El s.proc (by omega);unfold EZ;simp only[List.length_append,List.length_cons,List.length_nil];omega
theorem Ze(s:SV):(Gy s).length<=9:=by
 have h1:(EP s.cond).length<=2:=by unfold EP;(repeat' split);all_goals decide
 have h2:(if s.k=3 then([119,104,105,108,101,32]:List UInt8)else[105,102,32]).length<=6:=by split<;>decide
 unfold Gy;simp only[List.length_append,List.length_cons,List.length_nil];omega
theorem FX{L:Nat->SV}{me procs deep:Int}(hp:procs<=100):∀(m i te:Nat)(depth:Int),te-i<=m->i<=te->(CZ L me procs deep i te depth).1=0->(Dm L i te).length<=(te-i)*600:=by
 intro m;induction m with
 |zero=>intro i te depth hm hit _;rw[J5 (by omega)];simp
 |succ m ih=>
  intro i te depth hm hit hc;by_cases h:i<te
  rotate_left
  ·rw[J5 h];simp
  obtain⟨sok,hs,c1,c2,c3⟩:=Gv hc h;have e3:=ih _ te depth (by omega) hs c3;have e1:=ih (i+1) (i+1+(L i).thn.toNat) _ (by omega) (by omega) c1;have e2:=ih (i+1+(L i).thn.toNat) (i+1+(L i).thn.toNat+(L i).els.toNat) _ (by omega) (by omega) c2;by_cases k1:(L i).k=1
  ·have:=Xa sok k1
   rw[U3 h hs k1];simp only[List.length_append,List.length_cons,List.length_nil];omega
  by_cases k4:(L i).k=4
  ·have:=Oa sok k4 hp
   rw[U9 h hs k4];simp only[List.length_append];omega
  ·have k23:(L i).k=2∨(L i).k=3:=by
    rcases TV sok with k|k|k|k
    ·exact absurd k k1
    ·exact .inl k
    ·exact .inr k
    ·exact absurd k k4
   have hh:=Ze (L i);have e4:(if 0<(L i).els then Dc++Dm L (i+1+(L i).thn.toNat) (i+1+(L i).thn.toNat+(L i).els.toNat)else[]).length<=5+(L i).els.toNat*600:=by
    split
    ·rw[List.length_append]
     show 5+_<=_;omega
    ·simp
   have e5:EO.length=4:=rfl;rw[Oy h hs k23];simp only[List.length_append];omega
theorem JZ(c:Int)(w:World)(h1:1<=c)(h2:c<=4):Calls Tryz.prog 51 #[Vi c] w fun e w'=>e=.returned (.string (bs (EP c)))/\Below w.heap.size w w':=by
 obtain rfl|rfl|rfl|rfl:c=1∨c=2∨c=3∨c=4:=by omega
 all_goals
  go_enter Tryz.func51,Tryz.ntmps51;go_wp2;go_ret;exact⟨rfl,Ak⟩
theorem PX{procs:Int}(h:BG s procs=true)(k:s.k=2∨s.k=3):1<=s.cond/\s.cond<=4:=by
 unfold BG at h;rcases k with k|k
 ·rw[if_neg (by omega),if_pos k]at h
  have:=of_decide_eq_true h;omega
 ·rw[if_neg (by omega),if_neg (by omega),if_pos k]at h
  have:=of_decide_eq_true h;omega
theorem Px(c:Int):(EP c).length<=2:=by
 unfold EP;repeat' split
 all_goals decide
def Yy(L:Nat->SV)(b n:Nat)(i te:Nat):Prop:=
 ∀(off len cap':Nat)(w:World),len=te-i->(0<len->off=i*11)->len<=cap'->A9 w b (n*11) (IU L)->Calls Tryz.prog 29 #[.slice (some ⟨b,off,none⟩) len cap'] w fun e w'=>e=.returned (.string (bs (Dm L i te)))/\Below w.heap.size w w'
theorem Oc(L:Nat->SV)(b n i te:Nat)(me procs deep depth:Int)(hit:i<=te)(hte:te<=n)(ln:n<=500)(hpr:procs<=100)(hck:(CZ L me procs deep i te depth).1=0)
 (hI:∀i' te' d,i<=i'->i'<=te'->te'<=te->te'-i'<te-i->(CZ L me procs deep i' te' d).1=0->Yy L b n i' te'):Yy L b n i te:=by
 intro off len cap' w hlen hoff hcap hA;have hl1:len<=te-i:=by omega
 have hl2:te-i<=len:=by omega
 have HOFF:=hxy hoff;have HI:Hid _:=hI;have HCK:=hxy hck;have HA:=hxy hA;have HPR:=hxy hpr;have lb:=hA.lt;obtain⟨all,hall⟩:=Ae (Dm L i te);rw[hall];have HALL:=hxy hall;have hal:Hid (all.length<=300000):=(by
  have:=FX hpr _ i te depth jG hit hck;rw[hall]at this;omega:all.length<=300000)
 clear hlen hoff hI hck hA hall hpr;go_enter Tryz.func29,Tryz.ntmps29;go_wp2_with fail;go_loopw [3,4](fun ov iv wr=>∃(j:Nat)(done:List UInt8),i+j<=te/\iv=Vi (j:Int)/\ov=.string (bs done)/\Below w.heap.size w wr/\done++Dm L (i+j) te=all/\(CZ L me procs deep (i+j) te depth).1=0)(fun _ iv _=>len-(intOf iv).toNat)
 case atStart=>exact⟨0,[],by omega,rfl,rfl,Below.refl _ _,by rw[Nat.add_zero];exact HALL.out,by rw[Nat.add_zero];exact HCK.out⟩
 case round=>
  obtain⟨j,done,hj,rfl,hov,hb,hd,hc⟩:=hrel;obtain⟨s,hs⟩:=Ae (bs done);rw[hs]at hov;subst hov;have HS:=hxy hs;have B2:=hxy hb;have HD:=hxy hd;have HK:=hxy hc;have hsz:s.size<=300000:=by
   have h1:=hal.out;rw[<-hd,List.length_append]at h1;rw[<-hs,Cy];omega
  clear hb hd hc hs;by_cases hlt:i+j<te
  rotate_left
  ·have hlt':¬(j:Int)<(len:Int):=by omega
   have hdone:done=all:=by have:=HD.out;rw[J5 hlt,List.append_nil]at this;exact this
   go_wp2;go_ret;exact⟨by rw[<-HS.out,hdone];rfl,B2.out⟩
  have hlt':(j:Int)<(len:Int):=by omega
  have hof:off=i*11:=HOFF.out (by omega);subst hof;clear HOFF;obtain⟨p,hp⟩:=Ae (i+j);rw[hp]at hlt;have HP:=hxy hp;have A2:=hxy (HA.out.below B2.out lb);obtain⟨s0,s1,s2,s3,s4,s5,s6,s7,s8,s9,s10⟩:=Eu (n:=n) A2.out p (by omega);rw[show p*11=i*11+j*11 by omega]at s0 s1 s2 s3 s4 s5 s6 s7 s8 s9 s10;rw[hp]at HD HK;clear hp;go_upto_region 5 with fail;clear s0 s1 s2 s3 s4 s5 s6 s7 s8 s9 s10;obtain⟨u1,hu1,hb1,hc1⟩:∃x,wr.alloc (.cells #[Vi (L p).k,Vi (L p).op,Vi (L p).d,Vi (L p).a,Vi (L p).b,Vi (L p).imm,Vi (L p).h,Vi (L p).cond,Vi (L p).thn,Vi (L p).els,Vi (L p).proc] 89)=x/\Below wr.heap.size wr x/\Cl x wr.heap.size [Vi (L p).k,Vi (L p).op,Vi (L p).d,Vi (L p).a,Vi (L p).b,Vi (L p).imm,Vi (L p).h,Vi (L p).cond,Vi (L p).thn,Vi (L p).els,Vi (L p).proc]:=⟨_,rfl,Ak,Cl.new⟩
  rw[hu1];have wz:=B2.out.size;obtain⟨sb,hsb⟩:=Ae wr.heap.size;rw[hsb]at hb1 hc1 wz⊢;have S1:=hxy hc1;have B3:=hxy (B2.out.trans (hb1.mono wz));have sl:=hc1.1;clear hu1 hb1 hc1 B2 hsb A2;obtain⟨sok,hnt,k1,k2,k3⟩:=Gv HK.out hlt;have HK1:Hid _:=k1;have HK2:Hid _:=k2;have HK3:Hid _:=k3;have HSOK:=hxy sok;obtain⟨tp,ep⟩:=KN sok;clear k1 k2 k3 sok HK;obtain⟨a,ha⟩:∃x:Nat,(L p).thn=(x:Int):=⟨(L p).thn.toNat,by omega⟩
  obtain⟨e',he'⟩:∃x:Nat,(L p).els=(x:Int):=⟨(L p).els.toNat,by omega⟩
  have HA':Hid ((L p).thn=(a:Int)/\(L p).thn.toNat=a):=⟨ha,by omega⟩
  have HB':Hid ((L p).els=(e':Int)/\(L p).els.toNat=e'):=⟨he',by omega⟩
  rw[HA'.out.2,HB'.out.2]at hnt;have HNT:Hid (p+1+(L p).thn.toNat+(L p).els.toNat<=te):=(by rw[HA'.out.2,HB'.out.2];exact hnt:p+1+(L p).thn.toNat+(L p).els.toNat<=te)
  have hij:=HP.out;have HKA:Hid ((CZ L me procs deep (p+1) (p+1+a) (depth+1)).1=0):=(by have h:=HK1.out;rw[HA'.out.2]at h;exact h:(CZ L me procs deep (p+1) (p+1+a) (depth+1)).1=0)
  have HKB:Hid ((CZ L me procs deep (p+1+a) (p+1+a+e') (depth+1)).1=0):=(by have h:=HK2.out;rw[HA'.out.2,HB'.out.2]at h;exact h:(CZ L me procs deep (p+1+a) (p+1+a+e') (depth+1)).1=0)
  have HKC:Hid ((CZ L me procs deep (p+1+a+e') te depth).1=0):=(by have h:=HK3.out;rw[HA'.out.2,HB'.out.2]at h;exact h:(CZ L me procs deep (p+1+a+e') te depth).1=0)
  have lz:a<=500:=by omega
  have lz2:e'<=500:=by omega
  obtain⟨c0,c1,c2,c3,c4,c5,c6,c7,c8,c9,c10⟩:=Gx S1.out;rw[ha]at c8;rw[he']at c9;have AU:=hxy (HA.out.below B3.out lb);have FIN:Hid (∀(x:List UInt8),x++Dm L (p+1+a+e') te=Dm L p te->(done++x)++Dm L (i+(j+1+a+e')) te=all/\(bs (done++x)).size<=300000):=(fun x hx=>by
   have h1:(done++x)++Dm L (i+(j+1+a+e')) te=all:=by
    rw[show i+(j+1+a+e')=p+1+a+e' by omega,List.append_assoc,hx];exact HD.out
   refine⟨h1,?_⟩;have h2:=hal.out;rw[<-h1,List.length_append]at h2;rw[Cy];omega:∀(x:List UInt8),x++Dm L (p+1+a+e') te=Dm L p te->(done++x)++Dm L (i+(j+1+a+e')) te=all/\(bs (done++x)).size<=300000)
  clear ha he' tp ep HK1 HK2 HK3;rcases TV HSOK.out with hk|hk|hk|hk
  ·have e1:((L p).k==1)=true:=by simp[hk]
   obtain⟨y2,y3⟩:=Js HSOK.out (.inl hk);have ea:a=0:=by have:=HA'.out.1;omega
   have ee:e'=0:=by have:=HB'.out.1;omega
   obtain⟨i1,i2,i3,i4,i5,i6,i7⟩:=KC (NT HSOK.out hk).1;have hll:=MH (d:=1) (NT HSOK.out hk).1;obtain⟨ls,hls⟩:=Ae (Fb 1 (L p).op (L p).d (L p).a (L p).b (L p).imm (L p).h);have HLS:=hxy hls;rw[hls]at hll;have HX:Hid ((Ey (L p)++[10])++Dm L (p+1+a+e') te=Dm L p te):=(by
    rw[U3 hlt HNT.out hk,HA'.out.2,HB'.out.2]:(Ey (L p)++[10])++Dm L (p+1+a+e') te=Dm L p te)
   have F1:=FIN.out _ HX.out;have HF1:Hid _:=F1.1;have HSTR:Hid (s++ls++⟨#[10]⟩=bs (done++(Ey (L p)++[10]))):=(by
    rw[<-CB,HS.out,<-CB,ByteArray.append_assoc];unfold Ey;rw[HLS.out,Ps];rfl:s++ls++⟨#[10]⟩=bs (done++(Ey (L p)++[10])))
   have z1:¬9223372036854775807<s.size+ls.size:=by omega
   have z2:¬9223372036854775807<s.size+ls.size+1:=by omega
   clear hk y2 y3 hls F1;go_wp2_with fail;refine(Xj (L p).op (L p).d (L p).a (L p).b (L p).imm (L p).h 1 _ i1 i2 (.inr rfl) (by omega) (by omega) (by omega) (by omega) (by omega)).mono ?_;rintro e u2⟨rfl,hb2⟩;rw[HLS.out];have B4:Hid (Below w.heap.size w u2):=B3.out.trans (hb2.mono B3.out.size);have S2:Hid _:=S1.out.below hb2;clear hb2 c0 c1 c2 c3 c4 c5 c6 c7 c8 c9 c10 B3;obtain⟨c0,c1,c2,c3,c4,c5,c6,c7,c8,c9,c10⟩:=Gx S2.out;rw[HA'.out.1]at c8;rw[HB'.out.1]at c9;go_wp2_with fail;go_roundw
   case rel=>exact⟨j+1+a+e',_,by omega,by go_num,by rw[<-HSTR.out],B4.out,HF1.out,by rw[show i+(j+1+a+e')=p+1+a+e' by omega];exact HKC.out⟩
   case measure=>simp[intOf];omega
  ·have e1:((L p).k==1)=false:=by simp[hk]
   have e2:((L p).k==4)=false:=by simp[hk]
   have e3:((L p).k==3)=false:=by simp[hk]
   have hcd:=PX HSOK.out (.inl hk);obtain⟨cd,hcd'⟩:=Ae (bs (EP (L p).cond));have HCD:=hxy hcd';have cdz:cd.size<=2:=by rw[<-hcd',Cy];exact Px _
   obtain⟨xl,hxl⟩:=Ae (Dm L (p+1) (p+1+a));have HXL:=hxy hxl;obtain⟨xs,hxs⟩:=Ae (bs xl);have HXS:=hxy hxs;obtain⟨yl,hyl⟩:=Ae (Dm L (p+1+a) (p+1+a+e'));have HYL:=hxy hyl;obtain⟨ys,hys⟩:=Ae (bs yl);have HYS:=hxy hys;have HX:Hid ((Gy (L p)++xl++(if 0<(L p).els then Dc++yl else[])++EO)++Dm L (p+1+a+e') te=Dm L p te):=(by
    rw[Oy hlt HNT.out (.inl hk),HA'.out.2,HB'.out.2,hxl,hyl]:(Gy (L p)++xl++(if 0<(L p).els then Dc++yl else[])++EO)++Dm L (p+1+a+e') te=Dm L p te)
   have F1:=FIN.out _ HX.out;have HF1:Hid _:=F1.1;have hxz:xs.size<=300000:=by
    have h2:=F1.2;rw[Cy]at h2;simp only[List.length_append]at h2;rw[<-hxs,Cy];omega
   have hyz:ys.size<=300000:=by
    have h2:=FX HPR.out _ (p+1+a) (p+1+a+e') (depth+1) jG (by omega) HKB.out;rw[hyl]at h2;rw[<-hys,Cy];omega
   have HHD:Hid (Gy (L p)=(⟨#[105,102,32]⟩:ByteArray).data.toList++EP (L p).cond++[10]):=(by unfold Gy;rw[if_neg (by omega)]:Gy (L p)=(⟨#[105,102,32]⟩:ByteArray).data.toList++EP (L p).cond++[10])
   have z1:¬9223372036854775807<s.size+3:=by omega
   have z2:¬9223372036854775807<s.size+3+cd.size:=by omega
   have z3:¬9223372036854775807<s.size+3+cd.size+1:=by omega
   have z4:¬9223372036854775807<s.size+3+cd.size+1+xs.size:=by omega
   clear F1 hcd' hxl hxs hyl hys hk;obtain⟨j1,hj1⟩:∃x,x=j+1:=⟨_,rfl⟩
   obtain⟨j2,hj2⟩:∃x,x=j+1+a:=⟨_,rfl⟩
   obtain⟨j3,hj3⟩:∃x,x=j+1+a+e':=⟨_,rfl⟩
   have wa:IntKind.i64.wrap ((j:Int)+1)=(j1:Int):=by rw[IntKind.wrap_i64]<;>omega
   have wb:IntKind.i64.wrap ((j1:Int)+(a:Int))=(j2:Int):=by rw[IntKind.wrap_i64]<;>omega
   have wc:IntKind.i64.wrap ((j2:Int)+(e':Int))=(j3:Int):=by rw[IntKind.wrap_i64]<;>omega
   have g1:j2<=cap':=by omega
   have g2:(j1:Int)<=max (j2:Int) 0:=by omega
   obtain⟨o1,ho1,ho1'⟩:∃x,(if cap'=j1 then some (⟨b,i*11,none⟩:Addr)else some (⟨b,i*11+j1*11,none⟩:Addr))=some (⟨b,x,none⟩:Addr)/\(0<a->x=(p+1)*11):=by
    by_cases h:cap'=j1
    ·exact⟨_,if_pos h,fun h'=>by omega⟩
    ·exact⟨_,if_neg h,fun h'=>by omega⟩
   have HO1:=hxy ho1';have HJ:Hid (j1=j+1/\j2=j+1+a/\j3=j+1+a+e'):=⟨hj1,hj2,hj3⟩
   have j12:j1<=j2:=by omega
   have j23:j2<=j3:=by omega
   clear ho1' hj1 hj2 hj3;go_upto_region 9 with fail;have r7:∀w',Below u1.heap.size u1 w'->w'.cell? (Va sb 7)=some (Vi (L p).cond):=fun w' h=>(h.cell (p:=Va sb 7) sl).trans c7
   have r8:∀w',Below u1.heap.size u1 w'->w'.cell? (Va sb 8)=some (Vi (a:Int)):=fun w' h=>(h.cell (p:=Va sb 8) sl).trans c8
   have R8:=hxy r8;have R9:Hid (∀w',Below u1.heap.size u1 w'->w'.cell? (Va sb 9)=some (Vi (e':Int))):=fun w' h=>(h.cell (p:=Va sb 9) sl).trans c9
   clear c0 c1 c2 c3 c4 c5 c6 c7 c8 c9 c10;go_cut [3,4,5](fun s3 s4 s5 wx=>s3=.string (s++⟨#[105,102,32]⟩++cd++⟨#[10]⟩++xs)/\s4=Vi (j:Int)/\s5=Vq sb/\Below u1.heap.size u1 wx)
   case first=>
    refine wp_region_held_drew (S:=fun w'=>Below u1.heap.size u1 w') (by kernel_rfl) (Below.refl _ _).drew (fun _=>?_);refine AB 0 rfl ?_;refine AB 1 rfl ?_;refine AB 2 rfl ?_;refine AB 3 rfl ?_;refine AB 4 rfl ?_;refine AB 8 rfl ?_;refine AB 9 rfl ?_;refine AB 10 rfl ?_;refine AB 11 rfl ?_;refine AB 12 rfl ?_;refine AB 13 rfl ?_;refine AB 14 rfl ?_;refine AB 15 rfl ?_;refine AB 16 rfl ?_;obtain⟨v2,hv2,hbd⟩:∃v,u1.drew=v/\Below u1.heap.size u1 v:=⟨_,rfl,(Below.refl _ _).drew⟩
    rw[hv2];clear hv2;refine AO 5 rfl (fun KK hK=>?_);go_simp;refine(JZ (L p).cond _ hcd.1 hcd.2).mono ?_;rintro e v3⟨rfl,hb3⟩;rw[HCD.out];have hB3:=hbd.trans (hb3.mono hbd.size);refine hK.out _ _ hB3 (fun _=>?_);clear hK KK hb3;try simp only[Act.put,BP,BN,BK,BQ,BS,BM]
    refine AB 6 rfl ?_;refine AB 7 rfl ?_;refine AO 17 rfl (fun KK hK=>?_);go_simp;obtain⟨q1,q2,q3⟩:=HJ.out;refine(HI.out (p+1) (p+1+a) (depth+1) (by omega) (by omega) (by omega) (by omega) HKA.out o1 (j2-j1) (cap'-j1) v3 (by omega) (fun h=>HO1.out (by omega)) (by omega) (AU.out.below hB3 (by have:=B3.out.size;omega))).mono ?_;rintro e v4⟨rfl,hb4⟩;rw[HXL.out,HXS.out]
    have hB4:=hB3.trans (hb4.mono hB3.size)
    refine hK.out _ _ hB4 (fun _=>?_)
    clear hK KK hb4 q1 q2 q3
    try simp only[Act.put,BP,BN,BK,BQ,BS,BM]
    refine AB 18 rfl ?_
    refine AB 19 rfl ?_
    refine wpAnyH_done (by kernel_rfl) ?_ _
    go_wp2_with fail
    go_meet
    exact⟨rfl,rfl,rfl,hB4⟩
   case rest=>
    obtain⟨rfl,rfl,rfl,hbx⟩:=hcut
    have HBX:=hxy hbx
    have c8:=R8.out wc hbx
    have c9:=R9.out wc hbx
    obtain⟨s',hs'⟩:=Ae (s++⟨#[105,102,32]⟩++cd++⟨#[10]⟩++xs)
    rw[hs']
    have HS':=hxy hs'
    have s'z:s'.size<=700000:=by
     rw[<-hs']
     simp only[ByteArray.size_append]
     show s.size+3+cd.size+1+xs.size<=700000
     omega
    have HL':Hid (s'=bs (done++Gy (L p)++xl)):=(by
     rw[<-hs',HHD.out,<-CB,<-CB,<-CB,<-CB,HS.out,HCD.out,HXS.out,Ps]
     simp only[ByteArray.append_assoc]
     rfl:s'=bs (done++Gy (L p)++xl))
    clear hbx hs' HS' R8 R9 HHD
    have z5:¬9223372036854775807<s'.size+5:=by omega
    have z6:¬9223372036854775807<s'.size+5+ys.size:=by omega
    have z7:¬9223372036854775807<s'.size+5+ys.size+4:=by omega
    have z8:¬9223372036854775807<s'.size+4:=by omega
    have BW:Hid (Below w.heap.size w wc):=B3.out.trans (HBX.out.mono B3.out.size)
    by_cases he0:0<e'
    ·have d1:(0:Int)<(e':Int):=by omega
     have d2:¬cap'=j2:=by have:=HJ.out;omega
     have g3:j3<=cap':=by have:=HJ.out;omega
     have g4:(j2:Int)<=max (j3:Int) 0:=by omega
     have HSTR:Hid (s'++⟨#[101,108,115,101,10]⟩++ys++⟨#[101,110,100,10]⟩=bs (done++(Gy (L p)++xl++(if 0<(L p).els then Dc++yl else[])++EO))):=(by
      rw[if_pos (by rw[HB'.out.1];exact d1),HL'.out,<-HYS.out]
      show bs (done++Gy (L p)++xl)++bs Dc++bs yl++bs EO=_
      simp only[CB,List.append_assoc]:s'++⟨#[101,108,115,101,10]⟩++ys++⟨#[101,110,100,10]⟩=bs (done++(Gy (L p)++xl++(if 0<(L p).els then Dc++yl else[])++EO)))
     go_wp2_with fail
     obtain⟨q1,q2,q3⟩:=HJ.out
     refine(HI.out (p+1+a) (p+1+a+e') (depth+1) (by omega) (by omega) (by omega) (by omega) HKB.out (i*11+j2*11) (j3-j2) (cap'-j2) wc (by omega) (fun h=>by omega) (by omega) (AU.out.below HBX.out (by have:=B3.out.size;omega))).mono ?_
     rintro e v5⟨rfl,hb5⟩
     rw[HYL.out,HYS.out]
     clear q1 q2 q3
     have B5:Hid (Below w.heap.size w v5):=BW.out.trans (hb5.mono BW.out.size)
     have e8:=(hb5.cell (p:=Va sb 8) (jI sl HBX.out.size)).trans c8
     have e9:=(hb5.cell (p:=Va sb 9) (jI sl HBX.out.size)).trans c9
     clear hb5 c8 c9
     go_wp2_with fail
     go_roundw
     case rel=>exact⟨j+1+a+e',_,by omega,by rw[HJ.out.2.2],by rw[<-HSTR.out],B5.out,HF1.out,by rw[show i+(j+1+a+e')=p+1+a+e' by omega];exact HKC.out⟩
     case measure=>have:=HJ.out;simp[intOf];omega
    ·have d1:¬(0:Int)<(e':Int):=by omega
     have HSTR:Hid (s'++⟨#[101,110,100,10]⟩=bs (done++(Gy (L p)++xl++(if 0<(L p).els then Dc++yl else[])++EO))):=(by
      rw[if_neg (by rw[HB'.out.1];exact d1),HL'.out]
      show bs (done++Gy (L p)++xl)++bs EO=_
      simp only[CB,List.append_assoc,List.append_nil]:s'++⟨#[101,110,100,10]⟩=bs (done++(Gy (L p)++xl++(if 0<(L p).els then Dc++yl else[])++EO)))
     go_wp2_with fail
     go_roundw
     case rel=>exact⟨j+1+a+e',_,by omega,by rw[HJ.out.2.2],by rw[<-HSTR.out],BW.out,HF1.out,by rw[show i+(j+1+a+e')=p+1+a+e' by omega];exact HKC.out⟩
     case measure=>have:=HJ.out;simp[intOf];omega
  ·have e1:((L p).k==1)=false:=by simp[hk]
   have e2:((L p).k==4)=false:=by simp[hk]
   have e3:((L p).k==3)=true:=by simp[hk]
   have hcd:=PX HSOK.out (.inr hk)
   obtain⟨cd,hcd'⟩:=Ae (bs (EP (L p).cond))
   have HCD:=hxy hcd'
   have cdz:cd.size<=2:=by rw[<-hcd',Cy];exact Px _
   obtain⟨xl,hxl⟩:=Ae (Dm L (p+1) (p+1+a))
   have HXL:=hxy hxl
   obtain⟨xs,hxs⟩:=Ae (bs xl)
   have HXS:=hxy hxs
   obtain⟨yl,hyl⟩:=Ae (Dm L (p+1+a) (p+1+a+e'))
   have HYL:=hxy hyl
   obtain⟨ys,hys⟩:=Ae (bs yl)
   have HYS:=hxy hys
   have HX:Hid ((Gy (L p)++xl++(if 0<(L p).els then Dc++yl else[])++EO)++Dm L (p+1+a+e') te=Dm L p te):=(by
    rw[Oy hlt HNT.out (.inr hk),HA'.out.2,HB'.out.2,hxl,hyl]:(Gy (L p)++xl++(if 0<(L p).els then Dc++yl else[])++EO)++Dm L (p+1+a+e') te=Dm L p te)
   have F1:=FIN.out _ HX.out
   have HF1:Hid _:=F1.1
   have hxz:xs.size<=300000:=by
    have h2:=F1.2
    rw[Cy]at h2
    simp only[List.length_append]at h2
    rw[<-hxs,Cy];omega
   have hyz:ys.size<=300000:=by
    have h2:=FX HPR.out _ (p+1+a) (p+1+a+e') (depth+1) jG (by omega) HKB.out
    rw[hyl]at h2
    rw[<-hys,Cy];omega
   have HHD:Hid (Gy (L p)=(⟨#[119,104,105,108,101,32]⟩:ByteArray).data.toList++EP (L p).cond++[10]):=(by unfold Gy;rw[if_pos hk]:Gy (L p)=(⟨#[119,104,105,108,101,32]⟩:ByteArray).data.toList++EP (L p).cond++[10])
   have z1:¬9223372036854775807<s.size+6:=by omega
   have z2:¬9223372036854775807<s.size+6+cd.size:=by omega
   have z3:¬9223372036854775807<s.size+6+cd.size+1:=by omega
   have z4:¬9223372036854775807<s.size+6+cd.size+1+xs.size:=by omega
   clear F1 hcd' hxl hxs hyl hys hk
   obtain⟨j1,hj1⟩:∃x,x=j+1:=⟨_,rfl⟩
   obtain⟨j2,hj2⟩:∃x,x=j+1+a:=⟨_,rfl⟩
   obtain⟨j3,hj3⟩:∃x,x=j+1+a+e':=⟨_,rfl⟩
   have wa:IntKind.i64.wrap ((j:Int)+1)=(j1:Int):=by rw[IntKind.wrap_i64]<;>omega
   have wb:IntKind.i64.wrap ((j1:Int)+(a:Int))=(j2:Int):=by rw[IntKind.wrap_i64]<;>omega
   have wc:IntKind.i64.wrap ((j2:Int)+(e':Int))=(j3:Int):=by rw[IntKind.wrap_i64]<;>omega
   have g1:j2<=cap':=by omega
   have g2:(j1:Int)<=max (j2:Int) 0:=by omega
   obtain⟨o1,ho1,ho1'⟩:∃x,(if cap'=j1 then some (⟨b,i*11,none⟩:Addr)else some (⟨b,i*11+j1*11,none⟩:Addr))=some (⟨b,x,none⟩:Addr)/\(0<a->x=(p+1)*11):=by
    by_cases h:cap'=j1
    ·exact⟨_,if_pos h,fun h'=>by omega⟩
    ·exact⟨_,if_neg h,fun h'=>by omega⟩
   have HO1:=hxy ho1'
   have HJ:Hid (j1=j+1/\j2=j+1+a/\j3=j+1+a+e'):=⟨hj1,hj2,hj3⟩
   have j12:j1<=j2:=by omega
   have j23:j2<=j3:=by omega
   clear ho1' hj1 hj2 hj3
   go_upto_region 9 with fail
   have r7:∀w',Below u1.heap.size u1 w'->w'.cell? (Va sb 7)=some (Vi (L p).cond):=fun w' h=>(h.cell (p:=Va sb 7) sl).trans c7
   have r8:∀w',Below u1.heap.size u1 w'->w'.cell? (Va sb 8)=some (Vi (a:Int)):=fun w' h=>(h.cell (p:=Va sb 8) sl).trans c8
   have R8:=hxy r8
   have R9:Hid (∀w',Below u1.heap.size u1 w'->w'.cell? (Va sb 9)=some (Vi (e':Int))):=fun w' h=>(h.cell (p:=Va sb 9) sl).trans c9
   clear c0 c1 c2 c3 c4 c5 c6 c7 c8 c9 c10
   go_cut [3,4,5](fun s3 s4 s5 wx=>s3=.string (s++⟨#[119,104,105,108,101,32]⟩++cd++⟨#[10]⟩++xs)/\s4=Vi (j:Int)/\s5=Vq sb/\Below u1.heap.size u1 wx)
   case first=>
    refine wp_region_held_drew (S:=fun w'=>Below u1.heap.size u1 w') (by kernel_rfl) (Below.refl _ _).drew (fun _=>?_)
    refine AB 0 rfl ?_
    refine AB 1 rfl ?_
    refine AB 2 rfl ?_
    refine AB 3 rfl ?_
    refine AB 4 rfl ?_
    refine AB 8 rfl ?_
    refine AB 9 rfl ?_
    refine AB 10 rfl ?_
    refine AB 11 rfl ?_
    refine AB 12 rfl ?_
    refine AB 13 rfl ?_
    refine AB 14 rfl ?_
    refine AB 15 rfl ?_
    refine AB 16 rfl ?_
    obtain⟨v2,hv2,hbd⟩:∃v,u1.drew=v/\Below u1.heap.size u1 v:=⟨_,rfl,(Below.refl _ _).drew⟩
    rw[hv2]
    clear hv2
    refine AO 5 rfl (fun KK hK=>?_)
    go_simp
    refine(JZ (L p).cond _ hcd.1 hcd.2).mono ?_
    rintro e v3⟨rfl,hb3⟩
    rw[HCD.out]
    have hB3:=hbd.trans (hb3.mono hbd.size)
    refine hK.out _ _ hB3 (fun _=>?_)
    clear hK KK hb3
    try simp only[Act.put,BP,BN,BK,BQ,BS,BM]
    refine AB 6 rfl ?_
    refine AB 7 rfl ?_
    refine AO 17 rfl (fun KK hK=>?_)
    go_simp
    obtain⟨q1,q2,q3⟩:=HJ.out
    refine(HI.out (p+1) (p+1+a) (depth+1) (by omega) (by omega) (by omega) (by omega) HKA.out o1 (j2-j1) (cap'-j1) v3 (by omega) (fun h=>HO1.out (by omega)) (by omega) (AU.out.below hB3 (by have:=B3.out.size;omega))).mono ?_
    rintro e v4⟨rfl,hb4⟩
    rw[HXL.out,HXS.out]
    have hB4:=hB3.trans (hb4.mono hB3.size)
    refine hK.out _ _ hB4 (fun _=>?_)
    clear hK KK hb4 q1 q2 q3
    try simp only[Act.put,BP,BN,BK,BQ,BS,BM]
    refine AB 18 rfl ?_
    refine AB 19 rfl ?_
    refine wpAnyH_done (by kernel_rfl) ?_ _
    go_wp2_with fail
    go_meet
    exact⟨rfl,rfl,rfl,hB4⟩
   case rest=>
    obtain⟨rfl,rfl,rfl,hbx⟩:=hcut
    have HBX:=hxy hbx
    have c8:=R8.out wc hbx
    have c9:=R9.out wc hbx
    obtain⟨s',hs'⟩:=Ae (s++⟨#[119,104,105,108,101,32]⟩++cd++⟨#[10]⟩++xs)
    rw[hs']
    have HS':=hxy hs'
    have s'z:s'.size<=700000:=by
     rw[<-hs']
     simp only[ByteArray.size_append]
     show s.size+6+cd.size+1+xs.size<=700000
     omega
    have HL':Hid (s'=bs (done++Gy (L p)++xl)):=(by
     rw[<-hs',HHD.out,<-CB,<-CB,<-CB,<-CB,HS.out,HCD.out,HXS.out,Ps]
     simp only[ByteArray.append_assoc]
     rfl:s'=bs (done++Gy (L p)++xl))
    clear hbx hs' HS' R8 R9 HHD
    have z5:¬9223372036854775807<s'.size+5:=by omega
    have z6:¬9223372036854775807<s'.size+5+ys.size:=by omega
    have z7:¬9223372036854775807<s'.size+5+ys.size+4:=by omega
    have z8:¬9223372036854775807<s'.size+4:=by omega
    have BW:Hid (Below w.heap.size w wc):=B3.out.trans (HBX.out.mono B3.out.size)
    by_cases he0:0<e'
    ·have d1:(0:Int)<(e':Int):=by omega
     have d2:¬cap'=j2:=by have:=HJ.out;omega
     have g3:j3<=cap':=by have:=HJ.out;omega
     have g4:(j2:Int)<=max (j3:Int) 0:=by omega
     have HSTR:Hid (s'++⟨#[101,108,115,101,10]⟩++ys++⟨#[101,110,100,10]⟩=bs (done++(Gy (L p)++xl++(if 0<(L p).els then Dc++yl else[])++EO))):=(by
      rw[if_pos (by rw[HB'.out.1];exact d1),HL'.out,<-HYS.out]
      show bs (done++Gy (L p)++xl)++bs Dc++bs yl++bs EO=_
      simp only[CB,List.append_assoc]:s'++⟨#[101,108,115,101,10]⟩++ys++⟨#[101,110,100,10]⟩=bs (done++(Gy (L p)++xl++(if 0<(L p).els then Dc++yl else[])++EO)))
     go_wp2_with fail
     obtain⟨q1,q2,q3⟩:=HJ.out
     refine(HI.out (p+1+a) (p+1+a+e') (depth+1) (by omega) (by omega) (by omega) (by omega) HKB.out (i*11+j2*11) (j3-j2) (cap'-j2) wc (by omega) (fun h=>by omega) (by omega) (AU.out.below HBX.out (by have:=B3.out.size;omega))).mono ?_
     rintro e v5⟨rfl,hb5⟩
     rw[HYL.out,HYS.out]
     clear q1 q2 q3
     have B5:Hid (Below w.heap.size w v5):=BW.out.trans (hb5.mono BW.out.size)
     have e8:=(hb5.cell (p:=Va sb 8) (jI sl HBX.out.size)).trans c8
     have e9:=(hb5.cell (p:=Va sb 9) (jI sl HBX.out.size)).trans c9
     clear hb5 c8 c9
     go_wp2_with fail
     go_roundw
     case rel=>exact⟨j+1+a+e',_,by omega,by rw[HJ.out.2.2],by rw[<-HSTR.out],B5.out,HF1.out,by rw[show i+(j+1+a+e')=p+1+a+e' by omega];exact HKC.out⟩
     case measure=>have:=HJ.out;simp[intOf];omega
    ·have d1:¬(0:Int)<(e':Int):=by omega
     have HSTR:Hid (s'++⟨#[101,110,100,10]⟩=bs (done++(Gy (L p)++xl++(if 0<(L p).els then Dc++yl else[])++EO))):=(by
      rw[if_neg (by rw[HB'.out.1];exact d1),HL'.out]
      show bs (done++Gy (L p)++xl)++bs EO=_
      simp only[CB,List.append_assoc,List.append_nil]:s'++⟨#[101,110,100,10]⟩=bs (done++(Gy (L p)++xl++(if 0<(L p).els then Dc++yl else[])++EO)))
     go_wp2_with fail
     go_roundw
     case rel=>exact⟨j+1+a+e',_,by omega,by rw[HJ.out.2.2],by rw[<-HSTR.out],BW.out,HF1.out,by rw[show i+(j+1+a+e')=p+1+a+e' by omega];exact HKC.out⟩
     case measure=>have:=HJ.out;simp[intOf];omega
  ·have e1:((L p).k==1)=false:=by simp[hk]
   have e2:((L p).k==4)=true:=by simp[hk]
   obtain⟨y2,y3⟩:=Js HSOK.out (.inr hk)
   have ea:a=0:=by have:=HA'.out.1;omega
   have ee:e'=0:=by have:=HB'.out.1;omega
   have hpc:=Jv HSOK.out hk
   have hpn:(L p).proc.natAbs<100:=by have:=HPR.out;omega
   have hll:=DN (L p).proc (by omega)
   obtain⟨ls,hls⟩:=Ae (Cn (L p).proc)
   have HLS:=hxy hls
   rw[hls]at hll
   have HX:Hid (EZ (L p)++Dm L (p+1+a+e') te=Dm L p te):=(by
    rw[U9 hlt HNT.out hk,HA'.out.2,HB'.out.2]:EZ (L p)++Dm L (p+1+a+e') te=Dm L p te)
   have F1:=FIN.out _ HX.out
   have HF1:Hid _:=F1.1
   have HSTR:Hid (s++⟨#[99,97,108,108,32]⟩++ls++⟨#[10]⟩=bs (done++EZ (L p))):=(by
    unfold EZ
    rw[<-CB,HS.out,<-CB,<-CB,<-HLS.out,ByteArray.append_assoc,ByteArray.append_assoc,ByteArray.append_assoc]
    rfl:s++⟨#[99,97,108,108,32]⟩++ls++⟨#[10]⟩=bs (done++EZ (L p)))
   have z1:¬9223372036854775807<s.size+5:=by omega
   have z2:¬9223372036854775807<s.size+5+ls.size:=by omega
   have z3:¬9223372036854775807<s.size+5+ls.size+1:=by omega
   clear hk y2 y3 hls F1 hpc
   go_wp2_with fail
   refine(Dv (L p).proc (by omega) _).mono ?_
   rintro e u2⟨rfl,hb2⟩
   rw[HLS.out]
   have B4:Hid (Below w.heap.size w u2):=B3.out.trans (hb2.mono B3.out.size)
   have S2:Hid _:=S1.out.below hb2
   clear hb2 c0 c1 c2 c3 c4 c5 c6 c7 c8 c9 c10 B3 hpn
   obtain⟨c0,c1,c2,c3,c4,c5,c6,c7,c8,c9,c10⟩:=Gx S2.out
   rw[HA'.out.1]at c8
   rw[HB'.out.1]at c9
   go_wp2_with fail
   go_roundw
   case rel=>exact⟨j+1+a+e',_,by omega,by go_num,by rw[<-HSTR.out],B4.out,HF1.out,by rw[show i+(j+1+a+e')=p+1+a+e' by omega];exact HKC.out⟩
   case measure=>simp[intOf];omega
theorem Ty(L:Nat->SV)(b n:Nat)(me procs deep:Int)(ln:n<=500)(hpr:procs<=100):∀(m i te:Nat)(d:Int),te-i<=m->i<=te->te<=n->(CZ L me procs deep i te d).1=0->Yy L b n i te:=by
 intro m;induction m with
 |zero=>intro i te d hm hit hte hc;exact Oc L b n i te me procs deep d hit hte ln hpr hc (fun i' te' d' _ _ _ h4 _=>by omega)
 |succ m ih=>intro i te d hm hit hte hc;exact Oc L b n i te me procs deep d hit hte ln hpr hc (fun i' te' d' _ h2 h3 h4 h5=>ih i' te' d' (by omega) h2 (by omega) h5)
def CP(s:Bool):List UInt8:=if s=true then[115,101,99,114,101,116]else[112,117,98,108,105,99]
def heapT(h:HS):List UInt8:=[104,101,97,112,32]++Lib.itoa h.size++[32]++CP h.s++(if h.w=true then[32,119,114,105,116,101,10]else[32,114,101,97,100,10])
def Db(i:Nat)(v:VV):List UInt8:=
 [114,101,103,32]++Lib.itoa (i:Int)++[32]++
 (if v.k=1 then[112,116,114,32]++Lib.itoa v.h++[32]++Lib.itoa v.lo++[32]++Lib.itoa v.hi++[10]
  else if v.m= -1 then[97,110,121,32]++CP v.s++[10]else Lib.itoa v.m++[32]++CP v.s++[10])
def EB(p:PV):List UInt8:=[112,114,111,99,10]++Dm p.L 0 p.n
def Ea(d:Int):List UInt8:=if d=1 then[100,105,97,108,101,99,116,32,109,97,115,109,10]else[100,105,97,108,101,99,116,32,103,97,115,10]
def EF(f:Nat->List UInt8):Nat->List UInt8
 |0=>[]
 |k+1=>EF f k++f k
theorem Lb(f:Nat->List UInt8)(m:Nat):∀n,(∀k,k<n->(f k).length<=m)->(EF f n).length<=n*m
 |0,_=>by simp[EF]
 |n+1,h=>by
  have h1:=Lb f m n (fun k hk=>h k (by omega));have h2:=h n (by omega);simp only[EF,List.length_append];rw[Nat.add_mul];omega
def JD(d:Int)(nH:Nat)(S:Nat->HS)(V:Nat->VV)(np:Nat)(Pv:Nat->PV):List UInt8:=Ea d++EF (fun i=>heapT (S i)) nH++EF (fun i=>Db i (V i)) 8++EF (fun i=>EB (Pv i)) np
def EW(d:Int)(nH:Nat)(S:Nat->HS)(nR:Nat)(V:Nat->VV)(np:Nat)(Pv:Nat->PV):Bool:=decide (0<=d/\d<=1)&&Cu nH S nR V&&decide ((Bz Pv np).1=0)
def bW(w:World)(B:Nat)(v:Value)(t:List UInt8):Prop:=∃g cap,v=Vs g t.length cap/\B<=g/\g<w.heap.size/\(∀i,i<t.length->w.cell? (Va g i)=some (.int .u8 ((t.getD i 0).toNat:Int)))/\(∀i,i<t.length->w.frozen? (Va g i)=false)
theorem Hz(s:Bool):(CP s).length<=6:=by cases s<;>decide
theorem Ol(h:HS)(k:h.size.natAbs<10000000000000000):(heapT h).length<=40:=by
 have h1:=El _ k;have h2:=Hz h.s;unfold heapT;split<;>simp only[List.length_append,List.length_cons,List.length_nil]<;>omega
theorem I7{x:VV}(hn:n<=8)(h:CO x (n:Int)=true):x.m.natAbs<10000000000000000/\x.h.natAbs<10000000000000000/\x.lo.natAbs<10000000000000000/\x.hi.natAbs<10000000000000000:=by
 unfold CO at h;split at h
 ·have:=of_decide_eq_true h;omega
 ·have:=of_decide_eq_true h;omega
theorem Rm(i:Nat)(hi:i<8)(v:VV)(hn:n<=8)(h:CO v (n:Int)=true):(Db i v).length<=100:=by
 obtain⟨h1,h2,h3,h4⟩:=I7 hn h;have k0:=El (i:Int) (by omega);have k1:=El _ h1;have k2:=El _ h2;have k3:=El _ h3;have k4:=El _ h4;have k5:=Hz v.s;unfold Db;split
 ·simp only[List.length_append,List.length_cons,List.length_nil];omega
 ·split<;>simp only[List.length_append,List.length_cons,List.length_nil]<;>omega
theorem Oi(d:Int):(Ea d).length<=13:=by unfold Ea;split<;>decide
structure WE(nH:Nat)(S:Nat->HS)(nR:Nat)(V:Nat->VV)(np:Nat)(Pv:Nat->PV):Prop where
 h8:nH<=8
 hs:∀i,i<nH->1<=(S i).size/\(S i).size<=4096
 r8:nR=8
 rs:∀i,i<8->CO (V i) (nH:Int)=true
 p20:np<=20
 ps:∀i,i<np->(Pv i).n<=500/\(CZ (Pv i).L (i:Int) (np:Int) 16 0 (Pv i).n 0).1=0
theorem MW(h:EW d nH S nR V np Pv=true):(d=0∨d=1)/\WE nH S nR V np Pv:=by
 unfold EW Cu Cq at h;simp only[Bool.and_eq_true,decide_eq_true_eq,List.all_eq_true,List.mem_range]at h;obtain⟨⟨h1,⟨h2,h3⟩,h4,h5⟩,h6⟩:=h;refine⟨by omega,h2,fun i hi=>?_,h4,fun i hi=>h5 i (by omega),?_,?_⟩
 ·have:=h3 i hi
  unfold Eh at this;exact of_decide_eq_true this
 ·unfold Bz at h6
  split at h6
  ·cases h6
  ·omega
 ·intro i hi
  unfold Bz at h6;split at h6
  ·cases h6
  ·split at h6
   ·contradiction
   ·rename_i h7
    have:=Jm np 0 (Classical.not_not.1 h7) i (by omega) (by omega);exact⟨by omega,this.2⟩
theorem WE.procs(g:WE nH S nR V np Pv){i:Nat}(hi:i<np):(EB (Pv i)).length<=300005:=by
 obtain⟨h1,h2⟩:=g.ps i hi;have:=FX (by have:=g.p20;omega) _ 0 (Pv i).n 0 jG (Nat.zero_le _) h2;unfold EB;simp only[List.length_append,List.length_cons,List.length_nil];omega
theorem WE.len(g:WE nH S nR V np Pv)(d:Int){a b c:Nat}(ha:a<=nH)(hb:b<=8)(hc:c<=np):(Ea d++EF (fun i=>heapT (S i)) a++EF (fun i=>Db i (V i)) b++EF (fun i=>EB (Pv i)) c).length<=6100000:=by
 have h0:=Oi d;have h1:=Lb (fun i=>heapT (S i)) 40 a (fun k hk=>Ol _ (by have:=g.hs k (by omega);omega));have h2:=Lb (fun i=>Db i (V i)) 100 b (fun k hk=>Rm k (by omega) _ g.h8 (g.rs k (by omega)));have h3:=Lb (fun i=>EB (Pv i)) 300005 c (fun k hk=>g.procs (by omega));have h4:a*40<=8*40:=Nat.mul_le_mul_right _ (Nat.le_trans ha g.h8);have h5:b*100<=8*100:=Nat.mul_le_mul_right _ hb;have h6:c*300005<=20*300005:=Nat.mul_le_mul_right _ (Nat.le_trans hc g.p20);simp only[List.length_append];omega
theorem NK(s:Bool)(w:World):Calls Tryz.prog 28 #[.bool s] w fun e w'=>e=.returned (.string (bs (CP s)))/\w'=w:=by
 cases s;all_goals
  go_enter Tryz.func28,Tryz.ntmps28;go_wp2;go_ret;exact⟨rfl,rfl⟩
theorem au(h:A9 u bH (nH*3) (QD S)){q:Nat}(hq:q<nH):u.cell? (Va bH (q*3))=some (Vi (S q).size)/\u.cell? (Va bH (q*3+1))=some (.bool (S q).s)/\u.cell? (Va bH (q*3+2))=some (.bool (S q).w):=
 ⟨(h.cell (i:=q*3+0) (by omega)).trans (congrArg some (Dy S q 0 (by omega))),(h.cell (i:=q*3+1) (by omega)).trans (congrArg some (Dy S q 1 (by omega))),(h.cell (i:=q*3+2) (by omega)).trans (congrArg some (Dy S q 2 (by omega)))⟩
theorem fC{b:Nat}(h:A9 u b (n*6) (vF V)){q:Nat}(hq:q<n):u.cell? (Va b (q*6))=some (Vi (V q).k)/\u.cell? (Va b (q*6+1))=some (.bool (V q).s)/\u.cell? (Va b (q*6+2))=some (Vi (V q).m)/\u.cell? (Va b (q*6+3))=some (Vi (V q).h)/\u.cell? (Va b (q*6+4))=some (Vi (V q).lo)/\u.cell? (Va b (q*6+5))=some (Vi (V q).hi):=
 ⟨(h.cell (i:=q*6+0) (by omega)).trans (congrArg some (BH V q 0 (by omega))),(h.cell (i:=q*6+1) (by omega)).trans (congrArg some (BH V q 1 (by omega))),(h.cell (i:=q*6+2) (by omega)).trans (congrArg some (BH V q 2 (by omega))),(h.cell (i:=q*6+3) (by omega)).trans (congrArg some (BH V q 3 (by omega))),(h.cell (i:=q*6+4) (by omega)).trans (congrArg some (BH V q 4 (by omega))),(h.cell (i:=q*6+5) (by omega)).trans (congrArg some (BH V q 5 (by omega)))⟩
structure SB(u:World)(sb:Nat)(d:Int)(bH cH nH:Nat)(S:Nat->HS)(bR cR nR:Nat)(V:Nat->VV)(bp np cp:Nat)(Pv:Nat->PV)(blk:Nat->Nat):Prop where
 c:Cl u sb [Vi d,Vs bH nH cH,Vs bR nR cR,Vs bp np cp]
 s:Bl u bH nH S bR nR V
 p:TP u bp np Pv blk
theorem SB.below{v:World}{sb:Nat}{cH:Nat}{bR cR:Nat}{bp cp:Nat}{blk:Nat->Nat}(h:SB u sb d bH cH nH S bR cR nR V bp np cp Pv blk)(hb:Below u.heap.size u v):SB v sb d bH cH nH S bR cR nR V bp np cp Pv blk:=⟨h.c.below hb,h.s.below hb,h.p.below hb⟩
theorem JF{sb:Nat}{cH:Nat}{bR cR:Nat}{bp cp:Nat}{blk:Nat->Nat}(h:SB u sb d bH cH nH S bR cR nR V bp np cp Pv blk):u.cell? (Va sb 0)=some (Vi d)/\u.cell? (Va sb 1)=some (Vs bH nH cH)/\u.cell? (Va sb 2)=some (Vs bR nR cR)/\u.cell? (Va sb 3)=some (Vs bp np cp):=
 ⟨h.c.2 0 (by simp),h.c.2 1 (by simp),h.c.2 2 (by simp),h.c.2 3 (by simp)⟩
theorem RQ(bH cH nH:Nat)(S:Nat->HS)(bR cR nR:Nat)(V:Nat->VV)(bp np cp:Nat)(Pv:Nat->PV)(blk:Nat->Nat)(d:Int)(w:World)(lH:nH<=1048576)(lR:nR<=1048576)(ln:np<=1048576)(lb:∀i,i<np->(Pv i).n<=1048576)(h1:Bl w bH nH S bR nR V)(h2:TP w bp np Pv blk)(hok:EW d nH S nR V np Pv=false):
 Calls Tryz.prog 6 #[.agg #[Vi d,Vs bH nH cH,Vs bR nR cR,Vs bp np cp]] w fun e w'=>∃v,e=.returned v/\bW w' w.heap.size v []/\Below w.heap.size w w':=by
 go_enter Tryz.func6,Tryz.ntmps6;go_upto_region 1 with fail;obtain⟨u,hu,hbu,hsb⟩:∃x,w.alloc (.cells #[Vi d,Vs bH nH cH,Vs bR nR cR,Vs bp np cp] 29)=x/\Below w.heap.size w x/\SB x w.heap.size d bH cH nH S bR cR nR V bp np cp Pv blk:=⟨_,rfl,Ak,Cl.new,h1.below Ak,h2.below Ak⟩
 rw[hu];clear hu h1 h2;obtain⟨sb,hsz⟩:=Ae w.heap.size;rw[hsz]at hsb⊢;have HSB:=hxy hsb;have BU:=hxy hbu;have LB:=hxy lb;have HSZ:=hxy hsz;obtain⟨q0,q1,q2,q3⟩:=JF hsb;have sl:=hsb.c.1;clear hbu hsb lb hsz;have fin:∀w1,Below w.heap.size w w1->(∃v,Ending.returned (Vs w1.heap.size 0 0)=.returned v/\bW (w1.alloc (.cells #[] 5)) w.heap.size v []/\Below w.heap.size w (w1.alloc (.cells #[] 5))):=fun w1 hw1=>by
  exact⟨_,rfl,⟨_,_,rfl,hw1.size,by simp,(fun i hi=>absurd hi (Nat.not_lt_zero _)),(fun i hi=>absurd hi (Nat.not_lt_zero _))⟩,hw1.alloc hw1.size _⟩
 have FIN:Hid _:=fin;clear fin;have HOK:=hxy hok;clear hok;cases hd:decide ((0:Int)<=d/\d<=1)with
 |false=>
  go_wp2_with fail;refine(FT _ _ _ _).mono ?_;rintro e w2⟨rfl,hw2⟩;rw[hw2,hd];clear hw2 hd;go_wp2;go_ret;exact FIN.out _ BU.out
 |true=>
  have HD:=hxy hd;clear hd;go_wp2_with fail;refine(FT _ _ _ _).mono ?_;rintro e w2⟨rfl,hw2⟩;rw[hw2,HD.out];clear hw2;go_wp2_with fail;refine(Gu bH cH nH S bR cR nR V _ lH lR HSB.out.s).mono ?_;rintro e w3⟨rfl,hb3⟩;have B3:=hxy (BU.out.trans (hb3.mono BU.out.size));have HS3:=hxy (HSB.out.below hb3);clear hb3 q0 q1 q2 q3;obtain⟨q0,q1,q2,q3⟩:=JF HS3.out;cases hs:Cu nH S nR V with
  |false=>
   clear hs;go_wp2;go_ret;exact FIN.out _ B3.out
  |true=>
   have HSG:=hxy hs;clear hs;go_wp2_with fail;refine(J2 bp np cp Pv blk _ ln LB.out HS3.out.p).mono ?_;rintro e w4⟨rfl,hb4⟩;have B4:=hxy (B3.out.trans (hb4.mono B3.out.size));clear hb4 q0 q1 q2 q3;have hne:((Bz Pv np).1 !=0)=true:=by
    have:=HOK.out;unfold EW at this;rw[HD.out,HSG.out]at this;simpa using this
   have hf:∀w,(Instr.field 53 (.agg #[Vi (Bz Pv np).1,Vi (Bz Pv np).2.1,Vi (Bz Pv np).2.2]) 0).run Tryz.prog w=.ok (Vi (Bz Pv np).1) w:=fun w=>by kernel_rfl
   go_wp2;go_ret;exact FIN.out _ B4.out
theorem Yo(W:World)(t:List UInt8):∃v W2,(convert 9 22 (.string (bs t))).run Tryz.prog W=.ok v W2/\Below W.heap.size W W2/\bW W2 W.heap.size v t:=by
 have hl:=Cy t;refine⟨_,_,run_bytes_of_string W 9 22 5 (bs t) Tryz.underlying9 Tryz.underlying22 Tryz.underlying5,(Below.refl _ _).drew.alloc jG _,W.heap.size,_,by rw[hl],jG,by simp,?_,?_⟩;all_goals
  intro i hi;have h1:=bytesRow_at (bs t) (grownCap W (bs t).size 0 5) i (by rw[show(bs t).data.size=(bs t).size from rfl,hl];exact hi);have h2:=Ai W.drew (.cells (bytesRow (bs t) (grownCap W (bs t).size 0 5)) 5 ((bytesRow (bs t) (grownCap W (bs t).size 0 5)).size,(bytesRow (bs t) (grownCap W (bs t).size 0 5)).size+1));have h3:W.drew.heap.size=W.heap.size:=rfl;rw[h3]at h2
 ·unfold World.cell?
  simp only[h2];rw[h1];simp[bs,hi]
 ·unfold World.frozen?
  simp only[h2];have:=(jH.1 h1).1;simp;omega
theorem Ud(bH cH nH:Nat)(S:Nat->HS)(bR cR nR:Nat)(V:Nat->VV)(bp np cp:Nat)(Pv:Nat->PV)(blk:Nat->Nat)(d:Int)(w:World)(lH:nH<=1048576)(lR:nR<=1048576)(ln:np<=1048576)(lb:∀i,i<np->(Pv i).n<=1048576)(h1:Bl w bH nH S bR nR V)(h2:TP w bp np Pv blk)(hok:EW d nH S nR V np Pv=true):
 Calls Tryz.prog 6 #[.agg #[Vi d,Vs bH nH cH,Vs bR nR cR,Vs bp np cp]] w fun e w'=>∃v,e=.returned v/\bW w' w.heap.size v (JD d nH S V np Pv)/\Below w.heap.size w w':=by
 go_enter Tryz.func6,Tryz.ntmps6;go_upto_region 1 with fail;obtain⟨u,hu,hbu,hsb⟩:∃x,w.alloc (.cells #[Vi d,Vs bH nH cH,Vs bR nR cR,Vs bp np cp] 29)=x/\Below w.heap.size w x/\SB x w.heap.size d bH cH nH S bR cR nR V bp np cp Pv blk:=⟨_,rfl,Ak,Cl.new,h1.below Ak,h2.below Ak⟩
 rw[hu];clear hu h1 h2;obtain⟨sb,hsz⟩:=Ae w.heap.size;rw[hsz]at hsb⊢;have HSB:=hxy hsb;have BU:=hxy hbu;have LB:=hxy lb;have HSZ:=hxy hsz;obtain⟨q0,q1,q2,q3⟩:=JF hsb;have sl:=hsb.c.1;clear hbu hsb lb hsz;obtain⟨hd,g⟩:=MW hok;have HD:=hxy hd;have G:=hxy g;have h8:=g.h8;have p20:=g.p20;have hnR:=g.r8;subst hnR;have hdd:decide ((0:Int)<=d/\d<=1)=true:=by rcases hd with rfl|rfl<;>decide
 have HSG:Hid (Cu nH S 8 V=true):=(by unfold EW at hok;simp only[Bool.and_eq_true]at hok;exact hok.1.2:Cu nH S 8 V=true)
 have hne:((Bz Pv np).1 !=0)=false:=by unfold EW at hok;simp only[Bool.and_eq_true,decide_eq_true_eq]at hok;simp[hok.2]
 have hf:∀w,(Instr.field 53 (.agg #[Vi (Bz Pv np).1,Vi (Bz Pv np).2.1,Vi (Bz Pv np).2.2]) 0).run Tryz.prog w=.ok (Vi (Bz Pv np).1) w:=fun w=>by kernel_rfl
 clear hd g hok;go_wp2_with fail;refine(FT _ _ _ _).mono ?_;rintro e w2⟨rfl,hw2⟩;rw[hw2,hdd];clear hw2 hdd;go_wp2_with fail;refine(Gu bH cH nH S bR cR 8 V _ lH lR HSB.out.s).mono ?_;rintro e w3⟨rfl,hb3⟩;rw[HSG.out];have B3:=hxy (BU.out.trans (hb3.mono BU.out.size));have HS3:=hxy (HSB.out.below hb3);clear hb3 q0 q1 q2 q3 HSG HSB BU;obtain⟨q0,q1,q2,q3⟩:=JF HS3.out;go_wp2_with fail;refine(J2 bp np cp Pv blk _ ln LB.out HS3.out.p).mono ?_;rintro e w4⟨rfl,hb4⟩;have B4:=hxy (B3.out.trans (hb4.mono B3.out.size));have HS4:=hxy (HS3.out.below hb4);have sl4:=HS4.out.c.1;clear hb4 q0 q1 q2 q3 HS3 B3 LB sl;obtain⟨q0,q1,q2,q3⟩:=JF HS4.out;go_upto_if 29 with fail;clear hf hne;go_cut [3](fun s3 wx=>s3=.string (bs (Ea d))/\wx=w4)
 case first=>
  rcases HD.out with h|h
  ·have e1:(d==1)=false:=by simp[h]
   have he:bs (Ea d)=⟨#[100,105,97,108,101,99,116,32,103,97,115,10]⟩:=by rw[h];rfl
   clear h;go_wp2_with fail;go_meet;exact⟨by rw[he],rfl⟩
  ·have e1:(d==1)=true:=by simp[h]
   have he:bs (Ea d)=⟨#[100,105,97,108,101,99,116,32,109,97,115,109,10]⟩:=by rw[h];rfl
   clear h;go_wp2_with fail;go_meet;exact⟨by rw[he],rfl⟩
 case rest=>
 obtain⟨rfl,hwc⟩:=hcut;subst hwc;clear q0 q1 q2 q3;go_wp2_with fail;go_loopw [3,4](fun ov iv wr=>∃(k:Nat),k<=nH/\iv=Vi (k:Int)/\ov=.string (bs (Ea d++EF (fun i=>heapT (S i)) k))/\Below wc.heap.size wc wr)(fun _ iv _=>nH-(intOf iv).toNat)
 case atStart=>exact⟨0,Nat.zero_le _,rfl,by simp[EF],Below.refl _ _⟩
 case round=>
  obtain⟨k,hk,rfl,hov,hb⟩:=hrel;obtain⟨s,hs⟩:=Ae (bs (Ea d++EF (fun i=>heapT (S i)) k));rw[hs]at hov;subst hov;have HS:=hxy hs;have hsz:s.size<=6100000:=by
   have:=G.out.len d hk (Nat.zero_le 8) (Nat.zero_le np);simp only[EF,List.append_nil]at this;rw[<-hs,Cy];exact this
  have B:=hxy hb;have X:=hxy (HS4.out.below hb);obtain⟨q0,q1,q2,q3⟩:=JF X.out;clear hb hs;by_cases hlt:k<nH
  rotate_left
  ·have hkn:nH=k:=by omega
   subst hkn;have hlt':¬(nH:Int)<(nH:Int):=by omega
   clear hlt hk X;obtain⟨P0,hP0⟩:=Ae (Ea d++EF (fun i=>heapT (S i)) nH);rw[hP0]at HS;have HP0:=hxy hP0;clear hP0;go_wp2_with fail;clear q0 q1 q2 q3;go_loopw [3,6](fun ov iv wr=>∃(k:Nat),k<=8/\iv=Vi (k:Int)/\ov=.string (bs (P0++EF (fun i=>Db i (V i)) k))/\Below wc.heap.size wc wr)(fun _ iv _=>8-(intOf iv).toNat)
   case atStart=>exact⟨0,Nat.zero_le _,rfl,by rw[<-HS.out];simp[EF],B.out⟩
   case round=>
    clear hsz HS hlt' B;obtain⟨k,hk,rfl,hov,hb⟩:=hrel;obtain⟨s,hs⟩:=Ae (bs (P0++EF (fun i=>Db i (V i)) k));rw[hs]at hov;subst hov;have HS:=hxy hs;have hsz:s.size<=6100000:=by
     have:=G.out.len d (Nat.le_refl nH) hk (Nat.zero_le np);rw[HP0.out]at this;simp only[EF,List.append_nil]at this;rw[<-hs,Cy];exact this
    have B:=hxy hb;have X:=hxy (HS4.out.below hb);obtain⟨q0,q1,q2,q3⟩:=JF X.out;clear hb hs;by_cases hlt:k<8
    rotate_left
    ·have hkn:k=8:=by omega
     subst hkn;have hlt':¬((8:Nat):Int)<(8:Int):=by omega
     clear hlt hk X;obtain⟨P1,hP1⟩:=Ae (P0++EF (fun i=>Db i (V i)) 8);rw[hP1]at HS;have HP1:=hxy hP1;clear hP1;go_wp2_with fail;clear q0 q1 q2 q3;go_loopw [3,8](fun ov iv wr=>∃(k:Nat),k<=np/\iv=Vi (k:Int)/\ov=.string (bs (P1++EF (fun i=>EB (Pv i)) k))/\Below wc.heap.size wc wr)(fun _ iv _=>np-(intOf iv).toNat)
     case atStart=>exact⟨0,Nat.zero_le _,rfl,by rw[<-HS.out];simp[EF],B.out⟩
     case round=>
      clear hsz HS hlt' B;obtain⟨k,hk,rfl,hov,hb⟩:=hrel;obtain⟨s,hs⟩:=Ae (bs (P1++EF (fun i=>EB (Pv i)) k));rw[hs]at hov;subst hov;have HS:=hxy hs;have hsz:s.size<=6100000:=by
       have:=G.out.len d (Nat.le_refl nH) (Nat.le_refl 8) hk;rw[HP0.out,HP1.out]at this;rw[<-hs,Cy];exact this
      have B:=hxy hb;have X:=hxy (HS4.out.below hb);obtain⟨q0,q1,q2,q3⟩:=JF X.out;clear hb hs;by_cases hlt:k<np
      rotate_left
      ·have hkn:np=k:=by omega
       subst hkn;have hlt':¬(np:Int)<(np:Int):=by omega
       obtain⟨v,w9,hcv,hb9,hby⟩:=Yo wr (P1++EF (fun i=>EB (Pv i)) np);rw[HS.out]at hcv;have HBY:Hid (bW w9 w.heap.size v (JD d nH S V np Pv)):=(by
        unfold JD;rw[HP0.out,HP1.out];obtain⟨g,cap,e1,e2,e3⟩:=hby;exact⟨g,cap,e1,Nat.le_trans (Nat.le_trans B4.out.size B.out.size) e2,e3⟩:bW w9 w.heap.size v (JD d nH S V np Pv))
       have B9:=hxy ((B4.out.trans (B.out.mono B4.out.size)).trans (hb9.mono (Nat.le_trans B4.out.size B.out.size)));clear hby hb9 hlt X;go_wp2;go_ret;exact⟨v,rfl,HBY.out,B9.out⟩
      have hlt':(k:Int)<(np:Int):=by omega
      have g0:=X.out.p.r.cell hlt;unfold pF at g0;obtain⟨n5,hck⟩:=G.out.ps k hlt;obtain⟨xs,hxs⟩:=Ae (bs (Dm (Pv k).L 0 (Pv k).n));have HXS:=hxy hxs;have xz:xs.size<=300000:=by
       have:=FX (procs:=(np:Int)) (by omega) _ 0 (Pv k).n 0 jG (Nat.zero_le _) hck;rw[<-hxs,Cy];omega
      have HC:=hxy hck;have z0:¬9223372036854775807<s.size+5:=by omega
      have z1:¬9223372036854775807<s.size+5+xs.size:=by omega
      have HSTR:Hid (s++⟨#[112,114,111,99,10]⟩++xs=bs (P1++EF (fun i=>EB (Pv i)) (k+1))):=(by
       rw[<-HXS.out,<-HS.out];simp only[EF];show bs (P1++EF (fun i=>EB (Pv i)) k)++bs [112,114,111,99,10]++bs (Dm (Pv k).L 0 (Pv k).n)=bs (P1++(EF (fun i=>EB (Pv i)) k++([112,114,111,99,10]++Dm (Pv k).L 0 (Pv k).n)));simp only[CB,List.append_assoc]:s++⟨#[112,114,111,99,10]⟩++xs=bs (P1++EF (fun i=>EB (Pv i)) (k+1)))
      clear hxs hck;go_wp2_with fail;refine(Ty (Pv k).L (blk k) (Pv k).n (k:Int) (np:Int) 16 n5 (by omega) _ 0 (Pv k).n 0 jG (Nat.zero_le _) jG HC.out 0 (Pv k).n (Pv k).c wr (Nat.sub_zero _).symm (fun _=>rfl) (X.out.p.cp k hlt) (X.out.p.b k hlt)).mono ?_;rintro e v5⟨rfl,hb5⟩;rw[HXS.out];have BV:=hxy (B.out.trans (hb5.mono B.out.size));clear hb5 X;go_wp2_with fail;go_roundw
      case rel=>exact⟨k+1,by omega,by go_num,by rw[<-HSTR.out],BV.out⟩
      case measure=>simp[intOf];omega
    have hlt':(k:Int)<8:=by omega
    obtain⟨g0,g1,g2,g3,g4,g5⟩:=fC X.out.s.r hlt;obtain⟨m1,m2,m3,m4⟩:=I7 h8 (G.out.rs k hlt);go_upto_region 18 with fail;clear g0 g1 g2 g3 g4 g5 q0 q1 q2 q3;obtain⟨u1,hu1,hb1,hc1⟩:∃x,wr.alloc (.cells #[Vi (V k).k,.bool (V k).s,Vi (V k).m,Vi (V k).h,Vi (V k).lo,Vi (V k).hi] 42)=x/\Below wr.heap.size wr x/\Cl x wr.heap.size [Vi (V k).k,.bool (V k).s,Vi (V k).m,Vi (V k).h,Vi (V k).lo,Vi (V k).hi]:=⟨_,rfl,Ak,Cl.new⟩
    rw[hu1];obtain⟨hb',hhb⟩:=Ae wr.heap.size;rw[hhb]at hc1⊢;have wz:=B.out.size;have B1:=hxy (B.out.trans (hb1.mono wz));have C1:=hxy hc1;clear hu1 hb1 hc1 wz hhb X;obtain⟨ds,hds⟩:=Ae (Cn (k:Int));have Hds:=hxy hds;have lds:=DN (k:Int) (by omega);rw[hds]at lds;clear hds;have z0:¬9223372036854775807<s.size+4:=by omega
    have z1:¬9223372036854775807<s.size+4+ds.size:=by omega
    have z2:¬9223372036854775807<s.size+4+ds.size+1:=by omega
    go_wp2_with fail;refine(Dv (k:Int) (by omega) _).mono ?_;rintro e u2⟨rfl,hb2⟩;rw[Hds.out];have B2:=hxy (B1.out.trans (hb2.mono B1.out.size));have hc2:=C1.out.below hb2;have c0:=hc2.2 0 (by simp);have c1:=hc2.2 1 (by simp);have c2:=hc2.2 2 (by simp);have r1:∀w',Below u2.heap.size u2 w'->w'.cell? (Va hb' 1)=some (.bool (V k).s):=fun w' h=>(hc2.below h).2 1 (by simp)
    have r2:∀w',Below u2.heap.size u2 w'->w'.cell? (Va hb' 2)=some (Vi (V k).m):=fun w' h=>(hc2.below h).2 2 (by simp)
    have r3:∀w',Below u2.heap.size u2 w'->w'.cell? (Va hb' 3)=some (Vi (V k).h):=fun w' h=>(hc2.below h).2 3 (by simp)
    have r4:∀w',Below u2.heap.size u2 w'->w'.cell? (Va hb' 4)=some (Vi (V k).lo):=fun w' h=>(hc2.below h).2 4 (by simp)
    have r5:∀w',Below u2.heap.size u2 w'->w'.cell? (Va hb' 5)=some (Vi (V k).hi):=fun w' h=>(hc2.below h).2 5 (by simp)
    simp only[List.getD_cons_zero,List.getD_cons_succ]at c0 c1 c2;clear hb2 hc2 B1 C1;go_upto_region 19 with fail;obtain⟨s',hs'⟩:=Ae (s++⟨#[114,101,103,32]⟩++ds++⟨#[32]⟩);rw[hs'];have HS':=hxy hs';have s'z:s'.size<=6100100:=by
     rw[<-hs'];simp only[ByteArray.size_append];show s.size+4+ds.size+1<=_;omega
    clear hs' z0 z1 z2;have STP:Hid (∀x:List UInt8,Db k (V k)=[114,101,103,32]++Lib.itoa (k:Int)++[32]++x->s'++bs x=bs (P0++EF (fun i=>Db i (V i)) (k+1))):=(fun x hx=>by
     rw[<-HS'.out];simp only[EF];rw[hx,<-CB,<-CB,<-HS.out,<-CB];simp only[<-CB,ByteArray.append_assoc];rw[<-Hds.out];rfl:∀x:List UInt8,Db k (V k)=[114,101,103,32]++Lib.itoa (k:Int)++[32]++x->s'++bs x=bs (P0++EF (fun i=>Db i (V i)) (k+1)))
    by_cases hk1:(V k).k=1
    ·have e1:((V k).k==1)=true:=by simp[hk1]
     obtain⟨d1,hd1⟩:=Ae (Cn (V k).h);have Hd1:=hxy hd1;have ld1:=DN (V k).h (by exact m2);rw[hd1]at ld1;clear hd1;obtain⟨d2,hd2⟩:=Ae (Cn (V k).lo);have Hd2:=hxy hd2;have ld2:=DN (V k).lo (by exact m3);rw[hd2]at ld2;clear hd2;obtain⟨d3,hd3⟩:=Ae (Cn (V k).hi);have Hd3:=hxy hd3;have ld3:=DN (V k).hi (by exact m4);rw[hd3]at ld3;clear hd3;have z0:¬9223372036854775807<s'.size+4:=by omega
     have z1:¬9223372036854775807<s'.size+4+d1.size:=by omega
     have z2:¬9223372036854775807<s'.size+4+d1.size+1:=by omega
     have z3:¬9223372036854775807<s'.size+4+d1.size+1+d2.size:=by omega
     have z4:¬9223372036854775807<s'.size+4+d1.size+1+d2.size+1:=by omega
     have z5:¬9223372036854775807<s'.size+4+d1.size+1+d2.size+1+d3.size:=by omega
     have z6:¬9223372036854775807<s'.size+4+d1.size+1+d2.size+1+d3.size+1:=by omega
     have HSTR:Hid (s'++⟨#[112,116,114,32]⟩++d1++⟨#[32]⟩++d2++⟨#[32]⟩++d3++⟨#[10]⟩=bs (P0++EF (fun i=>Db i (V i)) (k+1))):=(by
      rw[<-STP.out _ (by unfold Db;rw[if_pos hk1])];simp only[<-CB,ByteArray.append_assoc];rw[<-Hd1.out,<-Hd2.out,<-Hd3.out];rfl:s'++⟨#[112,116,114,32]⟩++d1++⟨#[32]⟩++d2++⟨#[32]⟩++d3++⟨#[10]⟩=bs (P0++EF (fun i=>Db i (V i)) (k+1)))
     clear hk1 STP HS' Hds;go_upto_region 20 with fail;clear c0 c1 c2;refine wp_region_held_drew (S:=fun w'=>Below u2.heap.size u2 w') (by kernel_rfl) (Below.refl _ _).drew (fun _=>?_);refine AB 0 rfl ?_;refine AB 1 rfl ?_;refine AB 2 rfl ?_;refine AB 3 rfl ?_;refine AB 7 rfl ?_;refine AB 8 rfl ?_;refine AB 12 rfl ?_;refine AB 13 rfl ?_;obtain⟨v2,hv2,hbd⟩:∃v,u2.drew=v/\Below u2.heap.size u2 v:=⟨_,rfl,(Below.refl _ _).drew⟩
     rw[hv2];clear hv2;refine AO 4 rfl (fun KK hK=>?_);go_simp;refine(Dv (V k).h (by omega) _).mono ?_;rintro e v3⟨rfl,hb3⟩;rw[Hd1.out];have hB3:=hbd.trans (hb3.mono hbd.size);refine hK.out _ _ hB3 (fun _=>?_);clear hK KK hb3 hbd;try simp only[Act.put,BP,BN,BK,BQ,BS,BM]
     refine AB 5 rfl ?_;refine AB 6 rfl ?_;refine AO 9 rfl (fun KK hK=>?_);go_simp;refine(Dv (V k).lo (by omega) _).mono ?_;rintro e v4⟨rfl,hb3⟩;rw[Hd2.out];have hB4:=hB3.trans (hb3.mono hB3.size);refine hK.out _ _ hB4 (fun _=>?_);clear hK KK hb3 hB3
     try simp only[Act.put,BP,BN,BK,BQ,BS,BM]
     refine AB 10 rfl ?_
     refine AB 11 rfl ?_
     refine AO 14 rfl (fun KK hK=>?_)
     go_simp
     refine(Dv (V k).hi (by omega) _).mono ?_
     rintro e v5⟨rfl,hb3⟩
     rw[Hd3.out]
     have hB5:=hB4.trans (hb3.mono hB4.size)
     refine hK.out _ _ hB5 (fun _=>?_)
     clear hK KK hb3 hB4
     try simp only[Act.put,BP,BN,BK,BQ,BS,BM]
     refine AB 15 rfl ?_
     refine AB 16 rfl ?_
     refine AB 17 rfl ?_
     refine wpAnyH_done (by kernel_rfl) ?_ _
     have BV:=hxy (B2.out.trans (hB5.mono B2.out.size))
     clear hB5 z0 z1 z2 z3 z4 z5 z6 r1 r2 r3 r4 r5
     go_wp2_with fail
     go_roundw
     case rel=>exact⟨k+1,by omega,by go_num,by rw[<-HSTR.out],BV.out⟩
     case measure=>simp[intOf];omega
    have e1:((V k).k==1)=false:=by simp[hk1]
    obtain⟨ws,hws⟩:=Ae (bs (CP (V k).s))
    have Hws:=hxy hws
    have lws:ws.size<=6:=by rw[<-hws,Cy];exact Hz _
    clear hws
    by_cases hm:(V k).m= -1
    ·have e2:((V k).m== -1)=true:=by simp[hm]
     have z0:¬9223372036854775807<s'.size+4:=by omega
     have z1:¬9223372036854775807<s'.size+4+ws.size:=by omega
     have z2:¬9223372036854775807<s'.size+4+ws.size+1:=by omega
     have HSTR:Hid (s'++⟨#[97,110,121,32]⟩++ws++⟨#[10]⟩=bs (P0++EF (fun i=>Db i (V i)) (k+1))):=(by
      rw[<-STP.out _ (by unfold Db;rw[if_neg hk1,if_pos hm])]
      simp only[<-CB,ByteArray.append_assoc]
      rw[<-Hws.out]
      rfl:s'++⟨#[97,110,121,32]⟩++ws++⟨#[10]⟩=bs (P0++EF (fun i=>Db i (V i)) (k+1)))
     clear hk1 hm STP HS' Hds r1 r2 r3 r4 r5
     go_wp2_with fail
     refine(NK (V k).s _).mono ?_
     rintro e v4⟨rfl,hv4⟩
     rw[hv4,Hws.out]
     clear hv4
     go_wp2_with fail
     go_roundw
     case rel=>exact⟨k+1,by omega,by go_num,by rw[<-HSTR.out],B2.out⟩
     case measure=>simp[intOf];omega
    have e2:((V k).m== -1)=false:=by simp[hm]
    obtain⟨d1,hd1⟩:=Ae (Cn (V k).m)
    have Hd1:=hxy hd1
    have ld1:=DN (V k).m (by exact m1)
    rw[hd1]at ld1
    clear hd1
    have z0:¬9223372036854775807<s'.size+d1.size:=by omega
    have z1:¬9223372036854775807<s'.size+d1.size+1:=by omega
    have z2:¬9223372036854775807<s'.size+d1.size+1+ws.size:=by omega
    have z3:¬9223372036854775807<s'.size+d1.size+1+ws.size+1:=by omega
    have HSTR:Hid (s'++d1++⟨#[32]⟩++ws++⟨#[10]⟩=bs (P0++EF (fun i=>Db i (V i)) (k+1))):=(by
     rw[<-STP.out _ (by unfold Db;rw[if_neg hk1,if_neg hm])]
     simp only[<-CB,ByteArray.append_assoc]
     rw[<-Hws.out,<-Hd1.out]
     rfl:s'++d1++⟨#[32]⟩++ws++⟨#[10]⟩=bs (P0++EF (fun i=>Db i (V i)) (k+1)))
    clear hk1 hm STP HS' Hds
    go_upto_region 23 with fail
    clear c0 c1 c2
    refine wp_region_held_drew (S:=fun w'=>Below u2.heap.size u2 w') (by kernel_rfl) (Below.refl _ _).drew (fun _=>?_)
    refine AB 0 rfl ?_
    refine AB 1 rfl ?_
    refine AB 2 rfl ?_
    refine AB 6 rfl ?_
    refine AB 7 rfl ?_
    obtain⟨v2,hv2,hbd⟩:∃v,u2.drew=v/\Below u2.heap.size u2 v:=⟨_,rfl,(Below.refl _ _).drew⟩
    rw[hv2]
    clear hv2
    refine AO 3 rfl (fun KK hK=>?_)
    go_simp
    refine(Dv (V k).m (by omega) _).mono ?_
    rintro e v3⟨rfl,hb3⟩
    rw[Hd1.out]
    have hB3:=hbd.trans (hb3.mono hbd.size)
    refine hK.out _ _ hB3 (fun _=>?_)
    clear hK KK hb3 hbd
    try simp only[Act.put,BP,BN,BK,BQ,BS,BM]
    refine AB 4 rfl ?_
    refine AB 5 rfl ?_
    refine AO 8 rfl (fun KK hK=>?_)
    go_simp
    refine(NK (V k).s _).mono ?_
    rintro e v4⟨rfl,hv4⟩
    rw[hv4,Hws.out]
    clear hv4
    refine hK.out _ _ hB3 (fun _=>?_)
    clear hK KK
    try simp only[Act.put,BP,BN,BK,BQ,BS,BM]
    refine AB 9 rfl ?_
    refine AB 10 rfl ?_
    refine AB 11 rfl ?_
    refine wpAnyH_done (by kernel_rfl) ?_ _
    have BV:=hxy (B2.out.trans (hB3.mono B2.out.size))
    clear hB3 z0 z1 z2 z3 r1 r2 r3 r4 r5
    go_wp2_with fail
    go_roundw
    case rel=>exact⟨k+1,by omega,by go_num,by rw[<-HSTR.out],BV.out⟩
    case measure=>simp[intOf];omega
  have hlt':(k:Int)<(nH:Int):=by omega
  obtain⟨g0,g1,g2⟩:=au X.out.s.h hlt
  have hsm:=G.out.hs k hlt
  go_upto_region 10 with fail
  clear g0 g1 g2 q0 q1 q2 q3
  obtain⟨u1,hu1,hb1,hc1⟩:∃x,wr.alloc (.cells #[Vi (S k).size,.bool (S k).s,.bool (S k).w] 40)=x/\Below wr.heap.size wr x/\Cl x wr.heap.size [Vi (S k).size,.bool (S k).s,.bool (S k).w]:=⟨_,rfl,Ak,Cl.new⟩
  rw[hu1]
  obtain⟨hb',hhb⟩:=Ae wr.heap.size
  rw[hhb]at hc1⊢
  have wz:=B.out.size
  have B1:=hxy (B.out.trans (hb1.mono wz))
  have C1:=hxy hc1
  have r0:∀w',Below u1.heap.size u1 w'->w'.cell? (Va hb' 0)=some (Vi (S k).size):=fun w' h=>(hc1.below h).2 0 (by simp)
  have r1:∀w',Below u1.heap.size u1 w'->w'.cell? (Va hb' 1)=some (.bool (S k).s):=fun w' h=>(hc1.below h).2 1 (by simp)
  have R2:Hid (∀w',Below u1.heap.size u1 w'->w'.cell? (Va hb' 2)=some (.bool (S k).w)):=fun w' h=>(hc1.below h).2 2 (by simp)
  clear hu1 hb1 hc1 wz hhb X
  obtain⟨ds,hds⟩:=Ae (Cn (S k).size)
  have Hds:=hxy hds
  have lds:=DN (S k).size (by omega)
  rw[hds]at lds
  clear hds
  obtain⟨ws,hws⟩:=Ae (bs (CP (S k).s))
  have Hws:=hxy hws
  have lws:ws.size<=6:=by rw[<-hws,Cy];exact Hz _
  clear hws
  have z0:¬9223372036854775807<s.size+5:=by omega
  have z1:¬9223372036854775807<s.size+5+ds.size:=by omega
  have z2:¬9223372036854775807<s.size+5+ds.size+1:=by omega
  have z3:¬9223372036854775807<s.size+5+ds.size+1+ws.size:=by omega
  refine wp_region_held_drew (S:=fun w'=>Below u1.heap.size u1 w') (by kernel_rfl) (Below.refl _ _).drew (fun _=>?_)
  refine AB 0 rfl ?_
  refine AB 1 rfl ?_
  refine AB 2 rfl ?_
  refine AB 3 rfl ?_
  refine AB 7 rfl ?_
  refine AB 8 rfl ?_
  obtain⟨v2,hv2,hbd⟩:∃v,u1.drew=v/\Below u1.heap.size u1 v:=⟨_,rfl,(Below.refl _ _).drew⟩
  rw[hv2]
  clear hv2
  refine AO 4 rfl (fun KK hK=>?_)
  go_simp
  refine(Dv (S k).size (by omega) _).mono ?_
  rintro e v3⟨rfl,hb3⟩
  rw[Hds.out]
  have hB3:=hbd.trans (hb3.mono hbd.size)
  refine hK.out _ _ hB3 (fun _=>?_)
  clear hK KK hb3 hbd
  try simp only[Act.put,BP,BN,BK,BQ,BS,BM]
  refine AB 5 rfl ?_
  refine AB 6 rfl ?_
  refine AO 9 rfl (fun KK hK=>?_)
  go_simp
  refine(NK (S k).s _).mono ?_
  rintro e v4⟨rfl,hv4⟩
  rw[hv4,Hws.out]
  clear hv4
  refine hK.out _ _ hB3 (fun _=>?_)
  clear hK KK
  try simp only[Act.put,BP,BN,BK,BQ,BS,BM]
  refine AB 10 rfl ?_
  refine AB 11 rfl ?_
  refine wpAnyH_done (by kernel_rfl) ?_ _
  have r2:=R2.out v3 hB3
  have BV:=hxy (B1.out.trans (hB3.mono B1.out.size))
  obtain⟨s',hs'⟩:=Ae (s++⟨#[104,101,97,112,32]⟩++ds++⟨#[32]⟩++ws)
  rw[hs']
  have HS':=hxy hs'
  have s'z:s'.size<=6100100:=by
   rw[<-hs']
   simp only[ByteArray.size_append]
   show s.size+5+ds.size+1+ws.size<=_
   omega
  have y1:¬9223372036854775807<s'.size+7:=by omega
  have y2:¬9223372036854775807<s'.size+6:=by omega
  clear hs' z0 z1 z2 z3 r0 r1 hB3
  have STP:Hid (∀x:List UInt8,(if(S k).w=true then([32,119,114,105,116,101,10]:List UInt8)else[32,114,101,97,100,10])=x->s'++bs x=bs (Ea d++EF (fun i=>heapT (S i)) (k+1))):=(fun x hx=>by
   rw[<-HS'.out]
   simp only[EF,heapT]
   rw[hx,<-CB,<-CB,<-HS.out,<-CB]
   simp only[<-CB,ByteArray.append_assoc]
   rw[<-Hds.out,<-Hws.out]
   rfl:∀x:List UInt8,(if(S k).w=true then([32,119,114,105,116,101,10]:List UInt8)else[32,114,101,97,100,10])=x->s'++bs x=bs (Ea d++EF (fun i=>heapT (S i)) (k+1)))
  cases hw:(S k).w with
  |true=>
   rw[hw]at r2
   have HW:=hxy hw
   clear hw
   go_wp2_with fail
   go_roundw
   case rel=>exact⟨k+1,by omega,by go_num,by rw[<-STP.out _ (if_pos HW.out)];rfl,BV.out⟩
   case measure=>simp[intOf];omega
  |false=>
   rw[hw]at r2
   have HW:=hxy hw
   clear hw
   go_wp2_with fail
   go_roundw
   case rel=>exact⟨k+1,by omega,by go_num,by rw[<-STP.out _ (if_neg (by simp[HW.out]))];rfl,BV.out⟩
   case measure=>simp[intOf];omega
theorem Kj(bH cH nH:Nat)(S:Nat->HS)(bR cR nR:Nat)(V:Nat->VV)(bp np cp:Nat)(Pv:Nat->PV)(blk:Nat->Nat)(d:Int)(w:World)(lH:nH<=1048576)(lR:nR<=1048576)(ln:np<=1048576)(lb:∀i,i<np->(Pv i).n<=1048576)(h1:Bl w bH nH S bR nR V)(h2:TP w bp np Pv blk):
 Calls Tryz.prog 6 #[.agg #[Vi d,Vs bH nH cH,Vs bR nR cR,Vs bp np cp]] w fun e w'=>∃v,e=.returned v/\bW w' w.heap.size v (if EW d nH S nR V np Pv=true then JD d nH S V np Pv else[])/\Below w.heap.size w w':=by
 cases h:EW d nH S nR V np Pv with
 |true=>rw[if_pos rfl];exact Ud bH cH nH S bR cR nR V bp np cp Pv blk d w lH lR ln lb h1 h2 h
 |false=>rw[if_neg (by decide)];exact RQ bH cH nH S bR cR nR V bp np cp Pv blk d w lH lR ln lb h1 h2 h
end Go.Proofs.YtfpeecaaleijcaaGreatDoor
