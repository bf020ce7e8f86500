import Derived.Test.YtdbhgaegblclaaaDoorRdPass2
set_option maxHeartbeats 3200000
set_option maxRecDepth 20000
namespace Go.Proofs.YtdbhgaegblclaaaDoor
open Go.RowKit
def fo(c:UInt8):Nat:=if c=68 then 2 else if c=65 then 3 else if c=66 then 4 else if c=72 then 6 else 5
theorem place_fd{c:UInt8}(h:isFd c=true)(hn:c≠64)(q:Nat)(lb:Bool)(x:NV):placeO q 1 c=.pointer (some ⟨q,fo c,none⟩)/\(∃z,(lnV (lb,x)).toArray[fo c]?=some z)/\∀v:Int,(lnV (lb,x)).toArray.setIfInBounds (fo c) (.int .i64 v)=(lnV (lb,setF x c v)).toArray:=by
 unfold isFd at h;simp only[Bool.or_eq_true,beq_iff_eq]at h;rcases h with(((((rfl|rfl)|rfl)|rfl)|rfl)|rfl)|rfl;all_goals first|exact absurd rfl hn|exact⟨rfl,⟨_,rfl⟩,fun _=>rfl⟩
theorem place_no{c:UInt8}(h:isFd c=false)(q:Nat):placeO q 1 c=.pointer none:=by
 unfold isFd at h;simp only[Bool.or_eq_false_iff,beq_eq_false_iff_ne]at h;obtain⟨⟨⟨⟨⟨⟨h1,h2⟩,h3⟩,h4⟩,h5⟩,h6⟩,_⟩:=h;unfold placeO;rw[if_neg h3,if_neg h1,if_neg h2,if_neg h5,if_neg h6,if_neg h4]
theorem fit_fd(c:UInt8)(ps l:List UInt8)(x:NV)(h:isFd c=true)(hm:¬(c=73/\l.head?=some 45)):fit (c::ps) l x=match numAt l with|some (vv,n)=>fit ps (l.drop n) (setF x c vv)|none=>none:=by
 show(if isFd c=true then(match numS (c==73) l with|some (vv,n)=>fit ps (l.drop n) (setF x c vv)|none=>none)else _)=_;rw[if_pos h];have e:numS (c==73) l=numAt l:=by
  unfold numS;rw[if_neg];rintro⟨h1,h2⟩;refine hm ⟨by simpa using h1,?_⟩;cases l with
  |nil=>cases h2
  |cons r l=>
   simp only[List.head?_cons,Option.map_some,Option.some.injEq]at h2⊢;exact UInt8.toNat_inj.1 h2
 rw[e]
def rlH(f:Func):Code:=match findLabel (rlF f) 0 with|some (.seq _ y)=>y|_=>.skip
theorem wp_foundR{P:Program}{Q:Exit->Act->World->Prop}{a:Act}{w:World}{y:Code}(h:findLabel (rlF Tryd.f72) 0=some (.seq .skip y))(hw:y.wp P Q a w):(rlH Tryd.f72).wp P Q a w:=by
 unfold rlH;rw[h];exact hw
theorem wp_of_eq{P:Program}{Q:Exit->Act->World->Prop}{a:Act}{w:World}{c c':Code}(h:c'=c)(hw:c.wp P Q a w):c'.wp P Q a w:=by
 rw[h];exact hw
theorem pass0R(w:World)(p q b:Nat)(tot:Option Row)(K:Exit->Act->World->Prop)(hq:w.heap.size<=q)(hpq:p≠q)(a:Act)(v:World)(h:LJ w p q b tot 0 a v)(hK:∀l' a' v',LJ w p q b tot l' a' v'->muL l' a' v'<muL 0 a v->K (.goto l') a' v'):
 (rlH Tryd.f72).wp Tryd.prog K a v:=by
 obtain⟨v6,v7,lb,x,o',cap',l',s,hF,hT,hX,h64,hfit,hsz⟩:=h;have HX:Hid (GotX w p q lb x v):=hX;have HT:Hid (LT w b o' cap' l'):=hT;have H64:Hid (∀c∈s.data.toList,c≠64):=h64;have HB:Hid (Below w.heap.size w v):=hX.bel;have HPQ:Hid (p≠q):=hpq;have HK:Hid (∀l' a' v',LJ w p q b tot l' a' v'->muL l' a' v'<s.size*10+5->K (.goto l') a' v'):=(by
  intro l' a' v' h1 h2;refine hK l' a' v' h1 ?_;have e:muL 0 a v=s.size*10+5:=by
   unfold muL;rw[Array.getD_eq_getD_getElem?,hF.h10];rfl
  rw[e];exact h2:∀l' a' v',LJ w p q b tot l' a' v'->muL l' a' v'<s.size*10+5->K (.goto l') a' v')
 clear hX hT h64 hK hpq;obtain⟨u,rfl⟩:=hF.open;clear hF;refine wp_foundR (y:=?cc) ?hh ?ww
 case hh=>unfold rlF Tryd.f72;dsimp only;exact rfl
 have HF:Hid (fin lb (fit s.data.toList l' x)=tot):=hfit;clear hfit;by_cases hs:s=⟨#[]⟩
 ·subst hs
  go_wp2_with fail;go_step3;refine HK.out 2 _ _ ⟨_,_,_,_,_,_,_,_,⟨rfl,rfl,rfl,rfl,rfl,rfl,rfl,rfl⟩,HT.out,HX.out,HF.out⟩ ?_;show 0*10+2<0*10+5;omega
 have HS:Hid (¬s=⟨#[]⟩):=hs;have hs1:(0:Int)<s.size:=by
  have:s.size≠0:=fun e=>hs (ByteArray.size_eq_zero_iff.1 e)
  omega
 have hs2:s.toList.isEmpty=false:=by
  rw[empty_list];cases hl:s.data.toList with
  |nil=>exact absurd (by obtain⟨⟨l⟩⟩:=s;cases hl;rfl) hs
  |cons c l=>rfl
 clear hs;have hs3:0<s.size:=by omega
 obtain⟨c,hc⟩:∃c,s[0]=c:=⟨_,rfl⟩
 have hcc:∀h,s[0]'h=c:=fun _=>hc
 obtain⟨s',HS'⟩:∃s',Hid (s.extract 1 s.size=s'):=⟨_,(rfl:s.extract 1 s.size=s.extract 1 s.size)⟩
 have HDK:Hid (s.data.toList=c::s'.data.toList):=(by
  rw[<-HS'.out,ext_drop];have h1:=List.drop_eq_getElem_cons (l:=s.data.toList) (i:=0) (by simpa using hs3);rw[List.drop_zero]at h1;rw[h1];congr 1:s.data.toList=c::s'.data.toList)
 clear hc;go_upto_region 12 with fail;go_quiet(fail);go_wp2_with fail;have HX1:Hid (GotX w p q lb x (v.drewN nq)):=HX.out.below (below_drewN (Below.refl _ _) _);have HZ:Hid (s'.size+1=s.size):=(by
  have:=congrArg List.length HDK.out;simp at this;omega:s'.size+1=s.size)
 have H64':Hid (∀c∈s'.data.toList,c≠64):=fun c' h'=>H64.out c' (by rw[HDK.out];simp[h'])
 have hc64:Hid (c≠64):=H64.out c (by rw[HDK.out];simp);have HF':Hid (fin lb (fit (c::s'.data.toList) l' x)=tot):=(by rw[<-HDK.out];exact HF.out:fin lb (fit (c::s'.data.toList) l' x)=tot)
 have HK':Hid (∀l' a' v',LJ w p q b tot l' a' v'->muL l' a' v'<s'.size*10+15->K (.goto l') a' v'):=(fun l' a' v' h1 h2=>HK.out l' a' v' h1 (by have:=HZ.out;omega):∀l' a' v',LJ w p q b tot l' a' v'->muL l' a' v'<s'.size*10+15->K (.goto l') a' v')
 have hsz':(s'.size:Int)<=100:=by have:=HZ.out;omega
 obtain⟨v1,hv1⟩:∃z,v.drewN nq=z:=⟨_,rfl⟩
 rw[HS'.out,hv1];rw[hv1]at HX1;clear hv1 HX HB HF HK H64 HDK HZ HS' HS hs2 hs3 hcc hsz hs1;refine(fieldAt_at q 1 c v1).mono ?_;rintro e w1⟨rfl,hw1⟩;rw[hw1];clear hw1;cases hfd:isFd c with
 |false=>
  rw[place_no hfd];have HFD:Hid (isFd c=false):=hfd;clear hfd;go_wp2_with fail;go_step3;refine HK'.out 3 _ _ ⟨_,c,lb,x,_,_,l',s',⟨rfl,rfl,rfl,rfl,rfl,rfl,rfl,rfl⟩,HT.out,HX1.out,H64'.out,HFD.out,HF'.out,hsz'⟩ ?_;show s'.size*10+8<s'.size*10+15;omega
 |true=>
  obtain⟨hpl,⟨z,hz⟩,hset⟩:=place_fd hfd hc64.out q lb x;rw[hpl];have HFD:Hid (isFd c=true):=hfd;obtain⟨j,hj⟩:∃j,fo c=j:=⟨_,rfl⟩
  rw[hj];rw[hj]at hz hset;have HJ:Hid (fo c=j):=hj;have HSET:Hid (∀v:Int,(lnV (lb,x)).toArray.setIfInBounds j (.int .i64 v)=(lnV (lb,setF x c v)).toArray):=hset;have HZZ:Hid ((lnV (lb,x)).toArray[j]?=some z):=hz;obtain⟨m,hm⟩:∃m,decide (c=73/\l'.head?=some 45)=m:=⟨_,rfl⟩
  have HM:Hid (decide (c=73/\l'.head?=some 45)=m):=hm;clear hm hj hset hz hpl hfd;go_upto_region 15 with fail;go_cut [7,67]from 55 to 66(fun v7 bv wx=>wx=v1/\v7=.int .u8 (c.toNat:Int)/\bv=.bool m)
  case first=>
   by_cases h73:c=73
   ·subst h73
    cases l' with
    |nil=>
     have e:Hid (false=m):=(by rw[<-HM.out];simp:false=m)
     go_wp2_with fail;go_meet;exact⟨rfl,rfl,congrArg Value.bool e.out⟩
    |cons r l''=>
     have g0:v1.cell? ⟨b,o',none⟩=some (.int .u8 (r.toNat:Int)):=by
      have:=at_byte HT.out.A (k:=0) (by simp);exact(HX1.out.bel.cell (p:=⟨b,o',none⟩) HT.out.A.1).trans this
     have hl1:(0:Int)<(l''.length:Int)+1:=by omega
     by_cases hr:r=45
     ·subst hr
      have e:Hid (true=m):=(by rw[<-HM.out];simp:true=m)
      go_wp2_with fail;go_meet;exact⟨rfl,rfl,congrArg Value.bool e.out⟩
     ·have e:Hid (false=m):=(by rw[<-HM.out];simp[hr]:false=m)
      have k45:((r.toNat:Int)==45)=false:=u8_ne (n:=45) (by omega) hr;clear hr;go_wp2_with fail;go_meet;exact⟨rfl,rfl,congrArg Value.bool e.out⟩
   ·have e:Hid (false=m):=(by rw[<-HM.out];simp[h73]:false=m)
    have k73:((c.toNat:Int)==73)=false:=u8_ne (n:=73) (by omega) h73;clear h73;go_wp2_with fail;go_meet;exact⟨rfl,rfl,congrArg Value.bool e.out⟩
  case rest=>
  obtain⟨hw,rfl,rfl⟩:=hcut;rw[hw];clear hw;cases m with
  |true=>
   have hm:c=73/\l'.head?=some 45:=by simpa using HM.out
   have hj5:j=5:=by rw[<-HJ.out,hm.1];rfl
   rw[hj5];have HM2:Hid (c=73/\l'.head?=some 45):=hm;clear hm hj5;go_wp2_with fail;go_step3;refine HK'.out 4 _ _ ⟨_,lb,x,_,_,l',s',⟨rfl,rfl,rfl,rfl,rfl,rfl,rfl,rfl⟩,HT.out,HX1.out,H64'.out,HM2.out.2,by rw[<-HF'.out,HM2.out.1],hsz'⟩ ?_;show s'.size*10+8<s'.size*10+15;omega
  |false=>
   have hnm:¬(c=73/\l'.head?=some 45):=by simpa using HM.out
   have HF2:Hid (fin lb (match numAt l' with|some (vv,n)=>fit s'.data.toList (l'.drop n) (setF x c vv)|none=>none)=tot):=(by rw[<-HF'.out,fit_fd c _ _ _ HFD.out hnm]:fin lb (match numAt l' with|some (vv,n)=>fit s'.data.toList (l'.drop n) (setF x c vv)|none=>none)=tot)
   clear hnm;go_wp2_with fail;refine(takeNumber_any b o' cap' l' v1 HT.out.n HT.out.c (HT.out.A.below HX1.out.bel HT.out.A.1)).mono ?_;rintro e w2⟨hr,hb2⟩;have HX2:Hid (GotX w p q lb x w2):=HX1.out.below hb2;have qj:w2.cell? ⟨q,j,none⟩=some z:=(hp_cell HX2.out.X j).trans HZZ.out;have qf:w2.frozen? ⟨q,j,none⟩=false:=hp_free HX2.out.X j;clear hb2 HX1;rcases hn:numAt l' with _|⟨vv,n⟩
   ·rw[hn]at hr
    have hr:e=.returned (.tuple #[.int .i64 0,_,.bool false]):=hr;subst hr;have HR:Hid (tot=none):=(by rw[<-HF2.out,hn];rfl:tot=none)
    clear hn HF2;go_wp2_with fail;go_step3;refine HK'.out 1 _ _ ⟨_,_,_,_,lb,setF x c 0,⟨rfl,rfl,rfl,rfl,rfl,rfl,rfl,rfl⟩,HX2.out.put hq HPQ.out (HSET.out 0),HR.out⟩ ?_;show s'.size*10+1<s'.size*10+15;omega
   ·rw[hn]at hr
    obtain⟨o3,rfl,ho3⟩:=hr;have HT3:Hid (LT w b o3 (cap'-n) (l'.drop n)):=HT.out.drop n o3 (num_bound hn).2.2.2.2.1 ho3;have HR:Hid (fin lb (fit s'.data.toList (l'.drop n) (setF x c vv))=tot):=(by rw[<-HF2.out,hn]:fin lb (fit s'.data.toList (l'.drop n) (setF x c vv))=tot)
    clear hn ho3 HF2;rw[show l'.length-n=(l'.drop n).length from(List.length_drop ..).symm];go_wp2_with fail;go_step3;refine HK'.out 0 _ _ ⟨_,_,lb,setF x c vv,_,_,l'.drop n,s',⟨rfl,rfl,rfl,rfl,rfl,rfl,by simp[List.length_drop],rfl⟩,HT3.out,HX2.out.put hq HPQ.out (HSET.out vv),H64'.out,HR.out,hsz'⟩ ?_;show s'.size*10+5<s'.size*10+15;omega
theorem pass0(w:World)(p q b:Nat)(tot:Option Row)(K:Exit->Act->World->Prop)(hq:w.heap.size<=q)(hpq:p≠q)(a:Act)(v:World)(h:LJ w p q b tot 0 a v)(hK:∀l' a' v',LJ w p q b tot l' a' v'->muL l' a' v'<muL 0 a v->K (.goto l') a' v'):
 (rlG Tryd.f72 0).wp Tryd.prog K a v:=by
 refine wp_found (l:=0) (c:=?cc) ?hh ?ww
 case hh=>unfold rlF Tryd.f72;dsimp only;exact rfl
 refine wp_seq (wp_skip ?_);refine wp_of_eq (c:=(rlH Tryd.f72)) ?_ (pass0R w p q b tot K hq hpq a v h hK);unfold rlH rlF Tryd.f72;dsimp only;rfl
end Go.Proofs.YtdbhgaegblclaaaDoor
