import Derived.Test.YtlkjdanoejdgbaaGreatUnitMake3
import Derived.Test.YtlkjdanoejdgbaaGreatOfUnitWrong
set_option maxHeartbeats 8000000
set_option maxRecDepth 20000
namespace Go.Proofs.YtlkjdanoejdgbaaGreat
open Go.RowKit
def notI(cond:Int):Int:=if cond=1 then 31 else if cond=2 then 30 else if cond=3 then 33 else 32
section
variable{L:Nat->SV}{at' i te:Nat}
end
abbrev runB(L:Nat->SV)(n:Nat):Prop:=n<=2000/\(chk L 0 0 321 0 n 0).1=0/\szTo L (fun _=>0) n<2000
theorem flatBlock0_any(L:Nat->SV)(Z:Nat->Int)(w0:World)(z0:∀i,0<=Z i)(z1:∀i,Z i<=2001)(me deep:Int):∀(m i te:Nat)(depth:Int)(v:Value)(S:Nat->Prop)(w:World),Below w0.heap.size w0 w->RepN L m w S v i te->i<=te->te<=2000->(chk L me 0 deep i te depth).1=0->
 Calls Tryz.prog 55 #[v,.slice none 0 0] w fun e w'=>e=.returned (.int .i64 (szTo L Z te-szTo L Z i))/\Below w.heap.size w w':=by
 have zle:∀k:Nat,szTo L Z k<=2001*(k:Int):=fun k=>by
  induction k with
  |zero=>simp[szTo]
  |succ k ih=>
   have:=wI_le (s:=L k) z1;show szTo L Z k+wI (L k) Z<=_;omega
 have ZLE:Hid (∀k:Nat,szTo L Z k<=2001*(k:Int)):=zle;have Z0:Hid (∀i,0<=Z i):=z0;clear zle z0 z1;intro m;induction m with
 |zero=>
  intro i te depth v S w _ hr hit _ _;obtain⟨h1,rfl⟩:=hr;obtain rfl:i=te:=by omega
  refine(flatNil_any none 0 _ w).mono ?_;rintro e w'⟨rfl,rfl⟩;exact⟨ret_int (by omega),Below.refl _ _⟩
 |succ m ih=>
  intro i te depth v S w hw0 hr hit h2k hck;obtain⟨xs,hrow,hxl,hx⟩:=hr;by_cases hit2:i=te
  ·subst hit2
   have hl0:xs.length=0:=by rw[hxl,tops_end (by omega)];rfl
   have hv:∃ao cap,v=.slice ao 0 cap:=by
    rcases hrow.1.2 with⟨e,_⟩|⟨g,cap,cur,e,_⟩
    ·exact⟨_,_,e⟩
    ·rw[hl0]at e;exact⟨_,_,e⟩
   obtain⟨ao,cap,rfl⟩:=hv;refine(flatNil_any ao cap _ w).mono ?_;rintro e w'⟨rfl,rfl⟩;exact⟨ret_int (by omega),Below.refl _ _⟩
  have hlx:0<xs.length:=by rw[hxl,tops_more (by omega)];simp
  have hl2k:xs.length<=2000:=by rw[hxl];exact Nat.le_trans (tops_len L _ i te (Nat.le_refl _)) (by omega)
  obtain⟨g,cv,hv⟩:=row_some2 hrow.1 hlx;subst hv;have lgw:g<w.heap.size:=(hrow.1.lt g rfl).2;have HW0:Hid (Below w0.heap.size w0 w):=hw0;have HROW:Hid (RowS w S (.slice (some ⟨g,0,none⟩) xs.length cv) xs):=hrow;have HXL:Hid (xs.length=(tops L i te).length):=hxl;have HX:Hid _:=hx;have HCK:Hid ((chk L me 0 deep i te depth).1=0):=hck;have IH:Hid _:=ih;clear hw0 hrow hxl hx hck ih;obtain⟨res,hres⟩:∃x,szTo L Z te-szTo L Z i=x:=⟨_,rfl⟩
  rw[hres];have HRES:Hid (szTo L Z te-szTo L Z i=res):=hres;clear hres;obtain⟨nx,hnx⟩:∃y,xs.length=y:=⟨_,rfl⟩
  have HNX:Hid (xs.length=nx):=hnx;rw[hnx]at hlx hl2k⊢;clear hnx;go_enter Tryz.func55,Tryz.ntmps55;go_wp2;go_loopw [5,10](fun tv iv wr=>∃(q p:Nat),q<=nx/\i<=p/\p<=te/\iv=.int .i64 (q:Int)/\tv=.int .i64 (szTo L Z p-szTo L Z i)/\Below w.heap.size w wr/\(tops L i te).drop q=tops L p te/\(chk L me 0 deep p te depth).1=0)(fun _ iv _=>nx-(intOf iv).toNat)
  case atStart=>exact⟨0,i,Nat.zero_le _,Nat.le_refl _,hit,rfl,by simp,Below.refl _ _,by simp,HCK.out⟩
  case round=>
   obtain⟨q,p,hq,hip,hpt,rfl,rfl,hbr,hdr,hcp⟩:=hrel;have BR:Hid (Below w.heap.size w wr):=hbr;have HDR:Hid ((tops L i te).drop q=tops L p te):=hdr;have HCP:Hid ((chk L me 0 deep p te depth).1=0):=hcp;clear hbr hdr hcp;have t0:=szTo_mono (L:=L) Z0.out hip;have t1:=ZLE.out p;have t2:=szTo_pos (L:=L) Z0.out i;by_cases hlt:p<te
   rotate_left
   ·obtain rfl:p=te:=by omega
    have hqn:q=nx:=by
     have h:=congrArg List.length HDR.out;rw[List.length_drop,<-HXL.out,HNX.out,tops_end (i:=p) (te:=p) (by omega)]at h;simp at h;omega
    have hqx':¬(q:Int)<(nx:Int):=by omega
    clear t0 t1 t2;go_wp2;go_ret;exact⟨ret_int (by rw[<-HRES.out]),BR.out⟩
   have hqx:q<nx:=by
    have h:=congrArg List.length HDR.out;rw[List.length_drop,<-HXL.out,HNX.out,tops_more hlt]at h;simp at h;omega
   have hqx':(q:Int)<(nx:Int):=by omega
   obtain⟨x,hxq⟩:∃x,xs[q]?=some x:=⟨xs[q]'(by rw[HNX.out];exact hqx),by simp[HNX.out,hqx]⟩
   have hpq:(tops L i te)[q]?=some p:=by
    have h:=congrArg (fun l=>l[0]?) HDR.out;simp only[tops_more hlt,List.getElem?_drop,Nat.add_zero,List.getElem?_cons_zero]at h;exact h
   have hdn:(tops L i te).drop (q+1)=tops L (p+1+(L p).thn.toNat+(L p).els.toNat) te:=by
    have h:=congrArg (List.drop 1) HDR.out;rw[List.drop_drop,tops_more hlt]at h;simpa[Nat.add_comm]using h
   have g0:wr.cell? ⟨g,q,none⟩=some x:=by
    rw[BR.out.cell (p:=⟨g,q,none⟩) lgw,HROW.out.1.cellAt q (by rw[HNX.out];omega)];exact hxq
   obtain⟨sok,hnt,c1,c2,c3⟩:=chk_next HCP.out hlt;have HSOK:Hid (stOK (L p) 0=true):=sok;have HC1:Hid _:=c1;have HC2:Hid _:=c2;have HC3:Hid _:=c3;have HDN:Hid _:=hdn;have HNT:Hid (p+1+(L p).thn.toNat+(L p).els.toNat<=te):=hnt;have HP1:Hid (szTo L Z (p+1)=szTo L Z p+wI (L p) Z):=rfl;have hcase:=HX.out q x p hxq hpq;clear sok c1 c2 c3 hdn hnt hxq hpq;have hthn:Hid ((L p).k=1∨(L p).k=4->(L p).thn.toNat=0/\(L p).els.toNat=0):=(fun h=>by have:=(st_plain HSOK.out).1 h;omega:(L p).k=1∨(L p).k=4->(L p).thn.toNat=0/\(L p).els.toNat=0)
   have hels:Hid ((L p).k=3->(L p).els.toNat=0):=(fun h=>by have:=(st_plain HSOK.out).2 h;omega:(L p).k=3->(L p).els.toNat=0)
   rcases hcase with⟨k1,rfl⟩|⟨k2,v1,v2,rfl,r1,r2⟩|⟨k3,v1,rfl,r1⟩|⟨k4,rfl⟩
   ·obtain⟨ea,eb⟩:=hthn.out (.inl k1)
    have HQ:Hid (szTo L Z (p+1+(L p).thn.toNat+(L p).els.toNat)=szTo L Z p+1):=(by rw[ea,eb];show szTo L Z p+wI (L p) Z=_;simp[wI,k1]:szTo L Z (p+1+(L p).thn.toNat+(L p).els.toNat)=szTo L Z p+1)
    have hm:=meth_single;clear k1 ea eb;go_wp2_with fail;refine(flatSingle_any _ _ _ _ _ _ _ _ _).mono ?_;rintro e u1⟨rfl,hb⟩;have B2:Hid (Below w.heap.size w u1):=BR.out.trans (hb.mono BR.out.size);clear hb hm g0;go_wp2;go_roundw
    case rel=>exact⟨q+1,p+1+(L p).thn.toNat+(L p).els.toNat,by omega,by omega,HNT.out,by go_num,by rw[HQ.out];congr 1;omega,B2.out,HDN.out,HC3.out⟩
    case measure=>simp[intOf];omega
   ·have HQ:Hid (szTo L Z (p+1)=szTo L Z p+2):=(by show szTo L Z p+wI (L p) Z=_;simp[wI,k2]:szTo L Z (p+1)=szTo L Z p+2)
    have hm:=meth_choice;have m1:=szTo_mono (L:=L) Z0.out (show p+1<=p+1+(L p).thn.toNat by omega);have m2:=szTo_mono (L:=L) Z0.out (show p+1+(L p).thn.toNat<=p+1+(L p).thn.toNat+(L p).els.toNat by omega);have m3:=ZLE.out (p+1+(L p).thn.toNat+(L p).els.toNat);have m4:=szTo_pos (L:=L) Z0.out (p+1);have hn:=HNT.out;obtain⟨s1,hs1⟩:∃y,szTo L Z (p+1+(L p).thn.toNat)-szTo L Z (p+1)=y:=⟨_,rfl⟩
    obtain⟨s2,hs2⟩:∃y,szTo L Z (p+1+(L p).thn.toNat+(L p).els.toNat)-szTo L Z (p+1+(L p).thn.toNat)=y:=⟨_,rfl⟩
    have HS1:Hid _:=hs1;have HS2:Hid _:=hs2;have y0:0<=s1:=by omega
    have y1:s1<=1099511627776:=by omega
    have y2:0<=s2:=by omega
    have y3:s2<=1099511627776:=by omega
    have y4:s1+s2<=4002000:=by omega
    have R1:Hid (RepN L m w S v1 (p+1) (p+1+(L p).thn.toNat)):=r1;have R2:Hid (RepN L m w S v2 (p+1+(L p).thn.toNat) (p+1+(L p).thn.toNat+(L p).els.toNat)):=r2;clear k2 r1 r2 m1 m2 m3 m4 hn hs1 hs2;go_wp2_with fail;refine(flatChoice_any _ _ v1 v2 _ s1 s2 _ y0 y1 y2 y3 (fun w' hb'=>?h1) (fun w' hb'=>?h2)).mono ?_
    case h1=>
     have hbb:=BR.out.trans (hb'.mono BR.out.size);have hn:=HNT.out;have h:=IH.out (p+1) (p+1+(L p).thn.toNat) (depth+1) v1 S w' (HW0.out.trans (hbb.mono HW0.out.size)) (R1.out.below hbb) (by omega) (by omega) HC1.out;rw[HS1.out]at h;exact h
    case h2=>
     have hbb:=BR.out.trans (hb'.mono BR.out.size);have hn:=HNT.out;have h:=IH.out (p+1+(L p).thn.toNat) (p+1+(L p).thn.toNat+(L p).els.toNat) (depth+1) v2 S w' (HW0.out.trans (hbb.mono HW0.out.size)) (R2.out.below hbb) (by omega) (by omega) HC2.out;rw[HS2.out]at h;exact h
    rintro e u1⟨rfl,hb⟩;have B2:Hid (Below w.heap.size w u1):=BR.out.trans (hb.mono BR.out.size);clear hb hm g0;go_wp2;go_roundw
    case rel=>exact⟨q+1,p+1+(L p).thn.toNat+(L p).els.toNat,by omega,by omega,HNT.out,by go_num,by have q1:=HS1.out;have q2:=HS2.out;have q3:=HQ.out;congr 1;omega,B2.out,HDN.out,HC3.out⟩
    case measure=>simp[intOf];omega
   ·have ee:=hels.out k3
    have HQ:Hid (szTo L Z (p+1)=szTo L Z p+2):=(by show szTo L Z p+wI (L p) Z=_;simp[wI,k3]:szTo L Z (p+1)=szTo L Z p+2)
    have hm:=meth_loop;have m1:=szTo_mono (L:=L) Z0.out (show p+1<=p+1+(L p).thn.toNat by omega);have m3:=ZLE.out (p+1+(L p).thn.toNat);have m4:=szTo_pos (L:=L) Z0.out (p+1);have hn:=HNT.out;obtain⟨s1,hs1⟩:∃y,szTo L Z (p+1+(L p).thn.toNat)-szTo L Z (p+1)=y:=⟨_,rfl⟩
    have HS1:Hid _:=hs1;have HEE:Hid ((L p).els.toNat=0):=ee;have y0:0<=s1:=by omega
    have y1:s1<=4002000:=by omega
    have R1:Hid (RepN L m w S v1 (p+1) (p+1+(L p).thn.toNat)):=r1;clear k3 r1 m1 m3 m4 hn hs1 ee;go_wp2_with fail;refine(flatLoop_any _ _ v1 _ s1 _ y0 (by omega) (fun w' hb'=>?h1)).mono ?_
    case h1=>
     have hbb:=BR.out.trans (hb'.mono BR.out.size);have hn:=HNT.out;have h:=IH.out (p+1) (p+1+(L p).thn.toNat) (depth+1) v1 S w' (HW0.out.trans (hbb.mono HW0.out.size)) (R1.out.below hbb) (by omega) (by omega) HC1.out;rw[HS1.out]at h;exact h
    rintro e u1⟨rfl,hb⟩;have B2:Hid (Below w.heap.size w u1):=BR.out.trans (hb.mono BR.out.size);clear hb hm g0;go_wp2;go_roundw
    case rel=>exact⟨q+1,p+1+(L p).thn.toNat+(L p).els.toNat,by omega,by omega,HNT.out,by go_num,by have q1:=HS1.out;have q3:=HQ.out;rw[HEE.out];congr 1;simp only[Nat.add_zero];omega,B2.out,HDN.out,HC3.out⟩
    case measure=>simp[intOf];omega
   ·obtain⟨q0,q1⟩:=st_call HSOK.out k4
    omega
theorem run_cap{x:Int}:capI x+1<=2000↔x<2000:=by unfold capI;split<;>omega
theorem l3Runnable_any(b n cap:Nat)(L:Nat->SV)(w:World)(ln:n<=1048576)(hA:Arr w b (n*11) (stF L)):
 Calls Tryz.prog 20 #[.slice (some ⟨b,0,none⟩) n cap] w fun e w'=>e=.returned (.bool (decide (runB L n)))/\Below w.heap.size w w':=by
 obtain⟨res,hres⟩:∃x,decide (runB L n)=x:=⟨_,rfl⟩
 rw[hres];have HR:Hid (decide (runB L n)=res):=hres;have HA:Hid (Arr w b (n*11) (stF L)):=hA;clear hres hA;go_enter Tryz.func20,Tryz.ntmps20;by_cases hn:n<=2000
 rotate_left
 ·have e1:decide ((2000:Int)<(n:Int))=true:=by simp;omega
  obtain rfl:false=res:=by rw[<-HR.out];exact(decide_eq_false (fun h=>hn h.1)).symm
  go_wp2;go_ret;exact⟨rfl,Below.refl _ _⟩
 have e1:decide ((2000:Int)<(n:Int))=false:=by simp;omega
 go_wp2_with fail;refine(l3Block_any b n cap L 0 0 321 ln (by omega) (by omega) n 0 n 0 w (by omega) (by omega) (Nat.le_refl _) (by omega) (by omega) HA.out).mono ?_;rintro e w1⟨rfl,hb1⟩;obtain⟨c,hc⟩:∃x,chk L 0 0 321 0 n 0=x:=⟨_,rfl⟩
 rw[hc];have HC:Hid (chk L 0 0 321 0 n 0=c):=hc;have B1:Hid (Below w.heap.size w w1):=hb1;have A1:Hid (Arr w1 b (n*11) (stF L)):=HA.out.below hb1 HA.out.lt;have HN:Hid (n<=2000):=hn;clear hc hb1;obtain⟨c1,c2⟩:=c;by_cases hz:c1=0
 rotate_left
 ·have e2:(c1==0)=false:=by simp[hz]
  obtain rfl:false=res:=by rw[<-HR.out];exact(decide_eq_false (fun h=>hz (by have:=h.2.1;rw[HC.out]at this;exact this))).symm
  clear hz;go_wp2;go_ret;exact⟨rfl,B1.out⟩
 subst hz;have lw:=B1.out.size;obtain⟨u,hu,hbu,hau⟩:∃x,w1.alloc (.cells #[] 2)=x/\Below w1.heap.size w1 x/\At x w1.heap.size 0 0 (zF (fun _=>0)):=⟨_,rfl,(Below.refl _ _).alloc (Nat.le_refl _) _,by simp,fun i hi=>by omega⟩
 have AU:Hid (At u w1.heap.size 0 0 (zF (fun _=>0))):=hau;have AA:Hid (Arr u b (n*11) (stF L)):=A1.out.below hbu A1.out.lt;have BU:Hid (Below w.heap.size w u):=B1.out.trans (hbu.mono lw);have HU:Hid (w1.alloc (.cells #[] 2)=u):=hu;clear hu hbu hau;go_wp2_with fail;rw[HU.out];refine(l3Size_any b n cap L w1.heap.size 0 0 (fun _=>0) u ln AA.out AU.out (fun _=>Int.le_refl _) (fun _=>by decide) (fun j hj k4=>by
  have h:=st_call (chk_all L 0 0 321 _ 0 n 0 (Nat.le_refl _) (by rw[HC.out]) j (Nat.zero_le _) hj) k4;omega)).mono ?_
 rintro e w2⟨rfl,hw⟩;rw[hw];clear hw;obtain⟨z,hz⟩:∃y,capI (szTo L (fun _=>0) n)=y:=⟨_,rfl⟩
 rw[hz];have zb:0<=z/\z<=2001:=by rw[<-hz];exact capI_in (szTo_pos (fun _=>Int.le_refl _) n)
 obtain⟨zb0,zb1⟩:=zb;have HZ:Hid (capI (szTo L (fun _=>0) n)=z):=hz;clear hz;by_cases h2:z+1<=2000
 ·have e3:decide (z+1<=2000)=true:=by simp[h2]
  obtain rfl:true=res:=by rw[<-HR.out];exact(decide_eq_true ⟨HN.out,by rw[HC.out],run_cap.1 (by rw[HZ.out];exact h2)⟩).symm
  go_wp2;go_ret;exact⟨rfl,BU.out⟩
 ·have e3:decide (z+1<=2000)=false:=by simp;omega
  obtain rfl:false=res:=by rw[<-HR.out];exact(decide_eq_false (fun h=>h2 (by rw[<-HZ.out];exact run_cap.2 h.2.2))).symm
  go_wp2;go_ret;exact⟨rfl,BU.out⟩
theorem runTree_any(b n cap:Nat)(L:Nat->SV)(w:World)(ln:n<=1048576)(hA:Arr w b (n*11) (stF L)):
 Calls Tryz.prog 31 #[.slice (some ⟨b,0,none⟩) n cap] w fun e w'=>∃(ao:Option Addr)(k c:Nat),e=.returned (.tuple #[.slice ao k c,.bool (decide (runB L n))])/\Below w.heap.size w w'/\(runB L n->RepN L (n+1) w' (fun q=>w.heap.size<=q) (.slice ao k c) 0 n):=by
 obtain⟨res,hres⟩:∃x,decide (runB L n)=x:=⟨_,rfl⟩
 rw[hres];have HR:Hid (decide (runB L n)=res):=hres;have HA:Hid (Arr w b (n*11) (stF L)):=hA;have lb:=hA.lt;clear hres hA;go_enter Tryz.func31,Tryz.ntmps31;by_cases hn:n<=2000
 rotate_left
 ·have e1:decide ((2000:Int)<(n:Int))=true:=by simp;omega
  obtain rfl:false=res:=by rw[<-HR.out];exact(decide_eq_false (fun h=>hn h.1)).symm
  have HN:Hid (¬n<=2000):=hn;go_wp2;refine bodyPost_ret (v:=.tuple #[.slice none 0 0,.bool false]) (by simp[results,Tryz.results31,go_sem]) rfl ⟨none,0,0,rfl,Below.refl _ _,fun h=>absurd h.1 HN.out⟩
 have e1:decide ((2000:Int)<(n:Int))=false:=by simp;omega
 have HN:Hid (n<=2000):=hn;go_wp2_with fail;obtain⟨u2,hu2,hb2,ht2⟩:∃x,w.alloc (.cells #[.slice (some ⟨b,0,none⟩) n cap,.int .i64 0,.int .i64 0,.int .i64 320,.int .i64 0,.int .i64 0] 115)=x/\Below w.heap.size w x/\TmP x w.heap.size b n cap 0 0 320 0 0:=⟨_,rfl,(Below.refl _ _).alloc (Nat.le_refl _) _,Cl.new,fun i=>by simp[go_sem]⟩
 rw[hu2];have hc:=blockOf_any L w.heap.size b n cap 0 0 320 (by omega) ln n 0 n 0 (by omega) (Nat.zero_le _) (Nat.le_refl _) (by omega) (by omega) u2 (HA.out.below hb2 lb) ht2;rw[show(n:Int)-((0:Nat):Int)=(n:Int)by omega,show(320:Int)+1=321 from rfl]at hc;obtain⟨c,hcc⟩:∃x,chk L 0 0 321 0 n 0=x:=⟨_,rfl⟩
 rw[hcc]at hc;have HC:Hid (chk L 0 0 321 0 n 0=c):=hcc;clear hcc hu2;refine hc.mono ?_;rintro e u3⟨ao3,k3,c3,rfl,hf3,ht3,hr3⟩;have z2:w.heap.size<u2.heap.size:=ht2.C.1;have z3:=hf3.size;have B3:Hid (Below w.heap.size w u3):=hb2.trans ⟨hf3.os,hf3.tape,hf3.output,hf3.size,fun k hk=>hf3.block k (by omega) (by omega)⟩;have TM:Hid (TmP u3 w.heap.size b n cap 0 0 320 c.1 (if c.1=0 then(n:Int)else c.2)):=ht3;have RR:Hid (c.1=0->RepN L (n+1) u3 (fun q=>w.heap.size<=q) (.slice ao3 k3 c3) 0 n):=fun h=>(hr3 h).kept (fun q hq=>by omega) (fun _ _ _=>rfl)
 clear hc hf3 ht3 hr3 hb2 ht2;have q4:u3.cell? ⟨w.heap.size,4,none⟩=some (.int .i64 c.1):=TM.out.C.2 4 (by simp);have ql:=TM.out.C.1;by_cases z:c.1=0
 rotate_left
 ·have ez:(c.1 !=0)=true:=by simp[z]
  obtain rfl:false=res:=by rw[<-HR.out];exact(decide_eq_false (fun h=>z (by have:=h.2.1;rw[HC.out]at this;exact this))).symm
  have HZ:Hid (¬runB L n):=fun h=>z (by have:=h.2.1;rw[HC.out]at this;exact this)
  clear z;go_wp2;refine bodyPost_ret (v:=.tuple #[.slice none 0 0,.bool false]) (by simp[results,Tryz.results31,go_sem]) rfl ⟨none,0,0,rfl,B3.out,fun h=>absurd h HZ.out⟩
 have ez:(c.1 !=0)=false:=by simp[z]
 have HZ:Hid (c.1=0):=z;clear z;go_wp2_with fail;clear q4 ql;refine(flatBlock0_any L (fun _=>0) u3 (fun _=>Int.le_refl _) (fun _=>by decide) 0 321 (n+1) 0 n 0 (.slice ao3 k3 c3) _ u3 (Below.refl _ _) (RR.out HZ.out) (Nat.zero_le _) hn (by rw[HC.out];exact HZ.out)).mono ?_;rintro e u4⟨rfl,hb4⟩;obtain⟨s,hs⟩:∃y,szTo L (fun _=>0) n=y:=⟨_,rfl⟩
 rw[hs,show szTo L (fun _=>0) 0=0 from rfl,Int.sub_zero];have HS:Hid (szTo L (fun _=>0) n=s):=hs;have B4:Hid (Below w.heap.size w u4):=B3.out.trans (hb4.mono (by omega));have R4:Hid (RepN L (n+1) u4 (fun q=>w.heap.size<=q) (.slice ao3 k3 c3) 0 n):=(RR.out HZ.out).below hb4;clear hs hb4;by_cases h2:s<2000
 ·have e3:decide (2000<=s)=false:=by simp;omega
  obtain rfl:true=res:=by rw[<-HR.out];exact(decide_eq_true ⟨HN.out,by rw[HC.out];exact HZ.out,by rw[HS.out];exact h2⟩).symm
  go_wp2;refine bodyPost_ret (v:=.tuple #[.slice ao3 k3 c3,.bool true]) (by simp[results,Tryz.results31,go_sem]) rfl ⟨ao3,k3,c3,rfl,B4.out,fun _=>R4.out⟩
 ·have e3:decide (2000<=s)=true:=by simp;omega
  have HF:Hid (¬runB L n):=fun h=>h2 (by have:=h.2.2;rw[HS.out]at this;exact this)
  obtain rfl:false=res:=by rw[<-HR.out];exact(decide_eq_false HF.out).symm
  go_wp2;refine bodyPost_ret (v:=.tuple #[.slice none 0 0,.bool false]) (by simp[results,Tryz.results31,go_sem]) rfl ⟨none,0,0,rfl,B4.out,fun h=>absurd h HF.out⟩
theorem skipJump_any(c:Int)(w:World):Calls Tryz.prog 131 #[.int .i64 c] w fun e w'=>e=.returned (.int .i64 (notI c))/\w'=w:=by
 go_enter Tryz.func131,Tryz.ntmps131;go_wp2;all_goals(go_ret;refine⟨ret_int ?_,rfl⟩;simp_all[notI])
theorem RepN.shp{L:Nat->SV}{w:World}{S:Nat->Prop}:∀(m:Nat){v:Value}{i te:Nat},RepN L m w S v i te->∃(ao:Option Addr)(k c:Nat),v=.slice ao k c
 |0,_,_,_,h=>⟨_,_,_,h.2⟩
 |_+1,_,_,_,⟨_,hr,_⟩=>row_slU hr.1
theorem tl11(v:Value)(w:World):(Instr.typeAssert (.iface 147 v) 120 147 true).run Tryz.prog w=.ok (.tuple #[v,.bool true]) w:=by kernel_rfl
theorem tl21(v:Value)(w:World):(Instr.typeAssert (.iface 150 v) 120 147 true).run Tryz.prog w=.ok (.tuple #[.agg #[.int .i64 0,.int .i64 0,.int .i64 0,.int .i64 0,.int .i64 0,.int .i64 0,.int .i64 0],.bool false]) w:=by kernel_rfl
theorem tl22(v:Value)(w:World):(Instr.typeAssert (.iface 150 v) 120 150 true).run Tryz.prog w=.ok (.tuple #[v,.bool true]) w:=by kernel_rfl
theorem tl31(v:Value)(w:World):(Instr.typeAssert (.iface 153 v) 120 147 true).run Tryz.prog w=.ok (.tuple #[.agg #[.int .i64 0,.int .i64 0,.int .i64 0,.int .i64 0,.int .i64 0,.int .i64 0,.int .i64 0],.bool false]) w:=by kernel_rfl
theorem tl32(v:Value)(w:World):(Instr.typeAssert (.iface 153 v) 120 150 true).run Tryz.prog w=.ok (.tuple #[.agg #[.int .i64 0,.int .i64 0,.slice none 0 0,.slice none 0 0],.bool false]) w:=by kernel_rfl
theorem tl33(v:Value)(w:World):(Instr.typeAssert (.iface 153 v) 120 153 true).run Tryz.prog w=.ok (.tuple #[v,.bool true]) w:=by kernel_rfl
end Go.Proofs.YtlkjdanoejdgbaaGreat
