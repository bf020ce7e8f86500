import Derived.Test.YtplnpgohdgialaaOfUnitWrong
import Derived.Test.YtplnpgohdgialaaOfLowSpec
import Derived.Test.YtplnpgohdgialaaLowChoice
set_option maxHeartbeats 32000000
set_option maxRecDepth 20000
namespace Go.Proofs.Ytplnpgohdgialaa
open Go.RowKit
theorem flatBlock0_any(L:Nat->SV)(Z:Nat->Int)(w0:World)(z0:∀i,0<=Z i)(z1:∀i,Z i<=2001)(me deep:Int):∀(m i te:Nat)(depth:Int)(v:Value)(S:Nat->Prop)(w:World),Below w0.heap.size w0 w->RepN L m w S v i te->i<=te->te<=2000->(chk L me 0 deep i te depth).1=0->
 Calls Try.prog 37 #[v,.slice none 0 0] w fun e w'=>e=.returned (.int .i64 (szTo L Z te-szTo L Z i))/\Below w.heap.size w w':=by
 have zle:∀k:Nat,szTo L Z k<=2001*(k:Int):=fun k=>by
  induction k with
  |zero=>simp[szTo]
  |succ k ih=>
   have:=wI_le (s:=L k) z1;show szTo L Z k+wI (L k) Z<=_;omega
 have ZLE:Hid (∀k:Nat,szTo L Z k<=2001*(k:Int)):=zle;have Z0:Hid (∀i,0<=Z i):=z0;clear zle z0 z1;intro m;induction m with
 |zero=>
  intro i te depth v S w _ hr hit _ _;obtain⟨h1,rfl⟩:=hr;obtain rfl:i=te:=by omega
  refine(flatNil_any none 0 _ w).mono ?_;rintro e w'⟨rfl,rfl⟩;exact⟨ret_int (by omega),Below.refl _ _⟩
 |succ m ih=>
  intro i te depth v S w hw0 hr hit h2k hck;obtain⟨xs,hrow,hxl,hx⟩:=hr;by_cases hit2:i=te
  ·subst hit2
   have hl0:xs.length=0:=by rw[hxl,tops_end (by omega)];rfl
   have hv:∃ao cap,v=.slice ao 0 cap:=by
    rcases hrow.1.2 with⟨e,_⟩|⟨g,cap,cur,e,_⟩
    ·exact⟨_,_,e⟩
    ·rw[hl0]at e;exact⟨_,_,e⟩
   obtain⟨ao,cap,rfl⟩:=hv;refine(flatNil_any ao cap _ w).mono ?_;rintro e w'⟨rfl,rfl⟩;exact⟨ret_int (by omega),Below.refl _ _⟩
  have hlx:0<xs.length:=by rw[hxl,tops_more (by omega)];simp
  have hl2k:xs.length<=2000:=by rw[hxl];exact Nat.le_trans (tops_len L _ i te (Nat.le_refl _)) (by omega)
  obtain⟨g,cv,hv⟩:=row_some2 hrow.1 hlx;subst hv;have lgw:g<w.heap.size:=(hrow.1.lt g rfl).2;have HW0:Hid (Below w0.heap.size w0 w):=hw0;have HROW:Hid (RowS w S (.slice (some ⟨g,0,none⟩) xs.length cv) xs):=hrow;have HXL:Hid (xs.length=(tops L i te).length):=hxl;have HX:Hid _:=hx;have HCK:Hid ((chk L me 0 deep i te depth).1=0):=hck;have IH:Hid _:=ih;clear hw0 hrow hxl hx hck ih;obtain⟨res,hres⟩:∃x,szTo L Z te-szTo L Z i=x:=⟨_,rfl⟩
  rw[hres];have HRES:Hid (szTo L Z te-szTo L Z i=res):=hres;clear hres;obtain⟨nx,hnx⟩:∃y,xs.length=y:=⟨_,rfl⟩
  have HNX:Hid (xs.length=nx):=hnx;rw[hnx]at hlx hl2k⊢;clear hnx;go_enter Try.func37,Try.ntmps37;go_wp2;go_loopw [5,10](fun tv iv wr=>∃(q p:Nat),q<=nx/\i<=p/\p<=te/\iv=.int .i64 (q:Int)/\tv=.int .i64 (szTo L Z p-szTo L Z i)/\Below w.heap.size w wr/\(tops L i te).drop q=tops L p te/\(chk L me 0 deep p te depth).1=0)(fun _ iv _=>nx-(intOf iv).toNat)
  case atStart=>exact⟨0,i,Nat.zero_le _,Nat.le_refl _,hit,rfl,by simp,Below.refl _ _,by simp,HCK.out⟩
  case round=>
   obtain⟨q,p,hq,hip,hpt,rfl,rfl,hbr,hdr,hcp⟩:=hrel;have BR:Hid (Below w.heap.size w wr):=hbr;have HDR:Hid ((tops L i te).drop q=tops L p te):=hdr;have HCP:Hid ((chk L me 0 deep p te depth).1=0):=hcp;clear hbr hdr hcp;have t0:=szTo_mono (L:=L) Z0.out hip;have t1:=ZLE.out p;have t2:=szTo_pos (L:=L) Z0.out i;by_cases hlt:p<te
   rotate_left
   ·obtain rfl:p=te:=by omega
    have hqn:q=nx:=by
     have h:=congrArg List.length HDR.out;rw[List.length_drop,<-HXL.out,HNX.out,tops_end (i:=p) (te:=p) (by omega)]at h;simp at h;omega
    have hqx':¬(q:Int)<(nx:Int):=by omega
    clear t0 t1 t2;go_wp2;go_ret;exact⟨ret_int (by rw[<-HRES.out]),BR.out⟩
   have hqx:q<nx:=by
    have h:=congrArg List.length HDR.out;rw[List.length_drop,<-HXL.out,HNX.out,tops_more hlt]at h;simp at h;omega
   have hqx':(q:Int)<(nx:Int):=by omega
   obtain⟨x,hxq⟩:∃x,xs[q]?=some x:=⟨xs[q]'(by rw[HNX.out];exact hqx),by simp[HNX.out,hqx]⟩
   have hpq:(tops L i te)[q]?=some p:=by
    have h:=congrArg (fun l=>l[0]?) HDR.out;simp only[tops_more hlt,List.getElem?_drop,Nat.add_zero,List.getElem?_cons_zero]at h;exact h
   have hdn:(tops L i te).drop (q+1)=tops L (p+1+(L p).thn.toNat+(L p).els.toNat) te:=by
    have h:=congrArg (List.drop 1) HDR.out;rw[List.drop_drop,tops_more hlt]at h;simpa[Nat.add_comm]using h
   have g0:wr.cell? ⟨g,q,none⟩=some x:=by
    rw[BR.out.cell (p:=⟨g,q,none⟩) lgw,HROW.out.1.cellAt q (by rw[HNX.out];omega)];exact hxq
   obtain⟨sok,hnt,c1,c2,c3⟩:=chk_next HCP.out hlt;have HSOK:Hid (stOK (L p) 0=true):=sok;have HC1:Hid _:=c1;have HC2:Hid _:=c2;have HC3:Hid _:=c3;have HDN:Hid _:=hdn;have HNT:Hid (p+1+(L p).thn.toNat+(L p).els.toNat<=te):=hnt;have HP1:Hid (szTo L Z (p+1)=szTo L Z p+wI (L p) Z):=rfl;have hcase:=HX.out q x p hxq hpq;clear sok c1 c2 c3 hdn hnt hxq hpq;have hthn:Hid ((L p).k=1∨(L p).k=4->(L p).thn.toNat=0/\(L p).els.toNat=0):=(fun h=>by have:=(st_plain HSOK.out).1 h;omega:(L p).k=1∨(L p).k=4->(L p).thn.toNat=0/\(L p).els.toNat=0)
   have hels:Hid ((L p).k=3->(L p).els.toNat=0):=(fun h=>by have:=(st_plain HSOK.out).2 h;omega:(L p).k=3->(L p).els.toNat=0)
   rcases hcase with⟨k1,rfl⟩|⟨k2,v1,v2,rfl,r1,r2⟩|⟨k3,v1,rfl,r1⟩|⟨k4,rfl⟩
   ·obtain⟨ea,eb⟩:=hthn.out (.inl k1)
    have HQ:Hid (szTo L Z (p+1+(L p).thn.toNat+(L p).els.toNat)=szTo L Z p+1):=(by rw[ea,eb];show szTo L Z p+wI (L p) Z=_;simp[wI,k1]:szTo L Z (p+1+(L p).thn.toNat+(L p).els.toNat)=szTo L Z p+1)
    have hm:=meth_single;clear k1 ea eb;go_wp2_with fail;refine(flatSingle_any _ _ _ _ _ _ _ _ _).mono ?_;rintro e u1⟨rfl,hb⟩;have B2:Hid (Below w.heap.size w u1):=BR.out.trans (hb.mono BR.out.size);clear hb hm g0;go_wp2;go_roundw
    case rel=>exact⟨q+1,p+1+(L p).thn.toNat+(L p).els.toNat,by omega,by omega,HNT.out,by go_num,by rw[HQ.out];congr 1;omega,B2.out,HDN.out,HC3.out⟩
    case measure=>simp[intOf];omega
   ·have HQ:Hid (szTo L Z (p+1)=szTo L Z p+2):=(by show szTo L Z p+wI (L p) Z=_;simp[wI,k2]:szTo L Z (p+1)=szTo L Z p+2)
    have hm:=meth_choice;have m1:=szTo_mono (L:=L) Z0.out (show p+1<=p+1+(L p).thn.toNat by omega);have m2:=szTo_mono (L:=L) Z0.out (show p+1+(L p).thn.toNat<=p+1+(L p).thn.toNat+(L p).els.toNat by omega);have m3:=ZLE.out (p+1+(L p).thn.toNat+(L p).els.toNat);have m4:=szTo_pos (L:=L) Z0.out (p+1);have hn:=HNT.out;obtain⟨s1,hs1⟩:∃y,szTo L Z (p+1+(L p).thn.toNat)-szTo L Z (p+1)=y:=⟨_,rfl⟩
    obtain⟨s2,hs2⟩:∃y,szTo L Z (p+1+(L p).thn.toNat+(L p).els.toNat)-szTo L Z (p+1+(L p).thn.toNat)=y:=⟨_,rfl⟩
    have HS1:Hid _:=hs1;have HS2:Hid _:=hs2;have y0:0<=s1:=by omega
    have y1:s1<=1099511627776:=by omega
    have y2:0<=s2:=by omega
    have y3:s2<=1099511627776:=by omega
    have y4:s1+s2<=4002000:=by omega
    have R1:Hid (RepN L m w S v1 (p+1) (p+1+(L p).thn.toNat)):=r1;have R2:Hid (RepN L m w S v2 (p+1+(L p).thn.toNat) (p+1+(L p).thn.toNat+(L p).els.toNat)):=r2;clear k2 r1 r2 m1 m2 m3 m4 hn hs1 hs2;go_wp2_with fail;refine(flatChoice_any _ _ v1 v2 _ s1 s2 _ y0 y1 y2 y3 (fun w' hb'=>?h1) (fun w' hb'=>?h2)).mono ?_
    case h1=>
     have hbb:=BR.out.trans (hb'.mono BR.out.size);have hn:=HNT.out;have h:=IH.out (p+1) (p+1+(L p).thn.toNat) (depth+1) v1 S w' (HW0.out.trans (hbb.mono HW0.out.size)) (R1.out.below hbb) (by omega) (by omega) HC1.out;rw[HS1.out]at h;exact h
    case h2=>
     have hbb:=BR.out.trans (hb'.mono BR.out.size);have hn:=HNT.out;have h:=IH.out (p+1+(L p).thn.toNat) (p+1+(L p).thn.toNat+(L p).els.toNat) (depth+1) v2 S w' (HW0.out.trans (hbb.mono HW0.out.size)) (R2.out.below hbb) (by omega) (by omega) HC2.out;rw[HS2.out]at h;exact h
    rintro e u1⟨rfl,hb⟩;have B2:Hid (Below w.heap.size w u1):=BR.out.trans (hb.mono BR.out.size);clear hb hm g0;go_wp2;go_roundw
    case rel=>exact⟨q+1,p+1+(L p).thn.toNat+(L p).els.toNat,by omega,by omega,HNT.out,by go_num,by have q1:=HS1.out;have q2:=HS2.out;have q3:=HQ.out;congr 1;omega,B2.out,HDN.out,HC3.out⟩
    case measure=>simp[intOf];omega
   ·have ee:=hels.out k3
    have HQ:Hid (szTo L Z (p+1)=szTo L Z p+2):=(by show szTo L Z p+wI (L p) Z=_;simp[wI,k3]:szTo L Z (p+1)=szTo L Z p+2)
    have hm:=meth_loop;have m1:=szTo_mono (L:=L) Z0.out (show p+1<=p+1+(L p).thn.toNat by omega);have m3:=ZLE.out (p+1+(L p).thn.toNat);have m4:=szTo_pos (L:=L) Z0.out (p+1);have hn:=HNT.out;obtain⟨s1,hs1⟩:∃y,szTo L Z (p+1+(L p).thn.toNat)-szTo L Z (p+1)=y:=⟨_,rfl⟩
    have HS1:Hid _:=hs1;have HEE:Hid ((L p).els.toNat=0):=ee;have y0:0<=s1:=by omega
    have y1:s1<=4002000:=by omega
    have R1:Hid (RepN L m w S v1 (p+1) (p+1+(L p).thn.toNat)):=r1;clear k3 r1 m1 m3 m4 hn hs1 ee;go_wp2_with fail;refine(flatLoop_any _ _ v1 _ s1 _ y0 (by omega) (fun w' hb'=>?h1)).mono ?_
    case h1=>
     have hbb:=BR.out.trans (hb'.mono BR.out.size);have hn:=HNT.out;have h:=IH.out (p+1) (p+1+(L p).thn.toNat) (depth+1) v1 S w' (HW0.out.trans (hbb.mono HW0.out.size)) (R1.out.below hbb) (by omega) (by omega) HC1.out;rw[HS1.out]at h;exact h
    rintro e u1⟨rfl,hb⟩;have B2:Hid (Below w.heap.size w u1):=BR.out.trans (hb.mono BR.out.size);clear hb hm g0;go_wp2;go_roundw
    case rel=>exact⟨q+1,p+1+(L p).thn.toNat+(L p).els.toNat,by omega,by omega,HNT.out,by go_num,by have q1:=HS1.out;have q3:=HQ.out;rw[HEE.out];congr 1;simp only[Nat.add_zero];omega,B2.out,HDN.out,HC3.out⟩
    case measure=>simp[intOf];omega
   ·obtain⟨q0,q1⟩:=st_call HSOK.out k4
    omega
theorem RepN.shp{L:Nat->SV}{w:World}{S:Nat->Prop}:∀(m:Nat){v:Value}{i te:Nat},RepN L m w S v i te->∃(ao:Option Addr)(k c:Nat),v=.slice ao k c
 |0,_,_,_,h=>⟨_,_,_,h.2⟩
 |_+1,_,_,_,⟨_,hr,_⟩=>row_slice hr.1
theorem tl11(v:Value)(w:World):(Instr.typeAssert (.iface 91 v) 89 91 true).run Try.prog w=.ok (.tuple #[v,.bool true]) w:=by kernel_rfl
theorem tl21(v:Value)(w:World):(Instr.typeAssert (.iface 93 v) 89 91 true).run Try.prog w=.ok (.tuple #[.agg #[.int .i64 0,.int .i64 0,.int .i64 0,.int .i64 0,.int .i64 0,.int .i64 0,.int .i64 0],.bool false]) w:=by kernel_rfl
theorem tl22(v:Value)(w:World):(Instr.typeAssert (.iface 93 v) 89 93 true).run Try.prog w=.ok (.tuple #[v,.bool true]) w:=by kernel_rfl
theorem tl31(v:Value)(w:World):(Instr.typeAssert (.iface 95 v) 89 91 true).run Try.prog w=.ok (.tuple #[.agg #[.int .i64 0,.int .i64 0,.int .i64 0,.int .i64 0,.int .i64 0,.int .i64 0,.int .i64 0],.bool false]) w:=by kernel_rfl
theorem tl32(v:Value)(w:World):(Instr.typeAssert (.iface 95 v) 89 93 true).run Try.prog w=.ok (.tuple #[.agg #[.int .i64 0,.int .i64 0,.slice none 0 0,.slice none 0 0],.bool false]) w:=by kernel_rfl
theorem tl33(v:Value)(w:World):(Instr.typeAssert (.iface 95 v) 89 95 true).run Try.prog w=.ok (.tuple #[v,.bool true]) w:=by kernel_rfl
theorem LP.below{w u:World}{lb:Nat}{v:Value}{xs:List NV}(h:LP w lb v xs)(b:Below w.heap.size w u):LP u lb v xs:=
 ⟨(b.cell (p:=⟨lb,0,none⟩) h.lt).trans h.C,Nat.lt_of_lt_of_le h.lt b.size,fun i=>(b.frozen (p:=⟨lb,i,none⟩) h.lt).trans (h.F i),row_belowU h.O b⟩
theorem Stp.of_below{w u:World}{lb:Nat}{E:Nat->Prop}(v:Value)(b:Below w.heap.size w u):Stp lb E w v u v:=⟨Lx.of_below b,.inl rfl⟩
theorem addL_go(w0:World)(lb:Nat)(L:Nat->SV)(m i te:Nat)(depth:Int)(tv:Value)(S:Nat->Prop)(hlb:w0.heap.size<=lb)
 (hr:RepN L (m+1) w0 S tv i te)(hit:i<=te)(hte:te<=2000)(hck:(chk L 0 0 321 i te depth).1=0)
 (ih:∀i' te' d v,i<i'->i'<=te'->te'<=te->(chk L 0 0 321 i' te' d).1=0->RepN L m w0 S v i' te'->AddL w0 lb L i' te' v):AddL w0 lb L i te tv:=by
 intro w v0 xs hb0 hP hsz;obtain⟨ns,hrow,hxl,hx⟩:=hr;obtain⟨aot,kt,ct,htv⟩:=row_slice hrow.1;subst htv;have HROW:Hid (RowS w0 S (.slice aot kt ct) ns):=hrow;have HXL:Hid (ns.length=(tops L i te).length):=hxl;have HX:Hid _:=hx;have HCK:Hid ((chk L 0 0 321 i te depth).1=0):=hck;have IH:Hid _:=ih;have HB0:Hid (Below lb w0 w):=hb0;have P0:Hid (LP w lb v0 xs):=hP;obtain⟨all,hall⟩:∃x,lowB L xs.length i te=x:=⟨_,rfl⟩
 rw[hall]at hsz⊢;have HALL:Hid (lowB L xs.length i te=all):=hall;have hkt:kt=ns.length:=by
  rcases hrow.1.2 with⟨e,e2⟩|⟨g,cap,cur,e,_⟩
  ·have:=(Value.slice.inj e).2.1;omega
  ·exact(Value.slice.inj e).2.1
 have hk2:kt<=2000:=by rw[hkt,hxl];exact Nat.le_trans (tops_len L _ i te (Nat.le_refl _)) (by omega)
 have HKT:Hid (kt=ns.length):=hkt;clear hrow hxl hx hck ih hb0 hP hall hkt;go_enter Try.func25,Try.ntmps25;go_wp2;go_loopw [11](fun iv wr=>∃(q p:Nat)(v:Value)(done:List NV),q<=kt/\i<=p/\p<=te/\iv=.int .i64 (q:Int)/\LP wr lb v (xs++done)/\Stp lb (fun _=>False) w v0 wr v/\done++lowB L (xs++done).length p te=all/\(tops L i te).drop q=tops L p te/\(chk L 0 0 321 p te depth).1=0)(fun iv _=>kt-(intOf iv).toNat)
 case atStart=>exact⟨0,i,v0,[],Nat.zero_le _,Nat.le_refl _,hit,rfl,by rw[List.append_nil];exact P0.out,Stp.refl _ _ _ _,by rw[List.append_nil];exact HALL.out,by simp,HCK.out⟩
 case round=>
  obtain⟨q,p,v,done,hq,hip,hpt,rfl,hp,hs,hd,hdr,hc⟩:=hrel;have P1:Hid (LP wr lb v (xs++done)):=hp;have S1:Hid (Stp lb (fun _=>False) w v0 wr v):=hs;have HD:Hid (done++lowB L (xs++done).length p te=all):=hd;have HDR:Hid ((tops L i te).drop q=tops L p te):=hdr;have HK:Hid ((chk L 0 0 321 p te depth).1=0):=hc;have B1:Hid (Below lb w0 wr):=hs.low HB0.out P0.out (fun _ _ h=>h);have hln:(xs++done).length+(lowB L (xs++done).length p te).length<=4000:=by
   have h:=hsz;rw[<-hd]at h;simp only[List.length_append]at h⊢;omega
  have HLN:Hid ((xs++done).length+(lowB L (xs++done).length p te).length<=4000):=hln;clear hp hs hd hdr hc hln;by_cases hlt:p<te
  rotate_left
  ·have hqn:q=kt:=by
    have h:=congrArg List.length HDR.out;rw[List.length_drop,<-HXL.out,<-HKT.out,tops_end hlt]at h;simp at h;omega
   have hqx':¬(q:Int)<(kt:Int):=by omega
   have hdone:done=all:=by have:=HD.out;rw[lowB_end hlt,List.append_nil]at this;exact this
   subst hdone;go_wp2;go_end0;exact⟨rfl,v,P1.out,S1.out⟩
  have hqx:q<kt:=by
   have h:=congrArg List.length HDR.out;rw[List.length_drop,<-HXL.out,<-HKT.out,tops_more hlt]at h;simp at h;omega
  have hqx':(q:Int)<(kt:Int):=by omega
  obtain⟨gt,ctt,htt⟩:=row_some2 HROW.out.1 (by rw[<-HKT.out];omega);obtain⟨rfl,hz,rfl⟩:=Value.slice.inj htt;clear hz;have HR2:Hid (w0.ownsRow 0 89 1 (.slice (some ⟨gt,0,none⟩) ns.length ct) ns.length ns):=(by have:=HROW.out.1;rwa [HKT.out]at this:w0.ownsRow 0 89 1 (.slice (some ⟨gt,0,none⟩) ns.length ct) ns.length ns)
  obtain⟨x,hxq⟩:∃x,ns[q]?=some x:=⟨ns[q]'(by rw[<-HKT.out];exact hqx),by simp[<-HKT.out,hqx]⟩
  have hpq:(tops L i te)[q]?=some p:=by
   have h:=congrArg (fun l=>l[0]?) HDR.out;simp only[tops_more hlt,List.getElem?_drop,Nat.add_zero,List.getElem?_cons_zero]at h;exact h
  have hdn:(tops L i te).drop (q+1)=tops L (p+1+(L p).thn.toNat+(L p).els.toNat) te:=by
   have h:=congrArg (List.drop 1) HDR.out;rw[List.drop_drop,tops_more hlt]at h;simpa[Nat.add_comm]using h
  have lgt:gt<lb:=by have:=(HROW.out.1.lt gt rfl).2;omega
  have g0:wr.cell? ⟨gt,q,none⟩=some x:=by
   rw[B1.out.cell (p:=⟨gt,q,none⟩) lgt,HR2.out.cellAt q (by rw[<-HKT.out];omega)];exact hxq
  obtain⟨sok,hnt,k1',k2',k3'⟩:=chk_next HK.out hlt;have HSOK:Hid (stOK (L p) (0:Int)=true):=sok;have HC1:Hid _:=k1';have HC2:Hid _:=k2';have HC3:Hid _:=k3';have HDN:Hid _:=hdn;have HNT:Hid (p+1+(L p).thn.toNat+(L p).els.toNat<=te):=hnt;have hcase:=HX.out q x p hxq hpq;clear sok k1' k2' k3' hdn hnt hxq hpq htt HDR HK;rcases hcase with⟨k1,rfl⟩|⟨k2,v1,v2,rfl,r1,r2⟩|⟨k3,v1,rfl,r1⟩|⟨k4,rfl⟩
  ·have K:Hid ((L p).k=1):=k1
   clear k1;have t1:=tl11;go_upto_region 6 with fail;clear t1 g0;obtain⟨u1,hu1,hb1,hc1⟩:∃x,wr.alloc (.cells #[.int .i64 (p:Int),.int .i64 (L p).op,.int .i64 (L p).d,.int .i64 (L p).a,.int .i64 (L p).b,.int .i64 (L p).imm,.int .i64 (L p).h] 91)=x/\Below wr.heap.size wr x/\Cl x wr.heap.size [.int .i64 (p:Int),.int .i64 (L p).op,.int .i64 (L p).d,.int .i64 (L p).a,.int .i64 (L p).b,.int .i64 (L p).imm,.int .i64 (L p).h]:=⟨_,rfl,(Below.refl _ _).alloc (Nat.le_refl _) _,Cl.new⟩
   rw[hu1];have P2:Hid (LP u1 lb v (xs++done)):=P1.out.below hb1;have S2:Hid (Stp lb (fun _=>False) w v0 u1 v):=S1.out.trans (Stp.of_below (E:=fun _=>False) v hb1) (fun _ _ h=>h);have zx:=hc1.1;have c1':u1.cell? ⟨wr.heap.size,1,none⟩=some (.int .i64 (L p).op):=hc1.2 1 (by simp);have c2':u1.cell? ⟨wr.heap.size,2,none⟩=some (.int .i64 (L p).d):=hc1.2 2 (by simp);have c3':u1.cell? ⟨wr.heap.size,3,none⟩=some (.int .i64 (L p).a):=hc1.2 3 (by simp);have c4':u1.cell? ⟨wr.heap.size,4,none⟩=some (.int .i64 (L p).b):=hc1.2 4 (by simp);have c5':u1.cell? ⟨wr.heap.size,5,none⟩=some (.int .i64 (L p).imm):=hc1.2 5 (by simp);have c6':u1.cell? ⟨wr.heap.size,6,none⟩=some (.int .i64 (L p).h):=hc1.2 6 (by simp);clear hu1 hb1 hc1 P1 S1;go_wp2_with fail;obtain⟨y2,y3⟩:=st_flat HSOK.out (.inl K.out);have HE:p+1+(L p).thn.toNat+(L p).els.toNat=p+1:=by rw[y2,y3];rfl
   have hnode:=lowB_1 (at':=(xs++done).length) hlt HNT.out K.out;rw[HE]at hnode;have hl2:=HLN.out;rw[hnode,List.length_cons]at hl2;refine(add_any lb v (xs++done) (insV0 (L p)) u1 P2.out (by omega)).mono ?_;rintro e u2⟨rfl,v2,hp2,hs2⟩;have P3:Hid (LP u2 lb v2 (xs++(done++[insV0 (L p)]))):=(by rw[<-List.append_assoc];exact hp2:LP u2 lb v2 (xs++(done++[insV0 (L p)])))
   have S3:Hid (Stp lb (fun _=>False) w v0 u2 v2):=S2.out.trans hs2 (fun _ _ h=>h);have HD2:Hid (done++[insV0 (L p)]++lowB L (xs++(done++[insV0 (L p)])).length (p+1) te=all):=(by
    rw[<-HD.out,hnode,show(xs++(done++[insV0 (L p)])).length=(xs++done).length+1 by simp;omega];simp:done++[insV0 (L p)]++lowB L (xs++(done++[insV0 (L p)])).length (p+1) te=all)
   have HD3:Hid ((tops L i te).drop (q+1)=tops L (p+1) te):=(by have h:=HDN.out;rw[HE]at h;exact h:(tops L i te).drop (q+1)=tops L (p+1) te)
   have HC4:Hid ((chk L 0 0 321 (p+1) te depth).1=0):=(by have h:=HC3.out;rw[HE]at h;exact h:(chk L 0 0 321 (p+1) te depth).1=0)
   clear hp2 hs2 c1' c2' c3' c4' c5' c6' y2 y3 HE hnode hl2 P2 S2;go_wp2;go_roundw
   case rel=>exact⟨q+1,p+1,v2,done++[insV0 (L p)],by omega,by omega,by omega,by go_num,P3.out,S3.out,HD2.out,HD3.out,HC4.out⟩
   case measure=>simp[intOf];omega
  ·have K:Hid ((L p).k=2):=k2
   clear k2;obtain⟨aoa,ka,ca,hva⟩:=RepN.shp m r1;subst hva;obtain⟨aob,kb,cb,hvb⟩:=RepN.shp m r2;subst hvb;obtain⟨a,ha⟩:∃x:Nat,(L p).thn.toNat=x:=⟨_,rfl⟩
   obtain⟨b,hb⟩:∃x:Nat,(L p).els.toNat=x:=⟨_,rfl⟩
   have hnt:p+1+a+b<=te:=by have:=HNT.out;omega
   have HAB:Hid ((L p).thn.toNat=a/\(L p).els.toNat=b):=⟨ha,hb⟩
   have H1:Hid (AddL w0 lb L (p+1) (p+1+a) (.slice aoa ka ca)):=IH.out (p+1) (p+1+a) (depth+1) _ (by omega) (by omega) (by omega) (by have h:=HC1.out;rw[ha]at h;exact h) (by rw[<-ha];exact r1);have H2:Hid (AddL w0 lb L (p+1+a) (p+1+a+b) (.slice aob kb cb)):=IH.out (p+1+a) (p+1+a+b) (depth+1) _ (by omega) (by omega) (by omega) (by have h:=HC2.out;rw[ha,hb]at h;exact h) (by rw[<-ha,<-hb];exact r2);clear r1 r2 ha hb;have t1:=tl21;have t2:=tl22;go_upto_region 9 with fail;clear t1 t2 g0;obtain⟨u1,hu1,hb1,hc1⟩:∃x,wr.alloc (.cells #[.int .i64 (p:Int),.int .i64 (L p).cond,.slice aoa ka ca,.slice aob kb cb] 93)=x/\Below wr.heap.size wr x/\Cl x wr.heap.size [.int .i64 (p:Int),.int .i64 (L p).cond,.slice aoa ka ca,.slice aob kb cb]:=⟨_,rfl,(Below.refl _ _).alloc (Nat.le_refl _) _,Cl.new⟩
   rw[hu1];have P2:Hid (LP u1 lb v (xs++done)):=P1.out.below hb1;have S2:Hid (Stp lb (fun _=>False) w v0 u1 v):=S1.out.trans (Stp.of_below (E:=fun _=>False) v hb1) (fun _ _ h=>h);have B2:Hid (Below lb w0 u1):=S2.out.low HB0.out P0.out (fun _ _ h=>h);have zx:=hc1.1;have c0':u1.cell? ⟨wr.heap.size,0,none⟩=some (.int .i64 (p:Int)):=hc1.2 0 (by simp);have c1':u1.cell? ⟨wr.heap.size,1,none⟩=some (.int .i64 (L p).cond):=hc1.2 1 (by simp);have c2':u1.cell? ⟨wr.heap.size,2,none⟩=some (.slice aoa ka ca):=hc1.2 2 (by simp);have c3':u1.cell? ⟨wr.heap.size,3,none⟩=some (.slice aob kb cb):=hc1.2 3 (by simp);clear hu1 hb1 hc1 P1 S1;go_wp2_with fail;obtain⟨xL,hxL⟩:∃y,lowB L ((xs++done).length+1) (p+1) (p+1+a)=y:=⟨_,rfl⟩
   obtain⟨yL,hyL⟩:∃y,lowB L ((xs++done).length+2+xL.length) (p+1+a) (p+1+a+b)=y:=⟨_,rfl⟩
   have hnode:=lowB_2 (at':=(xs++done).length) hlt HNT.out K.out (x:=xL) (y:=yL) (by rw[HAB.out.1];exact hxL) (by rw[HAB.out.1,HAB.out.2];exact hyL);rw[HAB.out.1,HAB.out.2]at hnode;have hl2:=HLN.out;rw[hnode]at hl2;simp only[List.length_append,List.length_cons]at hl2;refine(addChoice_any w0 lb L p a b (p:Int) (L p).cond aoa ka ca aob kb cb H1.out H2.out u1 v (xs++done) xL yL B2.out P2.out hxL hyL (by simp only[List.length_append];omega)).mono ?_;rintro e u2⟨rfl,v2',hp2,hs2⟩;have P3:Hid (LP u2 lb v2' (xs++(done++(jmpV (notI (L p).cond) (((xs++done).length+2+xL.length:Nat):Int)::(xL++jmpV 29 (((xs++done).length+2+xL.length+yL.length:Nat):Int)::yL))))):=(by rw[<-List.append_assoc];exact hp2:LP u2 lb v2' (xs++(done++(jmpV (notI (L p).cond) (((xs++done).length+2+xL.length:Nat):Int)::(xL++jmpV 29 (((xs++done).length+2+xL.length+yL.length:Nat):Int)::yL)))))
   have S3:Hid (Stp lb (fun _=>False) w v0 u2 v2'):=S2.out.trans hs2 (fun _ _ h=>h);have HD2:Hid (done++(jmpV (notI (L p).cond) (((xs++done).length+2+xL.length:Nat):Int)::(xL++jmpV 29 (((xs++done).length+2+xL.length+yL.length:Nat):Int)::yL))++lowB L (xs++(done++(jmpV (notI (L p).cond) (((xs++done).length+2+xL.length:Nat):Int)::(xL++jmpV 29 (((xs++done).length+2+xL.length+yL.length:Nat):Int)::yL)))).length (p+1+a+b) te=all):=(by
    rw[<-HD.out,hnode,show(xs++(done++(jmpV (notI (L p).cond) (((xs++done).length+2+xL.length:Nat):Int)::(xL++jmpV 29 (((xs++done).length+2+xL.length+yL.length:Nat):Int)::yL)))).length=(xs++done).length+2+xL.length+yL.length by simp;omega];simp:done++(jmpV (notI (L p).cond) (((xs++done).length+2+xL.length:Nat):Int)::(xL++jmpV 29 (((xs++done).length+2+xL.length+yL.length:Nat):Int)::yL))++lowB L (xs++(done++(jmpV (notI (L p).cond) (((xs++done).length+2+xL.length:Nat):Int)::(xL++jmpV 29 (((xs++done).length+2+xL.length+yL.length:Nat):Int)::yL)))).length (p+1+a+b) te=all)
   have HD3:Hid ((tops L i te).drop (q+1)=tops L (p+1+a+b) te):=(by have h:=HDN.out;rw[HAB.out.1,HAB.out.2]at h;exact h:(tops L i te).drop (q+1)=tops L (p+1+a+b) te)
   have HC4:Hid ((chk L 0 0 321 (p+1+a+b) te depth).1=0):=(by have h:=HC3.out;rw[HAB.out.1,HAB.out.2]at h;exact h:(chk L 0 0 321 (p+1+a+b) te depth).1=0)
   clear hp2 hs2 c0' c1' c2' c3' hnode hl2 P2 S2;go_wp2;go_roundw
   case rel=>exact⟨q+1,p+1+a+b,v2',done++(jmpV (notI (L p).cond) (((xs++done).length+2+xL.length:Nat):Int)::(xL++jmpV 29 (((xs++done).length+2+xL.length+yL.length:Nat):Int)::yL)),by omega,by omega,by omega,by go_num,P3.out,S3.out,HD2.out,HD3.out,HC4.out⟩
   case measure=>simp[intOf];omega
  ·have K:Hid ((L p).k=3):=k3
   clear k3;obtain⟨aoa,ka,ca,hva⟩:=RepN.shp m r1;subst hva;obtain⟨a,ha⟩:∃x:Nat,(L p).thn.toNat=x:=⟨_,rfl⟩
   obtain⟨b,hb⟩:∃x:Nat,(L p).els.toNat=x:=⟨_,rfl⟩
   have hnt:p+1+a+b<=te:=by have:=HNT.out;omega
   have HAB:Hid ((L p).thn.toNat=a/\(L p).els.toNat=b):=⟨ha,hb⟩
   have H1:Hid (AddL w0 lb L (p+1) (p+1+a) (.slice aoa ka ca)):=IH.out (p+1) (p+1+a) (depth+1) _ (by omega) (by omega) (by omega) (by have h:=HC1.out;rw[ha]at h;exact h) (by rw[<-ha];exact r1);have eb0:b=0:=by have:=(st_plain HSOK.out).2 K.out;omega
   clear r1 ha hb;have t1:=tl31;have t2:=tl32;have t3:=tl33;go_upto_region 12 with fail;clear t1 t2 t3 g0;obtain⟨u1,hu1,hb1,hc1⟩:∃x,wr.alloc (.cells #[.int .i64 (p:Int),.int .i64 (L p).cond,.slice aoa ka ca] 95)=x/\Below wr.heap.size wr x/\Cl x wr.heap.size [.int .i64 (p:Int),.int .i64 (L p).cond,.slice aoa ka ca]:=⟨_,rfl,(Below.refl _ _).alloc (Nat.le_refl _) _,Cl.new⟩
   rw[hu1];have P2:Hid (LP u1 lb v (xs++done)):=P1.out.below hb1;have S2:Hid (Stp lb (fun _=>False) w v0 u1 v):=S1.out.trans (Stp.of_below (E:=fun _=>False) v hb1) (fun _ _ h=>h);have B2:Hid (Below lb w0 u1):=S2.out.low HB0.out P0.out (fun _ _ h=>h);have zx:=hc1.1;have c0':u1.cell? ⟨wr.heap.size,0,none⟩=some (.int .i64 (p:Int)):=hc1.2 0 (by simp);have c1':u1.cell? ⟨wr.heap.size,1,none⟩=some (.int .i64 (L p).cond):=hc1.2 1 (by simp);have c2':u1.cell? ⟨wr.heap.size,2,none⟩=some (.slice aoa ka ca):=hc1.2 2 (by simp);clear hu1 hb1 hc1 P1 S1;go_wp2_with fail;obtain⟨xL,hxL⟩:∃y,lowB L ((xs++done).length+1) (p+1) (p+1+a)=y:=⟨_,rfl⟩
   have hnode:=lowB_3 (at':=(xs++done).length) hlt HNT.out K.out (x:=xL) (by rw[HAB.out.1];exact hxL);rw[HAB.out.1,HAB.out.2]at hnode;have hl2:=HLN.out;rw[hnode]at hl2;simp only[List.length_append,List.length_cons]at hl2;refine(addLoop_any w0 lb L p a (p:Int) (L p).cond aoa ka ca H1.out u1 v (xs++done) xL B2.out P2.out hxL (by simp only[List.length_append];omega)).mono ?_;rintro e u2⟨rfl,v2',hp2,hs2⟩;have P3:Hid (LP u2 lb v2' (xs++(done++(jmpV (notI (L p).cond) (((xs++done).length+2+xL.length:Nat):Int)::(xL++[jmpV 29 ((xs++done).length:Int)]))))):=(by rw[<-List.append_assoc];exact hp2:LP u2 lb v2' (xs++(done++(jmpV (notI (L p).cond) (((xs++done).length+2+xL.length:Nat):Int)::(xL++[jmpV 29 ((xs++done).length:Int)])))))
   have S3:Hid (Stp lb (fun _=>False) w v0 u2 v2'):=S2.out.trans hs2 (fun _ _ h=>h);have HD2:Hid (done++(jmpV (notI (L p).cond) (((xs++done).length+2+xL.length:Nat):Int)::(xL++[jmpV 29 ((xs++done).length:Int)]))++lowB L (xs++(done++(jmpV (notI (L p).cond) (((xs++done).length+2+xL.length:Nat):Int)::(xL++[jmpV 29 ((xs++done).length:Int)])))).length (p+1+a+b) te=all):=(by
    rw[<-HD.out,hnode,show(xs++(done++(jmpV (notI (L p).cond) (((xs++done).length+2+xL.length:Nat):Int)::(xL++[jmpV 29 ((xs++done).length:Int)])))).length=(xs++done).length+2+xL.length by simp;omega];simp:done++(jmpV (notI (L p).cond) (((xs++done).length+2+xL.length:Nat):Int)::(xL++[jmpV 29 ((xs++done).length:Int)]))++lowB L (xs++(done++(jmpV (notI (L p).cond) (((xs++done).length+2+xL.length:Nat):Int)::(xL++[jmpV 29 ((xs++done).length:Int)])))).length (p+1+a+b) te=all)
   have HD3:Hid ((tops L i te).drop (q+1)=tops L (p+1+a+b) te):=(by have h:=HDN.out;rw[HAB.out.1,HAB.out.2]at h;exact h:(tops L i te).drop (q+1)=tops L (p+1+a+b) te)
   have HC4:Hid ((chk L 0 0 321 (p+1+a+b) te depth).1=0):=(by have h:=HC3.out;rw[HAB.out.1,HAB.out.2]at h;exact h:(chk L 0 0 321 (p+1+a+b) te depth).1=0)
   clear hp2 hs2 c0' c1' c2' hnode hl2 P2 S2;go_wp2;go_roundw
   case rel=>exact⟨q+1,p+1+a+b,v2',done++(jmpV (notI (L p).cond) (((xs++done).length+2+xL.length:Nat):Int)::(xL++[jmpV 29 ((xs++done).length:Int)])),by omega,by omega,by omega,by go_num,P3.out,S3.out,HD2.out,HD3.out,HC4.out⟩
   case measure=>simp[intOf];omega
  ·obtain⟨x0,x1⟩:=st_call HSOK.out k4
   omega
theorem addL_any(w0:World)(lb:Nat)(L:Nat->SV)(S:Nat->Prop)(hlb:w0.heap.size<=lb):∀(m i te:Nat)(depth:Int)(tv:Value),RepN L m w0 S tv i te->i<=te->te<=2000->(chk L 0 0 321 i te depth).1=0->AddL w0 lb L i te tv:=by
 intro m;induction m with
 |zero=>
  intro i te depth tv hr hit hte hck;obtain⟨h1,rfl⟩:=hr;obtain rfl:i=te:=by omega
  exact addL_go w0 lb L 0 i i depth (.slice none 0 0) S hlb ⟨[],⟨World.ownsRow_nil _ _ _ _,fun b h=>by cases h⟩,by rw[tops_end (by omega)];rfl,fun k x p h=>by simp at h⟩ hit hte hck (fun i' te' d v h1 h2 h3=>by omega)
 |succ m ih=>
  intro i te depth tv hr hit hte hck;exact addL_go w0 lb L m i te depth tv S hlb hr hit hte hck (fun i' te' d v h1 h2 h3 h4 h5=>ih i' te' d v h5 h2 (by omega) h4)
def TreeR(L:Nat->SV)(n:Nat)(w:World)(e:Ending)(w':World):Prop:=∃(ao:Option Addr)(k c:Nat),e=.returned (.tuple #[.slice ao k c,.bool (decide (runB L n))])/\Below w.heap.size w w'/\(runB L n->RepN L (n+1) w' (fun q=>w.heap.size<=q) (.slice ao k c) 0 n)
theorem runTree_any(b n cap:Nat)(L:Nat->SV)(w:World)(ln:n<=1048576)(hA:Arr w b (n*11) (stF L)):
 Calls Try.prog 24 #[.slice (some ⟨b,0,none⟩) n cap] w fun e w'=>∃(ao:Option Addr)(k c:Nat),e=.returned (.tuple #[.slice ao k c,.bool (decide (runB L n))])/\Below w.heap.size w w'/\(runB L n->RepN L (n+1) w' (fun q=>w.heap.size<=q) (.slice ao k c) 0 n):=by
 obtain⟨res,hres⟩:∃x,decide (runB L n)=x:=⟨_,rfl⟩
 rw[hres];have HR:Hid (decide (runB L n)=res):=hres;have HA:Hid (Arr w b (n*11) (stF L)):=hA;have lb:=hA.lt;clear hres hA;go_enter Try.func24,Try.ntmps24;by_cases hn:n<=2000
 rotate_left
 ·have e1:decide ((2000:Int)<(n:Int))=true:=by simp;omega
  obtain rfl:false=res:=by rw[<-HR.out];exact(decide_eq_false (fun h=>hn h.1)).symm
  have HN:Hid (¬n<=2000):=hn;go_wp2;refine bodyPost_ret (v:=.tuple #[.slice none 0 0,.bool false]) (by simp[results,Try.results24,go_sem]) rfl ⟨none,0,0,rfl,Below.refl _ _,fun h=>absurd h.1 HN.out⟩
 have e1:decide ((2000:Int)<(n:Int))=false:=by simp;omega
 have HN:Hid (n<=2000):=hn;go_wp2_with fail;obtain⟨u2,hu2,hb2,ht2⟩:∃x,w.alloc (.cells #[.slice (some ⟨b,0,none⟩) n cap,.int .i64 0,.int .i64 0,.int .i64 320,.int .i64 0,.int .i64 0] 86)=x/\Below w.heap.size w x/\TmP x w.heap.size b n cap 0 0 320 0 0:=⟨_,rfl,(Below.refl _ _).alloc (Nat.le_refl _) _,Cl.new,fun i=>by simp[go_sem]⟩
 rw[hu2];have hc:=blockOf_any L w.heap.size b n cap 0 0 320 (by omega) ln n 0 n 0 (by omega) (Nat.zero_le _) (Nat.le_refl _) (by omega) (by omega) u2 (HA.out.below hb2 lb) ht2;rw[show(n:Int)-((0:Nat):Int)=(n:Int)by omega,show(320:Int)+1=321 from rfl]at hc;obtain⟨c,hcc⟩:∃x,chk L 0 0 321 0 n 0=x:=⟨_,rfl⟩
 rw[hcc]at hc;have HC:Hid (chk L 0 0 321 0 n 0=c):=hcc;clear hcc hu2;refine hc.mono ?_;rintro e u3⟨ao3,k3,c3,rfl,hf3,ht3,hr3⟩;have z2:w.heap.size<u2.heap.size:=ht2.C.1;have z3:=hf3.size;have B3:Hid (Below w.heap.size w u3):=hb2.trans ⟨hf3.os,hf3.tape,hf3.output,hf3.size,fun k hk=>hf3.block k (by omega) (by omega)⟩;have TM:Hid (TmP u3 w.heap.size b n cap 0 0 320 c.1 (if c.1=0 then(n:Int)else c.2)):=ht3;have RR:Hid (c.1=0->RepN L (n+1) u3 (fun q=>w.heap.size<=q) (.slice ao3 k3 c3) 0 n):=fun h=>(hr3 h).kept (fun q hq=>by omega) (fun _ _ _=>rfl)
 clear hc hf3 ht3 hr3 hb2 ht2;have q4:u3.cell? ⟨w.heap.size,4,none⟩=some (.int .i64 c.1):=TM.out.C.2 4 (by simp);have ql:=TM.out.C.1;by_cases z:c.1=0
 rotate_left
 ·have ez:(c.1 !=0)=true:=by simp[z]
  obtain rfl:false=res:=by rw[<-HR.out];exact(decide_eq_false (fun h=>z (by have:=h.2.1;rw[HC.out]at this;exact this))).symm
  have HZ:Hid (¬runB L n):=fun h=>z (by have:=h.2.1;rw[HC.out]at this;exact this)
  clear z;go_wp2;refine bodyPost_ret (v:=.tuple #[.slice none 0 0,.bool false]) (by simp[results,Try.results24,go_sem]) rfl ⟨none,0,0,rfl,B3.out,fun h=>absurd h HZ.out⟩
 have ez:(c.1 !=0)=false:=by simp[z]
 have HZ:Hid (c.1=0):=z;clear z;go_wp2_with fail;clear q4 ql;refine(flatBlock0_any L (fun _=>0) u3 (fun _=>Int.le_refl _) (fun _=>by decide) 0 321 (n+1) 0 n 0 (.slice ao3 k3 c3) _ u3 (Below.refl _ _) (RR.out HZ.out) (Nat.zero_le _) hn (by rw[HC.out];exact HZ.out)).mono ?_;rintro e u4⟨rfl,hb4⟩;obtain⟨s,hs⟩:∃y,szTo L (fun _=>0) n=y:=⟨_,rfl⟩
 rw[hs,show szTo L (fun _=>0) 0=0 from rfl,Int.sub_zero];have HS:Hid (szTo L (fun _=>0) n=s):=hs;have B4:Hid (Below w.heap.size w u4):=B3.out.trans (hb4.mono (by omega));have R4:Hid (RepN L (n+1) u4 (fun q=>w.heap.size<=q) (.slice ao3 k3 c3) 0 n):=(RR.out HZ.out).below hb4;clear hs hb4;by_cases h2:s<2000
 ·have e3:decide (2000<=s)=false:=by simp;omega
  obtain rfl:true=res:=by rw[<-HR.out];exact(decide_eq_true ⟨HN.out,by rw[HC.out];exact HZ.out,by rw[HS.out];exact h2⟩).symm
  go_wp2;refine bodyPost_ret (v:=.tuple #[.slice ao3 k3 c3,.bool true]) (by simp[results,Try.results24,go_sem]) rfl ⟨ao3,k3,c3,rfl,B4.out,fun _=>R4.out⟩
 ·have e3:decide (2000<=s)=true:=by simp;omega
  have HF:Hid (¬runB L n):=fun h=>h2 (by have:=h.2.2;rw[HS.out]at this;exact this)
  obtain rfl:false=res:=by rw[<-HR.out];exact(decide_eq_false HF.out).symm
  go_wp2;refine bodyPost_ret (v:=.tuple #[.slice none 0 0,.bool false]) (by simp[results,Try.results24,go_sem]) rfl ⟨none,0,0,rfl,B4.out,fun h=>absurd h HF.out⟩
theorem implLower_of(av:Value)(n:Nat)(L:Nat->SV)(w:World)(hT:Calls Try.prog 24 #[av] w (TreeR L n w)):
 Calls Try.prog 11 #[av] w fun e w'=>∃v,e=.returned v/\w'.ownsRow w.heap.size 31 6 v (lowR L n).length (ci (lowR L n))/\Below w.heap.size w w':=by
 obtain⟨out,hout⟩:∃x,lowR L n=x:=⟨_,rfl⟩
 rw[hout];have HO:Hid (lowR L n=out):=hout;clear hout;go_enter Try.func11,Try.ntmps11;go_wp2_with fail;refine hT.mono ?_;rintro e w1⟨ao,k,c,rfl,hb1,hr1⟩;have B1:Hid (Below w.heap.size w w1):=hb1;have R1:Hid (runB L n->RepN L (n+1) w1 (fun q=>w.heap.size<=q) (.slice ao k c) 0 n):=hr1;have lw:=hb1.size;clear hb1 hr1;by_cases hr:runB L n
 rotate_left
 ·rw[decide_eq_false hr]
  obtain rfl:[]=out:=by rw[<-HO.out,lowR,if_neg hr]
  go_wp2;go_ret;exact⟨_,rfl,World.ownsRow_lit w1 #[] 0 lw (by unfold maxLen;omega) rfl,B1.out.alloc lw _⟩
 rw[decide_eq_true hr];have HR:Hid (runB L n):=hr;clear hr;go_wp2_with fail;obtain⟨u,hu,hbu,hcu⟩:∃x,w1.alloc (.cells #[.slice none 0 0] 70)=x/\Below w1.heap.size w1 x/\Cl x w1.heap.size [.slice none 0 0]:=⟨_,rfl,(Below.refl _ _).alloc (Nat.le_refl _) _,Cl.new⟩
 have PU:Hid (LP u w1.heap.size (.slice none 0 0) []):=⟨hcu.2 0 (by simp),hcu.1,fun i=>by rw[<-hu];simp[go_sem],World.ownsRow_nil _ _ _ _⟩
 rw[hu];have BU:Hid (Below w1.heap.size w1 u):=hbu;clear hu hbu hcu;obtain⟨r1,r2,r3⟩:=HR.out;have hlen:((lowB L 0 0 n).length:Int)<=2000:=by
  have h:=lowB_len (L:=L) (Z:=fun _=>0) (fun _=>Int.le_refl _) _ 0 0 n (Nat.le_refl _) (Nat.zero_le _);rw[show szTo L (fun _=>0) 0=0 from rfl]at h;omega
 have hc:=addL_any w1 w1.heap.size L _ (Nat.le_refl _) (n+1) 0 n 0 (.slice ao k c) (R1.out HR.out) (Nat.zero_le _) r1 r2 u (.slice none 0 0) [] BU.out PU.out (by show 0+(lowB L 0 0 n).length<=4000;omega);rw[List.nil_append]at hc;change Calls _ _ _ _ (fun e w'=>e=.returned (.tuple #[])/\∃v',LP w' w1.heap.size v' (lowB L 0 0 n)/\Stp w1.heap.size (fun _=>False) u (.slice none 0 0) w' v')at hc;refine hc.mono ?_;rintro e u2⟨rfl,v2,hp2,hs2⟩;have P2:Hid (LP u2 w1.heap.size v2 (lowB L 0 0 n)):=hp2;have B2:Hid (Below w1.heap.size w1 u2):=hs2.low BU.out PU.out (fun _ _ h=>h);clear hc hp2 hs2 r1 r2 r3;go_wp2_with fail;refine(add_any w1.heap.size v2 (lowB L 0 0 n) (jmpV 34 0) u2 P2.out (by omega)).mono ?_;rintro e u3⟨rfl,v3,hp3,hs3⟩;have hout2:lowB L 0 0 n++[jmpV 34 0]=out:=by rw[<-HO.out,lowR,if_pos HR.out]
 rw[hout2]at hp3;obtain⟨ao3,k3,c3,hv3⟩:=row_slice hp3.O;subst hv3;have c0:u3.cell? ⟨w1.heap.size,0,none⟩=some (.slice ao3 k3 c3):=hp3.C;have l3:=hp3.lt;have O3:Hid (u3.ownsRow w.heap.size 31 6 (.slice ao3 k3 c3) out.length (ci out)):=hp3.O.mono (by omega);have B3:Hid (Below w.heap.size w u3):=B1.out.trans ((hs3.low B2.out P2.out (fun _ _ h=>h)).mono lw);clear hp3 hs3 hout2 hlen;go_wp2;go_ret;exact⟨_,rfl,O3.out,B3.out⟩
theorem implLower_any(b n cap:Nat)(L:Nat->SV)(w:World)(ln:n<=1048576)(hA:Arr w b (n*11) (stF L)):
 Calls Try.prog 11 #[.slice (some ⟨b,0,none⟩) n cap] w fun e w'=>∃v,e=.returned v/\w'.ownsRow w.heap.size 31 6 v (lowR L n).length (ci (lowR L n))/\Below w.heap.size w w':=implLower_of _ n L w (runTree_any b n cap L w ln hA)
end Go.Proofs.Ytplnpgohdgialaa
