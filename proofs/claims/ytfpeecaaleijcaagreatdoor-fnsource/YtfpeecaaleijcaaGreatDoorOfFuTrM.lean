import Derived.Test.YtfpeecaaleijcaaGreatDoorOfCl
import Derived.Test.YtfpeecaaleijcaaGreatDoorOfTransAcc
import Derived.Deep.DeepCutAuto
import Derived.Test.YtfpeecaaleijcaaGreatDoorOfTransSpS
set_option maxHeartbeats 32000000
set_option maxRecDepth 20000
namespace Go.Proofs.YtfpeecaaleijcaaGreatDoor
open Go.RowKit Go.Deep
def iC(w:World)(g cg di:Nat)(V:Nat->VV)(z c:Int)(e:Ending)(w':World):Prop:=
 ∃(err:Int)(V':Nat->VV),dP w' g cg e err V' z c/\(V'=V∨∃s m,V'=Eo V di (Az s m))/\Below g w w'
theorem Ue(bH nH cH bR nR cR g cg:Nat)(S:Nat->HS)(V:Nat->VV)(z c op imm:Int)(di ia ib q:Nat)(hd:di<8)(ha:ia<8)(hb:ib<8)(w:World)(_lH:nH<=1048576)(hqi:(V ia).k=1->(V ia).h=(q:Int)->q<nH)(hh:A9 w bH (nH*3) (QD S))(hg:A9 w g (8*6) (vF V))(hA:Bd (V ia))(hB:Bd (V ib))(n0: -1000000<=imm)(n1:imm<=1000000):
 Calls Tryz.prog 163 #[.agg #[Vs bH nH cH,Vs bR nR cR],.agg #[Vs g 8 cg,Vi z,Vi c],.agg #[Vi op,Vi (di:Int),Vi (ia:Int),Vi (ib:Int),Vi imm,Vi (q:Int)]] w (iC w g cg di V z c):=by
 have HH:=hxy hh;have HQI:=hxy hqi;have HG:=hxy hg;have lg:=hg.lt;have lo0:=hA.l0;have lo1:=hA.l1;have hi0:=hA.h0;have hi1:=hA.h1;have bm0:=hB.m0;have bm1:=hB.m1;clear hh hqi hg hA hB;have ha8:(ia:Int)<8:=by omega
 have hb8:(ib:Int)<8:=by omega
 have hd8:(di:Int)<8:=by omega
 go_enter Tryz.func163,Tryz.ntmps163;go_upto_region 1 with fail;obtain⟨u,hu,pu⟩:=MG w bH nH cH bR nR cR g 8 cg (z:=z) (c:=c) (op:=op) (d:=(di:Int)) (ra:=(ia:Int)) (rb:=(ib:Int)) (imm:=imm) (h:=(q:Int));rw[hu];have P0:=hxy pu;clear hu pu;have HGU:=hxy (HG.out.below P0.out.bel lg);obtain⟨_,⟨a0,_,_⟩,_⟩:=Br P0.out;obtain⟨i0,i1,i2,i3,i4,i5⟩:=AX P0.out.I;obtain⟨x0,x1,x2,x3,x4,x5⟩:=Cm HGU.out ia ha;obtain⟨y0,y1,y2,y3,y4,y5⟩:=Cm HGU.out ib hb;have ul1:=P0.out.A.1;have ul2:=P0.out.I.1;have ul3:=HGU.out.lt;go_upto_region 3 with fail;clear ul1 ul2 ul3 a0 i0 i1 i2 i3 i4 i5 x0 x1 x2 x3 x4 x5 y0 y1 y2 y3 y4 y5;obtain⟨u1,hu1,p1⟩:∃v,(u.alloc (.cells #[Vi (V ia).k,.bool (V ia).s,Vi (V ia).m,Vi (V ia).h,Vi (V ia).lo,Vi (V ia).hi] 42)).alloc (.cells #[Vi (V ib).k,.bool (V ib).s,Vi (V ib).m,Vi (V ib).h,Vi (V ib).lo,Vi (V ib).hi] 42)=v/\aA w v bH nH cH bR nR cR g cg z c op (di:Int) (ia:Int) (ib:Int) imm (q:Int) u.heap.size (u.heap.size+1) (V ia) (V ib) V:=by
  have b1:=(Below.refl u.heap.size u).alloc jG (.cells #[Vi (V ia).k,.bool (V ia).s,Vi (V ia).m,Vi (V ia).h,Vi (V ia).lo,Vi (V ia).hi] 42);have e1:=Cl.new (w:=u) (vs:=#[Vi (V ia).k,.bool (V ia).s,Vi (V ia).m,Vi (V ia).h,Vi (V ia).lo,Vi (V ia).hi]) (t:=42);generalize hy:u.alloc (.cells #[Vi (V ia).k,.bool (V ia).s,Vi (V ia).m,Vi (V ia).h,Vi (V ia).lo,Vi (V ia).hi] 42)=y at *;have s1:y.heap.size=u.heap.size+1:=by rw[<-hy];simp
  clear hy;have b2:=(Below.refl y.heap.size y).alloc jG (.cells #[Vi (V ib).k,.bool (V ib).s,Vi (V ib).m,Vi (V ib).h,Vi (V ib).lo,Vi (V ib).hi] 42);have e2:=Cl.new (w:=y) (vs:=#[Vi (V ib).k,.bool (V ib).s,Vi (V ib).m,Vi (V ib).h,Vi (V ib).lo,Vi (V ib).hi]) (t:=42);rw[s1]at e2;have p:=P0.out.below (b1.trans (b2.mono b1.size));exact⟨_,rfl,p.bel.mono (Nat.le_of_lt lg),p.S,p.A,p.I,p.R,p.RF,e1.below b2,e2,HG.out.below p.bel lg⟩
 rw[hu1];have ga:=P0.out.bel.size;have gb:w.heap.size<=u.heap.size+1:=by omega
 have hbH:=HH.out.lt;have HHU:Hid (A9 u1 bH (nH*3) (QD S)):=HH.out.below (by rw[<-hu1];exact(P0.out.bel.alloc (by have:=P0.out.bel.size;omega) _).alloc (by simp;have:=P0.out.bel.size;omega) _) hbH;clear hu1;obtain⟨na,hna⟩:=Ae u.heap.size;obtain⟨nb,hnb⟩:=Ae (u.heap.size+1);rw[hnb]at p1 gb⊢;rw[hna]at p1 ga⊢;clear hna hnb P0 HGU HG HH;have P1:=hxy p1;clear p1;have s0:=P1.out.S.2 0 (by simp);have a0:=P1.out.A.2 0 (by simp);have a1:=P1.out.A.2 1 (by simp);have a2:=P1.out.A.2 2 (by simp);simp only[jJ,List.getElem?_cons_zero,List.getElem?_cons_succ,Option.getD_some]at s0 a0 a1 a2;obtain⟨i0,i1,i2,i3,i4,i5⟩:=AX P1.out.I;obtain⟨x0,x1,x2,x3,x4,x5⟩:=Ip P1.out.a;obtain⟨y0,y1,y2,y3,y4,y5⟩:=Ip P1.out.b;have r0:=P1.out.R.2 0 (by simp);have r1:=P1.out.R.2 1 (by simp);have r2:=P1.out.R.2 2 (by simp);have r3:=P1.out.R.2 3 (by simp);simp only[jJ,List.getElem?_cons_zero,List.getElem?_cons_succ,Option.getD_some]at r0 r1 r2 r3;have rf:=P1.out.RF;have rl:=P1.out.R.1;go_upto_region 6 with fail;go_cut [53](fun s53 wx=>(∃b:Bool,s53=.bool b)/\wx=u1)
 case first=>
  by_cases o1:op=22
  ·subst o1
   go_wp2;go_meet;exact⟨⟨_,rfl⟩,rfl⟩
  have f1:(op==22)=false:=by simpa using o1
  by_cases o2:op=24
  ·subst o2
   go_wp2;go_meet;exact⟨⟨_,rfl⟩,rfl⟩
  have f2:(op==24)=false:=by simpa using o2
  by_cases o3:op=26
  ·subst o3
   go_wp2;go_meet;exact⟨⟨_,rfl⟩,rfl⟩
  have f3:(op==26)=false:=by simpa using o3
  go_wp2;go_meet;exact⟨⟨_,rfl⟩,rfl⟩
 case rest=>
 obtain⟨⟨b53,rfl⟩,rfl⟩:=hcut;go_upto_if 53 with fail;go_cut [11](fun s11 wx=>(∃wd:Int,s11=Vi wd/\1<=wd/\wd<=8)/\wx=wc)
 case first=>
  cases b53
  ·go_wp2
   go_meet;exact⟨⟨1,rfl,by omega,by omega⟩,rfl⟩
  ·go_wp2
   go_meet;exact⟨⟨8,rfl,by omega,by omega⟩,rfl⟩
 case rest=>
 obtain⟨⟨wd,rfl,wd1,wd8⟩,rfl⟩:=hcut;go_upto_region 8 with fail;go_cut [12](fun s12 wx=>(∃st:Bool,s12=.bool st)/\wx=wc)
 case first=>
  by_cases o1:op=23
  ·subst o1
   go_wp2;go_meet;exact⟨⟨_,rfl⟩,rfl⟩
  by_cases o2:op=24
  ·subst o2
   go_wp2;go_meet;exact⟨⟨_,rfl⟩,rfl⟩
  by_cases o3:op=27
  ·subst o3
   go_wp2;go_meet;exact⟨⟨_,rfl⟩,rfl⟩
  have f1:(op==23)=false:=by simpa using o1
  have f2:(op==24)=false:=by simpa using o2
  have f3:(op==27)=false:=by simpa using o3
  go_wp2;go_meet;exact⟨⟨_,rfl⟩,rfl⟩
 case rest=>
 obtain⟨⟨st,rfl⟩,rfl⟩:=hcut;generalize wc=u1 at *;by_cases c1:(V ia).k=1
 rotate_left
 ·have e1:((V ia).k !=1)=true:=by simp[c1]
  go_wp2;refine bodyPost_ret (v:=.agg #[Vi 3,.slice none 0 0,Vi 0,Vi 0]) (by simp[results,Tryz.results163,go_sem, *]) rfl ⟨3,V,Or.inl ⟨by decide,rfl⟩,.inl rfl,?_⟩
  (iterate 4 refine Below.setCell ?_ (show g<=w.heap.size+1+1+1 by omega) _)
  exact P1.out.bel
 have e1:((V ia).k !=1)=false:=by simp[c1]
 have C1:=hxy c1;clear c1;by_cases c2:(V ia).h=(q:Int)
 rotate_left
 ·have e2:((V ia).h !=(q:Int))=true:=by simp[c2]
  go_wp2;refine bodyPost_ret (v:=.agg #[Vi 4,.slice none 0 0,Vi 0,Vi 0]) (by simp[results,Tryz.results163,go_sem, *]) rfl ⟨4,V,Or.inl ⟨by decide,rfl⟩,.inl rfl,?_⟩
  (iterate 4 refine Below.setCell ?_ (show g<=w.heap.size+1+1+1 by omega) _)
  exact P1.out.bel
 have hq:=HQI.out C1.out c2;have hqn:(q:Int)<nH:=by omega
 have C2:=hxy c2;rw[c2]at x3;have e2:((q:Int) !=(q:Int))=false:=by simp
 clear c2 HQI;obtain⟨h0,h1,h2⟩:=XQ HHU.out hq;go_upto_region 14 with fail;clear s0 a0 a1 a2 i0 i1 i2 i3 i4 i5 x0 x1 x2 x3 x4 x5 y0 y1 y2 y3 y4 y5 r0 r1 r2 r3 rf rl;clear h0 h1 h2 e1 e2;obtain⟨u2,hu2,b2,g2⟩:∃v,u1.alloc (.cells #[Vi (S q).size,.bool (S q).s,.bool (S q).w] 40)=v/\Below u1.heap.size u1 v/\Cl v u1.heap.size [Vi (S q).size,.bool (S q).s,.bool (S q).w]:=⟨_,rfl,Ak,Cl.new⟩
 rw[hu2];have P2:=hxy (P1.out.below b2);have G2:=hxy g2;have hnh:w.heap.size<=u1.heap.size:=by have:=P1.out.R.1;omega
 clear hu2 b2 g2 P1 HHU;generalize u1.heap.size=nh at *;have s0:=P2.out.S.2 0 (by simp);have a0:=P2.out.A.2 0 (by simp);have a1:=P2.out.A.2 1 (by simp);have a2:=P2.out.A.2 2 (by simp);simp only[jJ,List.getElem?_cons_zero,List.getElem?_cons_succ,Option.getD_some]at s0 a0 a1 a2;obtain⟨i0,i1,i2,i3,i4,i5⟩:=AX P2.out.I;obtain⟨x0,x1,x2,x3,x4,x5⟩:=Ip P2.out.a;obtain⟨y0,y1,y2,y3,y4,y5⟩:=Ip P2.out.b;have r0:=P2.out.R.2 0 (by simp);have r1:=P2.out.R.2 1 (by simp);have r2:=P2.out.R.2 2 (by simp);have r3:=P2.out.R.2 3 (by simp);simp only[jJ,List.getElem?_cons_zero,List.getElem?_cons_succ,Option.getD_some]at r0 r1 r2 r3;have rf:=P2.out.RF;have rl:=P2.out.R.1;have h0:=G2.out.2 0 (by simp);have h1:=G2.out.2 1 (by simp);have h2:=G2.out.2 2 (by simp);simp only[jJ,List.getElem?_cons_zero,List.getElem?_cons_succ,Option.getD_some]at h0 h1 h2;go_upto_if 90 with fail;go_cut [10](fun s10 wx=>(∃x:Int,s10=Vi x/\ -4000000000000<=x/\x<=4000000000000)/\Below u2.heap.size u2 wx)
 case first=>
  by_cases o1:25<=op
  rotate_left
  ·have f1:decide (25<=op)=false:=by simp;omega
   go_wp2;go_meet;exact⟨⟨_,rfl,by omega,by omega⟩,Below.refl _ _⟩
  have f1:decide (25<=op)=true:=by simp;omega
  go_wp2_with fail;refine(Cc (V ib).k (V ib).s (V ib).m (V ib).h (V ib).lo (V ib).hi _).mono ?_;rintro e u3⟨rfl,hbe⟩;obtain⟨mb,hm⟩:=Ae (Ao ⟨(V ib).k,(V ib).s,(V ib).m,(V ib).h,(V ib).lo,(V ib).hi⟩);rw[hm];have P3:=hxy (P2.out.below hbe);have B3:=hxy hbe;clear s0 a0 a1 a2 i0 i1 i2 i3 i4 i5 x0 x1 x2 x3 x4 x5 y0 y1 y2 y3 y4 y5 r0 r1 r2 r3 rf rl;clear h0 h1 h2 hm hbe;obtain⟨x0,x1,x2,x3,x4,x5⟩:=Ip P3.out.a;obtain⟨y0,y1,y2,y3,y4,y5⟩:=Ip P3.out.b;have r0:=P3.out.R.2 0 (by simp);have r1:=P3.out.R.2 1 (by simp);have r2:=P3.out.R.2 2 (by simp);have r3:=P3.out.R.2 3 (by simp);simp only[jJ,List.getElem?_cons_zero,List.getElem?_cons_succ,Option.getD_some]at r0 r1 r2 r3;have rf:=P3.out.RF;have rl:=P3.out.R.1;have al:=P3.out.a.1;have bl:=P3.out.b.1;by_cases c3:mb<0
  ·have e3:decide (mb<0)=true:=by simp[c3]
   go_wp2;refine bodyPost_ret (v:=.agg #[Vi 5,.slice none 0 0,Vi 0,Vi 0]) (by simp[results,Tryz.results163,go_sem, *]) rfl ⟨5,V,Or.inl ⟨by decide,rfl⟩,.inl rfl,?_⟩
   (iterate 4 refine Below.setCell ?_ (show g<=w.heap.size+1+1+1 by omega) _)
   exact P3.out.bel
  have e3:decide (mb<0)=false:=by simp;omega
  cases c4:(V ib).s with
  |true=>
   rw[c4]at y1;go_wp2;refine bodyPost_ret (v:=.agg #[Vi 5,.slice none 0 0,Vi 0,Vi 0]) (by simp[results,Tryz.results163,go_sem, *]) rfl ⟨5,V,Or.inl ⟨by decide,rfl⟩,.inl rfl,?_⟩
   (iterate 4 refine Below.setCell ?_ (show g<=w.heap.size+1+1+1 by omega) _)
   exact P3.out.bel
  |false=>
   rw[c4]at y1;go_wp2;go_meet;exact⟨⟨_,rfl,by omega,by omega⟩,B3.out⟩
 case rest=>
 obtain⟨⟨x,rfl,xl,xh⟩,hb3⟩:=hcut;generalize wc=u3 at *;have P3:=hxy (P2.out.below hb3);have G3:=hxy (G2.out.below hb3);clear s0 a0 a1 a2 i0 i1 i2 i3 i4 i5 x0 x1 x2 x3 x4 x5 y0 y1 y2 y3 y4 y5 r0 r1 r2 r3 rf rl;clear h0 h1 h2 hb3 P2 G2;have s0:=P3.out.S.2 0 (by simp);have a0:=P3.out.A.2 0 (by simp);have a1:=P3.out.A.2 1 (by simp);have a2:=P3.out.A.2 2 (by simp);simp only[jJ,List.getElem?_cons_zero,List.getElem?_cons_succ,Option.getD_some]at s0 a0 a1 a2;obtain⟨i0,i1,i2,i3,i4,i5⟩:=AX P3.out.I;obtain⟨x0,x1,x2,x3,x4,x5⟩:=Ip P3.out.a;obtain⟨y0,y1,y2,y3,y4,y5⟩:=Ip P3.out.b;have r0:=P3.out.R.2 0 (by simp);have r1:=P3.out.R.2 1 (by simp);have r2:=P3.out.R.2 2 (by simp);have r3:=P3.out.R.2 3 (by simp);simp only[jJ,List.getElem?_cons_zero,List.getElem?_cons_succ,Option.getD_some]at r0 r1 r2 r3;have rf:=P3.out.RF;have rl:=P3.out.R.1;have h0:=G3.out.2 0 (by simp);have h1:=G3.out.2 1 (by simp);have h2:=G3.out.2 2 (by simp);simp only[jJ,List.getElem?_cons_zero,List.getElem?_cons_succ,Option.getD_some]at h0 h1 h2;by_cases c5:(V ia).lo+imm<0
 ·have e5:decide ((V ia).lo+imm<0)=true:=by simp;omega
  go_wp2;refine bodyPost_ret (v:=.agg #[Vi 6,.slice none 0 0,Vi 0,Vi 0]) (by simp[results,Tryz.results163,go_sem, *]) rfl ⟨6,V,Or.inl ⟨by decide,rfl⟩,.inl rfl,?_⟩
  (iterate 4 refine Below.setCell ?_ (show g<=w.heap.size+1+1+1 by omega) _)
  exact P3.out.bel
 have e5:decide ((V ia).lo+imm<0)=false:=by simp;omega
 by_cases c6:(S q).size<x+wd
 ·have e6:decide ((S q).size<x+wd)=true:=by simp;omega
  go_wp2;refine bodyPost_ret (v:=.agg #[Vi 6,.slice none 0 0,Vi 0,Vi 0]) (by simp[results,Tryz.results163,go_sem, *]) rfl ⟨6,V,Or.inl ⟨by decide,rfl⟩,.inl rfl,?_⟩
  (iterate 4 refine Below.setCell ?_ (show g<=w.heap.size+1+1+1 by omega) _)
  exact P3.out.bel
 have e6:decide ((S q).size<x+wd)=false:=by simp;omega
 clear c5 c6;cases st with
 |true=>
  obtain⟨_,d1,_⟩:=Cm P3.out.G di hd;cases c7:(S q).w with
  |false=>
   rw[c7]at h2;go_wp2;refine bodyPost_ret (v:=.agg #[Vi 7,.slice none 0 0,Vi 0,Vi 0]) (by simp[results,Tryz.results163,go_sem, *]) rfl ⟨7,V,Or.inl ⟨by decide,rfl⟩,.inl rfl,?_⟩
   (iterate 4 refine Below.setCell ?_ (show g<=w.heap.size+1+1+1 by omega) _)
   exact P3.out.bel
  |true=>
  rw[c7]at h2;clear c7;cases c8:(V di).s with
  |false=>
   rw[c8]at d1;go_wp2;refine bodyPost_ret (v:=.agg #[Vi 0,Vs g 8 cg,Vi z,Vi c]) (by simp[results,Tryz.results163,go_sem, *]) rfl ⟨0,V,Or.inr ⟨rfl,rfl,?_⟩,.inl rfl,?_⟩
   ·iterate 4 refine A9.other ?_ (show w.heap.size+1+1+1≠g by omega) _
    exact P3.out.G
   ·(iterate 4 refine Below.setCell ?_ (show g<=w.heap.size+1+1+1 by omega) _)
    exact P3.out.bel
  |true=>
  rw[c8]at d1;cases c9:(S q).s with
  |false=>
   rw[c9]at h1;go_wp2;refine bodyPost_ret (v:=.agg #[Vi 8,.slice none 0 0,Vi 0,Vi 0]) (by simp[results,Tryz.results163,go_sem, *]) rfl ⟨8,V,Or.inl ⟨by decide,rfl⟩,.inl rfl,?_⟩
   (iterate 4 refine Below.setCell ?_ (show g<=w.heap.size+1+1+1 by omega) _)
   exact P3.out.bel
  |true=>
   rw[c9]at h1;go_wp2;refine bodyPost_ret (v:=.agg #[Vi 0,Vs g 8 cg,Vi z,Vi c]) (by simp[results,Tryz.results163,go_sem, *]) rfl ⟨0,V,Or.inr ⟨rfl,rfl,?_⟩,.inl rfl,?_⟩
   ·iterate 4 refine A9.other ?_ (show w.heap.size+1+1+1≠g by omega) _
    exact P3.out.G
   ·(iterate 4 refine Below.setCell ?_ (show g<=w.heap.size+1+1+1 by omega) _)
    exact P3.out.bel
 |false=>
 go_upto_region 25 with fail;clear s0 a0 a1 a2 i0 i1 i2 i3 i4 i5 x0 x1 x2 x3 x4 x5 y0 y1 y2 y3 y4 y5 r0 r1 r2 r3 rf rl;clear h0 h1 h2 e5 e6;have a0:∀w',Below u3.heap.size u3 w'->w'.cell? ⟨w.heap.size+1,0,none⟩=some (Vs g 8 cg):=fun w' h=>(P3.out.A.below h).2 0 (by simp)
 have i1:∀w',Below u3.heap.size u3 w'->w'.cell? ⟨w.heap.size+1+1,1,none⟩=some (Vi (di:Int)):=fun w' h=>(P3.out.I.below h).2 1 (by simp)
 have h1:∀w',Below u3.heap.size u3 w'->w'.cell? (Va nh 1)=some (.bool (S q).s):=fun w' h=>(G3.out.below h).2 1 (by simp)
 refine BF (T:=fun w'=>Below u3.heap.size u3 w') (s:=8) (by kernel_rfl) (Below.refl _ _).drew (fun hHeld=>?_);refine AJ 0 rfl ?_;refine AJ 1 rfl ?_;refine AJ 2 rfl ?_;refine AJ 3 rfl ?_;refine AJ 4 rfl ?_;refine AJ 5 rfl ?_;refine Aq (i:=6) rfl (by kernel_rfl) (fun KK hK=>?_);go_simp;refine(Ap (S q).s (-1) _).mono ?_;rintro e xu5⟨rfl,hbe⟩;have bx:=(Below.refl u3.heap.size u3).drew.trans hbe;clear hbe;obtain⟨nvu5,hnv⟩:=Ae (Az (S q).s (-1));rw[hnv];have HNVu5:=hxy hnv;clear hnv;simp only[VV.v];go_wp2_with fail;refine hK.out _ _ bx (fun hHeld2=>?_);clear hK KK;try simp only[Act.put,BP,BN,BK,BQ,BS,BM]
 refine AJ 7 rfl ?_;have Pxu5:=hxy (P3.out.below bx);have Gxu5:=hxy (G3.out.below bx);clear a0 i1 h1 hHeld hHeld2 bx P3 G3;obtain⟨d0,d1,d2,d3,d4,d5⟩:=Cm Pxu5.out.G di hd;have gf:=Pxu5.out.G.free;have gl:=Pxu5.out.G.lt;refine A7 rfl (by kernel_rfl) (by kernel_rfl) (fun KK hK=>?_);go_simp;refine hK.out _ _ ?_;clear hK KK d0 d1 d2 d3 d4 d5 gf gl;obtain⟨u5,huu5⟩:=Ae (put6 xu5 g (di*6) nvu5);rw[show(((((xu5.setCell (Va g (di*6)) (Vi nvu5.k)).setCell (Va g (di*6+1)) (.bool nvu5.s)).setCell (Va g (di*6+2)) (Vi nvu5.m)).setCell (Va g (di*6+3)) (Vi nvu5.h)).setCell (Va g (di*6+4)) (Vi nvu5.lo)).setCell (Va g (di*6+5)) (Vi nvu5.hi)=u5 from huu5];have P5:Hid (aA w u5 bH nH cH bR nR cR g cg z c op (di:Int) (ia:Int) (ib:Int) imm (q:Int) na nb (V ia) (V ib) (Eo V di nvu5)):=by rw[<-huu5];exact Pxu5.out.put lg ga gb hd nvu5
 have G5:Hid (Cl u5 nh [Vi (S q).size,.bool (S q).s,.bool (S q).w]):=by rw[<-huu5];exact Dp Gxu5.out (by omega) _
 clear huu5 Pxu5 Gxu5;by_cases cw:wd=1
 rotate_left
 ·have ew:(wd==1)=false:=by simp[cw]
  have s0:=P5.out.S.2 0 (by simp);have a0:=P5.out.A.2 0 (by simp);have a1:=P5.out.A.2 1 (by simp);have a2:=P5.out.A.2 2 (by simp);simp only[jJ,List.getElem?_cons_zero,List.getElem?_cons_succ,Option.getD_some]at s0 a0 a1 a2;obtain⟨i0,i1,i2,i3,i4,i5⟩:=AX P5.out.I;obtain⟨x0,x1,x2,x3,x4,x5⟩:=Ip P5.out.a;obtain⟨y0,y1,y2,y3,y4,y5⟩:=Ip P5.out.b;have r0:=P5.out.R.2 0 (by simp);have r1:=P5.out.R.2 1 (by simp);have r2:=P5.out.R.2 2 (by simp);have r3:=P5.out.R.2 3 (by simp);simp only[jJ,List.getElem?_cons_zero,List.getElem?_cons_succ,Option.getD_some]at r0 r1 r2 r3;have rf:=P5.out.RF;have rl:=P5.out.R.1;go_wp2;refine bodyPost_ret (v:=.agg #[Vi 0,Vs g 8 cg,Vi z,Vi c]) (by simp[results,Tryz.results163,go_sem, *]) rfl ⟨0,Eo V di nvu5,Or.inr ⟨rfl,rfl,?_⟩,.inr ⟨(S q).s,-1,by rw[HNVu5.out]⟩,?_⟩
  ·iterate 4 refine A9.other ?_ (show w.heap.size+1+1+1≠g by omega) _
   exact P5.out.G
  ·(iterate 4 refine Below.setCell ?_ (show g<=w.heap.size+1+1+1 by omega) _)
   exact P5.out.bel
 have ew:(wd==1)=true:=by simp[cw]
 go_upto_region 27 with fail;have a0:∀w',Below u5.heap.size u5 w'->w'.cell? ⟨w.heap.size+1,0,none⟩=some (Vs g 8 cg):=fun w' h=>(P5.out.A.below h).2 0 (by simp)
 have i1:∀w',Below u5.heap.size u5 w'->w'.cell? ⟨w.heap.size+1+1,1,none⟩=some (Vi (di:Int)):=fun w' h=>(P5.out.I.below h).2 1 (by simp)
 have h1:∀w',Below u5.heap.size u5 w'->w'.cell? (Va nh 1)=some (.bool (S q).s):=fun w' h=>(G5.out.below h).2 1 (by simp)
 refine BF (T:=fun w'=>Below u5.heap.size u5 w') (s:=8) (by kernel_rfl) (Below.refl _ _).drew (fun hHeld=>?_);refine AJ 0 rfl ?_;refine AJ 1 rfl ?_;refine AJ 2 rfl ?_;refine AJ 3 rfl ?_;refine AJ 4 rfl ?_;refine AJ 5 rfl ?_;refine Aq (i:=6) rfl (by kernel_rfl) (fun KK hK=>?_);go_simp;refine(Ap (S q).s 255 _).mono ?_;rintro e xu7⟨rfl,hbe⟩;have bx:=(Below.refl u5.heap.size u5).drew.trans hbe;clear hbe;obtain⟨nvu7,hnv⟩:=Ae (Az (S q).s 255);rw[hnv]
 have HNVu7:=hxy hnv
 clear hnv
 simp only[VV.v]
 go_wp2_with fail
 refine hK.out _ _ bx (fun hHeld2=>?_)
 clear hK KK
 try simp only[Act.put,BP,BN,BK,BQ,BS,BM]
 refine AJ 7 rfl ?_
 have Pxu7:=hxy (P5.out.below bx)
 have Gxu7:=hxy (G5.out.below bx)
 clear a0 i1 h1 hHeld hHeld2 bx P5 G5
 obtain⟨d0,d1,d2,d3,d4,d5⟩:=Cm Pxu7.out.G di hd
 have gf:=Pxu7.out.G.free
 have gl:=Pxu7.out.G.lt
 refine A7 rfl (by kernel_rfl) (by kernel_rfl) (fun KK hK=>?_)
 go_simp
 refine hK.out _ _ ?_
 clear hK KK d0 d1 d2 d3 d4 d5 gf gl
 obtain⟨u7,huu7⟩:=Ae (put6 xu7 g (di*6) nvu7)
 rw[show(((((xu7.setCell (Va g (di*6)) (Vi nvu7.k)).setCell (Va g (di*6+1)) (.bool nvu7.s)).setCell (Va g (di*6+2)) (Vi nvu7.m)).setCell (Va g (di*6+3)) (Vi nvu7.h)).setCell (Va g (di*6+4)) (Vi nvu7.lo)).setCell (Va g (di*6+5)) (Vi nvu7.hi)=u7 from huu7]
 have P7:Hid (aA w u7 bH nH cH bR nR cR g cg z c op (di:Int) (ia:Int) (ib:Int) imm (q:Int) na nb (V ia) (V ib) (Eo (Eo V di nvu5) di nvu7)):=by rw[<-huu7];exact Pxu7.out.put lg ga gb hd nvu7
 have G7:Hid (Cl u7 nh [Vi (S q).size,.bool (S q).s,.bool (S q).w]):=by rw[<-huu7];exact Dp Gxu7.out (by omega) _
 clear huu7 Pxu7 Gxu7
 have s0:=P7.out.S.2 0 (by simp)
 have a0:=P7.out.A.2 0 (by simp)
 have a1:=P7.out.A.2 1 (by simp)
 have a2:=P7.out.A.2 2 (by simp)
 simp only[jJ,List.getElem?_cons_zero,List.getElem?_cons_succ,Option.getD_some]at s0 a0 a1 a2
 obtain⟨i0,i1,i2,i3,i4,i5⟩:=AX P7.out.I
 obtain⟨x0,x1,x2,x3,x4,x5⟩:=Ip P7.out.a
 obtain⟨y0,y1,y2,y3,y4,y5⟩:=Ip P7.out.b
 have r0:=P7.out.R.2 0 (by simp)
 have r1:=P7.out.R.2 1 (by simp)
 have r2:=P7.out.R.2 2 (by simp)
 have r3:=P7.out.R.2 3 (by simp)
 simp only[jJ,List.getElem?_cons_zero,List.getElem?_cons_succ,Option.getD_some]at r0 r1 r2 r3
 have rf:=P7.out.RF
 have rl:=P7.out.R.1
 go_wp2
 refine bodyPost_ret (v:=.agg #[Vi 0,Vs g 8 cg,Vi z,Vi c]) (by simp[results,Tryz.results163,go_sem, *]) rfl ⟨0,Eo (Eo V di nvu5) di nvu7,Or.inr ⟨rfl,rfl,?_⟩,.inr ⟨(S q).s,255,by rw[HNVu7.out,Um]⟩,?_⟩
 ·iterate 4 refine A9.other ?_ (show w.heap.size+1+1+1≠g by omega) _
  exact P7.out.G
 ·(iterate 4 refine Below.setCell ?_ (show g<=w.heap.size+1+1+1 by omega) _)
  exact P7.out.bel
theorem Yf(bH cH nH:Nat)(S:Nat->HS)(bR cR nR:Nat)(V0:Nat->VV)(bA cA:Nat)(V:Nat->VV)(z c op imm:Int)(di ia ib q:Nat)(hd:di<8)(ha:ia<8)(hb:ib<8)(w:World)(lH:nH<=1048576)(lR:nR<=1048576)(h1:Bl w bH nH S bR nR V0)(h2:A9 w bA (8*6) (vF V))(hok:BA nH S nR V0 8 V z c=true)(hik:Ar op (di:Int) (ia:Int) (ib:Int) imm (q:Int)=true)(o1:21<=op)(o28:op<=28)(n0: -1000000<=imm)(n1:imm<=1000000):
 Calls Tryz.prog 135 #[.agg #[Vs bH nH cH,Vs bR nR cR],.agg #[Vs bA 8 cA,Vi z,Vi c],.agg #[Vi op,Vi (di:Int),Vi (ia:Int),Vi (ib:Int),Vi imm,Vi (q:Int)]] w (gN nH S nR V0 op w):=by
 have H1:=hxy h1;have H2:=hxy h2;have HOK:=hxy hok;have HIK:=hxy hik;have HG:=hxy ((DK.1 hok).2.2.1);have HF:=hxy ((DK.1 hok).2.2.2);have HBA:=hxy (GU (gv.2 (HG.out ia ha)));have HBB:=hxy (GU (gv.2 (HG.out ib hb)));have HQI:Hid ((V ia).k=1->(V ia).h=(q:Int)->q<nH):=fun k e=>by have:=QG (gv.2 (HG.out ia ha)) k;omega
 have HO21:=hxy o1;have e21:decide (21<=op)=true:=by simp;omega
 have e29:decide (29<=op)=false:=by simp;omega
 clear h1 h2 hok hik o1 o28;have ha8:(ia:Int)<8:=by omega
 have hb8:(ib:Int)<8:=by omega
 have hd8:(di:Int)<8:=by omega
 go_enter Tryz.func135,Tryz.ntmps135;go_upto_region 1 with fail;obtain⟨u,hu,pu⟩:=MG w bH nH cH bR nR cR bA 8 cA (z:=z) (c:=c) (op:=op) (d:=(di:Int)) (ra:=(ia:Int)) (rb:=(ib:Int)) (imm:=imm) (h:=(q:Int));rw[hu];have P0:=hxy pu;clear hu pu;obtain⟨⟨s0,s1⟩,⟨a0,a1,a2⟩,r0,r1,r2,r3⟩:=Br P0.out;obtain⟨i0,i1,i2,i3,i4,i5⟩:=AX P0.out.I;have rl:=P0.out.R.1;go_wp2_with fail;refine(Fa bH cH nH S bR cR nR V0 bA cA 8 V z c u lH lR (by omega) (H1.out.below P0.out.bel) (H2.out.below P0.out.bel H2.out.lt)).mono ?_;rintro e u1⟨rfl,hbe⟩;have P1:=hxy (P0.out.below hbe);clear hbe P0;clear s0 s1 a0 a1 a2 r0 r1 r2 r3 i0 i1 i2 i3 i4 i5 rl;rw[HOK.out];obtain⟨⟨s0,s1⟩,⟨a0,a1,a2⟩,r0,r1,r2,r3⟩:=Br P1.out;obtain⟨i0,i1,i2,i3,i4,i5⟩:=AX P1.out.I;have rl:=P1.out.R.1;go_wp2_with fail;refine(En op (di:Int) (ia:Int) (ib:Int) imm (q:Int) _).mono ?_;rintro e u2⟨rfl,hbe⟩;have P2:=hxy (P1.out.below hbe);clear hbe P1;clear s0 s1 a0 a1 a2 r0 r1 r2 r3 i0 i1 i2 i3 i4 i5 rl;rw[HIK.out];obtain⟨⟨s0,s1⟩,⟨a0,a1,a2⟩,r0,r1,r2,r3⟩:=Br P2.out;obtain⟨i0,i1,i2,i3,i4,i5⟩:=AX P2.out.I;have rl:=P2.out.R.1;go_wp2_with fail;refine(H9 bA cA V z c u2 (H2.out.below P2.out.bel H2.out.lt)).mono ?_;rintro e u3⟨g,cg,hg,rfl,hbe,hG⟩;have P3:=hxy (P2.out.below hbe);have HG3:=hxy hG;have og:w.heap.size+1+1+1<g:=jI P2.out.R.1 hg;clear hbe hG hg P2;clear s0 s1 a0 a1 a2 r0 r1 r2 r3 i0 i1 i2 i3 i4 i5 rl;obtain⟨⟨s0,s1⟩,⟨a0,a1,a2⟩,r0,r1,r2,r3⟩:=Br P3.out;obtain⟨i0,i1,i2,i3,i4,i5⟩:=AX P3.out.I;have rl:=P3.out.R.1;have lg:=HG3.out.lt;go_upto_region 4 with fail;clear s0 s1 a0 a1 a2 r0 r1 r2 r3 i0 i1 i2 i3 i4 i5 rl;clear lg;obtain⟨u4,hu4,b4,e4,f4⟩:∃v,u3.alloc (.cells #[Vs g 8 cg,Vi z,Vi c] 136)=v/\Below u3.heap.size u3 v/\Cl v u3.heap.size [Vs g 8 cg,Vi z,Vi c]/\(∀i,v.frozen? ⟨u3.heap.size,i,none⟩=false):=⟨_,rfl,Ak,Cl.new,fun i=>by simp[go_sem]⟩
 rw[hu4];clear hu4;have P4:=hxy (P3.out.below b4);have HG4:=hxy (HG3.out.below b4 HG3.out.lt);have on:=HG3.out.lt;have HO4:=hxy e4;have HF4:=hxy f4;clear b4 e4 f4 P3 HG3;generalize u3.heap.size=no at *;obtain⟨q0,q1,q2⟩:=Nj HO4.out;obtain⟨⟨s0,s1⟩,⟨a0,a1,a2⟩,r0,r1,r2,r3⟩:=Br P4.out;obtain⟨i0,i1,i2,i3,i4,i5⟩:=AX P4.out.I;have rl:=P4.out.R.1;have rf:=P4.out.RF;go_wp2_with fail;refine(Ue bH nH cH bR nR cR g cg S V z c op imm di ia ib q hd ha hb u4 lH HQI.out (H1.out.h.below P4.out.bel H1.out.h.lt) HG4.out HBA.out HBB.out n0 n1).mono ?_;rintro e u5⟨err,V',hx,hV,hbe⟩;have HV:Hid (∀i,i<8->GV (V' i) nH):=by
  rcases hV with rfl|⟨s,m,rfl⟩
  ·exact HG.out
  ·exact YS HG.out (I8 s m nH)
 have rl5:w.heap.size+1+1+1<u5.heap.size:=jI P4.out.R.1 hbe.size;have bl5:Below w.heap.size w u5:=P4.out.bel.trans (hbe.mono (by omega));have t0:u5.cell? ⟨w.heap.size+1+1+1,0,none⟩=some (Vi 0):=(hbe.cell (p:=⟨w.heap.size+1+1+1,0,none⟩) (show _<g by omega)).trans r0;have t1:u5.cell? ⟨w.heap.size+1+1+1,1,none⟩=some (.slice none 0 0):=(hbe.cell (p:=⟨w.heap.size+1+1+1,1,none⟩) (show _<g by omega)).trans r1;have t2:u5.cell? ⟨w.heap.size+1+1+1,2,none⟩=some (Vi 0):=(hbe.cell (p:=⟨w.heap.size+1+1+1,2,none⟩) (show _<g by omega)).trans r2;have t3:u5.cell? ⟨w.heap.size+1+1+1,3,none⟩=some (Vi 0):=(hbe.cell (p:=⟨w.heap.size+1+1+1,3,none⟩) (show _<g by omega)).trans r3;have tf:∀i,u5.frozen? ⟨w.heap.size+1+1+1,i,none⟩=false:=fun i=>(hbe.frozen (p:=⟨w.heap.size+1+1+1,i,none⟩) (show _<g by omega)).trans (rf i)
 have HBL:=hxy bl5;clear s0 s1 a0 a1 a2 r0 r1 r2 r3 i0 i1 i2 i3 i4 i5 rl;clear q0 q1 q2 bl5 hbe P4 HG4 rf hV;rcases hx with⟨hne,rfl⟩|⟨heq,rfl,hAr⟩
 ·have HNE:=hxy hne
  clear hne;go_wp2;refine bodyPost_ret (v:=.agg #[Vi err,.slice none 0 0,Vi 0,Vi 0]) (by simp[results,Tryz.results135,go_sem, *]) rfl ⟨err,V',z,c,Or.inl ⟨HNE.out,rfl⟩,fun e=>absurd e HNE.out,fun o=>absurd o (by have:=HO21.out;omega),?_⟩
  (iterate 4 refine Below.setCell ?_ (show w.heap.size<=w.heap.size+1+1+1 by omega) _)
  exact HBL.out
 ·have HEQ:=hxy heq
  have HAR:=hxy hAr;clear heq hAr;go_wp2;refine bodyPost_ret (v:=.agg #[Vi 0,Vs g 8 cg,Vi z,Vi c]) (by simp[results,Tryz.results135,go_sem, *]) rfl ⟨0,V',z,c,Or.inr ⟨rfl,g,cg,by omega,rfl,?_⟩,fun _=>VS HOK.out HV.out HF.out.1 HF.out.2,fun _=>rfl,?_⟩
  ·(iterate 4 refine A9.other ?_ (show w.heap.size+1+1+1≠g by omega) _)
   exact HAR.out
  ·(iterate 4 refine Below.setCell ?_ (show w.heap.size<=w.heap.size+1+1+1 by omega) _)
   exact HBL.out
end Go.Proofs.YtfpeecaaleijcaaGreatDoor
