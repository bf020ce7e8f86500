import Derived.Test.YtbahofiiaodpdaaGreatTransAcc
import Derived.Test.YtbahofiiaodpdaaGreatOfTransRef2
import Derived.Deep.DeepCutAuto
import Derived.Test.YtbahofiiaodpdaaGreatOfTransSpS
set_option maxHeartbeats 32000000
set_option maxRecDepth 20000
namespace Go.Proofs.YtbahofiiaodpdaaGreat
open Go.RowKit Go.Deep
def AccX(w:World)(g cg:Nat)(er:Int)(z c:Int)(e:Ending)(w':World):Prop:=
 ∃(V':Nat->VV),AccAns w' g cg e er V' z c/\Below g w w'
theorem l4Access_X(bH nH cH bR nR cR g cg:Nat)(S:Nat->HS)(V:Nat->VV)(z c op imm:Int)(b:VV)(di ia ib q:Nat)(hd:di<8)(ha:ia<8)(hb:ib<8)(w:World)(_lH:nH<=1048576)(hqi:(V ia).k=1->(V ia).h=(q:Int)->q<nH)(hh:Arr w bH (nH*3) (hsF S))(hg:Arr w g (8*6) (vF V))(hA:Bd (V ia))(hB:Bd (V ib))(n0: -1000000<=imm)(n1:imm<=1000000)(p21:21<=op)(p28:op<=28)(hbx:25<=op->b=V ib/\imm=0)(hbn:op<25->b=zV):
 Calls Tryz.prog 23 #[.agg #[.slice (some ⟨bH,0,none⟩) nH cH,.slice (some ⟨bR,0,none⟩) nR cR],.agg #[.slice (some ⟨g,0,none⟩) 8 cg,.int .i64 z,.int .i64 c],.agg #[.int .i64 op,.int .i64 (di:Int),.int .i64 (ia:Int),.int .i64 (ib:Int),.int .i64 imm,.int .i64 (q:Int)]] w (AccX w g cg (accI op imm (q:Int) (V ia) b (V di) (S q)) z c):=by
 obtain⟨er,her⟩:∃x,accI op imm (q:Int) (V ia) b (V di) (S q)=x:=⟨_,rfl⟩
 rw[her];have HE:Hid (accI op imm (q:Int) (V ia) b (V di) (S q)=er):=her;have HX:Hid (25<=op->b=V ib/\imm=0):=hbx;have HN:Hid (op<25->b=zV):=hbn;have HP:Hid (21<=op/\op<=28):=⟨p21,p28⟩
 clear her hbx hbn p21 p28;have HH:Hid (Arr w bH (nH*3) (hsF S)):=hh;have HQI:Hid ((V ia).k=1->(V ia).h=(q:Int)->q<nH):=hqi;have HG:Hid (Arr w g (8*6) (vF V)):=hg;have lg:=hg.lt;have lo0:=hA.l0;have lo1:=hA.l1;have hi0:=hA.h0;have hi1:=hA.h1;have bm0:=hB.m0;have bm1:=hB.m1;clear hh hqi hg hA hB;have ha8:(ia:Int)<8:=by omega
 have hb8:(ib:Int)<8:=by omega
 have hd8:(di:Int)<8:=by omega
 go_enter Tryz.func23,Tryz.ntmps23;go_upto_region 1 with fail;obtain⟨u,hu,pu⟩:=it_pre w bH nH cH bR nR cR g 8 cg (z:=z) (c:=c) (op:=op) (d:=(di:Int)) (ra:=(ia:Int)) (rb:=(ib:Int)) (imm:=imm) (h:=(q:Int));rw[hu];have P0:Hid (ItP w u bH nH cH bR nR cR g 8 cg z c op (di:Int) (ia:Int) (ib:Int) imm (q:Int)):=pu;clear hu pu;have HGU:Hid (Arr u g (8*6) (vF V)):=HG.out.below P0.out.bel lg;obtain⟨_,⟨a0,_,_⟩,_⟩:=it_cells P0.out;obtain⟨i0,i1,i2,i3,i4,i5⟩:=ins_cells P0.out.I;obtain⟨x0,x1,x2,x3,x4,x5⟩:=reg_cells HGU.out ia ha;obtain⟨y0,y1,y2,y3,y4,y5⟩:=reg_cells HGU.out ib hb;have ul1:=P0.out.A.1;have ul2:=P0.out.I.1;have ul3:=HGU.out.lt;go_upto_region 3 with fail;clear ul1 ul2 ul3 a0 i0 i1 i2 i3 i4 i5 x0 x1 x2 x3 x4 x5 y0 y1 y2 y3 y4 y5;obtain⟨u1,hu1,p1⟩:∃v,(u.alloc (.cells #[.int .i64 (V ia).k,.bool (V ia).s,.int .i64 (V ia).m,.int .i64 (V ia).h,.int .i64 (V ia).lo,.int .i64 (V ia).hi] 62)).alloc (.cells #[.int .i64 (V ib).k,.bool (V ib).s,.int .i64 (V ib).m,.int .i64 (V ib).h,.int .i64 (V ib).lo,.int .i64 (V ib).hi] 62)=v/\AcP w v bH nH cH bR nR cR g cg z c op (di:Int) (ia:Int) (ib:Int) imm (q:Int) u.heap.size (u.heap.size+1) (V ia) (V ib) V:=by
  have b1:=(Below.refl u.heap.size u).alloc (Nat.le_refl _) (.cells #[.int .i64 (V ia).k,.bool (V ia).s,.int .i64 (V ia).m,.int .i64 (V ia).h,.int .i64 (V ia).lo,.int .i64 (V ia).hi] 62);have e1:=Cl.new (w:=u) (vs:=#[.int .i64 (V ia).k,.bool (V ia).s,.int .i64 (V ia).m,.int .i64 (V ia).h,.int .i64 (V ia).lo,.int .i64 (V ia).hi]) (t:=62);generalize hy:u.alloc (.cells #[.int .i64 (V ia).k,.bool (V ia).s,.int .i64 (V ia).m,.int .i64 (V ia).h,.int .i64 (V ia).lo,.int .i64 (V ia).hi] 62)=y at *;have s1:y.heap.size=u.heap.size+1:=by rw[<-hy];simp
  clear hy;have b2:=(Below.refl y.heap.size y).alloc (Nat.le_refl _) (.cells #[.int .i64 (V ib).k,.bool (V ib).s,.int .i64 (V ib).m,.int .i64 (V ib).h,.int .i64 (V ib).lo,.int .i64 (V ib).hi] 62);have e2:=Cl.new (w:=y) (vs:=#[.int .i64 (V ib).k,.bool (V ib).s,.int .i64 (V ib).m,.int .i64 (V ib).h,.int .i64 (V ib).lo,.int .i64 (V ib).hi]) (t:=62);rw[s1]at e2;have p:=P0.out.below (b1.trans (b2.mono b1.size));exact⟨_,rfl,p.bel.mono (Nat.le_of_lt lg),p.S,p.A,p.I,p.R,p.RF,e1.below b2,e2,HG.out.below p.bel lg⟩
 rw[hu1];have ga:w.heap.size<=u.heap.size:=P0.out.bel.size;have gb:w.heap.size<=u.heap.size+1:=by omega
 have hbH:bH<w.heap.size:=HH.out.lt;have HHU:Hid (Arr u1 bH (nH*3) (hsF S)):=HH.out.below (by rw[<-hu1];exact(P0.out.bel.alloc (by have:=P0.out.bel.size;omega) _).alloc (by simp;have:=P0.out.bel.size;omega) _) hbH;clear hu1;obtain⟨na,hna⟩:∃x,u.heap.size=x:=⟨_,rfl⟩
 obtain⟨nb,hnb⟩:∃x,u.heap.size+1=x:=⟨_,rfl⟩
 rw[hnb]at p1 gb⊢;rw[hna]at p1 ga⊢;clear hna hnb P0 HGU HG HH;have P1:Hid (AcP w u1 bH nH cH bR nR cR g cg z c op (di:Int) (ia:Int) (ib:Int) imm (q:Int) na nb (V ia) (V ib) V):=p1;clear p1;have s0:=P1.out.S.2 0 (by simp);have a0:=P1.out.A.2 0 (by simp);have a1:=P1.out.A.2 1 (by simp);have a2:=P1.out.A.2 2 (by simp);simp only[List.getD_eq_getElem?_getD,List.getElem?_cons_zero,List.getElem?_cons_succ,Option.getD_some]at s0 a0 a1 a2;obtain⟨i0,i1,i2,i3,i4,i5⟩:=ins_cells P1.out.I;obtain⟨x0,x1,x2,x3,x4,x5⟩:=cl6 P1.out.a;obtain⟨y0,y1,y2,y3,y4,y5⟩:=cl6 P1.out.b;have r0:=P1.out.R.2 0 (by simp);have r1:=P1.out.R.2 1 (by simp);have r2:=P1.out.R.2 2 (by simp);have r3:=P1.out.R.2 3 (by simp);simp only[List.getD_eq_getElem?_getD,List.getElem?_cons_zero,List.getElem?_cons_succ,Option.getD_some]at r0 r1 r2 r3;have rf:=P1.out.RF;have rl:=P1.out.R.1;go_upto_region 6 with fail;go_cut [53](fun s53 wx=>(∃b:Bool,s53=.bool b/\(wdI op=if b=true then 8 else 1))/\wx=u1)
 case first=>
  by_cases o1:op=22
  ·subst o1
   go_wp2;go_meet;exact⟨⟨_,rfl,by decide⟩,rfl⟩
  have f1:(op==22)=false:=by simpa using o1
  by_cases o2:op=24
  ·subst o2
   go_wp2;go_meet;exact⟨⟨_,rfl,by decide⟩,rfl⟩
  have f2:(op==24)=false:=by simpa using o2
  by_cases o3:op=26
  ·subst o3
   go_wp2;go_meet;exact⟨⟨_,rfl,by decide⟩,rfl⟩
  have f3:(op==26)=false:=by simpa using o3
  go_wp2;go_meet;exact⟨⟨_,rfl,by have hp:=HP.out;unfold wdI;by_cases q:op=28<;>simp[q]<;>omega⟩,rfl⟩
 case rest=>
 obtain⟨⟨b53,rfl,hw53⟩,rfl⟩:=hcut;have HW53:Hid (wdI op=if b53=true then 8 else 1):=hw53;clear hw53;go_upto_if 53 with fail;go_cut [11](fun s11 wx=>(∃wd:Int,s11=.int .i64 wd/\1<=wd/\wd<=8/\wdI op=wd)/\wx=wc)
 case first=>
  cases b53
  ·go_wp2
   go_meet;exact⟨⟨1,rfl,by omega,by omega,HW53.out⟩,rfl⟩
  ·go_wp2
   go_meet;exact⟨⟨8,rfl,by omega,by omega,HW53.out⟩,rfl⟩
 case rest=>
 obtain⟨⟨wd,rfl,wd1,wd8,hwd⟩,rfl⟩:=hcut;have HWD:Hid (wdI op=wd):=hwd;clear hwd HW53;go_upto_region 8 with fail;go_cut [12](fun s12 wx=>(∃st:Bool,s12=.bool st/\stB op=st)/\wx=wc)
 case first=>
  by_cases o1:op=23
  ·subst o1
   go_wp2;go_meet;exact⟨⟨_,rfl,by decide⟩,rfl⟩
  by_cases o2:op=24
  ·subst o2
   go_wp2;go_meet;exact⟨⟨_,rfl,by decide⟩,rfl⟩
  by_cases o3:op=27
  ·subst o3
   go_wp2;go_meet;exact⟨⟨_,rfl,by decide⟩,rfl⟩
  have f1:(op==23)=false:=by simpa using o1
  have f2:(op==24)=false:=by simpa using o2
  have f3:(op==27)=false:=by simpa using o3
  have HS3:Hid (¬op=23/\¬op=24/\¬op=27):=⟨o1,o2,o3⟩
  clear o1 o2 o3;go_wp2;go_meet;exact⟨⟨_,rfl,by have hs:=HS3.out;unfold stB;by_cases q:op=28<;>simp[q,hs]⟩,rfl⟩
 case rest=>
 obtain⟨⟨st,rfl,hst⟩,rfl⟩:=hcut;have HST:Hid (stB op=st):=hst;clear hst;generalize wc=u1 at *;by_cases c1:(V ia).k=1
 rotate_left
 ·have e1:((V ia).k !=1)=true:=by simp[c1]
  go_wp2;refine bodyPost_ret (v:=.agg #[.int .i64 3,.slice none 0 0,.int .i64 0,.int .i64 0]) (by simp[results,Tryz.results23,go_sem, *]) rfl ⟨V,Or.inl ⟨by rw[<-HE.out,accI,if_pos c1];decide,by rw[<-HE.out,accI,if_pos c1]⟩,?_⟩
  (iterate 4 refine Below.setCell ?_ (show g<=w.heap.size+1+1+1 by omega) _)
  exact P1.out.bel
 have e1:((V ia).k !=1)=false:=by simp[c1]
 have C1:Hid ((V ia).k=1):=c1;clear c1;by_cases c2:(V ia).h=(q:Int)
 rotate_left
 ·have e2:((V ia).h !=(q:Int))=true:=by simp[c2]
  go_wp2;refine bodyPost_ret (v:=.agg #[.int .i64 4,.slice none 0 0,.int .i64 0,.int .i64 0]) (by simp[results,Tryz.results23,go_sem, *]) rfl ⟨V,Or.inl ⟨by rw[<-HE.out,accI,if_neg (by simp[C1.out]),if_pos c2];decide,by rw[<-HE.out,accI,if_neg (by simp[C1.out]),if_pos c2]⟩,?_⟩
  (iterate 4 refine Below.setCell ?_ (show g<=w.heap.size+1+1+1 by omega) _)
  exact P1.out.bel
 have hq:q<nH:=HQI.out C1.out c2;have hqn:(q:Int)<nH:=by omega
 have C2:Hid ((V ia).h=(q:Int)):=c2;rw[c2]at x3;have e2:((q:Int) !=(q:Int))=false:=by simp
 clear c2 HQI;obtain⟨h0,h1,h2⟩:=hs_at HHU.out hq;go_upto_region 14 with fail;clear s0 a0 a1 a2 i0 i1 i2 i3 i4 i5 x0 x1 x2 x3 x4 x5 y0 y1 y2 y3 y4 y5 r0 r1 r2 r3 rf rl;clear h0 h1 h2 e1 e2;obtain⟨u2,hu2,b2,g2⟩:∃v,u1.alloc (.cells #[.int .i64 (S q).size,.bool (S q).s,.bool (S q).w] 98)=v/\Below u1.heap.size u1 v/\Cl v u1.heap.size [.int .i64 (S q).size,.bool (S q).s,.bool (S q).w]:=⟨_,rfl,(Below.refl _ _).alloc (Nat.le_refl _) _,Cl.new⟩
 rw[hu2];have P2:Hid (AcP w u2 bH nH cH bR nR cR g cg z c op (di:Int) (ia:Int) (ib:Int) imm (q:Int) na nb (V ia) (V ib) V):=P1.out.below b2;have G2:Hid (Cl u2 u1.heap.size [.int .i64 (S q).size,.bool (S q).s,.bool (S q).w]):=g2;have hnh:w.heap.size<=u1.heap.size:=by have:=P1.out.R.1;omega
 clear hu2 b2 g2 P1 HHU;generalize u1.heap.size=nh at *;have s0:=P2.out.S.2 0 (by simp);have a0:=P2.out.A.2 0 (by simp);have a1:=P2.out.A.2 1 (by simp);have a2:=P2.out.A.2 2 (by simp);simp only[List.getD_eq_getElem?_getD,List.getElem?_cons_zero,List.getElem?_cons_succ,Option.getD_some]at s0 a0 a1 a2;obtain⟨i0,i1,i2,i3,i4,i5⟩:=ins_cells P2.out.I;obtain⟨x0,x1,x2,x3,x4,x5⟩:=cl6 P2.out.a;obtain⟨y0,y1,y2,y3,y4,y5⟩:=cl6 P2.out.b;have r0:=P2.out.R.2 0 (by simp);have r1:=P2.out.R.2 1 (by simp);have r2:=P2.out.R.2 2 (by simp);have r3:=P2.out.R.2 3 (by simp);simp only[List.getD_eq_getElem?_getD,List.getElem?_cons_zero,List.getElem?_cons_succ,Option.getD_some]at r0 r1 r2 r3;have rf:=P2.out.RF;have rl:=P2.out.R.1;have h0:=G2.out.2 0 (by simp);have h1:=G2.out.2 1 (by simp);have h2:=G2.out.2 2 (by simp);simp only[List.getD_eq_getElem?_getD,List.getElem?_cons_zero,List.getElem?_cons_succ,Option.getD_some]at h0 h1 h2;go_upto_if 90 with fail;go_cut [10](fun s10 wx=>(∃x:Int,s10=.int .i64 x/\(-4000000000000<=x/\x<=4000000000000)/\x=(V ia).hi+imm+b.m/\¬(b.s=true∨maxV b<0))/\Below u2.heap.size u2 wx)
 case first=>
  by_cases o1:25<=op
  rotate_left
  ·have f1:decide (25<=op)=false:=by simp;omega
   go_wp2;go_meet;exact⟨⟨_,rfl,by omega,by rw[HN.out (by omega)];simp[zV],by rw[HN.out (by omega)];simp[zV,maxV]⟩,Below.refl _ _⟩
  have f1:decide (25<=op)=true:=by simp;omega
  go_wp2_with fail;refine(l4Max_any (V ib).k (V ib).s (V ib).m (V ib).h (V ib).lo (V ib).hi _).mono ?_;rintro e u3⟨rfl,hbe⟩;obtain⟨mb,hm⟩:∃m,maxV ⟨(V ib).k,(V ib).s,(V ib).m,(V ib).h,(V ib).lo,(V ib).hi⟩=m:=⟨_,rfl⟩
  rw[hm];have HM:Hid (maxV b=mb):=(by rw[(HX.out o1).1];exact hm:maxV b=mb)
  have HBE:Hid (b=V ib/\imm=0):=HX.out o1;have P3:Hid (AcP w u3 bH nH cH bR nR cR g cg z c op (di:Int) (ia:Int) (ib:Int) imm (q:Int) na nb (V ia) (V ib) V):=P2.out.below hbe;have B3:Hid (Below u2.heap.size u2 u3):=hbe;clear s0 a0 a1 a2 i0 i1 i2 i3 i4 i5 x0 x1 x2 x3 x4 x5 y0 y1 y2 y3 y4 y5 r0 r1 r2 r3 rf rl;clear h0 h1 h2 hm hbe;obtain⟨x0,x1,x2,x3,x4,x5⟩:=cl6 P3.out.a;obtain⟨y0,y1,y2,y3,y4,y5⟩:=cl6 P3.out.b;have r0:=P3.out.R.2 0 (by simp);have r1:=P3.out.R.2 1 (by simp);have r2:=P3.out.R.2 2 (by simp);have r3:=P3.out.R.2 3 (by simp);simp only[List.getD_eq_getElem?_getD,List.getElem?_cons_zero,List.getElem?_cons_succ,Option.getD_some]at r0 r1 r2 r3;have rf:=P3.out.RF;have rl:=P3.out.R.1
  have al:=P3.out.a.1
  have bl:=P3.out.b.1
  by_cases c3:mb<0
  ·have e3:decide (mb<0)=true:=by simp[c3]
   go_wp2
   refine bodyPost_ret (v:=.agg #[.int .i64 5,.slice none 0 0,.int .i64 0,.int .i64 0]) (by simp[results,Tryz.results23,go_sem, *]) rfl ⟨V,Or.inl ⟨by rw[<-HE.out,accI,if_neg (by simp[C1.out]),if_neg (by simp[C2.out]),if_pos (Or.inr (by rw[HM.out];exact c3))];decide,by rw[<-HE.out,accI,if_neg (by simp[C1.out]),if_neg (by simp[C2.out]),if_pos (Or.inr (by rw[HM.out];exact c3))]⟩,?_⟩
   (iterate 4 refine Below.setCell ?_ (show g<=w.heap.size+1+1+1 by omega) _)
   exact P3.out.bel
  have e3:decide (mb<0)=false:=by simp;omega
  cases c4:(V ib).s with
  |true=>
   rw[c4]at y1
   go_wp2
   refine bodyPost_ret (v:=.agg #[.int .i64 5,.slice none 0 0,.int .i64 0,.int .i64 0]) (by simp[results,Tryz.results23,go_sem, *]) rfl ⟨V,Or.inl ⟨by rw[<-HE.out,accI,if_neg (by simp[C1.out]),if_neg (by simp[C2.out]),if_pos (Or.inl (by rw[HBE.out.1];exact c4))];decide,by rw[<-HE.out,accI,if_neg (by simp[C1.out]),if_neg (by simp[C2.out]),if_pos (Or.inl (by rw[HBE.out.1];exact c4))]⟩,?_⟩
   (iterate 4 refine Below.setCell ?_ (show g<=w.heap.size+1+1+1 by omega) _)
   exact P3.out.bel
  |false=>
   rw[c4]at y1
   go_wp2
   go_meet
   exact⟨⟨_,rfl,by omega,by rw[HBE.out.1,HBE.out.2];omega,by rw[HM.out,HBE.out.1,c4];simp;omega⟩,B3.out⟩
 case rest=>
 obtain⟨⟨x,rfl,⟨xl,xh⟩,hxe,hxi⟩,hb3⟩:=hcut
 have HXE:Hid (x=(V ia).hi+imm+b.m):=hxe
 have HXI:Hid (¬(b.s=true∨maxV b<0)):=hxi
 clear hxe hxi
 generalize wc=u3 at *
 have P3:Hid (AcP w u3 bH nH cH bR nR cR g cg z c op (di:Int) (ia:Int) (ib:Int) imm (q:Int) na nb (V ia) (V ib) V):=P2.out.below hb3
 have G3:Hid (Cl u3 nh [.int .i64 (S q).size,.bool (S q).s,.bool (S q).w]):=G2.out.below hb3
 clear s0 a0 a1 a2 i0 i1 i2 i3 i4 i5 x0 x1 x2 x3 x4 x5 y0 y1 y2 y3 y4 y5 r0 r1 r2 r3 rf rl
 clear h0 h1 h2 hb3 P2 G2
 have s0:=P3.out.S.2 0 (by simp)
 have a0:=P3.out.A.2 0 (by simp)
 have a1:=P3.out.A.2 1 (by simp)
 have a2:=P3.out.A.2 2 (by simp)
 simp only[List.getD_eq_getElem?_getD,List.getElem?_cons_zero,List.getElem?_cons_succ,Option.getD_some]at s0 a0 a1 a2
 obtain⟨i0,i1,i2,i3,i4,i5⟩:=ins_cells P3.out.I
 obtain⟨x0,x1,x2,x3,x4,x5⟩:=cl6 P3.out.a
 obtain⟨y0,y1,y2,y3,y4,y5⟩:=cl6 P3.out.b
 have r0:=P3.out.R.2 0 (by simp)
 have r1:=P3.out.R.2 1 (by simp)
 have r2:=P3.out.R.2 2 (by simp)
 have r3:=P3.out.R.2 3 (by simp)
 simp only[List.getD_eq_getElem?_getD,List.getElem?_cons_zero,List.getElem?_cons_succ,Option.getD_some]at r0 r1 r2 r3
 have rf:=P3.out.RF
 have rl:=P3.out.R.1
 have h0:=G3.out.2 0 (by simp)
 have h1:=G3.out.2 1 (by simp)
 have h2:=G3.out.2 2 (by simp)
 simp only[List.getD_eq_getElem?_getD,List.getElem?_cons_zero,List.getElem?_cons_succ,Option.getD_some]at h0 h1 h2
 by_cases c5:(V ia).lo+imm<0
 ·have e5:decide ((V ia).lo+imm<0)=true:=by simp;omega
  go_wp2
  refine bodyPost_ret (v:=.agg #[.int .i64 6,.slice none 0 0,.int .i64 0,.int .i64 0]) (by simp[results,Tryz.results23,go_sem, *]) rfl ⟨V,Or.inl ⟨by rw[<-HE.out,accI,if_neg (by simp[C1.out]),if_neg (by simp[C2.out]),if_neg HXI.out,if_pos (Or.inl c5)];decide,by rw[<-HE.out,accI,if_neg (by simp[C1.out]),if_neg (by simp[C2.out]),if_neg HXI.out,if_pos (Or.inl c5)]⟩,?_⟩
  (iterate 4 refine Below.setCell ?_ (show g<=w.heap.size+1+1+1 by omega) _)
  exact P3.out.bel
 have e5:decide ((V ia).lo+imm<0)=false:=by simp;omega
 by_cases c6:(S q).size<x+wd
 ·have e6:decide ((S q).size<x+wd)=true:=by simp;omega
  go_wp2
  refine bodyPost_ret (v:=.agg #[.int .i64 6,.slice none 0 0,.int .i64 0,.int .i64 0]) (by simp[results,Tryz.results23,go_sem, *]) rfl ⟨V,Or.inl ⟨by rw[<-HE.out,accI,if_neg (by simp[C1.out]),if_neg (by simp[C2.out]),if_neg HXI.out,if_pos (Or.inr (by rw[HWD.out,<-HXE.out];exact c6))];decide,by rw[<-HE.out,accI,if_neg (by simp[C1.out]),if_neg (by simp[C2.out]),if_neg HXI.out,if_pos (Or.inr (by rw[HWD.out,<-HXE.out];exact c6))]⟩,?_⟩
  (iterate 4 refine Below.setCell ?_ (show g<=w.heap.size+1+1+1 by omega) _)
  exact P3.out.bel
 have e6:decide ((S q).size<x+wd)=false:=by simp;omega
 have C6:Hid (¬((V ia).lo+imm<0∨(S q).size<(V ia).hi+imm+b.m+wdI op)):=(by rw[HWD.out,<-HXE.out];omega:¬((V ia).lo+imm<0∨(S q).size<(V ia).hi+imm+b.m+wdI op))
 clear c5 c6
 cases st with
 |true=>
  obtain⟨_,d1,_⟩:=reg_cells P3.out.G di hd
  cases c7:(S q).w with
  |false=>
   rw[c7]at h2
   go_wp2
   refine bodyPost_ret (v:=.agg #[.int .i64 7,.slice none 0 0,.int .i64 0,.int .i64 0]) (by simp[results,Tryz.results23,go_sem, *]) rfl ⟨V,Or.inl ⟨by rw[<-HE.out,accI,if_neg (by simp[C1.out]),if_neg (by simp[C2.out]),if_neg HXI.out,if_neg C6.out,if_neg (by rw[HST.out];decide),if_pos c7];decide,by rw[<-HE.out,accI,if_neg (by simp[C1.out]),if_neg (by simp[C2.out]),if_neg HXI.out,if_neg C6.out,if_neg (by rw[HST.out];decide),if_pos c7]⟩,?_⟩
   (iterate 4 refine Below.setCell ?_ (show g<=w.heap.size+1+1+1 by omega) _)
   exact P3.out.bel
  |true=>
  rw[c7]at h2
  have C7:Hid (¬(S q).w=false):=(by simp[c7]:¬(S q).w=false)
  clear c7
  cases c8:(V di).s with
  |false=>
   rw[c8]at d1
   go_wp2
   refine bodyPost_ret (v:=.agg #[.int .i64 0,.slice (some ⟨g,0,none⟩) 8 cg,.int .i64 z,.int .i64 c]) (by simp[results,Tryz.results23,go_sem, *]) rfl ⟨V,Or.inr ⟨by rw[<-HE.out,accI,if_neg (by simp[C1.out]),if_neg (by simp[C2.out]),if_neg HXI.out,if_neg C6.out,if_neg (by rw[HST.out];decide),if_neg C7.out,if_neg (by simp[c8])],rfl,?_⟩,?_⟩
   ·iterate 4 refine Arr.other ?_ (show w.heap.size+1+1+1≠g by omega) _
    exact P3.out.G
   ·(iterate 4 refine Below.setCell ?_ (show g<=w.heap.size+1+1+1 by omega) _)
    exact P3.out.bel
  |true=>
  rw[c8]at d1
  cases c9:(S q).s with
  |false=>
   rw[c9]at h1
   go_wp2
   refine bodyPost_ret (v:=.agg #[.int .i64 8,.slice none 0 0,.int .i64 0,.int .i64 0]) (by simp[results,Tryz.results23,go_sem, *]) rfl ⟨V,Or.inl ⟨by rw[<-HE.out,accI,if_neg (by simp[C1.out]),if_neg (by simp[C2.out]),if_neg HXI.out,if_neg C6.out,if_neg (by rw[HST.out];decide),if_neg C7.out,if_pos ⟨c8,c9⟩];decide,by rw[<-HE.out,accI,if_neg (by simp[C1.out]),if_neg (by simp[C2.out]),if_neg HXI.out,if_neg C6.out,if_neg (by rw[HST.out];decide),if_neg C7.out,if_pos ⟨c8,c9⟩]⟩,?_⟩
   (iterate 4 refine Below.setCell ?_ (show g<=w.heap.size+1+1+1 by omega) _)
   exact P3.out.bel
  |true=>
   rw[c9]at h1
   go_wp2
   refine bodyPost_ret (v:=.agg #[.int .i64 0,.slice (some ⟨g,0,none⟩) 8 cg,.int .i64 z,.int .i64 c]) (by simp[results,Tryz.results23,go_sem, *]) rfl ⟨V,Or.inr ⟨by rw[<-HE.out,accI,if_neg (by simp[C1.out]),if_neg (by simp[C2.out]),if_neg HXI.out,if_neg C6.out,if_neg (by rw[HST.out];decide),if_neg C7.out,if_neg (by simp[c9])],rfl,?_⟩,?_⟩
   ·iterate 4 refine Arr.other ?_ (show w.heap.size+1+1+1≠g by omega) _
    exact P3.out.G
   ·(iterate 4 refine Below.setCell ?_ (show g<=w.heap.size+1+1+1 by omega) _)
    exact P3.out.bel
 |false=>
 go_upto_region 25 with fail
 clear s0 a0 a1 a2 i0 i1 i2 i3 i4 i5 x0 x1 x2 x3 x4 x5 y0 y1 y2 y3 y4 y5 r0 r1 r2 r3 rf rl
 clear h0 h1 h2 e5 e6
 have a0:∀w',Below u3.heap.size u3 w'->w'.cell? ⟨w.heap.size+1,0,none⟩=some (.slice (some ⟨g,0,none⟩) 8 cg):=fun w' h=>(P3.out.A.below h).2 0 (by simp)
 have i1:∀w',Below u3.heap.size u3 w'->w'.cell? ⟨w.heap.size+1+1,1,none⟩=some (.int .i64 (di:Int)):=fun w' h=>(P3.out.I.below h).2 1 (by simp)
 have h1:∀w',Below u3.heap.size u3 w'->w'.cell? ⟨nh,1,none⟩=some (.bool (S q).s):=fun w' h=>(G3.out.below h).2 1 (by simp)
 refine wp_region_L (T:=fun w'=>Below u3.heap.size u3 w') (s:=8) (by kernel_rfl) (Below.refl _ _).drew (fun hHeld=>?_)
 refine wpAnyL_ta 0 rfl ?_
 refine wpAnyL_ta 1 rfl ?_
 refine wpAnyL_ta 2 rfl ?_
 refine wpAnyL_ta 3 rfl ?_
 refine wpAnyL_ta 4 rfl ?_
 refine wpAnyL_ta 5 rfl ?_
 refine wpAnyL_call (i:=6) rfl (by kernel_rfl) (fun KK hK=>?_)
 go_simp
 refine(l4Num_any (S q).s (-1) _).mono ?_
 rintro e xu5⟨rfl,hbe⟩
 have bx:Below u3.heap.size u3 xu5:=(Below.refl u3.heap.size u3).drew.trans hbe
 clear hbe
 obtain⟨nvu5,hnv⟩:∃x,numV (S q).s (-1)=x:=⟨_,rfl⟩
 rw[hnv]
 clear hnv
 simp only[VV.v]
 go_wp2_with fail
 refine hK.out _ _ bx (fun hHeld2=>?_)
 clear hK KK
 try simp only[Act.put,List.getElem_toArray,List.getElem_cons_zero,List.getElem_cons_succ,List.setIfInBounds_toArray,List.set_cons_zero,List.set_cons_succ]
 refine wpAnyL_ta 7 rfl ?_
 have Pxu5:Hid (AcP w xu5 bH nH cH bR nR cR g cg z c op (di:Int) (ia:Int) (ib:Int) imm (q:Int) na nb (V ia) (V ib) V):=P3.out.below bx
 have Gxu5:Hid (Cl xu5 nh [.int .i64 (S q).size,.bool (S q).s,.bool (S q).w]):=G3.out.below bx
 clear a0 i1 h1 hHeld hHeld2 bx P3 G3
 obtain⟨d0,d1,d2,d3,d4,d5⟩:=reg_cells Pxu5.out.G di hd
 have gf:=Pxu5.out.G.free
 have gl:=Pxu5.out.G.lt
 refine wpAnyL_store rfl (by kernel_rfl) (by kernel_rfl) (fun KK hK=>?_)
 go_simp
 refine hK.out _ _ ?_
 clear hK KK d0 d1 d2 d3 d4 d5 gf gl
 obtain⟨u5,huu5⟩:∃v,put6 xu5 g (di*6) nvu5=v:=⟨_,rfl⟩
 rw[show(((((xu5.setCell ⟨g,di*6,none⟩ (.int .i64 nvu5.k)).setCell ⟨g,di*6+1,none⟩ (.bool nvu5.s)).setCell ⟨g,di*6+2,none⟩ (.int .i64 nvu5.m)).setCell ⟨g,di*6+3,none⟩ (.int .i64 nvu5.h)).setCell ⟨g,di*6+4,none⟩ (.int .i64 nvu5.lo)).setCell ⟨g,di*6+5,none⟩ (.int .i64 nvu5.hi)=u5 from huu5]
 have P5:Hid (AcP w u5 bH nH cH bR nR cR g cg z c op (di:Int) (ia:Int) (ib:Int) imm (q:Int) na nb (V ia) (V ib) (updV V di nvu5)):=by rw[<-huu5];exact Pxu5.out.put lg ga gb hd nvu5
 have G5:Hid (Cl u5 nh [.int .i64 (S q).size,.bool (S q).s,.bool (S q).w]):=by rw[<-huu5];exact cl_put6 Gxu5.out (by omega) _
 clear huu5 Pxu5 Gxu5
 by_cases cw:wd=1
 rotate_left
 ·have ew:(wd==1)=false:=by simp[cw]
  have s0:=P5.out.S.2 0 (by simp)
  have a0:=P5.out.A.2 0 (by simp)
  have a1:=P5.out.A.2 1 (by simp)
  have a2:=P5.out.A.2 2 (by simp)
  simp only[List.getD_eq_getElem?_getD,List.getElem?_cons_zero,List.getElem?_cons_succ,Option.getD_some]at s0 a0 a1 a2
  obtain⟨i0,i1,i2,i3,i4,i5⟩:=ins_cells P5.out.I
  obtain⟨x0,x1,x2,x3,x4,x5⟩:=cl6 P5.out.a
  obtain⟨y0,y1,y2,y3,y4,y5⟩:=cl6 P5.out.b
  have r0:=P5.out.R.2 0 (by simp)
  have r1:=P5.out.R.2 1 (by simp)
  have r2:=P5.out.R.2 2 (by simp)
  have r3:=P5.out.R.2 3 (by simp)
  simp only[List.getD_eq_getElem?_getD,List.getElem?_cons_zero,List.getElem?_cons_succ,Option.getD_some]at r0 r1 r2 r3
  have rf:=P5.out.RF
  have rl:=P5.out.R.1
  go_wp2
  refine bodyPost_ret (v:=.agg #[.int .i64 0,.slice (some ⟨g,0,none⟩) 8 cg,.int .i64 z,.int .i64 c]) (by simp[results,Tryz.results23,go_sem, *]) rfl ⟨updV V di nvu5,Or.inr ⟨by rw[<-HE.out,accI,if_neg (by simp[C1.out]),if_neg (by simp[C2.out]),if_neg HXI.out,if_neg C6.out,if_pos HST.out],rfl,?_⟩,?_⟩
  ·iterate 4 refine Arr.other ?_ (show w.heap.size+1+1+1≠g by omega) _
   exact P5.out.G
  ·(iterate 4 refine Below.setCell ?_ (show g<=w.heap.size+1+1+1 by omega) _)
   exact P5.out.bel
 have ew:(wd==1)=true:=by simp[cw]
 go_upto_region 27 with fail
 have a0:∀w',Below u5.heap.size u5 w'->w'.cell? ⟨w.heap.size+1,0,none⟩=some (.slice (some ⟨g,0,none⟩) 8 cg):=fun w' h=>(P5.out.A.below h).2 0 (by simp)
 have i1:∀w',Below u5.heap.size u5 w'->w'.cell? ⟨w.heap.size+1+1,1,none⟩=some (.int .i64 (di:Int)):=fun w' h=>(P5.out.I.below h).2 1 (by simp)
 have h1:∀w',Below u5.heap.size u5 w'->w'.cell? ⟨nh,1,none⟩=some (.bool (S q).s):=fun w' h=>(G5.out.below h).2 1 (by simp)
 refine wp_region_L (T:=fun w'=>Below u5.heap.size u5 w') (s:=8) (by kernel_rfl) (Below.refl _ _).drew (fun hHeld=>?_)
 refine wpAnyL_ta 0 rfl ?_
 refine wpAnyL_ta 1 rfl ?_
 refine wpAnyL_ta 2 rfl ?_
 refine wpAnyL_ta 3 rfl ?_
 refine wpAnyL_ta 4 rfl ?_
 refine wpAnyL_ta 5 rfl ?_
 refine wpAnyL_call (i:=6) rfl (by kernel_rfl) (fun KK hK=>?_)
 go_simp
 refine(l4Num_any (S q).s 255 _).mono ?_
 rintro e xu7⟨rfl,hbe⟩
 have bx:Below u5.heap.size u5 xu7:=(Below.refl u5.heap.size u5).drew.trans hbe
 clear hbe
 obtain⟨nvu7,hnv⟩:∃x,numV (S q).s 255=x:=⟨_,rfl⟩
 rw[hnv]
 clear hnv
 simp only[VV.v]
 go_wp2_with fail
 refine hK.out _ _ bx (fun hHeld2=>?_)
 clear hK KK
 try simp only[Act.put,List.getElem_toArray,List.getElem_cons_zero,List.getElem_cons_succ,List.setIfInBounds_toArray,List.set_cons_zero,List.set_cons_succ]
 refine wpAnyL_ta 7 rfl ?_
 have Pxu7:Hid (AcP w xu7 bH nH cH bR nR cR g cg z c op (di:Int) (ia:Int) (ib:Int) imm (q:Int) na nb (V ia) (V ib) (updV V di nvu5)):=P5.out.below bx
 have Gxu7:Hid (Cl xu7 nh [.int .i64 (S q).size,.bool (S q).s,.bool (S q).w]):=G5.out.below bx
 clear a0 i1 h1 hHeld hHeld2 bx P5 G5
 obtain⟨d0,d1,d2,d3,d4,d5⟩:=reg_cells Pxu7.out.G di hd
 have gf:=Pxu7.out.G.free
 have gl:=Pxu7.out.G.lt
 refine wpAnyL_store rfl (by kernel_rfl) (by kernel_rfl) (fun KK hK=>?_)
 go_simp
 refine hK.out _ _ ?_
 clear hK KK d0 d1 d2 d3 d4 d5 gf gl
 obtain⟨u7,huu7⟩:∃v,put6 xu7 g (di*6) nvu7=v:=⟨_,rfl⟩
 rw[show(((((xu7.setCell ⟨g,di*6,none⟩ (.int .i64 nvu7.k)).setCell ⟨g,di*6+1,none⟩ (.bool nvu7.s)).setCell ⟨g,di*6+2,none⟩ (.int .i64 nvu7.m)).setCell ⟨g,di*6+3,none⟩ (.int .i64 nvu7.h)).setCell ⟨g,di*6+4,none⟩ (.int .i64 nvu7.lo)).setCell ⟨g,di*6+5,none⟩ (.int .i64 nvu7.hi)=u7 from huu7]
 have P7:Hid (AcP w u7 bH nH cH bR nR cR g cg z c op (di:Int) (ia:Int) (ib:Int) imm (q:Int) na nb (V ia) (V ib) (updV (updV V di nvu5) di nvu7)):=by rw[<-huu7];exact Pxu7.out.put lg ga gb hd nvu7
 have G7:Hid (Cl u7 nh [.int .i64 (S q).size,.bool (S q).s,.bool (S q).w]):=by rw[<-huu7];exact cl_put6 Gxu7.out (by omega) _
 clear huu7 Pxu7 Gxu7
 have s0:=P7.out.S.2 0 (by simp)
 have a0:=P7.out.A.2 0 (by simp)
 have a1:=P7.out.A.2 1 (by simp)
 have a2:=P7.out.A.2 2 (by simp)
 simp only[List.getD_eq_getElem?_getD,List.getElem?_cons_zero,List.getElem?_cons_succ,Option.getD_some]at s0 a0 a1 a2
 obtain⟨i0,i1,i2,i3,i4,i5⟩:=ins_cells P7.out.I
 obtain⟨x0,x1,x2,x3,x4,x5⟩:=cl6 P7.out.a
 obtain⟨y0,y1,y2,y3,y4,y5⟩:=cl6 P7.out.b
 have r0:=P7.out.R.2 0 (by simp)
 have r1:=P7.out.R.2 1 (by simp)
 have r2:=P7.out.R.2 2 (by simp)
 have r3:=P7.out.R.2 3 (by simp)
 simp only[List.getD_eq_getElem?_getD,List.getElem?_cons_zero,List.getElem?_cons_succ,Option.getD_some]at r0 r1 r2 r3
 have rf:=P7.out.RF
 have rl:=P7.out.R.1
 go_wp2
 refine bodyPost_ret (v:=.agg #[.int .i64 0,.slice (some ⟨g,0,none⟩) 8 cg,.int .i64 z,.int .i64 c]) (by simp[results,Tryz.results23,go_sem, *]) rfl ⟨updV (updV V di nvu5) di nvu7,Or.inr ⟨by rw[<-HE.out,accI,if_neg (by simp[C1.out]),if_neg (by simp[C2.out]),if_neg HXI.out,if_neg C6.out,if_pos HST.out],rfl,?_⟩,?_⟩
 ·iterate 4 refine Arr.other ?_ (show w.heap.size+1+1+1≠g by omega) _
  exact P7.out.G
 ·(iterate 4 refine Below.setCell ?_ (show g<=w.heap.size+1+1+1 by omega) _)
  exact P7.out.bel
theorem specTx_M(bH cH nH:Nat)(S:Nat->HS)(bR cR nR:Nat)(V0:Nat->VV)(bA cA:Nat)(V:Nat->VV)(z c op imm:Int)(di ia ib q:Nat)(hd:di<8)(ha:ia<8)(hb:ib<8)(w:World)(lH:nH<=1048576)(lR:nR<=1048576)(h1:SigCp w bH nH S bR nR V0)(h2:Arr w bA (8*6) (vF V))(hok:absOK nH S nR V0 8 V z c=true)(hik:implIns op (di:Int) (ia:Int) (ib:Int) imm (q:Int)=true)(o1:21<=op)(o28:op<=28)(n0: -1000000<=imm)(n1:imm<=1000000):
 Calls Tryz.prog 5 #[.agg #[.slice (some ⟨bH,0,none⟩) nH cH,.slice (some ⟨bR,0,none⟩) nR cR],.agg #[.slice (some ⟨bA,0,none⟩) 8 cA,.int .i64 z,.int .i64 c],.agg #[.int .i64 op,.int .i64 (di:Int),.int .i64 (ia:Int),.int .i64 (ib:Int),.int .i64 imm,.int .i64 (q:Int)]] w (TrY (trE nH S nR V0 8 V z c op (di:Int) (ia:Int) (ib:Int) imm (q:Int)) w):=by
 obtain⟨er,her⟩:∃x,(trE nH S nR V0 8 V z c op (di:Int) (ia:Int) (ib:Int) imm (q:Int))=x:=⟨_,rfl⟩
 rw[her];have HE:Hid (refI op (opF op z c) (secB V op z c ia ib) (accI op imm (q:Int) (opA V op ia) (opB V op ib) (V di) (S q))=er):=(trE_ok hok hik (by omega)).symm.trans her;clear her;have H1:Hid (SigCp w bH nH S bR nR V0):=h1;have H2:Hid (Arr w bA (8*6) (vF V)):=h2;have HOK:Hid (absOK nH S nR V0 8 V z c=true):=hok;have HIK:Hid (implIns op (di:Int) (ia:Int) (ib:Int) imm (q:Int)=true):=hik;have HBA:Hid (Bd (V ia)):=bd_of_good ((good_regs hok).2.2 ia ha);have HBB:Hid (Bd (V ib)):=bd_of_good ((good_regs hok).2.2 ib hb);have HQI:Hid ((V ia).k=1->(V ia).h=(q:Int)->q<nH):=fun k e=>by have:=heap_of_good ((good_regs hok).2.2 ia ha) k;omega
 have HO21:Hid (21<=op/\op<=28):=⟨o1,o28⟩
 have HX:Hid (25<=op->opB V op ib=V ib/\imm=0):=fun o=>by
  have hop:op=25∨op=26∨op=27∨op=28:=by omega
  rcases hop with rfl|rfl|rfl|rfl<;>exact⟨if_pos (by kernel_rfl),imm_none HIK.out (by kernel_rfl)⟩
 have HN:Hid (op<25->opB V op ib=zV):=fun o=>by
  have hop:op=21∨op=22∨op=23∨op=24:=by omega
  rcases hop with rfl|rfl|rfl|rfl<;>exact if_neg (show¬_=true from by rw[show bitB _ 4=false from by kernel_rfl];decide)
 have HA:Hid (opA V op ia=V ia):=by
  have hop:op=21∨op=22∨op=23∨op=24∨op=25∨op=26∨op=27∨op=28:=by omega
  rcases hop with rfl|rfl|rfl|rfl|rfl|rfl|rfl|rfl<;>exact if_pos (by kernel_rfl)
 have e21:decide (21<=op)=true:=by simp;omega
 have e29:decide (29<=op)=false:=by simp;omega
 clear h1 h2 hok hik o1 o28;have ha8:(ia:Int)<8:=by omega
 have hb8:(ib:Int)<8:=by omega
 have hd8:(di:Int)<8:=by omega
 go_enter Tryz.func5,Tryz.ntmps5;go_upto_region 1 with fail;obtain⟨u,hu,pu⟩:=it_pre w bH nH cH bR nR cR bA 8 cA (z:=z) (c:=c) (op:=op) (d:=(di:Int)) (ra:=(ia:Int)) (rb:=(ib:Int)) (imm:=imm) (h:=(q:Int));rw[hu];have P0:Hid (ItP w u bH nH cH bR nR cR bA 8 cA z c op (di:Int) (ia:Int) (ib:Int) imm (q:Int)):=pu;clear hu pu;obtain⟨⟨s0,s1⟩,⟨a0,a1,a2⟩,r0,r1,r2,r3⟩:=it_cells P0.out;obtain⟨i0,i1,i2,i3,i4,i5⟩:=ins_cells P0.out.I;have rl:=P0.out.R.1;go_wp2_with fail;refine(specAbs_any bH cH nH S bR cR nR V0 bA cA 8 V z c u lH lR (by omega) (H1.out.below P0.out.bel) (H2.out.below P0.out.bel H2.out.lt)).mono ?_;rintro e u1⟨rfl,hbe⟩;have P1:Hid (ItP w u1 bH nH cH bR nR cR bA 8 cA z c op (di:Int) (ia:Int) (ib:Int) imm (q:Int)):=P0.out.below hbe;clear hbe P0;clear s0 s1 a0 a1 a2 r0 r1 r2 r3 i0 i1 i2 i3 i4 i5 rl;rw[HOK.out];obtain⟨⟨s0,s1⟩,⟨a0,a1,a2⟩,r0,r1,r2,r3⟩:=it_cells P1.out;obtain⟨i0,i1,i2,i3,i4,i5⟩:=ins_cells P1.out.I;have rl:=P1.out.R.1;go_wp2_with fail;refine(specIns_any op (di:Int) (ia:Int) (ib:Int) imm (q:Int) _).mono ?_;rintro e u2⟨rfl,hbe⟩;have P2:Hid (ItP w u2 bH nH cH bR nR cR bA 8 cA z c op (di:Int) (ia:Int) (ib:Int) imm (q:Int)):=P1.out.below hbe;clear hbe P1;clear s0 s1 a0 a1 a2 r0 r1 r2 r3 i0 i1 i2 i3 i4 i5 rl;rw[HIK.out];obtain⟨⟨s0,s1⟩,⟨a0,a1,a2⟩,r0,r1,r2,r3⟩:=it_cells P2.out;obtain⟨i0,i1,i2,i3,i4,i5⟩:=ins_cells P2.out.I;have rl:=P2.out.R.1;go_wp2_with fail;refine(l4Abs_any bA cA V z c u2 (H2.out.below P2.out.bel H2.out.lt)).mono ?_;rintro e u3⟨g,cg,hg,rfl,hbe,hG⟩;have P3:Hid (ItP w u3 bH nH cH bR nR cR bA 8 cA z c op (di:Int) (ia:Int) (ib:Int) imm (q:Int)):=P2.out.below hbe;have HG3:Hid (Arr u3 g (8*6) (vF V)):=hG;have og:w.heap.size+1+1+1<g:=Nat.lt_of_lt_of_le P2.out.R.1 hg;clear hbe hG hg P2;clear s0 s1 a0 a1 a2 r0 r1 r2 r3 i0 i1 i2 i3 i4 i5 rl;obtain⟨⟨s0,s1⟩,⟨a0,a1,a2⟩,r0,r1,r2,r3⟩:=it_cells P3.out;obtain⟨i0,i1,i2,i3,i4,i5⟩:=ins_cells P3.out.I;have rl:=P3.out.R.1;have lg:=HG3.out.lt;go_upto_region 4 with fail;clear s0 s1 a0 a1 a2 r0 r1 r2 r3 i0 i1 i2 i3 i4 i5 rl;clear lg;obtain⟨u4,hu4,b4,e4,f4⟩:∃v,u3.alloc (.cells #[.slice (some ⟨g,0,none⟩) 8 cg,.int .i64 z,.int .i64 c] 28)=v/\Below u3.heap.size u3 v/\Cl v u3.heap.size [.slice (some ⟨g,0,none⟩) 8 cg,.int .i64 z,.int .i64 c]/\(∀i,v.frozen? ⟨u3.heap.size,i,none⟩=false):=⟨_,rfl,(Below.refl _ _).alloc (Nat.le_refl _) _,Cl.new,fun i=>by simp[go_sem]⟩
 rw[hu4];clear hu4;have P4:Hid (ItP w u4 bH nH cH bR nR cR bA 8 cA z c op (di:Int) (ia:Int) (ib:Int) imm (q:Int)):=P3.out.below b4;have HG4:Hid (Arr u4 g (8*6) (vF V)):=HG3.out.below b4 HG3.out.lt;have on:g<u3.heap.size:=HG3.out.lt;have HO4:Hid (Cl u4 u3.heap.size [.slice (some ⟨g,0,none⟩) 8 cg,.int .i64 z,.int .i64 c]):=e4;have HF4:Hid (∀i,u4.frozen? ⟨u3.heap.size,i,none⟩=false):=f4;clear b4 e4 f4 P3 HG3;generalize u3.heap.size=no at *;obtain⟨q0,q1,q2⟩:=clg HO4.out;obtain⟨⟨s0,s1⟩,⟨a0,a1,a2⟩,r0,r1,r2,r3⟩:=it_cells P4.out;obtain⟨i0,i1,i2,i3,i4,i5⟩:=ins_cells P4.out.I;have rl:=P4.out.R.1;have rf:=P4.out.RF;go_wp2_with fail;refine(l4Access_X bH nH cH bR nR cR g cg S V z c op imm (opB V op ib) di ia ib q hd ha hb u4 lH HQI.out (H1.out.h.below P4.out.bel H1.out.h.lt) HG4.out HBA.out HBB.out n0 n1 HO21.out.1 HO21.out.2 HX.out HN.out).mono ?_;rintro e u5⟨V',hx,hbe⟩;have hee:accI op imm (q:Int) (V ia) (opB V op ib) (V di) (S q)=er:=by
  have h:=HE.out;rw[ref_m (by rw[opF_1 (by have:=HO21.out;omega) (by have:=HO21.out;omega) (by have:=HO21.out;omega)];decide) (by have:=HO21.out;omega) HO21.out.1 HO21.out.2,HA.out]at h;exact h
 rw[hee]at hx;clear hee;have rl5:w.heap.size+1+1+1<u5.heap.size:=Nat.lt_of_lt_of_le P4.out.R.1 hbe.size;have bl5:Below w.heap.size w u5:=P4.out.bel.trans (hbe.mono (by omega));have t0:u5.cell? ⟨w.heap.size+1+1+1,0,none⟩=some (.int .i64 0):=(hbe.cell (p:=⟨w.heap.size+1+1+1,0,none⟩) (show _<g by omega)).trans r0;have t1:u5.cell? ⟨w.heap.size+1+1+1,1,none⟩=some (.slice none 0 0):=(hbe.cell (p:=⟨w.heap.size+1+1+1,1,none⟩) (show _<g by omega)).trans r1;have t2:u5.cell? ⟨w.heap.size+1+1+1,2,none⟩=some (.int .i64 0):=(hbe.cell (p:=⟨w.heap.size+1+1+1,2,none⟩) (show _<g by omega)).trans r2;have t3:u5.cell? ⟨w.heap.size+1+1+1,3,none⟩=some (.int .i64 0):=(hbe.cell (p:=⟨w.heap.size+1+1+1,3,none⟩) (show _<g by omega)).trans r3;have tf:∀i,u5.frozen? ⟨w.heap.size+1+1+1,i,none⟩=false:=fun i=>(hbe.frozen (p:=⟨w.heap.size+1+1+1,i,none⟩) (show _<g by omega)).trans (rf i)
 have HBL:Hid (Below w.heap.size w u5):=bl5;clear s0 s1 a0 a1 a2 r0 r1 r2 r3 i0 i1 i2 i3 i4 i5 rl;clear q0 q1 q2 bl5 hbe P4 HG4 rf;rcases hx with⟨hne,rfl⟩|⟨heq,rfl,hAr⟩
 ·have HNE:Hid (er≠0):=hne
  clear hne;go_wp2;refine bodyPost_ret (v:=.agg #[.int .i64 er,.slice none 0 0,.int .i64 0,.int .i64 0]) (by simp[results,Tryz.results5,go_sem, *]) rfl ⟨V',z,c,Or.inl ⟨HNE.out,rfl⟩,?_⟩
  (iterate 4 refine Below.setCell ?_ (show w.heap.size<=w.heap.size+1+1+1 by omega) _)
  exact HBL.out
 ·have HEQ:Hid (er=0):=heq
  have HAR:Hid (Arr u5 g (8*6) (vF V')):=hAr;clear heq hAr;go_wp2;refine bodyPost_ret (v:=.agg #[.int .i64 0,.slice (some ⟨g,0,none⟩) 8 cg,.int .i64 z,.int .i64 c]) (by simp[results,Tryz.results5,go_sem, *]) rfl ⟨V',z,c,Or.inr ⟨HEQ.out,g,cg,by omega,rfl,?_⟩,?_⟩
  ·(iterate 4 refine Arr.other ?_ (show w.heap.size+1+1+1≠g by omega) _)
   exact HAR.out
  ·(iterate 4 refine Below.setCell ?_ (show w.heap.size<=w.heap.size+1+1+1 by omega) _)
   exact HBL.out
end Go.Proofs.YtbahofiiaodpdaaGreat
