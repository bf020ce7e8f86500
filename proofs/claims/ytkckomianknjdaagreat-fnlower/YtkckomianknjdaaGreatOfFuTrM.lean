import Derived.Test.YtkckomianknjdaaGreatOfCoreF
import Derived.Test.YtkckomianknjdaaGreatOfTransAcc
import Derived.Deep.DeepCutAuto
import Derived.Test.YtkckomianknjdaaGreatOfTransSpS
set_option maxHeartbeats 32000000
set_option maxRecDepth 20000
namespace Go.Proofs.YtkckomianknjdaaGreat
open Go.RowKit Go.Deep
def kU(w:World)(g cg di:Nat)(V:Nat->VV)(z c:Int)(e:Ending)(w':World):Prop:=
 ∃(err:Int)(V':Nat->VV),fB w' g cg e err V' z c/\(V'=V∨∃s m,V'=GJ V di (BH s m))/\Below g w w'
theorem TJ(bH nH cH bR nR cR g cg:Nat)(S:Nat->HS)(V:Nat->VV)(z c D C:Int)(r j l q:Nat)(hd:r<8)(ha:j<8)(hb:l<8)(w:World)(_lH:nH<=1048576)(ao:(V j).k=1->(V j).h=(q:Int)->q<nH)(hh:BZ w bH (nH*3) (Xt S))(hg:BZ w g (8*6) (vF V))(hA:Bd (V j))(hB:Bd (V l))(n0: -1000000<=C)(n1:C<=1000000):
 Calls Tryz.prog 155 #[.agg #[Vs bH nH cH,Vs bR nR cR],.agg #[Vs g 8 cg,Vi z,Vi c],.agg #[Vi D,Vi (r:Int),Vi (j:Int),Vi (l:Int),Vi C,Vi (q:Int)]] w (kU w g cg r V z c):=by
 have HH:=hxy hh;have ak:=hxy ao;have HG:=hxy hg;have lg:=hg.lt;have aO:=hA.l0;have aP:=hA.l1;have aJ:=hA.h0;have aK:=hA.h1;have aE:=hB.m0;have aF:=hB.m1;clear hh ao hg hA hB;have aG:(j:Int)<8:=AB;have aH:(l:Int)<8:=AB;have aI:(r:Int)<8:=AB;go_enter Tryz.func155,Tryz.ntmps155;go_upto_region 1 with fail;obtain⟨u,hu,pu⟩:=MN w bH nH cH bR nR cR g 8 cg (z:=z) (c:=c) (op:=D) (d:=(r:Int)) (ra:=(j:Int)) (rb:=(l:Int)) (imm:=C) (h:=(q:Int));rw[hu];have P0:=hxy pu;clear hu pu;have ac:=hxy (HG.below P0.bel lg);obtain⟨_,⟨J,_,_⟩,_⟩:=CP P0;obtain⟨i0,i1,i2,i3,i4,i5⟩:=Aq P0.I;obtain⟨x0,x1,x2,x3,x4,x5⟩:=CY ac j ha;obtain⟨y0,y1,y2,y3,y4,y5⟩:=CY ac l hb;have aB:=P0.A.1;have aC:=P0.I.1;have aD:=ac.lt;go_upto_region 3 with fail;clear aB aC aD J i0 i1 i2 i3 i4 i5 x0 x1 x2 x3 x4 x5 y0 y1 y2 y3 y4 y5;obtain⟨u1,ai,p1⟩:∃v,(u.alloc (.cells #[Vi (V j).k,.bool (V j).s,Vi (V j).m,Vi (V j).h,Vi (V j).lo,Vi (V j).hi] 95)).alloc (.cells #[Vi (V l).k,.bool (V l).s,Vi (V l).m,Vi (V l).h,Vi (V l).lo,Vi (V l).hi] 95)=v/\Zp w v bH nH cH bR nR cR g cg z c D (r:Int) (j:Int) (l:Int) C (q:Int) u.heap.size (u.heap.size+1) (V j) (V l) V:=by
  have b1:=(Below.refl u.heap.size u).alloc BP (.cells #[Vi (V j).k,.bool (V j).s,Vi (V j).m,Vi (V j).h,Vi (V j).lo,Vi (V j).hi] 95);have e1:=Cl.new (w:=u) (vs:=#[Vi (V j).k,.bool (V j).s,Vi (V j).m,Vi (V j).h,Vi (V j).lo,Vi (V j).hi]) (t:=95);generalize hy:u.alloc (.cells #[Vi (V j).k,.bool (V j).s,Vi (V j).m,Vi (V j).h,Vi (V j).lo,Vi (V j).hi] 95)=y at *;have s1:y.heap.size=u.heap.size+1:=by rw[<-hy];simp
  clear hy;have b2:=(Below.refl y.heap.size y).alloc BP (.cells #[Vi (V l).k,.bool (V l).s,Vi (V l).m,Vi (V l).h,Vi (V l).lo,Vi (V l).hi] 95);have e2:=Cl.new (w:=y) (vs:=#[Vi (V l).k,.bool (V l).s,Vi (V l).m,Vi (V l).h,Vi (V l).lo,Vi (V l).hi]) (t:=95);rw[s1]at e2;have p:=P0.below (b1.trans (b2.mono b1.size));exact⟨_,rfl,p.bel.mono (Nat.le_of_lt lg),p.S,p.A,p.I,p.R,p.RF,e1.below b2,e2,HG.below p.bel lg⟩
 rw[ai];have ga:=P0.bel.size;have gb:w.heap.size<=u.heap.size+1:=AB;have aw:=HH.lt;have aj:Hid (BZ u1 bH (nH*3) (Xt S)):=HH.below (by rw[<-ai];exact(P0.bel.alloc (by have:=P0.bel.size;omega) _).alloc (by simp;have:=P0.bel.size;omega) _) aw;clear ai;obtain⟨na,am⟩:=BG u.heap.size;obtain⟨nb,an⟩:=BG (u.heap.size+1);rw[an]at p1 gb⊢;rw[am]at p1 ga⊢;clear am an P0 ac HG HH;have M:=hxy p1;clear p1;have s0:=M.S.2 0 AY;have J:=M.A.2 0 AY;have a1:=M.A.2 1 AY;have a2:=M.A.2 2 AY;simp only[Jw,List.getElem?_cons_zero,List.getElem?_cons_succ,Option.getD_some]at s0 J a1 a2;obtain⟨i0,i1,i2,i3,i4,i5⟩:=Aq M.I;obtain⟨x0,x1,x2,x3,x4,x5⟩:=JN M.a;obtain⟨y0,y1,y2,y3,y4,y5⟩:=JN M.b;have Y:=M.R.2 0 AY;have Z:=M.R.2 1 AY;have r2:=M.R.2 2 AY;have r3:=M.R.2 3 AY;simp only[Jw,List.getElem?_cons_zero,List.getElem?_cons_succ,Option.getD_some]at Y Z r2 r3;have rf:=M.RF;have rl:=M.R.1;go_upto_region 6 with fail;go_cut [53](fun aA wx=>(∃b:Bool,aA=.bool b)/\wx=u1)
 case first=>
  by_cases o1:D=22
  ·subst o1
   go_wp2;go_meet;exact⟨⟨_,rfl⟩,rfl⟩
  have f1:(D==22)=false:=by simpa using o1
  by_cases o2:D=24
  ·subst o2
   go_wp2;go_meet;exact⟨⟨_,rfl⟩,rfl⟩
  have f2:(D==24)=false:=by simpa using o2
  by_cases o3:D=26
  ·subst o3
   go_wp2;go_meet;exact⟨⟨_,rfl⟩,rfl⟩
  have f3:(D==26)=false:=by simpa using o3
  go_wp2;go_meet;exact⟨⟨_,rfl⟩,rfl⟩
 case rest=>
 obtain⟨⟨av,rfl⟩,rfl⟩:=hcut;go_upto_if 53 with fail;go_cut [11](fun ay wx=>(∃wd:Int,ay=Vi wd/\1<=wd/\wd<=8)/\wx=wc)
 case first=>
  cases av
  ·go_wp2
   go_meet;exact⟨⟨1,rfl,AB,AB⟩,rfl⟩
  ·go_wp2
   go_meet;exact⟨⟨8,rfl,AB,AB⟩,rfl⟩
 case rest=>
 obtain⟨⟨wd,rfl,aQ,aR⟩,rfl⟩:=hcut;go_upto_region 8 with fail;go_cut [12](fun az wx=>(∃st:Bool,az=.bool st)/\wx=wc)
 case first=>
  by_cases o1:D=23
  ·subst o1
   go_wp2;go_meet;exact⟨⟨_,rfl⟩,rfl⟩
  by_cases o2:D=24
  ·subst o2
   go_wp2;go_meet;exact⟨⟨_,rfl⟩,rfl⟩
  by_cases o3:D=27
  ·subst o3
   go_wp2;go_meet;exact⟨⟨_,rfl⟩,rfl⟩
  have f1:(D==23)=false:=by simpa using o1
  have f2:(D==24)=false:=by simpa using o2
  have f3:(D==27)=false:=by simpa using o3
  go_wp2;go_meet;exact⟨⟨_,rfl⟩,rfl⟩
 case rest=>
 obtain⟨⟨st,rfl⟩,rfl⟩:=hcut;generalize wc=u1 at *;by_cases c1:(V j).k=1
 rotate_left
 ·have e1:((V j).k !=1)=true:=by simp[c1]
  go_wp2;refine bodyPost_ret (v:=.agg #[Vi 3,.slice none 0 0,Vi 0,Vi 0]) (by simp[results,Tryz.results155,go_sem, *]) rfl ⟨3,V,Or.inl ⟨Aa,rfl⟩,.inl rfl,?_⟩
  (iterate 4 refine Below.setCell ?_ (show g<=w.heap.size+1+1+1 by omega) _)
  exact M.bel
 have e1:((V j).k !=1)=false:=by simp[c1]
 have C1:=hxy c1;clear c1;by_cases c2:(V j).h=(q:Int)
 rotate_left
 ·have e2:((V j).h !=(q:Int))=true:=by simp[c2]
  go_wp2;refine bodyPost_ret (v:=.agg #[Vi 4,.slice none 0 0,Vi 0,Vi 0]) (by simp[results,Tryz.results155,go_sem, *]) rfl ⟨4,V,Or.inl ⟨Aa,rfl⟩,.inl rfl,?_⟩
  (iterate 4 refine Below.setCell ?_ (show g<=w.heap.size+1+1+1 by omega) _)
  exact M.bel
 have hq:=ak.out C1 c2;have aN:(q:Int)<nH:=AB;have C2:=hxy c2;rw[c2]at x3;have e2:((q:Int) !=(q:Int))=false:=AY;clear c2 ak;obtain⟨h0,h1,h2⟩:=TH aj hq;go_upto_region 14 with fail;clear s0 J a1 a2 i0 i1 i2 i3 i4 i5 x0 x1 x2 x3 x4 x5 y0 y1 y2 y3 y4 y5 Y Z r2 r3 rf rl;clear h0 h1 h2 e1 e2;obtain⟨u2,ap,b2,g2⟩:∃v,u1.alloc (.cells #[Vi (S q).size,.bool (S q).s,.bool (S q).w] 92)=v/\Bw u1 v/\Cl v u1.heap.size [Vi (S q).size,.bool (S q).s,.bool (S q).w]:=⟨_,rfl,Ah,Cl.new⟩
 rw[ap];have Q:=hxy (M.below b2);have G2:=hxy g2;have aM:w.heap.size<=u1.heap.size:=by have:=M.R.1;omega
 clear ap b2 g2 M aj;generalize u1.heap.size=nh at *;have s0:=Q.S.2 0 AY;have J:=Q.A.2 0 AY;have a1:=Q.A.2 1 AY;have a2:=Q.A.2 2 AY;simp only[Jw,List.getElem?_cons_zero,List.getElem?_cons_succ,Option.getD_some]at s0 J a1 a2;obtain⟨i0,i1,i2,i3,i4,i5⟩:=Aq Q.I;obtain⟨x0,x1,x2,x3,x4,x5⟩:=JN Q.a;obtain⟨y0,y1,y2,y3,y4,y5⟩:=JN Q.b;have Y:=Q.R.2 0 AY;have Z:=Q.R.2 1 AY;have r2:=Q.R.2 2 AY;have r3:=Q.R.2 3 AY;simp only[Jw,List.getElem?_cons_zero,List.getElem?_cons_succ,Option.getD_some]at Y Z r2 r3;have rf:=Q.RF;have rl:=Q.R.1;have h0:=G2.2 0 AY;have h1:=G2.2 1 AY;have h2:=G2.2 2 AY;simp only[Jw,List.getElem?_cons_zero,List.getElem?_cons_succ,Option.getD_some]at h0 h1 h2;go_upto_if 90 with fail;go_cut [10](fun ax wx=>(∃x:Int,ax=Vi x/\ -4000000000000<=x/\x<=4000000000000)/\Bw u2 wx)
 case first=>
  by_cases o1:25<=D
  rotate_left
  ·have f1:decide (25<=D)=false:=by simp;omega
   go_wp2;go_meet;exact⟨⟨_,rfl,AB,AB⟩,Below.refl _ _⟩
  have f1:decide (25<=D)=true:=by simp;omega
  go_wp2_with fail;refine(Cz (V l).k (V l).s (V l).m (V l).h (V l).lo (V l).hi _).mono ?_;rintro e u3⟨rfl,L⟩;obtain⟨mb,hm⟩:=BG (Au ⟨(V l).k,(V l).s,(V l).m,(V l).h,(V l).lo,(V l).hi⟩);rw[hm];have n:=hxy (Q.below L);have B3:=hxy L;clear s0 J a1 a2 i0 i1 i2 i3 i4 i5 x0 x1 x2 x3 x4 x5 y0 y1 y2 y3 y4 y5 Y Z r2 r3 rf rl;clear h0 h1 h2 hm L;obtain⟨x0,x1,x2,x3,x4,x5⟩:=JN n.a;obtain⟨y0,y1,y2,y3,y4,y5⟩:=JN n.b;have Y:=n.R.2 0 AY;have Z:=n.R.2 1 AY;have r2:=n.R.2 2 AY;have r3:=n.R.2 3 AY;simp only[Jw,List.getElem?_cons_zero,List.getElem?_cons_succ,Option.getD_some]at Y Z r2 r3;have rf:=n.RF;have rl:=n.R.1;have al:=n.a.1;have bl:=n.b.1;by_cases c3:mb<0
  ·have e3:decide (mb<0)=true:=by simp[c3]
   go_wp2;refine bodyPost_ret (v:=.agg #[Vi 5,.slice none 0 0,Vi 0,Vi 0]) (by simp[results,Tryz.results155,go_sem, *]) rfl ⟨5,V,Or.inl ⟨Aa,rfl⟩,.inl rfl,?_⟩
   (iterate 4 refine Below.setCell ?_ (show g<=w.heap.size+1+1+1 by omega) _)
   exact n.bel
  have e3:decide (mb<0)=false:=by simp;omega
  cases c4:(V l).s with
  |true=>
   rw[c4]at y1;go_wp2;refine bodyPost_ret (v:=.agg #[Vi 5,.slice none 0 0,Vi 0,Vi 0]) (by simp[results,Tryz.results155,go_sem, *]) rfl ⟨5,V,Or.inl ⟨Aa,rfl⟩,.inl rfl,?_⟩
   (iterate 4 refine Below.setCell ?_ (show g<=w.heap.size+1+1+1 by omega) _)
   exact n.bel
  |false=>
   rw[c4]at y1;go_wp2;go_meet;exact⟨⟨_,rfl,AB,AB⟩,B3⟩
 case rest=>
 obtain⟨⟨x,rfl,xl,xh⟩,ah⟩:=hcut;generalize wc=u3 at *;have n:=hxy (Q.below ah);have G3:=hxy (G2.below ah);clear s0 J a1 a2 i0 i1 i2 i3 i4 i5 x0 x1 x2 x3 x4 x5 y0 y1 y2 y3 y4 y5 Y Z r2 r3 rf rl;clear h0 h1 h2 ah Q G2;have s0:=n.S.2 0 AY;have J:=n.A.2 0 AY;have a1:=n.A.2 1 AY;have a2:=n.A.2 2 AY;simp only[Jw,List.getElem?_cons_zero,List.getElem?_cons_succ,Option.getD_some]at s0 J a1 a2;obtain⟨i0,i1,i2,i3,i4,i5⟩:=Aq n.I;obtain⟨x0,x1,x2,x3,x4,x5⟩:=JN n.a;obtain⟨y0,y1,y2,y3,y4,y5⟩:=JN n.b;have Y:=n.R.2 0 AY;have Z:=n.R.2 1 AY;have r2:=n.R.2 2 AY;have r3:=n.R.2 3 AY;simp only[Jw,List.getElem?_cons_zero,List.getElem?_cons_succ,Option.getD_some]at Y Z r2 r3;have rf:=n.RF;have rl:=n.R.1;have h0:=G3.2 0 AY;have h1:=G3.2 1 AY;have h2:=G3.2 2 AY;simp only[Jw,List.getElem?_cons_zero,List.getElem?_cons_succ,Option.getD_some]at h0 h1 h2;by_cases c5:(V j).lo+C<0
 ·have e5:decide ((V j).lo+C<0)=true:=by simp;omega
  go_wp2;refine bodyPost_ret (v:=.agg #[Vi 6,.slice none 0 0,Vi 0,Vi 0]) (by simp[results,Tryz.results155,go_sem, *]) rfl ⟨6,V,Or.inl ⟨Aa,rfl⟩,.inl rfl,?_⟩
  (iterate 4 refine Below.setCell ?_ (show g<=w.heap.size+1+1+1 by omega) _)
  exact n.bel
 have e5:decide ((V j).lo+C<0)=false:=by simp;omega
 by_cases c6:(S q).size<x+wd
 ·have e6:decide ((S q).size<x+wd)=true:=by simp;omega
  go_wp2;refine bodyPost_ret (v:=.agg #[Vi 6,.slice none 0 0,Vi 0,Vi 0]) (by simp[results,Tryz.results155,go_sem, *]) rfl ⟨6,V,Or.inl ⟨Aa,rfl⟩,.inl rfl,?_⟩
  (iterate 4 refine Below.setCell ?_ (show g<=w.heap.size+1+1+1 by omega) _)
  exact n.bel
 have e6:decide ((S q).size<x+wd)=false:=by simp;omega
 clear c5 c6;cases st with
 |true=>
  obtain⟨_,d1,_⟩:=CY n.G r hd;cases c7:(S q).w with
  |false=>
   rw[c7]at h2;go_wp2;refine bodyPost_ret (v:=.agg #[Vi 7,.slice none 0 0,Vi 0,Vi 0]) (by simp[results,Tryz.results155,go_sem, *]) rfl ⟨7,V,Or.inl ⟨Aa,rfl⟩,.inl rfl,?_⟩
   (iterate 4 refine Below.setCell ?_ (show g<=w.heap.size+1+1+1 by omega) _)
   exact n.bel
  |true=>
  rw[c7]at h2;clear c7;cases c8:(V r).s with
  |false=>
   rw[c8]at d1;go_wp2;refine bodyPost_ret (v:=.agg #[Vi 0,Vs g 8 cg,Vi z,Vi c]) (by simp[results,Tryz.results155,go_sem, *]) rfl ⟨0,V,Or.inr ⟨rfl,rfl,?_⟩,.inl rfl,?_⟩
   ·iterate 4 refine BZ.other ?_ (show w.heap.size+1+1+1≠g by omega) _
    exact n.G
   ·(iterate 4 refine Below.setCell ?_ (show g<=w.heap.size+1+1+1 by omega) _)
    exact n.bel
  |true=>
  rw[c8]at d1;cases c9:(S q).s with
  |false=>
   rw[c9]at h1;go_wp2;refine bodyPost_ret (v:=.agg #[Vi 8,.slice none 0 0,Vi 0,Vi 0]) (by simp[results,Tryz.results155,go_sem, *]) rfl ⟨8,V,Or.inl ⟨Aa,rfl⟩,.inl rfl,?_⟩
   (iterate 4 refine Below.setCell ?_ (show g<=w.heap.size+1+1+1 by omega) _)
   exact n.bel
  |true=>
   rw[c9]at h1;go_wp2;refine bodyPost_ret (v:=.agg #[Vi 0,Vs g 8 cg,Vi z,Vi c]) (by simp[results,Tryz.results155,go_sem, *]) rfl ⟨0,V,Or.inr ⟨rfl,rfl,?_⟩,.inl rfl,?_⟩
   ·iterate 4 refine BZ.other ?_ (show w.heap.size+1+1+1≠g by omega) _
    exact n.G
   ·(iterate 4 refine Below.setCell ?_ (show g<=w.heap.size+1+1+1 by omega) _)
    exact n.bel
 |false=>
 go_upto_region 25 with fail;clear s0 J a1 a2 i0 i1 i2 i3 i4 i5 x0 x1 x2 x3 x4 x5 y0 y1 y2 y3 y4 y5 Y Z r2 r3 rf rl;clear h0 h1 h2 e5 e6;have J:∀E,Bw u3 E->E.cell? ⟨w.heap.size+1,0,none⟩=some (Vs g 8 cg):=fun E h=>(n.A.below h).2 0 AY
 have i1:∀E,Bw u3 E->E.cell? ⟨w.heap.size+1+1,1,none⟩=some (Vi (r:Int)):=fun E h=>(n.I.below h).2 1 AY
 have h1:Cb u3 nh 1 (.bool (S q).s):=fun E h=>(G3.below h).2 1 AY
 refine Ak (T:=fun E=>Bw u3 E) (s:=8) Ab Al.drew (fun hHeld=>?_);refine lS [0,1,2,3,4,5] ?_;refine Ac (i:=6) rfl Ab (fun KK hK=>?_);go_simp;refine(Av (S q).s (-1) _).mono ?_;rintro e ar⟨rfl,L⟩;have bx:=(Below.refl u3.heap.size u3).drew.trans L;clear L;obtain⟨o,X⟩:=BG (BH (S q).s (-1));rw[X];have af:=hxy X;clear X;simp only[VV.v];go_wp2_with fail;refine hK.out _ _ bx (fun K=>?_);clear hK KK;refine BV ?_;refine BR 7 ?_;have N:=hxy (n.below bx);have ad:=hxy (G3.below bx);clear J i1 h1 hHeld K bx n G3;obtain⟨d0,d1,d2,d3,d4,d5⟩:=CY N.G r hd;have gf:=N.G.free;have gl:=N.G.lt;refine Ai rfl Ab Ab (fun KK hK=>?_);go_simp;refine hK.out _ _ ?_;clear hK KK d0 d1 d2 d3 d4 d5 gf gl;obtain⟨u5,aa⟩:=BG (FW ar g (r*6) o);rw[show(((((ar.setCell (Va g (r*6)) (Vi o.k)).setCell (Va g (r*6+1)) (.bool o.s)).setCell (Va g (r*6+2)) (Vi o.m)).setCell (Va g (r*6+3)) (Vi o.h)).setCell (Va g (r*6+4)) (Vi o.lo)).setCell (Va g (r*6+5)) (Vi o.hi)=u5 from aa];have F:Hid (Zp w u5 bH nH cH bR nR cR g cg z c D (r:Int) (j:Int) (l:Int) C (q:Int) na nb (V j) (V l) (GJ V r o)):=by rw[<-aa];exact N.put lg ga gb hd o
 have G5:Hid (Cl u5 nh [Vi (S q).size,.bool (S q).s,.bool (S q).w]):=by rw[<-aa];exact ES ad AB _
 clear aa N ad;by_cases cw:wd=1
 rotate_left
 ·have ew:(wd==1)=false:=by simp[cw]
  have s0:=F.S.2 0 AY;have J:=F.A.2 0 AY;have a1:=F.A.2 1 AY;have a2:=F.A.2 2 AY;simp only[Jw,List.getElem?_cons_zero,List.getElem?_cons_succ,Option.getD_some]at s0 J a1 a2;obtain⟨i0,i1,i2,i3,i4,i5⟩:=Aq F.I;obtain⟨x0,x1,x2,x3,x4,x5⟩:=JN F.a;obtain⟨y0,y1,y2,y3,y4,y5⟩:=JN F.b;have Y:=F.R.2 0 AY;have Z:=F.R.2 1 AY;have r2:=F.R.2 2 AY;have r3:=F.R.2 3 AY;simp only[Jw,List.getElem?_cons_zero,List.getElem?_cons_succ,Option.getD_some]at Y Z r2 r3;have rf:=F.RF;have rl:=F.R.1;go_wp2;refine bodyPost_ret (v:=.agg #[Vi 0,Vs g 8 cg,Vi z,Vi c]) (by simp[results,Tryz.results155,go_sem, *]) rfl ⟨0,GJ V r o,Or.inr ⟨rfl,rfl,?_⟩,.inr ⟨(S q).s,-1,by rw[af.out]⟩,?_⟩
  ·iterate 4 refine BZ.other ?_ (show w.heap.size+1+1+1≠g by omega) _
   exact F.G
  ·(iterate 4 refine Below.setCell ?_ (show g<=w.heap.size+1+1+1 by omega) _)
   exact F.bel
 have ew:(wd==1)=true:=by simp[cw]
 go_upto_region 27 with fail;have J:∀E,Bw u5 E->E.cell? ⟨w.heap.size+1,0,none⟩=some (Vs g 8 cg):=fun E h=>(F.A.below h).2 0 AY
 have i1:∀E,Bw u5 E->E.cell? ⟨w.heap.size+1+1,1,none⟩=some (Vi (r:Int)):=fun E h=>(F.I.below h).2 1 AY
 have h1:Cb u5 nh 1 (.bool (S q).s):=fun E h=>(G5.below h).2 1 AY
 refine Ak (T:=fun E=>Bw u5 E) (s:=8) Ab Al.drew (fun hHeld=>?_);refine lS [0,1,2,3,4,5] ?_;refine Ac (i:=6) rfl Ab (fun KK hK=>?_);go_simp;refine(Av (S q).s 255 _).mono ?_;rintro e au⟨rfl,L⟩;have bx:=(Below.refl u5.heap.size u5).drew.trans L;clear L;obtain⟨B,X⟩:=BG (BH (S q).s 255);rw[X];have ag:=hxy X;clear X;simp only[VV.v];go_wp2_with fail;refine hK.out _ _ bx (fun K=>?_);clear hK KK;refine BV ?_;refine BR 7 ?_;have O:=hxy (F.below bx);have ae:=hxy (G5.below bx);clear J i1 h1 hHeld K bx F G5;obtain⟨d0,d1,d2,d3,d4,d5⟩:=CY O.G r hd;have gf:=O.G.free;have gl:=O.G.lt;refine Ai rfl Ab Ab (fun KK hK=>?_);go_simp;refine hK.out _ _ ?_;clear hK KK d0 d1 d2 d3 d4 d5 gf gl;obtain⟨u7,ab⟩:=BG (FW au g (r*6) B);rw[show(((((au.setCell (Va g (r*6)) (Vi B.k)).setCell (Va g (r*6+1)) (.bool B.s)).setCell (Va g (r*6+2)) (Vi B.m)).setCell (Va g (r*6+3)) (Vi B.h)).setCell (Va g (r*6+4)) (Vi B.lo)).setCell (Va g (r*6+5)) (Vi B.hi)=u7 from ab];have U:Hid (Zp w u7 bH nH cH bR nR cR g cg z c D (r:Int) (j:Int) (l:Int) C (q:Int) na nb (V j) (V l) (GJ (GJ V r o) r B)):=by rw[<-ab];exact O.put lg ga gb hd B
 have G7:Hid (Cl u7 nh [Vi (S q).size,.bool (S q).s,.bool (S q).w]):=by rw[<-ab];exact ES ae AB _
 clear ab O ae;have s0:=U.S.2 0 AY;have J:=U.A.2 0 AY;have a1:=U.A.2 1 AY;have a2:=U.A.2 2 AY;simp only[Jw,List.getElem?_cons_zero,List.getElem?_cons_succ,Option.getD_some]at s0 J a1 a2;obtain⟨i0,i1,i2,i3,i4,i5⟩:=Aq U.I;obtain⟨x0,x1,x2,x3,x4,x5⟩:=JN U.a;obtain⟨y0,y1,y2,y3,y4,y5⟩:=JN U.b;have Y:=U.R.2 0 AY;have Z:=U.R.2 1 AY;have r2:=U.R.2 2 AY;have r3:=U.R.2 3 AY;simp only[Jw,List.getElem?_cons_zero,List.getElem?_cons_succ,Option.getD_some]at Y Z r2 r3;have rf:=U.RF;have rl:=U.R.1;go_wp2;refine bodyPost_ret (v:=.agg #[Vi 0,Vs g 8 cg,Vi z,Vi c]) (by simp[results,Tryz.results155,go_sem, *]) rfl ⟨0,GJ (GJ V r o) r B,Or.inr ⟨rfl,rfl,?_⟩,.inr ⟨(S q).s,255,by rw[ag.out,Ta]⟩,?_⟩
 ·iterate 4 refine BZ.other ?_ (show w.heap.size+1+1+1≠g by omega) _
  exact U.G
 ·(iterate 4 refine Below.setCell ?_ (show g<=w.heap.size+1+1+1 by omega) _)
  exact U.bel
theorem V8(O cH l:Nat)(S:Nat->HS)(Q cR y:Nat)(V0:Nat->VV)(N cA:Nat)(V:Nat->VV)(z c n b:Int)(B j x q:Nat)(hd:B<8)(ha:j<8)(hb:x<8)(w:World)(lH:l<=1048576)(lR:y<=1048576)(h1:Dl w O l S Q y V0)(h2:BZ w N (8*6) (vF V))(C:BQ l S y V0 8 V z c=true)(ak:Ar n (B:Int) (j:Int) (x:Int) b (q:Int)=true)(o1:21<=n)(ax:n<=28)(n0: -1000000<=b)(n1:b<=1000000):
 Calls Tryz.prog 142 #[.agg #[Vs O l cH,Vs Q y cR],.agg #[Vs N 8 cA,Vi z,Vi c],.agg #[Vi n,Vi (B:Int),Vi (j:Int),Vi (x:Int),Vi b,Vi (q:Int)]] w (jg l S y V0 n w):=by
 have H1:=hxy h1;have H2:=hxy h2;have M:=hxy C;have ae:=hxy ak;have J:=hxy ((Dh.1 C).2.2.1);have HF:=hxy ((Dh.1 C).2.2.2);have ab:=hxy (IC (gv.2 (J j ha)));have ac:=hxy (IC (gv.2 (J x hb)));have ag:Hid ((V j).k=1->(V j).h=(q:Int)->q<l):=fun k e=>by have:=PZ (gv.2 (J j ha)) k;omega
 have L:=hxy o1;have ap:decide (21<=n)=true:=by simp;omega
 have ar:decide (29<=n)=false:=by simp;omega
 have au:(j:Int)<8:=AB;have av:(x:Int)<8:=AB;have aw:(B:Int)<8:=AB;go_enter Tryz.func142,Tryz.ntmps142;go_upto_region 1 with fail;obtain⟨u,hu,pu⟩:=MN w O l cH Q y cR N 8 cA (z:=z) (c:=c) (op:=n) (d:=(B:Int)) (ra:=(j:Int)) (rb:=(x:Int)) (imm:=b) (h:=(q:Int));rw[hu];have D:=hxy pu;obtain⟨⟨s0,s1⟩,⟨a0,a1,a2⟩,Y,Z,r2,r3⟩:=CP D;have i0:=Aq D.I;have rl:=D.R.1;go_wp2_with fail;refine(Gp O cH l S Q cR y V0 N cA 8 V z c u lH lR AB (H1.below D.bel) (H2.below D.bel H2.lt)).mono ?_;rintro e u1⟨rfl,a⟩;have P1:=hxy (D.below a);rw[M.out];obtain⟨⟨s0,s1⟩,⟨a0,a1,a2⟩,Y,Z,r2,r3⟩:=CP P1;have i0:=Aq P1.I;have rl:=P1.R.1;go_wp2_with fail;refine(FH n (B:Int) (j:Int) (x:Int) b (q:Int) _).mono ?_;rintro e u2⟨rfl,a⟩;have E:=hxy (P1.below a);rw[ae.out];obtain⟨⟨s0,s1⟩,⟨a0,a1,a2⟩,Y,Z,r2,r3⟩:=CP E;have i0:=Aq E.I;have rl:=E.R.1;go_wp2_with fail;refine(JJ N cA V z c u2 (H2.below E.bel H2.lt)).mono ?_;rintro e u3⟨g,U,hg,rfl,a,hG⟩;have P3:=hxy (E.below a);have r:=hxy hG;have og:w.heap.size+1+1+1<g:=DY E.R.1 hg;obtain⟨⟨s0,s1⟩,⟨a0,a1,a2⟩,Y,Z,r2,r3⟩:=CP P3;have i0:=Aq P3.I;have rl:=P3.R.1;have lg:=r.lt;go_upto_region 4 with fail;obtain⟨u4,am,b4,e4,f4⟩:∃v,u3.alloc (.cells #[Vs g 8 U,Vi z,Vi c] 142)=v/\Bw u3 v/\Cl v u3.heap.size [Vs g 8 U,Vi z,Vi c]/\(∀i,v.frozen? ⟨u3.heap.size,i,none⟩=false):=⟨_,rfl,Ah,Cl.new,fun i=>by simp[go_sem]⟩
 rw[am];have A:=hxy (P3.below b4);have ad:=hxy (r.below b4 r.lt);have on:=r.lt;have af:=hxy e4;have ao:=hxy f4;generalize u3.heap.size=no at *;have q0:=OX af;obtain⟨⟨s0,s1⟩,⟨a0,a1,a2⟩,Y,Z,r2,r3⟩:=CP A;have i0:=Aq A.I;have rl:=A.R.1;have rf:=A.RF;go_wp2_with fail;refine(TJ O l cH Q y cR g U S V z c n b B j x q hd ha hb u4 lH ag (H1.h.below A.bel H1.h.lt) ad ab ac n0 n1).mono ?_;rintro e u5⟨X,V',hx,hV,a⟩;have HV:Hid (∀i,i<8->GV (V' i) l):=by
  rcases hV with rfl|⟨s,m,rfl⟩
  ·exact J
  ·exact Xf J (Jh s m l)
 have ay:w.heap.size+1+1+1<u5.heap.size:=DY A.R.1 a.size;have ah:Bw w u5:=A.bel.trans (a.mono AB);have t0:u5.cell? ⟨w.heap.size+1+1+1,0,none⟩=some (Vi 0):=(a.cell (p:=⟨w.heap.size+1+1+1,0,none⟩) (show _<g by omega)).trans Y;have t1:u5.cell? ⟨w.heap.size+1+1+1,1,none⟩=some (.slice none 0 0):=(a.cell (p:=⟨w.heap.size+1+1+1,1,none⟩) (show _<g by omega)).trans Z;have t2:u5.cell? ⟨w.heap.size+1+1+1,2,none⟩=some (Vi 0):=(a.cell (p:=⟨w.heap.size+1+1+1,2,none⟩) (show _<g by omega)).trans r2;have t3:u5.cell? ⟨w.heap.size+1+1+1,3,none⟩=some (Vi 0):=(a.cell (p:=⟨w.heap.size+1+1+1,3,none⟩) (show _<g by omega)).trans r3;have tf:∀i,u5.frozen? ⟨w.heap.size+1+1+1,i,none⟩=false:=fun i=>(a.frozen (p:=⟨w.heap.size+1+1+1,i,none⟩) (show _<g by omega)).trans (rf i)
 have F:=hxy ah;rcases hx with⟨al,rfl⟩|⟨aj,rfl,ai⟩
 ·have K:=hxy al
  go_wp2;refine bodyPost_ret (v:=.agg #[Vi X,.slice none 0 0,Vi 0,Vi 0]) (by simp[results,Tryz.results142,go_sem, *]) rfl ⟨X,V',z,c,Or.inl ⟨K,rfl⟩,fun e=>absurd e K,fun o=>absurd o (by have:=L.out;omega),?_⟩
  (iterate 4 refine Below.setCell ?_ (show w.heap.size<=w.heap.size+1+1+1 by omega) _)
  exact F
 ·have an:=hxy aj
  have aa:=hxy ai;go_wp2;refine bodyPost_ret (v:=.agg #[Vi 0,Vs g 8 U,Vi z,Vi c]) (by simp[results,Tryz.results142,go_sem, *]) rfl ⟨0,V',z,c,Or.inr ⟨rfl,g,U,AB,rfl,?_⟩,fun _=>Uh M HV HF.1 HF.2,fun _=>rfl,?_⟩
  ·(iterate 4 refine BZ.other ?_ (show w.heap.size+1+1+1≠g by omega) _)
   exact aa
  ·(iterate 4 refine Below.setCell ?_ (show w.heap.size<=w.heap.size+1+1+1 by omega) _)
   exact F
end Go.Proofs.YtkckomianknjdaaGreat
