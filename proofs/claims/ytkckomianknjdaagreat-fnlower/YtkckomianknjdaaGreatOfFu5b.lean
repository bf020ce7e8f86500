import Derived.Test.YtkckomianknjdaaGreatOfCoreF
import Derived.Test.YtkckomianknjdaaGreatOfTransSpS
import Derived.Deep.DeepCutAuto
import Derived.Test.YtkckomianknjdaaGreatOfFuTrM
import Derived.Test.YtkckomianknjdaaGreatOfDrawFlat
import Derived.Deep.CutBlock
set_option maxHeartbeats 32000000
set_option maxRecDepth 20000
namespace Go.Proofs.YtkckomianknjdaaGreat
open Go.RowKit Go.Deep
theorem Wj(bH cH nH:Nat)(S:Nat->HS)(bR cR nR:Nat)(V0:Nat->VV)(bA cA:Nat)(V:Nat->VV)(z c n D:Int)(di l r q:Nat)(hd:di<8)(ha:l<8)(hb:r<8)(w:World)(lH:nH<=1048576)(lR:nR<=1048576)(h1:Dl w bH nH S bR nR V0)(h2:BZ w bA (8*6) (vF V))(ae:BQ nH S nR V0 8 V z c=true)(az:Ar n (di:Int) (l:Int) (r:Int) D (q:Int)=true)(o1:1<=n)(aE:n<=18)(n0: -1000000<=D)(n1:D<=1000000)(n2:n=12∨n=13->0<=D/\D<=63):
 Calls Tryz.prog 142 #[.agg #[.slice (some ⟨bH,0,none⟩) nH cH,.slice (some ⟨bR,0,none⟩) nR cR],.agg #[.slice (some ⟨bA,0,none⟩) 8 cA,.int .i64 z,.int .i64 c],.agg #[.int .i64 n,.int .i64 (di:Int),.int .i64 (l:Int),.int .i64 (r:Int),.int .i64 D,.int .i64 (q:Int)]] w (jg nH S nR V0 n w):=by
 have H1:=hxy h1;have H2:=hxy h2;have aw:=hxy ae;have aM:=hxy az;have HG:=hxy ((Dh.1 ae).2.2.1);have HF:=hxy ((Dh.1 ae).2.2.2);have aI:=hxy (IC (gv.2 (HG l ha)));have aJ:=hxy (IC (gv.2 (HG r hb)));have aZ:decide (21<=n)=false:=by simp;omega
 have a3:decide (29<=n)=false:=by simp;omega
 have ax:=hxy o1;have av:=hxy aE;have aN:=hxy n2;have aX:(n==19)=false:=by simp;omega
 have aY:(n==20)=false:=by simp;omega
 clear n2;clear h1 h2 ae az o1 aE;have a4:(l:Int)<8:=AB;have a5:(r:Int)<8:=AB;have a6:(di:Int)<8:=AB;go_enter Tryz.func142,Tryz.ntmps142;go_upto_region 1 with fail;obtain⟨u,hu,pu⟩:=MN w bH nH cH bR nR cR bA 8 cA (z:=z) (c:=c) (op:=n) (d:=(di:Int)) (ra:=(l:Int)) (rb:=(r:Int)) (imm:=D) (h:=(q:Int));rw[hu];have P0:=hxy pu;clear hu pu;obtain⟨⟨s0,s1⟩,⟨X,Y,Z⟩,r0,r1,r2,r3⟩:=CP P0;obtain⟨K,L,M,N,Q,U⟩:=Aq P0.I;have rl:=P0.R.1;go_wp2_with fail;refine(Gp bH cH nH S bR cR nR V0 bA cA 8 V z c u lH lR AB (H1.below P0.bel) (H2.below P0.bel H2.lt)).mono ?_;rintro e u1⟨rfl,F⟩;have P1:=hxy (P0.below F);clear F P0;clear s0 s1 X Y Z r0 r1 r2 r3 K L M N Q U rl;rw[aw.out];obtain⟨⟨s0,s1⟩,⟨X,Y,Z⟩,r0,r1,r2,r3⟩:=CP P1;obtain⟨K,L,M,N,Q,U⟩:=Aq P1.I;have rl:=P1.R.1;go_wp2_with fail;refine(FH n (di:Int) (l:Int) (r:Int) D (q:Int) _).mono ?_;rintro e u2⟨rfl,F⟩;have P2:=hxy (P1.below F);clear F P1;clear s0 s1 X Y Z r0 r1 r2 r3 K L M N Q U rl;rw[aM.out];obtain⟨⟨s0,s1⟩,⟨X,Y,Z⟩,r0,r1,r2,r3⟩:=CP P2;obtain⟨K,L,M,N,Q,U⟩:=Aq P2.I;have rl:=P2.R.1;go_wp2_with fail;refine(JJ bA cA V z c u2 (H2.below P2.bel H2.lt)).mono ?_;rintro e u3⟨g,cg,hg,rfl,F,hG⟩;have P3:=hxy (P2.below F);have ab:=hxy hG;have og:w.heap.size+1+1+1<g:=Nat.lt_of_lt_of_le P2.R.1 hg;clear F hG hg P2;clear s0 s1 X Y Z r0 r1 r2 r3 K L M N Q U rl;obtain⟨⟨s0,s1⟩,⟨X,Y,Z⟩,r0,r1,r2,r3⟩:=CP P3;obtain⟨K,L,M,N,Q,U⟩:=Aq P3.I;have rl:=P3.R.1;have lg:=ab.lt;go_upto_region 4 with fail;clear s0 s1 X Y Z r0 r1 r2 r3 K L M N Q U rl;clear lg;obtain⟨u4,aC,b4,e4,f4⟩:∃v,u3.alloc (.cells #[.slice (some ⟨g,0,none⟩) 8 cg,.int .i64 z,.int .i64 c] 142)=v/\Bw u3 v/\Cl v u3.heap.size [.slice (some ⟨g,0,none⟩) 8 cg,.int .i64 z,.int .i64 c]/\(∀i,v.frozen? ⟨u3.heap.size,i,none⟩=false):=⟨_,rfl,Ah,Cl.new,fun i=>by simp[go_sem]⟩
 rw[aC];clear aC;have P4:=hxy (P3.below b4);have ag:=hxy (ab.below b4 ab.lt);have on:=ab.lt;have ah:=hxy e4;have ap:=hxy f4;clear b4 e4 f4 P3 ab;generalize u3.heap.size=no at *;obtain⟨⟨s0,s1⟩,⟨X,Y,Z⟩,r0,r1,r2,r3⟩:=CP P4;obtain⟨K,L,M,N,Q,U⟩:=Aq P4.I;have rl:=P4.R.1;have aS:=P4.I.1;go_wp2_with fail;refine(DJ n _).mono ?_;rintro e j⟨rfl,C⟩;rw[C];clear C;have HX:=hxy (H2.below P4.bel H2.lt);obtain⟨x0,x1,x2,x3,x4,x5⟩:=CY HX l ha;obtain⟨y0,y1,y2,y3,y4,y5⟩:=CY HX r hb;have aR:=P4.A.1;have aT:=HX.lt;go_upto_region 9 with fail;clear s0 s1 X Y Z r0 r1 r2 r3 K L M N Q U rl;clear aR aS aT x0 x1 x2 x3 x4 x5 y0 y1 y2 y3 y4 y5 HX;obtain⟨u5,aD,p5⟩:∃v,(u4.alloc (.cells #[.int .i64 (V l).k,.bool (V l).s,.int .i64 (V l).m,.int .i64 (V l).h,.int .i64 (V l).lo,.int .i64 (V l).hi] 95)).alloc (.cells #[.int .i64 (V r).k,.bool (V r).s,.int .i64 (V r).m,.int .i64 (V r).h,.int .i64 (V r).lo,.int .i64 (V r).hi] 95)=v/\Lb w v bA cA g cg z c n (di:Int) (l:Int) (r:Int) D (q:Int) no z c u4.heap.size (u4.heap.size+1) (V l) (V r) V:=by
  have b1:=(Below.refl u4.heap.size u4).alloc (Nat.le_refl _) (.cells #[.int .i64 (V l).k,.bool (V l).s,.int .i64 (V l).m,.int .i64 (V l).h,.int .i64 (V l).lo,.int .i64 (V l).hi] 95);have e1:=Cl.new (w:=u4) (vs:=#[.int .i64 (V l).k,.bool (V l).s,.int .i64 (V l).m,.int .i64 (V l).h,.int .i64 (V l).lo,.int .i64 (V l).hi]) (t:=95);generalize hy:u4.alloc (.cells #[.int .i64 (V l).k,.bool (V l).s,.int .i64 (V l).m,.int .i64 (V l).h,.int .i64 (V l).lo,.int .i64 (V l).hi] 95)=y at *;have s1:y.heap.size=u4.heap.size+1:=by rw[<-hy];simp
  clear hy;have b2:=(Below.refl y.heap.size y).alloc (Nat.le_refl _) (.cells #[.int .i64 (V r).k,.bool (V r).s,.int .i64 (V r).m,.int .i64 (V r).h,.int .i64 (V r).lo,.int .i64 (V r).hi] 95);have e2:=Cl.new (w:=y) (vs:=#[.int .i64 (V r).k,.bool (V r).s,.int .i64 (V r).m,.int .i64 (V r).h,.int .i64 (V r).lo,.int .i64 (V r).hi]) (t:=95);rw[s1]at e2;have bb:=b1.trans (b2.mono b1.size);have p:=P4.below bb;have aF:=ah.1;exact⟨_,rfl,p.bel,p.A,p.I,p.R,p.RF,ah.below bb,fun i=>(bb.frozen (p:=⟨no,i,none⟩) aF).trans (ap i),e1.below b2,e2,ag.below bb ag.lt,og,on,aF,AB⟩
 rw[aD];clear aD P4 ag ah ap;obtain⟨na,aA⟩:=BG (u4.heap.size);obtain⟨nb,aB⟩:=BG (u4.heap.size+1);rw[aB]at p5⊢;rw[aA]at p5⊢;clear aA aB;have B:=hxy p5;clear p5;obtain⟨X,Y,Z⟩:=OX B.A;obtain⟨K,L,M,N,Q,U⟩:=Aq B.I;obtain⟨x0,x1,x2,x3,x4,x5⟩:=JN B.a;obtain⟨y0,y1,y2,y3,y4,y5⟩:=JN B.b;obtain⟨q0,q1,q2⟩:=OX B.O;obtain⟨r0,r1,r2,r3⟩:=OP B.R;have rf:=B.RF;have rl:=B.R.1;have of:=B.OF;have ol:=B.O.1;go_cut [11](fun an wx=>(∃t:Bool,an=.bool t)/\wx=u5)
 case first=>as_aux_lemma=>
  go_wp2_with fail;refine(Dy (Ag n) 65 _ (Cf n) Aa Aa).mono ?_;rintro e j⟨rfl,C⟩;rw[C];clear C;obtain⟨aP,af⟩:=BG (BN (Ag n) 65);rw[af];clear af;cases has_:(V l).s<;>rw[has_]at x1<;>cases aP
  ·
   go_wp2_with fail;refine(Dy (Ag n) 66 _ (Cf n) Aa Aa).mono ?_;rintro e j⟨rfl,C⟩;rw[C];clear C;obtain⟨ac,E⟩:=BG (BN (Ag n) 66);rw[E];clear E;cases ac
   ·go_wp2
    go_meet;exact⟨⟨_,rfl⟩,rfl⟩
   ·go_wp2
    go_meet;exact⟨⟨_,rfl⟩,rfl⟩
  ·
   go_wp2_with fail;refine(Dy (Ag n) 66 _ (Cf n) Aa Aa).mono ?_;rintro e j⟨rfl,C⟩;rw[C];clear C;obtain⟨ac,E⟩:=BG (BN (Ag n) 66);rw[E];clear E;cases ac
   ·go_wp2
    go_meet;exact⟨⟨_,rfl⟩,rfl⟩
   ·go_wp2
    go_meet;exact⟨⟨_,rfl⟩,rfl⟩
  ·
   go_wp2_with fail;refine(Dy (Ag n) 66 _ (Cf n) Aa Aa).mono ?_;rintro e j⟨rfl,C⟩;rw[C];clear C;obtain⟨ac,E⟩:=BG (BN (Ag n) 66);rw[E];clear E;cases ac
   ·go_wp2
    go_meet;exact⟨⟨_,rfl⟩,rfl⟩
   ·go_wp2
    go_meet;exact⟨⟨_,rfl⟩,rfl⟩
  ·go_wp2
   go_meet;exact⟨⟨_,rfl⟩,rfl⟩
 case rest=>
 obtain⟨⟨t,rfl⟩,C⟩:=hcut;rw[C];clear C;go_upto_if 113 with fail;go_cut [11](fun an wx=>(∃t:Bool,an=.bool t)/\wx=u5)
 case first=>as_aux_lemma=>
  by_cases aa:n=15
  ·subst aa
   by_cases f0:c=0
   ·have e0:(c==0)=true:=by simp[f0]
    go_wp2;refine bodyPost_ret (v:=.agg #[.int .i64 1,.slice none 0 0,.int .i64 0,.int .i64 0]) (by simp[results,Tryz.results142,go_sem, *]) rfl ⟨1,V,z,c,Or.inl ⟨Aa,rfl⟩,fun e=>absurd e Aa,fun o=>absurd o Aa,?_⟩
    (iterate 4 refine Below.setCell ?_ (show w.heap.size<=w.heap.size+1+1+1 by omega) _)
    exact B.bel
   have e0:(c==0)=false:=by simp[f0]
   clear f0;cases t
   ·go_wp2
    go_meet;exact⟨⟨_,rfl⟩,rfl⟩
   ·go_wp2
    go_meet;exact⟨⟨_,rfl⟩,rfl⟩
  ·have aQ:(n==15)=false:=by simpa using aa
   clear aa;go_wp2;go_meet;exact⟨⟨_,rfl⟩,rfl⟩
 case rest=>
 obtain⟨⟨t2,rfl⟩,C⟩:=hcut;rw[C];clear C;go_upto_region 26 with fail;go_cut [129](fun aG wx=>(∃b:Bool,aG=.bool b/\(b=true->n=9))/\wx=u5)
 case first=>as_aux_lemma=>
  by_cases o9:n=9
  ·subst o9
   go_wp2;go_meet;exact⟨⟨_,rfl,fun _=>by simp⟩,rfl⟩
  ·have e9:(n==9)=false:=by simpa using o9
   clear o9;go_wp2;go_meet;exact⟨⟨_,rfl,fun e=>absurd e AY⟩,rfl⟩
 case rest=>
 obtain⟨⟨b,rfl,ay⟩,C⟩:=hcut;rw[C];clear C;have ao:=hxy ay;clear ay;cases b with
 |true=>
  go_wp2;refine bodyPost_ret (v:=.agg #[.int .i64 9,.slice none 0 0,.int .i64 0,.int .i64 0]) (by simp[results,Tryz.results142,go_sem, *]) rfl ⟨9,V,z,c,Or.inl ⟨Aa,rfl⟩,fun e=>absurd e Aa,fun o=>absurd o (by have:=ao.out AY;omega),?_⟩
  (iterate 4 refine Below.setCell ?_ (show w.heap.size<=w.heap.size+1+1+1 by omega) _)
  exact B.bel
 |false=>
 clear ao;go_wp2_with fail;refine(Dy (Ag n) 68 _ (Cf n) Aa Aa).mono ?_;rintro e j⟨rfl,C⟩;rw[C];clear C;obtain⟨bD,ai⟩:=BG (BN (Ag n) 68);rw[ai];have HU:Hid (bD=true->n<=16):=fun e=>jO av (ai.trans e)
 clear ai;go_upto_if 132 with fail;go_cut [](fun wx=>∃V',Lb w wx bA cA g cg z c n (di:Int) (l:Int) (r:Int) D (q:Int) no z c na nb (V l) (V r) V'/\∀i,i<8->GV (V' i) nH)
 case first=>as_aux_lemma=>
  cases bD
  ·go_wp2
   go_meet;exact⟨V,B,HG⟩
  ·go_upto_region 29 with fail
   clear X Y Z K L M N Q U x0 x1 x2 x3 x4 x5 y0 y1 y2 y3 y4 y5 q0 q1 q2 r0 r1 r2 r3 rf rl of ol;have q0:∀j,Bw u5 j->j.cell? ⟨no,0,none⟩=some (.slice (some ⟨g,0,none⟩) 8 cg):=fun j h=>(B.O.below h).2 0 AY
   have K:∀j,Bw u5 j->j.cell? ⟨w.heap.size+1+1,0,none⟩=some (.int .i64 n):=fun j h=>(B.I.below h).2 0 AY
   have L:∀j,Bw u5 j->j.cell? ⟨w.heap.size+1+1,1,none⟩=some (.int .i64 (di:Int)):=fun j h=>(B.I.below h).2 1 AY
   have M:∀j,Bw u5 j->j.cell? ⟨w.heap.size+1+1,2,none⟩=some (.int .i64 (l:Int)):=fun j h=>(B.I.below h).2 2 AY
   have N:∀j,Bw u5 j->j.cell? ⟨w.heap.size+1+1,3,none⟩=some (.int .i64 (r:Int)):=fun j h=>(B.I.below h).2 3 AY
   have Q:∀j,Bw u5 j->j.cell? ⟨w.heap.size+1+1,4,none⟩=some (.int .i64 D):=fun j h=>(B.I.below h).2 4 AY
   have U:∀j,Bw u5 j->j.cell? ⟨w.heap.size+1+1,5,none⟩=some (.int .i64 (q:Int)):=fun j h=>(B.I.below h).2 5 AY
   have x0:∀j,Bw u5 j->j.cell? ⟨na,0,none⟩=some (.int .i64 (V l).k):=fun j h=>(B.a.below h).2 0 AY
   have x1:∀j,Bw u5 j->j.cell? ⟨na,1,none⟩=some (.bool (V l).s):=fun j h=>(B.a.below h).2 1 AY
   have x2:∀j,Bw u5 j->j.cell? ⟨na,2,none⟩=some (.int .i64 (V l).m):=fun j h=>(B.a.below h).2 2 AY
   have x3:∀j,Bw u5 j->j.cell? ⟨na,3,none⟩=some (.int .i64 (V l).h):=fun j h=>(B.a.below h).2 3 AY
   have x4:∀j,Bw u5 j->j.cell? ⟨na,4,none⟩=some (.int .i64 (V l).lo):=fun j h=>(B.a.below h).2 4 AY
   have x5:∀j,Bw u5 j->j.cell? ⟨na,5,none⟩=some (.int .i64 (V l).hi):=fun j h=>(B.a.below h).2 5 AY
   have y0:∀j,Bw u5 j->j.cell? ⟨nb,0,none⟩=some (.int .i64 (V r).k):=fun j h=>(B.b.below h).2 0 AY
   have y1:∀j,Bw u5 j->j.cell? ⟨nb,1,none⟩=some (.bool (V r).s):=fun j h=>(B.b.below h).2 1 AY
   have y2:∀j,Bw u5 j->j.cell? ⟨nb,2,none⟩=some (.int .i64 (V r).m):=fun j h=>(B.b.below h).2 2 AY
   have y3:∀j,Bw u5 j->j.cell? ⟨nb,3,none⟩=some (.int .i64 (V r).h):=fun j h=>(B.b.below h).2 3 AY
   have y4:∀j,Bw u5 j->j.cell? ⟨nb,4,none⟩=some (.int .i64 (V r).lo):=fun j h=>(B.b.below h).2 4 AY
   have y5:∀j,Bw u5 j->j.cell? ⟨nb,5,none⟩=some (.int .i64 (V r).hi):=fun j h=>(B.b.below h).2 5 AY
   refine Ak (T:=fun j=>Bw u5 j) (s:=10) Ab Al.drew (fun hHeld=>?_);refine lS [0,1,2,3,4,5,6,7] ?_;refine Ac (i:=8) rfl Ab (fun KK hK=>?_);go_simp;refine(QT n (di:Int) (l:Int) (r:Int) D (q:Int) (V l) (V r) t2 _ ax (HU rfl) aI aJ n0 n1 aN).mono ?_;rintro e x6⟨rfl,F⟩;have bx:=(Below.refl u5.heap.size u5).drew.trans F;clear F;obtain⟨nv,aj⟩:=BG (Cr n D (V l) (V r) t2);rw[aj];have aO:Hid (GV nv nH):=by rw[<-aj];exact gK (HG l ha) (HG r hb)
   clear aj;simp only[VV.v];go_wp2_with fail;refine hK.out _ _ bx (fun ad=>?_);clear hK KK;refine BV ?_;refine BR 9 ?_;have J:=hxy (B.below bx);clear q0 K L M N Q U x0 x1 x2 x3 x4 x5 y0 y1 y2 y3 y4 y5 hHeld ad bx B;have d0:=CY J.G di hd;have gf:=J.G.free;have gl:=J.G.lt;refine Ai rfl Ab Ab (fun KK hK=>?_);go_simp;refine hK.out _ _ ?_;clear hK KK d0 gf gl;go_wp2_with fail;go_meet;exact⟨GJ V di nv,J.put hd nv,Xf HG aO⟩
 case rest=>
 obtain⟨V',p6,g6⟩:=hcut;generalize wc=u6 at *;have J:=hxy p6;have aK:=hxy g6;clear p6 g6 B HU;clear X Y Z K L M N Q U x0 x1 x2 x3 x4 x5 y0 y1 y2 y3 y4 y5 q0 q1 q2 r0 r1 r2 r3 rf rl of ol;obtain⟨X,Y,Z⟩:=OX J.A;obtain⟨K,L,M,N,Q,U⟩:=Aq J.I;obtain⟨x0,x1,x2,x3,x4,x5⟩:=JN J.a;obtain⟨y0,y1,y2,y3,y4,y5⟩:=JN J.b;obtain⟨q0,q1,q2⟩:=OX J.O;obtain⟨r0,r1,r2,r3⟩:=OP J.R;have rf:=J.RF;have rl:=J.R.1;have of:=J.OF;have ol:=J.O.1;go_upto_region 30 with fail;go_cut [165](fun aH wx=>(∃b:Bool,aH=.bool b)/\wx=u6)
 case first=>as_aux_lemma=>
  by_cases ak:n=14
  ·subst ak
   go_wp2;go_meet;exact⟨⟨_,rfl⟩,rfl⟩
  have aU:(n==14)=false:=by simpa using ak
  clear ak;by_cases aa:n=15
  ·subst aa
   go_wp2;go_meet;exact⟨⟨_,rfl⟩,rfl⟩
  have aQ:(n==15)=false:=by simpa using aa
  clear aa;by_cases al:n=16
  ·subst al
   go_wp2;go_meet;exact⟨⟨_,rfl⟩,rfl⟩
  have aV:(n==16)=false:=by simpa using al
  clear al;by_cases am:n=17
  ·subst am
   go_wp2;go_meet;exact⟨⟨_,rfl⟩,rfl⟩
  have aW:(n==17)=false:=by simpa using am
  clear am;go_wp2;go_meet;exact⟨⟨_,rfl⟩,rfl⟩
 case rest=>
 obtain⟨⟨b,rfl⟩,C⟩:=hcut;rw[C];clear C;go_upto_if 165 with fail;go_cut [](fun wx=>∃z' c':Int,Lb w wx bA cA g cg z c n (di:Int) (l:Int) (r:Int) D (q:Int) no z' c' na nb (V l) (V r) V'/\(0<=z'/\z'<=2)/\0<=c'/\c'<=2)
 case first=>as_aux_lemma=>
  cases b
  ·go_wp2
   go_meet;exact⟨z,c,J,HF⟩
  ·obtain⟨f,hf⟩:∃x:Int,(if t2=true then(2:Int)else 1)=x:=⟨_,rfl⟩
   have au:Hid (0<=f/\f<=2):=(by rw[<-hf];cases t2<;>decide:0<=f/\f<=2)
   have ar:=hxy hf;clear hf;go_wp2_with fail;refine(KF t2 _).mono ?_;rintro e j⟨rfl,C⟩;rw[C,ar.out];clear C;go_wp2_with fail;refine(KF t2 _).mono ?_;rintro e j⟨rfl,C⟩;rw[C,ar.out];clear C;go_wp2_with fail;go_meet;exact⟨f,f,J.flags rfl,au,au⟩
 case rest=>
 obtain⟨z',c',p9,hz,hc⟩:=hcut;generalize wc=u9 at *;have P9:=hxy p9;clear p9 J;clear X Y Z K L M N Q U x0 x1 x2 x3 x4 x5 y0 y1 y2 y3 y4 y5 q0 q1 q2 r0 r1 r2 r3 rf rl of ol;obtain⟨X,Y,Z⟩:=OX P9.A;obtain⟨K,L,M,N,Q,U⟩:=Aq P9.I;obtain⟨x0,x1,x2,x3,x4,x5⟩:=JN P9.a;obtain⟨y0,y1,y2,y3,y4,y5⟩:=JN P9.b;obtain⟨q0,q1,q2⟩:=OX P9.O;obtain⟨r0,r1,r2,r3⟩:=OP P9.R;have rf:=P9.RF;have rl:=P9.R.1;have of:=P9.OF;have ol:=P9.O.1;have og:=P9.o1;go_wp2;refine bodyPost_ret (v:=.agg #[.int .i64 0,.slice (some ⟨g,0,none⟩) 8 cg,.int .i64 z',.int .i64 c']) (by simp[results,Tryz.results142,go_sem, *]) rfl ⟨0,V',z',c',Or.inr ⟨rfl,g,cg,AB,rfl,?_⟩,fun _=>Uh aw aK hz hc,fun _=>rfl,?_⟩
 ·(iterate 4 refine BZ.other ?_ (show w.heap.size+1+1+1≠g by omega) _)
  exact P9.G
 ·(iterate 4 refine Below.setCell ?_ (show w.heap.size<=w.heap.size+1+1+1 by omega) _)
  exact P9.bel
end Go.Proofs.YtkckomianknjdaaGreat
namespace Go.Proofs.YtkckomianknjdaaGreat
open Go.RowKit
variable {b q t:Nat}{x y z:Value}{R u:World}
def kZ(nH:Nat)(S:Nat->HS)(nR:Nat)(V0:Nat->VV)(nA:Nat)(V:Nat->VV)(z c op d ra rb imm h:Int)(w:World)(e:Ending)(w':World):Prop:=
 ∃(err:Int)(V':Nat->VV)(z' c':Int),eU w w' e err V' z' c'/\(err=0->BQ nH S nR V0 8 V' z' c'=true)/\(BQ nH S nR V0 nA V z c=true->Ar op d ra rb imm h=true->op=2∨op=11∨op=18->err=0)/\Below w.heap.size w w'
theorem Eb(x B m:Nat)(S:Nat->HS)(y C n:Nat)(s:Nat->VV)(u A D:Nat)(V:Nat->VV)(z c l d E F j h:Int)(w:World)(O:m<=1048576)(Q:n<=1048576)(lA:D<=1048576)(K:Dl w x m S y n s)(L:BZ w u (D*6) (vF V)):
 Calls Tryz.prog 142 #[.agg #[Vs x m B,Vs y n C],.agg #[Vs u D A,Vi z,Vi c],.agg #[Vi l,Vi d,Vi E,Vi F,Vi j,Vi h]] w (kZ m S n s D V z c l d E F j h w):=by
 by_cases X:BQ m S n s D V z c=true/\Ar l d E F j h=true/\l<=28
 rotate_left
 ·refine(Lf x B m S y C n s u A D V z c l d E F j h w O Q lA K L X).mono ?_
  rintro e w'⟨rfl,U⟩;exact⟨11,V,z,c,Or.inl ⟨Aa,rfl⟩,fun e=>absurd e Aa,fun a b o=>absurd ⟨a,b,AB⟩ X,U⟩
 obtain⟨r,p,I⟩:=X;obtain⟨rfl,_,_⟩:=Ov r;obtain⟨o1,d0,d7,aa,ab,ac,ad,h0,h7,Z,n1,n2⟩:=Wu p I;obtain⟨J,rfl⟩:∃k:Nat,d=(k:Int):=⟨d.toNat,AB⟩
 obtain⟨M,rfl⟩:∃k:Nat,E=(k:Int):=⟨E.toNat,AB⟩
 obtain⟨N,rfl⟩:∃k:Nat,F=(k:Int):=⟨F.toNat,AB⟩
 obtain⟨q,rfl⟩:∃k:Nat,h=(k:Int):=⟨h.toNat,AB⟩
 have hx:Calls Tryz.prog 142 #[.agg #[Vs x m B,Vs y n C],.agg #[Vs u 8 A,Vi z,Vi c],.agg #[Vi l,Vi (J:Int),Vi (M:Int),Vi (N:Int),Vi j,Vi (q:Int)]] w (jg m S n s l w):=by
  by_cases Y:21<=l
  ·exact V8 x B m S y C n s u A V z c l j J M N q AB AB AB w O Q K L r p Y I Z n1
  by_cases os:l=19∨l=20
  ·exact Xm x B m S y C n s u A V z c l j J M N q AB AB AB w O Q K L r p os
  ·exact Wj x B m S y C n s u A V z c l j J M N q AB AB AB w O Q K L r p o1 AB Z n1 n2
 refine hx.mono ?_;rintro e w'⟨R,V',z',c',hy,ha,ho,U⟩;exact⟨R,V',z',c',hy,ha,fun _ _=>ho,U⟩
theorem Ci{p:Nat}{o:Obj}(h:u.heap[q]?=some o)(f:Fw p u R)(a:p≠q):R.heap[q]?=some o:=(f.block q (Cj.1 h).1 (fun e=>a e.symm)).trans h
theorem Bz{o:Obj}(h:u.heap[q]?=some o):q<u.heap.size:=(Cj.1 h).1
theorem Ba{o:Obj}(h:u.heap[q]?=some o)(f:Below u.heap.size u R):R.heap[q]?=some o:=(f.block q (Bz h)).trans h
theorem Bn{D:Option Nat}{o:Obj}(h:u.heap[q]?=some o)(a:u.grownBy R D)(b:D≠some q):R.heap[q]?=some o:=(a.block q (Bz h) (fun e=>b e.symm)).trans h
theorem Az{B:Nat}{e s C:Nat}{I:Value}{d:List Value}{DL:Array Value}(n:u.heap[q]?=some (.cells DL t))(l:u.ownsRow B e s I C d)(m:t≠e):I.ownBlock≠some q:=fun a=>by
 rcases l.2 with⟨b,_⟩|⟨g,h,j,b,_,c,_⟩
 ·rw[b]at a;cases a
 ·rw[b]at a
  have k:=Option.some.inj a;subst k;rw[n]at c;exact m (Obj.cells.inj (Option.some.inj c)).2.1
def V3(u:World)(b t:Nat)(x y z:Value):Prop:=u.heap[b]?=some (.cells #[x,y,z] t)
theorem V3.cells(h:V3 u b t x y z):u.cell? (Va b 0)=some x/\u.cell? (Va b 1)=some y/\u.cell? (Va b 2)=some z:=⟨(AJ h 0).trans rfl,(AJ h 1).trans rfl,(AJ h 2).trans rfl⟩
theorem V3.lt(h:V3 u b t x y z):b<u.heap.size:=Bz h
theorem V3.free(h:V3 u b t x y z):∀i,u.frozen? (Va b i)=false:=CS h
theorem V3.below(h:V3 u b t x y z)(f:Below u.heap.size u R):V3 R b t x y z:=Ba h f
theorem V3.put(h:V3 u b t x y z)(a:b≠q)(j:Nat)(v:Value):V3 (u.setCell (Va q j) v) b t x y z:=BJ h a j v
theorem V3.set(h:V3 u b t x y z)(a c d:Value):V3 (((u.setCell (Va b 0) a).setCell (Va b 1) c).setCell (Va b 2) d) b t a c d:=BK (BK (BK h 0 a) 1 c) 2 d
theorem V3.set0(h:V3 u b t x y z)(a:Value):V3 (u.setCell (Va b 0) a) b t a y z:=BK h 0 a
theorem V3.new(u:World)(t:Nat)(x y z:Value):V3 (u.alloc (.cells #[x,y,z] t)) u.heap.size t x y z:=Bh u _
def OM(a b:Int):Int:=if a=0∨b=0 then 0 else if a=2∨b=2 then 2 else 1
theorem Xe(a b:Int):0<=OM a b/\OM a b<=2:=by unfold OM;split<;>(try split)<;>omega
theorem EO(a b:Int)(w:World):Calls Tryz.prog 152 #[Vi a,Vi b] w fun e c=>e=.returned (Vi (OM a b))/\c=w:=by
 go_enter Tryz.func152,Tryz.ntmps152;go_wp2;all_goals(go_ret;refine⟨Bb ?_,rfl⟩;simp_all[OM])
theorem Jq(b:Option Addr)(n a:Nat)(z c cond:Int)(w:World):Calls Tryz.prog 140 #[.agg #[.slice b n a,Vi z,Vi c],Vi cond] w fun e d=>(∃r:Int,e=.returned (Vi r))/\Below w.heap.size w d:=by
 go_enter Tryz.func140,Tryz.ntmps140;go_wp2;all_goals(go_ret;exact⟨⟨_,rfl⟩,Ah⟩)
def Dj(err at':Int)(v:Value)(z c rounds:Int):Value:=.agg #[Vi err,Vi at',v,Vi z,Vi c,Vi rounds]
theorem Gz(c b a:Int)(w:World):Calls Tryz.prog 158 #[Vi c,Vi b,Vi a] w fun e d=>e=.returned (Dj c b (.slice none 0 0) 0 0 a)/\Below w.heap.size w d:=by
 go_enter Tryz.func158,Tryz.ntmps158;go_wp2;refine bodyPost_ret (v:=Dj c b (.slice none 0 0) 0 0 a) (by simp[results,Tryz.results158,go_sem,Dj]) rfl ⟨rfl,?_⟩;exact Ah
theorem MJ{n:Nat}{V:Nat->VV}(h:BZ u b (n*6) (vF V))(a:q<n):u.cell? (Va b (q*6))=some (Vi (V q).k)/\u.cell? (Va b (q*6+1))=some (.bool (V q).s)/\u.cell? (Va b (q*6+2))=some (Vi (V q).m)/\u.cell? (Va b (q*6+3))=some (Vi (V q).h)/\u.cell? (Va b (q*6+4))=some (Vi (V q).lo)/\u.cell? (Va b (q*6+5))=some (Vi (V q).hi):=
 ⟨(h.cell (i:=q*6+0) AB).trans (congrArg some (Cq V q 0 AB)),(h.cell (i:=q*6+1) AB).trans (congrArg some (Cq V q 1 AB)),(h.cell (i:=q*6+2) AB).trans (congrArg some (Cq V q 2 AB)),(h.cell (i:=q*6+3) AB).trans (congrArg some (Cq V q 3 AB)),(h.cell (i:=q*6+4) AB).trans (congrArg some (Cq V q 4 AB)),(h.cell (i:=q*6+5) AB).trans (congrArg some (Cq V q 5 AB))⟩
theorem Tt(L X:Nat)(V:Nat->VV)(z c:Int)(M Y:Nat)(U:Nat->VV)(z' S:Int)(w:World)(hA:BZ w L (8*6) (vF V))(hB:BZ w M (8*6) (vF U)):
 Calls Tryz.prog 171 #[.agg #[Vs L 8 X,Vi z,Vi c],.agg #[Vs M 8 Y,Vi z',Vi S]] w fun e w'=>(∃r:Bool,e=.returned (.bool r))/\Below w.heap.size w w':=by
 have HA:=hxy hA;have HB:=hxy hB;clear hA hB;go_enter Tryz.func171,Tryz.ntmps171;go_upto_region 1 with fail;obtain⟨u,hu,Z,pb,R⟩:∃y,(w.alloc (.cells #[Vs L 8 X,Vi z,Vi c] 142)).alloc (.cells #[Vs M 8 Y,Vi z',Vi S] 142)=y/\V3 y w.heap.size 142 (Vs L 8 X) (Vi z) (Vi c)/\V3 y (w.heap.size+1) 142 (Vs M 8 Y) (Vi z') (Vi S)/\Bw w y:=by
  refine⟨_,rfl,(V3.new _ _ _ _ _).below Ah,?_,(Ah).alloc AY _⟩;have:=V3.new (w.alloc (.cells #[Vs L 8 X,Vi z,Vi c] 142)) 142 (Vs M 8 Y) (Vi z') (Vi S);simpa using this
 rw[hu];have O:=hxy (HA.below R HA.lt);have Q:=hxy (HB.below R HB.lt);have b:=hxy R;obtain⟨h,a1,a2⟩:=Z.cells;obtain⟨l,b1,b2⟩:=pb.cells;have j:=Z.lt;have m:=pb.lt;have PA:=hxy Z;have PB:=hxy pb;clear hu Z pb R;obtain⟨ba,aa⟩:=BG w.heap.size;obtain⟨bb,ab⟩:=BG (w.heap.size+1);rw[ab]at PB l b1 b2 m⊢;rw[aa]at PA h a1 a2 j⊢;go_wp2
 ·go_ret
  exact⟨⟨_,rfl⟩,b⟩
 rotate_left
 ·go_ret
  exact⟨⟨_,rfl⟩,b⟩
 clear h a1 a2 l b1 b2 j m;go_loopw [5](fun i wr=>∃k:Nat,k<=8/\i=Vi k/\Bw u wr)(fun i _=>8-(intOf i).toNat)
 case atStart=>exact⟨0,AB,rfl,Below.refl _ _⟩
 case round=>
  obtain⟨k,hk,rfl,a⟩:=hrel;have d:=hxy a;by_cases N:k<8
  ·obtain⟨h,_,_⟩:=(PA.below a).cells
   obtain⟨l,_,_⟩:=(PB.below a).cells;have j:=(PA.below a).lt;have m:=(PB.below a).lt;obtain⟨n,o,p,q,s,A⟩:=MJ (O.below a O.lt) N;obtain⟨B,C,D,E,F,I⟩:=MJ (Q.below a Q.lt) N;have J:=(O.below a O.lt).lt;have K:=(Q.below a Q.lt).lt;have ac:(k:Int)<8:=AB;clear a;obtain⟨x,hx⟩:∃y:VV,V k=y:=⟨_,rfl⟩
   obtain⟨y,hy⟩:∃y:VV,U k=y:=⟨_,rfl⟩
   rw[hx]at n o p q s A;rw[hy]at B C D E F I;obtain⟨x0,x1,x2,x3,x4,x5⟩:=x;obtain⟨y0,y1,y2,y3,y4,y5⟩:=y;dsimp only at n o p q s A B C D E F I;clear hx hy;by_cases e0:x0=y0
   rotate_left
   ·have f0:(x0==y0)=false:=by simpa using e0
    go_wp2_with fail;go_quiet(fail);clear n o p q s A B C D E F I h l j m J K;go_wp2;go_ret;exact⟨⟨_,rfl⟩,b.trans ((d.trans (below_drewN Al _)).mono b.size)⟩
   subst e0;by_cases e1:x1=y1
   rotate_left
   ·have f1:(x1==y1)=false:=by simpa using e1
    go_wp2_with fail;go_quiet(fail);clear n o p q s A B C D E F I h l j m J K;go_wp2;go_ret;exact⟨⟨_,rfl⟩,b.trans ((d.trans (below_drewN Al _)).mono b.size)⟩
   subst e1;by_cases e2:x2=y2
   rotate_left
   ·have f2:(x2==y2)=false:=by simpa using e2
    go_wp2_with fail;go_quiet(fail);clear n o p q s A B C D E F I h l j m J K;go_wp2;go_ret;exact⟨⟨_,rfl⟩,b.trans ((d.trans (below_drewN Al _)).mono b.size)⟩
   subst e2;by_cases e3:x3=y3
   rotate_left
   ·have f3:(x3==y3)=false:=by simpa using e3
    go_wp2_with fail;go_quiet(fail);clear n o p q s A B C D E F I h l j m J K;go_wp2;go_ret;exact⟨⟨_,rfl⟩,b.trans ((d.trans (below_drewN Al _)).mono b.size)⟩
   subst e3;by_cases e4:x4=y4
   rotate_left
   ·have f4:(x4==y4)=false:=by simpa using e4
    go_wp2_with fail;go_quiet(fail);clear n o p q s A B C D E F I h l j m J K;go_wp2;go_ret;exact⟨⟨_,rfl⟩,b.trans ((d.trans (below_drewN Al _)).mono b.size)⟩
   subst e4;by_cases e5:x5=y5
   rotate_left
   ·have f5:(x5==y5)=false:=by simpa using e5
    go_wp2_with fail;go_quiet(fail);clear n o p q s A B C D E F I h l j m J K;go_wp2;go_ret;exact⟨⟨_,rfl⟩,b.trans ((d.trans (below_drewN Al _)).mono b.size)⟩
   subst e5;go_wp2_with fail;go_quiet(fail);clear n o p q s A B C D E F I h l j m J K;go_wp2;go_roundw
   case rel=>exact⟨k+1,AB,by go_num,d.trans (below_drewN Al _)⟩
   case measure=>simp[intOf];omega
  ·go_wp2
   go_ret;exact⟨⟨_,rfl⟩,b.trans (a.mono b.size)⟩
end Go.Proofs.YtkckomianknjdaaGreat
namespace Go.Proofs.YtkckomianknjdaaGreat
open Go.RowKit Go.Deep
variable {b:Nat}{D:Option Nat}{R u:World}
def lF(nH:Nat)(S:Nat->HS)(V0:Nat->VV)(w:World)(e:Ending)(w':World):Prop:=
 ∃(g cg:Nat)(V':Nat->VV)(z' c':Int),e=.returned (.agg #[Vs g 8 cg,Vi z',Vi c'])/\w.heap.size<=g/\BZ w' g (8*6) (vF V')/\BQ nH S 8 V0 8 V' z' c'=true/\Below w.heap.size w w'
def Ti(x:VV):List Value:=[Vi x.k,.bool x.s,Vi x.m,Vi x.h,Vi x.lo,Vi x.hi]
theorem UE(V:Nat->VV)(k:Nat):first (k*6) (vF V)++Ti (V k)=first ((k+1)*6) (vF V):=by
 unfold first
 rw[show(k+1)*6=k*6+1+1+1+1+1+1 by omega];simp only[List.range_succ,List.map_append,List.append_assoc,List.map_cons,List.map_nil];rw[<-Nat.add_zero (k*6),Cq V k 0 AB];simp only[Nat.add_zero];rw[Cq V k 1 AB,Cq V k 2 AB,Cq V k 3 AB,Cq V k 4 AB,Cq V k 5 AB];rfl
def Tn(row:Option Nat)(u u':World):Prop:=∀q,q<u.heap.size->row≠some q->u'.heap[q]?=u.heap[q]?
theorem Tn.of(h:Below u.heap.size u R):Tn D u R:=fun q a _=>h.block q a
theorem Tn.grown{E:World}(h:Below u.heap.size u R)(g:R.grownBy E D):Tn D u E:=fun q a b=>(g.block q (DY a h.size) (fun e=>b e.symm)).trans (h.block q a)
theorem V3.tn{t:Nat}{x y z:Value}(h:V3 u b t x y z)(f:Tn D u R)(a:D≠some b):V3 R b t x y z:=(f b h.lt a).trans h
theorem BZ.tn{n:Nat}{g:Nat->Value}(h:BZ u b n g)(f:Tn D u R)(d:D≠some b):∀i,i<n->R.cell? (Va b i)=some (g i):=fun i c=>(World.cell?_of_block (a:=Va b i) (f b h.lt d)).trans (h.cell c)
theorem Fa{B e s n q:Nat}{v:Value}{d:List Value}(h:u.ownsRow B e s v n d)(a:v.ownBlock=some q):B<=q:=by
 rcases h.2 with⟨b,_⟩|⟨g,c,j,b,k,_⟩
 ·rw[b]at a;cases a
 ·rw[b]at a
  have:g=q:=Option.some.inj a;omega
structure JX(w:World)(bA cA:Nat)(z c:Int)(bB cB:Nat)(z' c':Int)(ba bb br bo k:Nat)(v:Value)(J:Nat->VV)(u:World):Prop where
 bel:Below w.heap.size w u
 A:V3 u ba 142 (Vs bA 8 cA) (Vi z) (Vi c)
 B:V3 u bb 142 (Vs bB 8 cB) (Vi z') (Vi c')
 R:V3 u br 142 (.slice none 0 0) (Vi 0) (Vi 0)
 O:V3 u bo 142 v (Vi (OM z z')) (Vi (OM c c'))
 row:u.ownsRow w.heap.size 95 6 v k (first (k*6) (vF J))
 o1:w.heap.size=ba
 o2:ba<bb
 o3:bb<br
 o4:br<bo
theorem JX.below{w:World}{K cA:Nat}{z c:Int}{e M:Nat}{z' c':Int}{Q a m k:Nat}{v:Value}{J:Nat->VV}{u':World}(h:JX w K cA z c e M z' c' Q b a m k v J u)(f:Below u.heap.size u u'):JX w K cA z c e M z' c' Q b a m k v J u':=
 ⟨h.bel.trans (f.mono h.bel.size),h.A.below f,h.B.below f,h.R.below f,h.O.below f,Aw h.row f,h.o1,h.o2,h.o3,h.o4⟩
theorem Je(nH:Nat)(S:Nat->HS)(V0:Nat->VV)(C cA:Nat)(V:Nat->VV)(z c:Int)(D cB:Nat)(U:Nat->VV)(I E:Int)(w:World)(hA:BZ w C (8*6) (vF V))(hB:BZ w D (8*6) (vF U))(k1:BQ nH S 8 V0 8 V z c=true)(k2:BQ nH S 8 V0 8 U I E=true):
 Calls Tryz.prog 141 #[.agg #[Vs C 8 cA,Vi z,Vi c],.agg #[Vs D 8 cB,Vi I,Vi E]] w (lF nH S V0 w):=by
 have HA:=hxy hA;have HB:=hxy hB;have an:Hid (BQ nH S 8 V0 8 (fun i=>JS (V i) (U i)) (OM z I) (OM c E)=true):=(by
  obtain⟨q1,_,q3,_,_⟩:=Dh.1 k1;obtain⟨_,_,r3,_,_⟩:=Dh.1 k2;exact Dh.2 ⟨q1,rfl,fun i hi=>Uq (q3 i hi) (r3 i hi),Xe _ _,Xe _ _⟩:BQ nH S 8 V0 8 (fun i=>JS (V i) (U i)) (OM z I) (OM c E)=true)
 obtain⟨J,hJ⟩:∃y:Nat->VV,(fun i=>JS (V i) (U i))=y:=⟨_,rfl⟩
 rw[hJ]at an;have HJ:Hid (∀i,J i=JS (V i) (U i)):=fun i=>by rw[<-hJ]
 obtain⟨iV,gV,ao,ap,ar⟩:=info_parts L8;have ad:Hid (_/\_/\_/\_):=⟨gV,ao,ap,ar⟩
 clear hA hB k1 k2 hJ gV ao ap ar;go_enter Tryz.func141,Tryz.ntmps141;go_upto_region 1 with fail;obtain⟨u,hu,pa,pb,pr,bu⟩:∃y,((w.alloc (.cells #[Vs C 8 cA,Vi z,Vi c] 142)).alloc (.cells #[Vs D 8 cB,Vi I,Vi E] 142)).alloc (.cells #[.slice none 0 0,Vi 0,Vi 0] 142)=y/\V3 y w.heap.size 142 (Vs C 8 cA) (Vi z) (Vi c)/\V3 y (w.heap.size+1) 142 (Vs D 8 cB) (Vi I) (Vi E)/\V3 y (w.heap.size+1+1) 142 (.slice none 0 0) (Vi 0) (Vi 0)/\Bw w y:=by
  have n0:=V3.new w 142 (Vs C 8 cA) (Vi z) (Vi c);generalize hx:w.alloc (.cells #[Vs C 8 cA,Vi z,Vi c] 142)=x at *;have s0:x.heap.size=w.heap.size+1:=by rw[<-hx];simp
  have b0:Bw w x:=by rw[<-hx];exact Ah
  have n1:=V3.new x 142 (Vs D 8 cB) (Vi I) (Vi E);generalize hy:x.alloc (.cells #[Vs D 8 cB,Vi I,Vi E] 142)=y at *;have s1:y.heap.size=w.heap.size+1+1:=by rw[<-hy];simp[s0]
  have b1:Bw x y:=by rw[<-hy];exact Ah
  have n2:=V3.new y 142 (.slice none 0 0) (Vi 0) (Vi 0);have b2:Bw y (y.alloc (.cells #[.slice none 0 0,Vi 0,Vi 0] 142)):=Ah;rw[s0]at n1;rw[s1]at n2;exact⟨_,rfl,(n0.below b1).below b2,n1.below b2,n2,(b0.trans (b1.mono AB)).trans (b2.mono AB)⟩
 rw[hu];obtain⟨Y,aj⟩:=BG w.heap.size;obtain⟨Z,aw⟩:=BG (w.heap.size+1);obtain⟨M,ax⟩:=BG (w.heap.size+1+1);rw[ax]at pr⊢;rw[aw]at pb⊢;rw[aj]at pa⊢;have aJ:M<u.heap.size:=pr.lt;have BO:Hid (w.heap.size=Y/\Y<Z/\Z<M):=⟨aj,AB,AB⟩
 have PA:=hxy pa;have PB:=hxy pb;have PR:=hxy pr;have BU:=hxy bu;clear hu pa pb pr bu aj aw ax;go_cut [2,3,4,5](fun s2 s3 s4 s5 wx=>s2=Vq Y/\s3=Vq Z/\s4=Vq M/\∃L,s5=Vq L/\JX w C cA z c D cB I E Y Z M L 0 (.slice none 0 0) J wx)
 case first=>
  have a1:Cb u Y 1 (Vi z):=fun b h=>(PA.below h).cells.2.1
  have a2:Cb u Y 2 (Vi c):=fun b h=>(PA.below h).cells.2.2
  have b1:Cb u Z 1 (Vi I):=fun b h=>(PB.below h).cells.2.1
  have b2:Cb u Z 2 (Vi E):=fun b h=>(PB.below h).cells.2.2
  have ai:Hid (∀t:World,Bw u t->JX w C cA z c D cB I E Y Z M t.heap.size 0 (.slice none 0 0) J (t.alloc (.cells #[.slice none 0 0,Vi (OM z I),Vi (OM c E)] 142))):=fun t ht=>by
   have hz:=ht.size;have bz:=BU.size;have bn:Bw t (t.alloc (.cells #[.slice none 0 0,Vi (OM z I),Vi (OM c E)] 142)):=Ah;exact⟨(BU.trans (ht.mono bz)).trans (bn.mono AB),(PA.below ht).below bn,(PB.below ht).below bn,(PR.below ht).below bn,V3.new _ _ _ _ _,World.ownsRow_nil _ _ _ _,BO.1,BO.2.1,BO.2.2,AB⟩
  refine wp_region_held_drew (S:=fun b=>Bw u b) Ab Al.drew (fun _=>?_);refine lM [0,1,2,3,5,6,7,8] ?_;have d:Bw u u.drew:=Al.drew;generalize u.drew=t0 at d⊢;refine wpAnyH_ready (rs:=[4,11]) Ab AY ?_;refine AllReadyH.cons rfl (fun r l=>?_) (AllReadyH.cons rfl (fun r l=>?_) AllReadyH.nil)
  ·skip
   go_simp;refine(EO _ _ _).mono ?_;rintro e w1⟨rfl,N⟩;rw[N];clear N;refine l.out _ _ d (fun _=>?_);clear l r;try go_frame
   refine wpAnyH_ready (rs:=[9,11]) Ab AY ?_;refine AllReadyH.cons rfl (fun r l=>?_) (AllReadyH.cons rfl (fun r l=>?_) AllReadyH.nil)
   ·skip
    go_simp;refine(EO _ _ _).mono ?_;rintro e w1⟨rfl,N⟩;rw[N];clear N;refine l.out _ _ d (fun _=>?_);clear l r
    try go_frame
    refine Ao 10 ?_
    refine AO 11 rfl (fun r l=>?_)
    go_simp
    refine l.out _ _ (d.alloc d.size _) (fun _=>?_)
    clear l r
    try go_frame
    refine AO 12 rfl (fun r l=>?_)
    go_simp
    refine l.out _ _ (d.alloc d.size _) (fun _=>?_)
    clear l r
    try go_frame
    refine wpAnyH_done Ab ?_ _
    go_wp2_with fail
    go_meet
    exact⟨rfl,rfl,rfl,_,rfl,ai t0 d⟩
   ·skip
    go_simp
    refine l.out _ _ (d.alloc d.size _) (fun _=>?_)
    clear l r
    try go_frame
    refine AO 9 rfl (fun r l=>?_)
    go_simp
    refine(EO _ _ _).mono ?_
    rintro e w1⟨rfl,N⟩
    rw[N]
    clear N
    refine l.out _ _ (d.alloc d.size _) (fun _=>?_)
    clear l r
    try go_frame
    refine Ao 10 ?_
    refine AO 12 rfl (fun r l=>?_)
    go_simp
    refine l.out _ _ (d.alloc d.size _) (fun _=>?_)
    clear l r
    try go_frame
    refine wpAnyH_done Ab ?_ _
    go_wp2_with fail
    go_meet
    exact⟨rfl,rfl,rfl,_,rfl,ai t0 d⟩
  ·skip
   go_simp
   refine l.out _ _ (d.alloc d.size _) (fun _=>?_)
   clear l r
   try go_frame
   refine AO 4 rfl (fun r l=>?_)
   go_simp
   refine(EO _ _ _).mono ?_
   rintro e w1⟨rfl,N⟩
   rw[N]
   clear N
   refine l.out _ _ (d.alloc d.size _) (fun _=>?_)
   clear l r
   try go_frame
   refine AO 9 rfl (fun r l=>?_)
   go_simp
   refine(EO _ _ _).mono ?_
   rintro e w1⟨rfl,N⟩
   rw[N]
   clear N
   refine l.out _ _ (d.alloc d.size _) (fun _=>?_)
   clear l r
   try go_frame
   refine Ao 10 ?_
   refine AO 12 rfl (fun r l=>?_)
   go_simp
   refine l.out _ _ (d.alloc d.size _) (fun _=>?_)
   clear l r
   try go_frame
   refine wpAnyH_done Ab ?_ _
   go_wp2_with fail
   go_meet
   exact⟨rfl,rfl,rfl,_,rfl,ai t0 d⟩
 case rest=>
 obtain⟨rfl,rfl,rfl,L,rfl,fx⟩:=hcut
 have X0:=hxy fx
 clear fx PA PB PR BU
 generalize wc=u1 at X0⊢
 go_wp2_with fail
 go_loopw [6](fun iv wr=>∃(k:Nat)(v:Value),iv=Vi k/\k<=8/\JX w C cA z c D cB I E Y Z M L k v J wr)(fun iv _=>8-(intOf iv).toNat)
 case atStart=>exact⟨0,_,rfl,AB,X0⟩
 case round=>
  clear X0
  obtain⟨k,v,rfl,hk,x⟩:=hrel
  have X:=hxy x
  clear x
  obtain⟨K,F,hv⟩:=BA X.row
  subst hv
  by_cases aK:k<8
  rotate_left
  ·obtain rfl:k=8:=AB
   obtain⟨g,cg,hv⟩:=GN X.row AB
   obtain⟨rfl,rfl⟩:K=some ⟨g,0,none⟩/\F=cg:=by simpa using hv
   have RW:=hxy X.row
   have c0:=X.O.cells
   have r0:=X.R.cells
   have rf:=X.R.free
   have rl:=X.R.lt
   have ol:=X.O.lt
   have al:g≠M:=fun e=>Az X.R RW Aa (by rw[e];rfl)
   have aH:w.heap.size<=M:=by have:=X.o1;have:=X.o2;have:=X.o3;omega
   have aA:=hxy X.bel
   have rg:w.heap.size<=g:=(RW.lt _ rfl).1
   clear X hv
   go_wp2_with fail
   refine bodyPost_ret (v:=.agg #[Vs g 8 F,Vi (OM z I),Vi (OM c E)]) (by simp[results,Tryz.results141,go_sem, *]) rfl ⟨g,F,J,OM z I,OM c E,rfl,rg,?_,an,?_⟩
   ·exact(((Mw RW).other (a:=Va M 0) (fun e=>al e.symm) _).other (a:=Va M 1) (fun e=>al e.symm) _).other (a:=Va M 2) (fun e=>al e.symm) _
   ·(iterate 3 refine Below.setCell ?_ aH _)
    exact aA
  have aI:(k:Int)<8:=AB
  have aN:L<wr.heap.size:=X.O.lt
  have wl:w.heap.size<=wr.heap.size:=X.bel.size
  have wo:w.heap.size<=L:=by have:=X.o1;have:=X.o2;have:=X.o3;have:=X.o4;omega
  have RA:=hxy (HA.below X.bel HA.lt)
  have RB:=hxy (HB.below X.bel HB.lt)
  have n0:(Value.slice K k F).ownBlock≠some Y:=Az X.A X.row Aa
  have n1:(Value.slice K k F).ownBlock≠some Z:=Az X.B X.row Aa
  have n2:(Value.slice K k F).ownBlock≠some M:=Az X.R X.row Aa
  have n3:(Value.slice K k F).ownBlock≠some L:=Az X.O X.row Aa
  have n4:(Value.slice K k F).ownBlock≠some C:=fun e=>by have:=Fa X.row e;have:=HA.lt;omega
  have n5:(Value.slice K k F).ownBlock≠some D:=fun e=>by have:=Fa X.row e;have:=HB.lt;omega
  have NE:Hid ((Value.slice K k F).ownBlock≠some Y/\(Value.slice K k F).ownBlock≠some Z/\(Value.slice K k F).ownBlock≠some M/\(Value.slice K k F).ownBlock≠some L):=⟨n0,n1,n2,n3⟩
  obtain⟨n,ac⟩:=BG ((Value.slice K k F).ownBlock)
  rw[ac]at n0 n1 n2 n3 n4 n5
  have aC:=hxy ac
  clear ac
  have o0:∀b,Tn n wr b->b.cell? (Va L 0)=some (.slice K k F):=fun b h=>(X.O.tn h n3).cells.1
  have a0:∀b,Tn n wr b->b.cell? (Va Y 0)=some (Vs C 8 cA):=fun b h=>(X.A.tn h n0).cells.1
  have b0:∀b,Tn n wr b->b.cell? (Va Z 0)=some (Vs D 8 cB):=fun b h=>(X.B.tn h n1).cells.1
  have g0:∀b,Tn n wr b->b.cell? (Va C (k*6))=some (Vi (V k).k):=fun b h=>(RA.tn h n4 (k*6+0) AB).trans (congrArg some (Cq V k 0 AB))
  have g1:∀b,Tn n wr b->b.cell? (Va C (k*6+1))=some (.bool (V k).s):=fun b h=>(RA.tn h n4 (k*6+1) AB).trans (congrArg some (Cq V k 1 AB))
  have g2:∀b,Tn n wr b->b.cell? (Va C (k*6+2))=some (Vi (V k).m):=fun b h=>(RA.tn h n4 (k*6+2) AB).trans (congrArg some (Cq V k 2 AB))
  have g3:∀b,Tn n wr b->b.cell? (Va C (k*6+3))=some (Vi (V k).h):=fun b h=>(RA.tn h n4 (k*6+3) AB).trans (congrArg some (Cq V k 3 AB))
  have g4:∀b,Tn n wr b->b.cell? (Va C (k*6+4))=some (Vi (V k).lo):=fun b h=>(RA.tn h n4 (k*6+4) AB).trans (congrArg some (Cq V k 4 AB))
  have g5:∀b,Tn n wr b->b.cell? (Va C (k*6+5))=some (Vi (V k).hi):=fun b h=>(RA.tn h n4 (k*6+5) AB).trans (congrArg some (Cq V k 5 AB))
  have q0:∀b,Tn n wr b->b.cell? (Va D (k*6))=some (Vi (U k).k):=fun b h=>(RB.tn h n5 (k*6+0) AB).trans (congrArg some (Cq U k 0 AB))
  have q1:∀b,Tn n wr b->b.cell? (Va D (k*6+1))=some (.bool (U k).s):=fun b h=>(RB.tn h n5 (k*6+1) AB).trans (congrArg some (Cq U k 1 AB))
  have q2:∀b,Tn n wr b->b.cell? (Va D (k*6+2))=some (Vi (U k).m):=fun b h=>(RB.tn h n5 (k*6+2) AB).trans (congrArg some (Cq U k 2 AB))
  have q3:∀b,Tn n wr b->b.cell? (Va D (k*6+3))=some (Vi (U k).h):=fun b h=>(RB.tn h n5 (k*6+3) AB).trans (congrArg some (Cq U k 3 AB))
  have q4:∀b,Tn n wr b->b.cell? (Va D (k*6+4))=some (Vi (U k).lo):=fun b h=>(RB.tn h n5 (k*6+4) AB).trans (congrArg some (Cq U k 4 AB))
  have q5:∀b,Tn n wr b->b.cell? (Va D (k*6+5))=some (Vi (U k).hi):=fun b h=>(RB.tn h n5 (k*6+5) AB).trans (congrArg some (Cq U k 5 AB))
  go_upto_region 5 with fail
  refine Ak (T:=fun b=>Tn n wr b) (s:=16) Ab (Tn.of Al.drew) (fun hHeld=>?_)
  have ae:Bw wr wr.drew:=Al.drew
  generalize wr.drew=t0 at ae hHeld⊢
  refine lS [0,1,2,3,4,5,6,7,8,9,10,11] ?_
  refine Ac (i:=12) rfl Ab (fun r l=>?_)
  go_simp
  refine(Kg _ _ _ _ _ _ _ _ _ _ _ _ _).mono ?_
  rintro e t1⟨rfl,au⟩
  have af:Bw wr t1:=ae.trans (au.mono ae.size)
  refine l.out _ _ (Tn.of af) (fun _=>?_)
  clear l r au ae hHeld
  have hj:=HJ.out k
  obtain⟨j,ak⟩:∃y:VV,J k=y:=⟨_,rfl⟩
  have aB:=hxy ak
  rw[show(⟨(V k).k,(V k).s,(V k).m,(V k).h,(V k).lo,(V k).hi⟩:VV)=V k from rfl,show(⟨(U k).k,(U k).s,(U k).m,(U k).h,(U k).lo,(U k).hi⟩:VV)=U k from rfl,<-hj,ak]
  clear hj ak
  unfold VV.v
  try go_frame
  refine Ac (i:=13) rfl Ab (fun r l=>?_)
  go_simp
  obtain⟨t2,ay,av,am⟩:∃y,t1.alloc (.cells #[Vi j.k,.bool j.s,Vi j.m,Vi j.h,Vi j.lo,Vi j.hi] 95)=y/\Bw t1 y/\Hid (∀i x,(Ti j)[i]?=some x->y.cell? ((⟨t1.heap.size,0,none⟩:Addr).add i)=some x):=⟨_,rfl,Ah,Ch t1 _ _⟩
  rw[ay]
  have Q:Bw wr t2:=af.trans (av.mono af.size)
  obtain⟨tb,az⟩:=BG t1.heap.size
  rw[az]at am⊢
  refine l.out _ _ (Tn.of Q) (fun _=>?_)
  clear l r ay av az af
  try go_frame
  refine Ac (i:=14) rfl Ab (fun r l=>?_)
  refine Ey rfl (.tmp 23) (.tmp 35) 43 rfl w.heap.size 95 iV (.agg #[Vi 0,.bool false,Vi 0,Vi 0,Vi 0,Vi 0]) 6 48 Tryz.underlying43 ad.1 ad.2.1 ad.2.2.1 ad.2.2.2 rfl Aa (.slice K k F) k (first (k*6) (vF J)) rfl (Aw X.row Q) ⟨tb,0,none⟩ 1 1 (Ti j) rfl rfl am ?d2 (by unfold maxLen;omega) AB (by have:=Q.size;omega) ?_
  case d2=>
   intro x hx
   simp only[Ti,List.mem_cons,List.not_mem_nil,or_false]at hx
   rcases hx with rfl|rfl|rfl|rfl|rfl|rfl<;>rfl
  intro v' t3 aa o
  obtain⟨m0,m1,m2,m3⟩:=NE.out
  have X2:=X.below Q
  have A3:=Bn X2.A o m0
  have B3:=Bn X2.B o m1
  have R3:=Bn X2.R o m2
  have O3:V3 t3 L 142 (.slice K k F) (Vi (OM z I)) (Vi (OM c E)):=Bn X2.O o m3
  have ah:Bw w t3:=X2.bel.trans (Al.grown o X2.bel.size (fun q hq=>Fa X.row hq))
  have X3:Hid (∃ag,v'=ag/\JX w C cA z c D cB I E Y Z M L (k+1) ag J (t3.setCell (Va L 0) ag)):=⟨_,rfl,by
   have ab:t3.ownsRow w.heap.size 95 6 v' (k+1) (first ((k+1)*6) (vF J)):=by rw[<-UE,aB.out];exact aa
   refine⟨ah.setCell (p:=Va L 0) wo _,BJ A3 (by have:=X.o2;have:=X.o3;have:=X.o4;omega) _ _,BJ B3 (by have:=X.o3;have:=X.o4;omega) _ _,BJ R3 (by have:=X.o4;omega) _ _,O3.set0 _,CK ab (Az O3 ab Aa) _ _,X.o1,X.o2,X.o3,X.o4⟩⟩
  have aG:t3.cell? (Va L 0)=some (.slice K k F):=O3.cells.1
  have aE:=O3.free
  have aF:=O3.lt
  have hT:Tn n wr t3:=Tn.grown Q (by rw[<-aC.out];exact o)
  obtain⟨sa,aM,rfl⟩:=BA aa
  obtain⟨ag,aD,X4⟩:=X3.out
  subst aD
  have X4:=hxy X4
  refine l.out _ _ hT (fun _=>?_)
  clear l r aa o m0 m1 m2 m3 X2 A3 B3 R3 O3 ah X3 o0 a0 b0 g0 g1 g2 g3 g4 g5 q0 q1 q2 q3 q4 q5 hT Q
  try go_frame
  refine BR 15 ?_
  refine Ai rfl Ab Ab (fun r l=>?_)
  go_simp
  refine l.out _ _ ?_
  clear l r aG aE aF
  go_wp2_with fail
  go_roundw
  case rel=>exact⟨k+1,_,by go_num,AB,X4⟩
  case measure=>simp[intOf];omega
end Go.Proofs.YtkckomianknjdaaGreat
