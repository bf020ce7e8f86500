import Derived.Test.YtcjnmdgomocpgaaGreatDoorOfTransSpS
set_option maxHeartbeats 32000000
set_option maxRecDepth 20000
namespace Go.Proofs.YtcjnmdgomocpgaaGreatDoor
section
open Go.RowKit
def Fe(V:Nat->VV)(i:Nat):VV:=if i<8 then V i else zV
theorem Lp{w:World}{b:Nat}{V:Nat->VV}(h:Ak w b (8*6) (vF V)):Ak w b (8*6) (vF (Fe V)):=h.congr (fun i a=>by
 unfold vF Fe;rw[if_pos AB])
def Ld(nH:Nat)(S:Nat->HS)(nR:Nat)(V:Nat->VV)(L:Nat->SV)(n:Nat):CR:=
 if Db nH S nR V=true then(if Hq L n then ET ⟨nH,S,V⟩ (seg L 0 n) 0 ⟨Fe V,0,0⟩ 0 else .bad 12 0)else .bad 11 0
theorem Ja{o:Nat}{S:Nat->HS}{J:Nat}{V:Nat->VV}(h:Db o S J V=true):J=8/\o<=8/\JD ⟨o,S,V⟩ ⟨Fe V,0,0⟩:=by
 have a:=h;unfold Db at a;simp only[Bool.and_eq_true]at a;have c:BK o S J V J V 0 0=true:=by
  unfold BK;rw[h,a.2];decide
 obtain⟨j,d,e,_,_⟩:=Co.1 c;subst d;exact⟨rfl,NY h,Co.2 ⟨h,rfl,fun i b=>by show GV (Fe V i) o;unfold Fe;rw[if_pos b];exact e i b,⟨Int.le_refl 0,show(0:Int)<=2 by decide⟩,Int.le_refl 0,show(0:Int)<=2 by decide⟩,fun i b=>by show Fe V i=zV;unfold Fe;rw[if_neg AB]⟩
def wX(R:CR)(w:World)(e:Ending)(w':World):Prop:=
 Below w.heap.size w w'/\((∃err at',R=.bad err at'/\e=.returned (.agg #[Vi err,Vi at',.slice none 0 0,Vi 0,Vi 0]))∨∃F r g cg,R=.ok F r/\w.heap.size<=g/\e=.returned (.agg #[Vi 0,Vi 0,Vs g 8 cg,Vi F.z,Vi F.c])/\Ak w' g (8*6) (vF F.V))
end
section
open Go.RowKit Go.Deep
theorem fE(bH cH nH:Nat)(S:Nat->HS)(bR cR nR:Nat)(V0:Nat->VV)(bA cA:Nat)(V:Nat->VV)(z c j B:Int)(N l n q:Nat)(hd:N<8)(ha:l<8)(hb:n<8)(w:World)(lH:nH<=1048576)(lR:nR<=1048576)(h1:Ck w bH nH S bR nR V0)(h2:Ak w bA (8*6) (vF V))(af:BK nH S nR V0 8 V z c=true)(ay:BF j (N:Int) (l:Int) (n:Int) B (q:Int)=true)(o1:1<=j)(aU:j<=18)(n0: -1000000<=B)(n1:B<=1000000)(n2:j=12∨j=13->0<=B/\B<=63):
 Ks 64 #[.agg #[Vs bH nH cH,Vs bR nR cR],.agg #[Vs bA 8 cA,Vi z,Vi c],.agg #[Vi j,Vi (N:Int),Vi (l:Int),Vi (n:Int),Vi B,Vi (q:Int)]] w (xQ (TN nH S nR V0 8 V z c j (N:Int) (l:Int) (n:Int) B (q:Int)) (Pj S V z c j (N:Int) (l:Int) (n:Int) B (q:Int)) (Mc V z c j (l:Int) (n:Int) z) (Mc V z c j (l:Int) (n:Int) c) w):=by
 obtain⟨er,ax⟩:=Au ((TN nH S nR V0 8 V z c j (N:Int) (l:Int) (n:Int) B (q:Int)));rw[ax];obtain⟨W,hW⟩:=Au (Pj S V z c j (N:Int) (l:Int) (n:Int) B (q:Int));rw[hW];have aM:=hxy hW;obtain⟨zz,aA⟩:=Au (Mc V z c j (l:Int) (n:Int) z);rw[aA];have aN:=hxy aA;obtain⟨cc,aw⟩:=Au (Mc V z c j (l:Int) (n:Int) c);rw[aw];have aE:=hxy aw;clear hW aA aw;have HE:Hid (FL j (Jw j z c) (Gi V j z c l n) (A8 j B (q:Int) (Gl V j l) (Gb V j n) (V N) (S q))=er):=(Sc af ay AB).symm.trans ax;clear ax;have H1:=hxy h1;have H2:=hxy h2;have a7:=hxy af;have a3:=hxy ay;have aY:=hxy (Ec ((FR af).2.2 l ha));have aZ:=hxy (Ec ((FR af).2.2 n hb));have bj:decide (21<=j)=false:=by simp;omega
 have bk:decide (29<=j)=false:=by simp;omega
 have M:=hxy o1;have C:=hxy aU;have a4:=hxy n2;have bh:(j==19)=false:=by simp;omega
 have bi:(j==20)=false:=by simp;omega
 clear n2;clear h1 h2 af ay o1 aU;have bl:(l:Int)<8:=AB;have bm:(n:Int)<8:=AB;have bn:(N:Int)<8:=AB;go_enter Tryz.func64,Tryz.ntmps64;go_upto_region 1 with fail;obtain⟨u,hu,pu⟩:=Ny w bH nH cH bR nR cR bA 8 cA (z:=z) (c:=c) (op:=j) (d:=(N:Int)) (ra:=(l:Int)) (rb:=(n:Int)) (imm:=B) (h:=(q:Int));rw[hu];have P0:=hxy pu;clear hu pu;obtain⟨⟨s0,s1⟩,⟨a0,a1,a2⟩,r0,r1,r2,r3⟩:=Cc P0;obtain⟨X,Y,Z,i3,i4,i5⟩:=Aa P0.I;have rl:=P0.R.1;go_wp2_with fail;refine(GN bH cH nH S bR cR nR V0 bA cA 8 V z c u lH lR AB (H1.below P0.bel) (H2.below P0.bel H2.lt)).mono ?_;rintro e u1⟨rfl,L⟩;have P1:=hxy (P0.below L);clear L P0;clear s0 s1 a0 a1 a2 r0 r1 r2 r3 X Y Z i3 i4 i5 rl;rw[a7.out];obtain⟨⟨s0,s1⟩,⟨a0,a1,a2⟩,r0,r1,r2,r3⟩:=Cc P1;obtain⟨X,Y,Z,i3,i4,i5⟩:=Aa P1.I;have rl:=P1.R.1;go_wp2_with fail;refine(GX j (N:Int) (l:Int) (n:Int) B (q:Int) _).mono ?_;rintro e u2⟨rfl,L⟩;have P2:=hxy (P1.below L);clear L P1;clear s0 s1 a0 a1 a2 r0 r1 r2 r3 X Y Z i3 i4 i5 rl;rw[a3.out];obtain⟨⟨s0,s1⟩,⟨a0,a1,a2⟩,r0,r1,r2,r3⟩:=Cc P2;obtain⟨X,Y,Z,i3,i4,i5⟩:=Aa P2.I;have rl:=P2.R.1;go_wp2_with fail;refine(J8 bA cA V z c u2 (H2.below P2.bel H2.lt)).mono ?_;rintro e u3⟨g,cg,hg,rfl,L,hG⟩;have P3:=hxy (P2.below L);have ab:=hxy hG;have og:w.heap.size+1+1+1<g:=Ey P2.R.1 hg;clear L hG hg P2;clear s0 s1 a0 a1 a2 r0 r1 r2 r3 X Y Z i3 i4 i5 rl;obtain⟨⟨s0,s1⟩,⟨a0,a1,a2⟩,r0,r1,r2,r3⟩:=Cc P3;obtain⟨X,Y,Z,i3,i4,i5⟩:=Aa P3.I;have rl:=P3.R.1;have lg:=ab.lt;go_upto_region 4 with fail;clear s0 s1 a0 a1 a2 r0 r1 r2 r3 X Y Z i3 i4 i5 rl;clear lg;obtain⟨u4,aS,b4,e4,f4⟩:∃v,u3.alloc (.cells #[Vs g 8 cg,Vi z,Vi c] 31)=v/\Bw u3 v/\Cl v u3.heap.size [Vs g 8 cg,Vi z,Vi c]/\(∀i,v.frozen? ⟨u3.heap.size,i,none⟩=false):=⟨_,rfl,Ai,Cl.new,fun i=>by simp[go_sem]⟩
 rw[aS];clear aS;have P4:=hxy (P3.below b4);have au:=hxy (ab.below b4 ab.lt);have on:=ab.lt;have av:=hxy e4;have aF:=hxy f4;clear b4 e4 f4 P3 ab;generalize u3.heap.size=no at *;obtain⟨⟨s0,s1⟩,⟨a0,a1,a2⟩,r0,r1,r2,r3⟩:=Cc P4;obtain⟨X,Y,Z,i3,i4,i5⟩:=Aa P4.I;have rl:=P4.R.1;have bc:=P4.I.1;go_wp2_with fail;refine(DT j _).mono ?_;rintro e r⟨rfl,F⟩;rw[F];clear F;have HX:=hxy (H2.below P4.bel H2.lt);obtain⟨x0,x1,x2,x3,x4,x5⟩:=Bh HX l ha;obtain⟨y0,y1,y2,y3,y4,y5⟩:=Bh HX n hb;have ba:=P4.A.1;have bd:=HX.lt;go_upto_region 9 with fail;clear s0 s1 a0 a1 a2 r0 r1 r2 r3 X Y Z i3 i4 i5 rl;clear ba bc bd x0 x1 x2 x3 x4 x5 y0 y1 y2 y3 y4 y5 HX;obtain⟨u5,aT,p5⟩:∃v,(u4.alloc (.cells #[Vi (V l).k,.bool (V l).s,Vi (V l).m,Vi (V l).h,Vi (V l).lo,Vi (V l).hi] 47)).alloc (.cells #[Vi (V n).k,.bool (V n).s,Vi (V n).m,Vi (V n).h,Vi (V n).lo,Vi (V n).hi] 47)=v/\Ph w v bA cA g cg z c j (N:Int) (l:Int) (n:Int) B (q:Int) no z c u4.heap.size (u4.heap.size+1) (V l) (V n) V:=by
  have b1:=(Below.refl u4.heap.size u4).alloc BQ (.cells #[Vi (V l).k,.bool (V l).s,Vi (V l).m,Vi (V l).h,Vi (V l).lo,Vi (V l).hi] 47);have e1:=Cl.new (w:=u4) (vs:=#[Vi (V l).k,.bool (V l).s,Vi (V l).m,Vi (V l).h,Vi (V l).lo,Vi (V l).hi]) (t:=47);generalize hy:u4.alloc (.cells #[Vi (V l).k,.bool (V l).s,Vi (V l).m,Vi (V l).h,Vi (V l).lo,Vi (V l).hi] 47)=y at *;have s1:y.heap.size=u4.heap.size+1:=by rw[<-hy];simp
  clear hy;have b2:=(Below.refl y.heap.size y).alloc BQ (.cells #[Vi (V n).k,.bool (V n).s,Vi (V n).m,Vi (V n).h,Vi (V n).lo,Vi (V n).hi] 47);have e2:=Cl.new (w:=y) (vs:=#[Vi (V n).k,.bool (V n).s,Vi (V n).m,Vi (V n).h,Vi (V n).lo,Vi (V n).hi]) (t:=47);rw[s1]at e2;have bb:=b1.trans (b2.mono b1.size);have p:=P4.below bb;have aV:=av.1;exact⟨_,rfl,p.bel,p.A,p.I,p.R,p.RF,av.below bb,fun i=>(bb.frozen (p:=Va no i) aV).trans (aF i),e1.below b2,e2,au.below bb au.lt,og,on,aV,AB⟩
 rw[aT];clear aT P4 au av aF;obtain⟨na,aQ⟩:=Au u4.heap.size;obtain⟨nb,aR⟩:=Au (u4.heap.size+1);rw[aR]at p5⊢;rw[aQ]at p5⊢;clear aQ aR;have D:=hxy p5;clear p5;obtain⟨a0,a1,a2⟩:=QN D.A;obtain⟨X,Y,Z,i3,i4,i5⟩:=Aa D.I;obtain⟨x0,x1,x2,x3,x4,x5⟩:=KL D.a;obtain⟨y0,y1,y2,y3,y4,y5⟩:=KL D.b;obtain⟨q0,q1,q2⟩:=QN D.O;obtain⟨r0,r1,r2,r3⟩:=QO D.R;have rf:=D.RF;have rl:=D.R.1;have of:=D.OF;have ol:=D.O.1;go_cut [11](fun aB wx=>(∃t:Bool,aB=.bool t/\t=(BV (Ab j) 65&&(V l).s||BV (Ab j) 66&&(V n).s))/\wx=u5)
 case first=>as_aux_lemma=>
  go_wp2_with fail;refine(Dz (Ab j) 65 _ (Cu j) Ad Ad).mono ?_;rintro e r⟨rfl,F⟩;rw[F];clear F;obtain⟨a8,ae⟩:=Au (BV (Ab j) 65);rw[ae];have aa:=hxy ae;clear ae;cases has_:(V l).s<;>rw[has_]at x1<;>cases a8
  ·
   go_wp2_with fail;refine(Dz (Ab j) 66 _ (Cu j) Ad Ad).mono ?_;rintro e r⟨rfl,F⟩;rw[F];clear F;obtain⟨ad,E⟩:=Au (BV (Ab j) 66);rw[E];have U:=hxy E;clear E;cases ad
   ·go_wp2
    go_meet;exact⟨⟨_,rfl,by simp[aa.out,U.out,has_]⟩,rfl⟩
   ·go_wp2
    go_meet;exact⟨⟨_,rfl,by simp[aa.out,U.out,has_]⟩,rfl⟩
  ·
   go_wp2_with fail;refine(Dz (Ab j) 66 _ (Cu j) Ad Ad).mono ?_;rintro e r⟨rfl,F⟩;rw[F];clear F;obtain⟨ad,E⟩:=Au (BV (Ab j) 66);rw[E];have U:=hxy E;clear E;cases ad
   ·go_wp2
    go_meet;exact⟨⟨_,rfl,by simp[aa.out,U.out,has_]⟩,rfl⟩
   ·go_wp2
    go_meet;exact⟨⟨_,rfl,by simp[aa.out,U.out,has_]⟩,rfl⟩
  ·
   go_wp2_with fail;refine(Dz (Ab j) 66 _ (Cu j) Ad Ad).mono ?_;rintro e r⟨rfl,F⟩;rw[F];clear F;obtain⟨ad,E⟩:=Au (BV (Ab j) 66);rw[E];have U:=hxy E;clear E;cases ad
   ·go_wp2
    go_meet;exact⟨⟨_,rfl,by simp[aa.out,U.out,has_]⟩,rfl⟩
   ·go_wp2
    go_meet;exact⟨⟨_,rfl,by simp[aa.out,U.out,has_]⟩,rfl⟩
  ·go_wp2
   go_meet;exact⟨⟨_,rfl,by simp[aa.out,has_]⟩,rfl⟩
 case rest=>
 obtain⟨⟨t,rfl,ag⟩,F⟩:=hcut;have HT:=hxy ag;clear ag;rw[F];clear F;go_upto_if 113 with fail;go_cut [11](fun aB wx=>(∃t:Bool,aB=.bool t/\Gi V j z c l n=t/\(j=15->¬c=0))/\wx=u5)
 case first=>as_aux_lemma=>
  by_cases J:j=15
  ·subst J
   by_cases f0:c=0
   ·have e0:(c==0)=true:=by simp[f0]
    go_wp2;refine mY (.agg #[Vi 1,.slice none 0 0,Vi 0,Vi 0]) (by simp[results,Tryz.results64,go_sem, *]) ⟨Or.inl ⟨by rw[<-HE.out,FL,if_pos (show Jw 15 z c=0 from by simp[Jw,f0])];decide,by rw[<-HE.out,FL,if_pos (show Jw 15 z c=0 from by simp[Jw,f0])]⟩,?_⟩
    (iterate 4 refine Below.setCell ?_ (show w.heap.size<=w.heap.size+1+1+1 by omega) _)
    exact D.bel
   have e0:(c==0)=false:=by simp[f0]
   have aD:=hxy f0;clear f0;cases t
   ·go_wp2
    go_meet;exact⟨⟨_,rfl,by rw[Vh M.out C.out,<-HT.out];by_cases h2:c=2<;>simp[Jw,h2],fun _=>aD.out⟩,rfl⟩
   ·go_wp2
    go_meet;exact⟨⟨_,rfl,by rw[Vh M.out C.out,<-HT.out];rfl,fun _=>aD.out⟩,rfl⟩
  ·have a9:(j==15)=false:=by simpa using J
   have an:=hxy J;clear J;go_wp2;go_meet;exact⟨⟨_,rfl,by rw[Vh M.out C.out,<-HT.out,QX (by have:=C.out;omega) an.out (by have:=C.out;omega)];simp,fun o=>absurd o an⟩,rfl⟩
 case rest=>
 obtain⟨⟨t2,rfl,ag,ap⟩,F⟩:=hcut;have ac:=hxy ag;have am:=hxy ap;clear ag ap HT;rw[F];clear F;go_upto_region 26 with fail;go_cut [129](fun aW wx=>(∃b:Bool,aW=.bool b/\(b=true->j=9/\t2=true)/\(b=false->j=9->t2=false))/\wx=u5)
 case first=>as_aux_lemma=>
  by_cases o9:j=9
  ·subst o9
   go_wp2;go_meet;exact⟨⟨_,rfl,fun e=>⟨AX,e⟩,fun e _=>e⟩,rfl⟩
  ·have e9:(j==9)=false:=by simpa using o9
   have a6:=hxy o9;clear o9;go_wp2;go_meet;exact⟨⟨_,rfl,fun e=>absurd e AX,fun _ o=>absurd o a6⟩,rfl⟩
 case rest=>
 obtain⟨⟨b,rfl,aO,ao⟩,F⟩:=hcut;rw[F];clear F;have K:=hxy aO;have aC:=hxy ao;clear aO ao;cases b with
 |true=>
  go_wp2;refine mY (.agg #[Vi 9,.slice none 0 0,Vi 0,Vi 0]) (by simp[results,Tryz.results64,go_sem, *]) ⟨Or.inl ⟨by rw[<-HE.out,FL,if_neg (by rw[QX (by have:=K.out AX;omega) (by have:=K.out AX;omega) (by have:=K.out AX;omega)];decide),if_pos ⟨(K.out AX).1,(ac.trans (K.out AX).2)⟩];decide,by rw[<-HE.out,FL,if_neg (by rw[QX (by have:=K.out AX;omega) (by have:=K.out AX;omega) (by have:=K.out AX;omega)];decide),if_pos ⟨(K.out AX).1,(ac.trans (K.out AX).2)⟩]⟩,?_⟩
  (iterate 4 refine Below.setCell ?_ (show w.heap.size<=w.heap.size+1+1+1 by omega) _)
  exact D.bel
 |false=>
 have HR:Hid (FL j (Jw j z c) (Gi V j z c l n) (A8 j B (q:Int) (Gl V j l) (Gb V j n) (V N) (S q))=0):=by
  refine jZ ?_ ?_ (by have:=C.out;omega)
  ·by_cases J:j=15
   ·have:=am.out J
    subst J;simpa[Jw]using this
   ·rw[QX (by have:=C.out;omega) J (by have:=C.out;omega)];decide
  ·rintro⟨o9,hs⟩
   rw[ac.out,aC.out AX o9]at hs;exact absurd hs Ad
 clear K aC am;go_wp2_with fail;refine(Dz (Ab j) 68 _ (Cu j) Ad Ad).mono ?_;rintro e r⟨rfl,F⟩;rw[F];clear F;obtain⟨bD,ai⟩:=Au (BV (Ab j) 68);rw[ai];have HU:Hid (bD=true->j<=16):=fun e=>wF C (ai.trans e)
 have HD:=hxy ((Ug M C).2.2.symm.trans ai);clear ai;go_upto_if 132 with fail;go_cut [](fun wx=>Ph w wx bA cA g cg z c j (N:Int) (l:Int) (n:Int) B (q:Int) no z c na nb (V l) (V n) W)
 case first=>as_aux_lemma=>
  cases bD
  ·go_wp2
   go_meet;exact(show W=V from by rw[<-aM.out,Pj,HD.out];rfl)▸D
  ·go_upto_region 29 with fail
   clear a0 a1 a2 X Y Z i3 i4 i5 x0 x1 x2 x3 x4 x5 y0 y1 y2 y3 y4 y5 q0 q1 q2 r0 r1 r2 r3 rf rl of ol;have q0:Cb u5 no 0 (Vs g 8 cg):=fun r h=>(D.O.below h).2 0 AX
   have X:∀r,Bw u5 r->r.cell? ⟨w.heap.size+1+1,0,none⟩=some (Vi j):=fun r h=>(D.I.below h).2 0 AX
   have Y:∀r,Bw u5 r->r.cell? ⟨w.heap.size+1+1,1,none⟩=some (Vi (N:Int)):=fun r h=>(D.I.below h).2 1 AX
   have Z:∀r,Bw u5 r->r.cell? ⟨w.heap.size+1+1,2,none⟩=some (Vi (l:Int)):=fun r h=>(D.I.below h).2 2 AX
   have i3:∀r,Bw u5 r->r.cell? ⟨w.heap.size+1+1,3,none⟩=some (Vi (n:Int)):=fun r h=>(D.I.below h).2 3 AX
   have i4:∀r,Bw u5 r->r.cell? ⟨w.heap.size+1+1,4,none⟩=some (Vi B):=fun r h=>(D.I.below h).2 4 AX
   have i5:∀r,Bw u5 r->r.cell? ⟨w.heap.size+1+1,5,none⟩=some (Vi (q:Int)):=fun r h=>(D.I.below h).2 5 AX
   have x0:Cb u5 na 0 (Vi (V l).k):=fun r h=>(D.a.below h).2 0 AX
   have x1:Cb u5 na 1 (.bool (V l).s):=fun r h=>(D.a.below h).2 1 AX
   have x2:Cb u5 na 2 (Vi (V l).m):=fun r h=>(D.a.below h).2 2 AX
   have x3:Cb u5 na 3 (Vi (V l).h):=fun r h=>(D.a.below h).2 3 AX
   have x4:Cb u5 na 4 (Vi (V l).lo):=fun r h=>(D.a.below h).2 4 AX
   have x5:Cb u5 na 5 (Vi (V l).hi):=fun r h=>(D.a.below h).2 5 AX
   have y0:Cb u5 nb 0 (Vi (V n).k):=fun r h=>(D.b.below h).2 0 AX
   have y1:Cb u5 nb 1 (.bool (V n).s):=fun r h=>(D.b.below h).2 1 AX
   have y2:Cb u5 nb 2 (Vi (V n).m):=fun r h=>(D.b.below h).2 2 AX
   have y3:Cb u5 nb 3 (Vi (V n).h):=fun r h=>(D.b.below h).2 3 AX
   have y4:Cb u5 nb 4 (Vi (V n).lo):=fun r h=>(D.b.below h).2 4 AX
   have y5:Cb u5 nb 5 (Vi (V n).hi):=fun r h=>(D.b.below h).2 5 AX
   refine BH (T:=fun r=>Bw u5 r) (s:=10) AV BJ.drew (fun hHeld=>?_);refine NU [0,1,2,3,4,5,6,7] ?_;refine Ah (i:=8) rfl AV (fun KK hK=>?_);go_simp;refine(RL j (N:Int) (l:Int) (n:Int) B (q:Int) (V l) (V n) t2 _ M (HU rfl) aY aZ n0 n1 a4).mono ?_;rintro e x6⟨rfl,L⟩;obtain⟨nv,az⟩:=Au (CQ j B (V l) (V n) t2);rw[az];have a5:Hid (Df V N nv=W):=(by rw[<-aM.out,wL M.out (HU.out rfl),ac.out,az]:Df V N nv=W)
   clear az;have bx:=(Below.refl u5.heap.size u5).drew.trans L;clear L;simp only[VV.v];go_wp2_with fail;refine hK.out _ _ bx (fun ah=>?_);clear hK KK;refine Cn ?_;refine BR 9 ?_;have Q:=hxy (D.below bx);clear q0 X Y Z i3 i4 i5 x0 x1 x2 x3 x4 x5 y0 y1 y2 y3 y4 y5 hHeld ah bx D;have d0:=Bh Q.G N hd;have gf:=Q.G.free;have gl:=Q.G.lt;refine BD rfl AV AV (fun KK hK=>?_);go_simp;refine hK.out _ _ ?_;clear hK KK d0 gf gl;go_wp2_with fail;go_meet;exact a5▸Q.put hd nv
 case rest=>
 have p6:=hcut;clear hcut;generalize wc=u6 at *;have Q:=hxy p6;clear p6 D HU HD;clear a0 a1 a2 X Y Z i3 i4 i5 x0 x1 x2 x3 x4 x5 y0 y1 y2 y3 y4 y5 q0 q1 q2 r0 r1 r2 r3 rf rl of ol;obtain⟨a0,a1,a2⟩:=QN Q.A;obtain⟨X,Y,Z,i3,i4,i5⟩:=Aa Q.I;obtain⟨x0,x1,x2,x3,x4,x5⟩:=KL Q.a;obtain⟨y0,y1,y2,y3,y4,y5⟩:=KL Q.b;obtain⟨q0,q1,q2⟩:=QN Q.O;obtain⟨r0,r1,r2,r3⟩:=QO Q.R;have rf:=Q.RF;have rl:=Q.R.1;have of:=Q.OF;have ol:=Q.O.1;go_upto_region 30 with fail;go_cut [165](fun aX wx=>(∃b:Bool,aX=.bool b/\Fj j=b)/\wx=u6)
 case first=>as_aux_lemma=>
  by_cases aj:j=14
  ·subst aj
   go_wp2;go_meet;exact⟨⟨_,rfl,Ad⟩,rfl⟩
  have be:(j==14)=false:=by simpa using aj
  have aH:=hxy aj;clear aj;by_cases J:j=15
  ·subst J
   go_wp2;go_meet;exact⟨⟨_,rfl,Ad⟩,rfl⟩
  have a9:(j==15)=false:=by simpa using J
  have aI:=hxy J;clear J;by_cases ak:j=16
  ·subst ak
   go_wp2;go_meet;exact⟨⟨_,rfl,Ad⟩,rfl⟩
  have bf:(j==16)=false:=by simpa using ak
  have aJ:=hxy ak;clear ak;by_cases al:j=17
  ·subst al
   go_wp2;go_meet;exact⟨⟨_,rfl,Ad⟩,rfl⟩
  have bg:(j==17)=false:=by simpa using al
  have aK:=hxy al;clear al;go_wp2;go_meet;exact⟨⟨_,rfl,by
          have h1:=aH.out;have h2:=aI.out;have h3:=aJ.out;have h4:=aK.out;have h5:=C.out;have h6:Fj j=decide (j=18):=by unfold Fj;exact decide_eq_decide.2 AB
          rw[h6];by_cases h:j=18<;>simp[h]⟩,rfl⟩
 case rest=>
 obtain⟨⟨b,rfl,aP⟩,F⟩:=hcut;have aG:=hxy aP;clear aP;rw[F];clear F;go_upto_if 165 with fail;go_cut [](fun wx=>Ph w wx bA cA g cg z c j (N:Int) (l:Int) (n:Int) B (q:Int) no zz cc na nb (V l) (V n) W)
 case first=>as_aux_lemma=>
  cases b
  ·go_wp2
   go_meet;rw[<-aN.out,<-aE.out,Mc,Mc,aG.out];exact Q
  ·obtain⟨f,hf⟩:∃x:Int,(if t2=true then(2:Int)else 1)=x:=⟨_,rfl⟩
   have ar:=hxy hf;clear hf;go_wp2_with fail;refine(MC t2 _).mono ?_;rintro e r⟨rfl,F⟩;rw[F,ar.out];clear F;go_wp2_with fail;refine(MC t2 _).mono ?_;rintro e r⟨rfl,F⟩;rw[F,ar.out];clear F;go_wp2_with fail;go_meet;rw[<-aN.out,<-aE.out,Mc,Mc,aG.out,if_pos rfl,if_pos rfl,Int.toNat_natCast,Int.toNat_natCast,ac.out,ar.out];exact Q.flags rfl
 case rest=>
 have p9:=hcut;clear hcut;generalize wc=u9 at *;have P9:=hxy p9;clear p9 Q;clear a0 a1 a2 X Y Z i3 i4 i5 x0 x1 x2 x3 x4 x5 y0 y1 y2 y3 y4 y5 q0 q1 q2 r0 r1 r2 r3 rf rl of ol;obtain⟨a0,a1,a2⟩:=QN P9.A;obtain⟨X,Y,Z,i3,i4,i5⟩:=Aa P9.I;obtain⟨x0,x1,x2,x3,x4,x5⟩:=KL P9.a;obtain⟨y0,y1,y2,y3,y4,y5⟩:=KL P9.b;obtain⟨q0,q1,q2⟩:=QN P9.O;obtain⟨r0,r1,r2,r3⟩:=QO P9.R;have rf:=P9.RF;have rl:=P9.R.1;have of:=P9.OF;have ol:=P9.O.1;have og:=P9.o1;go_wp2;refine mY (.agg #[Vi 0,Vs g 8 cg,Vi zz,Vi cc]) (by simp[results,Tryz.results64,go_sem, *]) ⟨Or.inr ⟨by rw[<-HE.out,HR.out],g,cg,AB,rfl,?_⟩,?_⟩
 ·(iterate 4 refine Ak.other ?_ (show w.heap.size+1+1+1≠g by omega) _)
  exact P9.G
 ·(iterate 4 refine Below.setCell ?_ (show w.heap.size<=w.heap.size+1+1+1 by omega) _)
  exact P9.bel
theorem iT(bH cH nH:Nat)(S:Nat->HS)(bR cR nR:Nat)(V0:Nat->VV)(bA cA:Nat)(V:Nat->VV)(z c op imm:Int)(di ia ib q:Nat)(hd:di<8)(ha:ia<8)(hb:ib<8)(w:World)(lH:nH<=1048576)(lR:nR<=1048576)(h1:Ck w bH nH S bR nR V0)(h2:Ak w bA (8*6) (vF V))(hok:BK nH S nR V0 8 V z c=true)(hik:BF op (di:Int) (ia:Int) (ib:Int) imm (q:Int)=true)(o1:op=19∨op=20):
 Ks 64 #[.agg #[Vs bH nH cH,Vs bR nR cR],.agg #[Vs bA 8 cA,Vi z,Vi c],.agg #[Vi op,Vi (di:Int),Vi (ia:Int),Vi (ib:Int),Vi imm,Vi (q:Int)]] w (xQ (TN nH S nR V0 8 V z c op (di:Int) (ia:Int) (ib:Int) imm (q:Int)) (Pj S V z c op (di:Int) (ia:Int) (ib:Int) imm (q:Int)) (Mc V z c op (ia:Int) (ib:Int) z) (Mc V z c op (ia:Int) (ib:Int) c) w):=by
 obtain⟨er,her⟩:=Au ((TN nH S nR V0 8 V z c op (di:Int) (ia:Int) (ib:Int) imm (q:Int)));rw[her];rw[xA o1,Rq AB,Rq AB];obtain⟨W,hW⟩:=Au (Df V di (KW (V ia) (V ib) (Jw op z c)));rw[hW];have HWW:=hxy hW;clear hW;have HE:Hid (FL op (Jw op z c) (Gi V op z c ia ib) (A8 op imm (q:Int) (Gl V op ia) (Gb V op ib) (V di) (S q))=er):=(Sc hok hik AB).symm.trans her;clear her;have H1:=hxy h1;have H2:=hxy h2;have HOK:=hxy hok;have HIK:=hxy hik;have e21:decide (21<=op)=false:=by simp;omega
 have e29:decide (29<=op)=false:=by simp;omega
 have HOS:=hxy o1;clear h1 h2 hok hik o1;have ha8:(ia:Int)<8:=AB;have hb8:(ib:Int)<8:=AB;have hd8:(di:Int)<8:=AB;go_enter Tryz.func64,Tryz.ntmps64;go_upto_region 1 with fail;obtain⟨u,hu,pu⟩:=Ny w bH nH cH bR nR cR bA 8 cA (z:=z) (c:=c) (op:=op) (d:=(di:Int)) (ra:=(ia:Int)) (rb:=(ib:Int)) (imm:=imm) (h:=(q:Int));rw[hu];have P0:=hxy pu;clear hu pu;obtain⟨⟨s0,s1⟩,⟨a0,a1,a2⟩,r0,r1,r2,r3⟩:=Cc P0;have i0:=Aa P0.I;have rl:=P0.R.1;go_wp2_with fail;refine(GN bH cH nH S bR cR nR V0 bA cA 8 V z c u lH lR AB (H1.below P0.bel) (H2.below P0.bel H2.lt)).mono ?_;rintro e u1⟨rfl,hbe⟩;have P1:=hxy (P0.below hbe);clear hbe P0;clear s0 s1 a0 a1 a2 r0 r1 r2 r3 i0 rl;rw[HOK.out];obtain⟨⟨s0,s1⟩,⟨a0,a1,a2⟩,r0,r1,r2,r3⟩:=Cc P1;have i0:=Aa P1.I;have rl:=P1.R.1;go_wp2_with fail;refine(GX op (di:Int) (ia:Int) (ib:Int) imm (q:Int) _).mono ?_;rintro e u2⟨rfl,hbe⟩;have P2:=hxy (P1.below hbe);clear hbe P1;clear s0 s1 a0 a1 a2 r0 r1 r2 r3 i0 rl;rw[HIK.out];obtain⟨⟨s0,s1⟩,⟨a0,a1,a2⟩,r0,r1,r2,r3⟩:=Cc P2;have i0:=Aa P2.I;have rl:=P2.R.1;go_wp2_with fail;refine(J8 bA cA V z c u2 (H2.below P2.bel H2.lt)).mono ?_;rintro e u3⟨g,cg,hg,rfl,hbe,hG⟩;have P3:=hxy (P2.below hbe);have HG3:=hxy hG;have og:w.heap.size+1+1+1<g:=Ey P2.R.1 hg;clear hbe hG hg P2;clear s0 s1 a0 a1 a2 r0 r1 r2 r3 i0 rl;obtain⟨⟨s0,s1⟩,⟨a0,a1,a2⟩,r0,r1,r2,r3⟩:=Cc P3;have i0:=Aa P3.I;have rl:=P3.R.1;have lg:=HG3.lt;go_upto_region 4 with fail;clear s0 s1 a0 a1 a2 r0 r1 r2 r3 i0 rl;clear lg;obtain⟨u4,hu4,b4,e4,f4⟩:∃v,u3.alloc (.cells #[Vs g 8 cg,Vi z,Vi c] 31)=v/\Bw u3 v/\Cl v u3.heap.size [Vs g 8 cg,Vi z,Vi c]/\(∀i,v.frozen? ⟨u3.heap.size,i,none⟩=false):=⟨_,rfl,Ai,Cl.new,fun i=>by simp[go_sem]⟩
 rw[hu4];clear hu4;have P4:=hxy (P3.below b4);have HG4:=hxy (HG3.below b4 HG3.lt);have on:=HG3.lt;have HO4:=hxy e4;have HF4:=hxy f4;clear b4 e4 f4 P3 HG3;generalize u3.heap.size=no at *;obtain⟨⟨s0,s1⟩,⟨a0,a1,a2⟩,r0,r1,r2,r3⟩:=Cc P4;have i0:=Aa P4.I;have rl:=P4.R.1;have ul2:=P4.I.1;go_wp2_with fail;refine(DT op _).mono ?_;rintro e w'⟨rfl,hw⟩;rw[hw];clear hw;have HX:=hxy (H2.below P4.bel H2.lt);obtain⟨x0,x1,x2,x3,x4,x5⟩:=Bh HX ia ha;have y0:=Bh HX ib hb;have ul1:=P4.A.1;have ul3:=HX.lt;go_upto_region 9 with fail;clear s0 s1 a0 a1 a2 r0 r1 r2 r3 i0 rl;clear ul1 ul2 ul3 x0 x1 x2 x3 x4 x5 y0 HX;obtain⟨u5,hu5,p5⟩:∃v,(u4.alloc (.cells #[Vi (V ia).k,.bool (V ia).s,Vi (V ia).m,Vi (V ia).h,Vi (V ia).lo,Vi (V ia).hi] 47)).alloc (.cells #[Vi (V ib).k,.bool (V ib).s,Vi (V ib).m,Vi (V ib).h,Vi (V ib).lo,Vi (V ib).hi] 47)=v/\Ph w v bA cA g cg z c op (di:Int) (ia:Int) (ib:Int) imm (q:Int) no z c u4.heap.size (u4.heap.size+1) (V ia) (V ib) V:=by
  have b1:=(Below.refl u4.heap.size u4).alloc BQ (.cells #[Vi (V ia).k,.bool (V ia).s,Vi (V ia).m,Vi (V ia).h,Vi (V ia).lo,Vi (V ia).hi] 47);have e1:=Cl.new (w:=u4) (vs:=#[Vi (V ia).k,.bool (V ia).s,Vi (V ia).m,Vi (V ia).h,Vi (V ia).lo,Vi (V ia).hi]) (t:=47);generalize hy:u4.alloc (.cells #[Vi (V ia).k,.bool (V ia).s,Vi (V ia).m,Vi (V ia).h,Vi (V ia).lo,Vi (V ia).hi] 47)=y at *;have s1:y.heap.size=u4.heap.size+1:=by rw[<-hy];simp
  clear hy;have b2:=(Below.refl y.heap.size y).alloc BQ (.cells #[Vi (V ib).k,.bool (V ib).s,Vi (V ib).m,Vi (V ib).h,Vi (V ib).lo,Vi (V ib).hi] 47);have e2:=Cl.new (w:=y) (vs:=#[Vi (V ib).k,.bool (V ib).s,Vi (V ib).m,Vi (V ib).h,Vi (V ib).lo,Vi (V ib).hi]) (t:=47);rw[s1]at e2;have bb:=b1.trans (b2.mono b1.size);have p:=P4.below bb;have on2:=HO4.1;exact⟨_,rfl,p.bel,p.A,p.I,p.R,p.RF,HO4.below bb,fun i=>(bb.frozen (p:=Va no i) on2).trans (HF4 i),e1.below b2,e2,HG4.below bb HG4.lt,og,on,on2,AB⟩
 rw[hu5];clear hu5 P4 HG4 HO4 HF4;obtain⟨na,hna⟩:=Au u4.heap.size;obtain⟨nb,hnb⟩:=Au (u4.heap.size+1);rw[hnb]at p5⊢;rw[hna]at p5⊢;clear hna hnb;have P5:=hxy p5;clear p5;obtain⟨a0,a1,a2⟩:=QN P5.A;have i0:=Aa P5.I;obtain⟨x0,x1,x2,x3,x4,x5⟩:=KL P5.a;have y0:=KL P5.b;have q0:=QN P5.O;obtain⟨r0,r1,r2,r3⟩:=QO P5.R;have rf:=P5.RF;have rl:=P5.R.1;have of:=P5.OF;have ol:=P5.O.1;go_cut [11](fun s11 wx=>(∃t:Bool,s11=.bool t)/\wx=u5)
 case first=>as_aux_lemma=>
  go_wp2_with fail;refine(Dz (Ab op) 65 _ (Cu op) Ad Ad).mono ?_;rintro e w'⟨rfl,hw⟩;rw[hw];clear hw;obtain⟨bA1,hbA1⟩:=Au (BV (Ab op) 65);rw[hbA1];clear hbA1;cases has_:(V ia).s<;>rw[has_]at x1<;>cases bA1
  ·
   go_wp2_with fail;refine(Dz (Ab op) 66 _ (Cu op) Ad Ad).mono ?_;rintro e w'⟨rfl,hw⟩;rw[hw];clear hw;obtain⟨bB1,hbB1⟩:=Au (BV (Ab op) 66);rw[hbB1];clear hbB1;cases bB1
   ·go_wp2
    go_meet;exact⟨⟨_,rfl⟩,rfl⟩
   ·go_wp2
    go_meet;exact⟨⟨_,rfl⟩,rfl⟩
  ·
   go_wp2_with fail;refine(Dz (Ab op) 66 _ (Cu op) Ad Ad).mono ?_;rintro e w'⟨rfl,hw⟩;rw[hw];clear hw;obtain⟨bB1,hbB1⟩:=Au (BV (Ab op) 66);rw[hbB1];clear hbB1;cases bB1
   ·go_wp2
    go_meet;exact⟨⟨_,rfl⟩,rfl⟩
   ·go_wp2
    go_meet;exact⟨⟨_,rfl⟩,rfl⟩
  ·
   go_wp2_with fail;refine(Dz (Ab op) 66 _ (Cu op) Ad Ad).mono ?_;rintro e w'⟨rfl,hw⟩;rw[hw];clear hw;obtain⟨bB1,hbB1⟩:=Au (BV (Ab op) 66);rw[hbB1];clear hbB1;cases bB1
   ·go_wp2
    go_meet;exact⟨⟨_,rfl⟩,rfl⟩
   ·go_wp2
    go_meet;exact⟨⟨_,rfl⟩,rfl⟩
  ·go_wp2
   go_meet;exact⟨⟨_,rfl⟩,rfl⟩
 case rest=>
 obtain⟨⟨t,rfl⟩,hw⟩:=hcut;rw[hw];clear hw;go_upto_region 10 with fail;go_cut [74](fun s74 wx=>s74=.bool true/\wx=u5)
 case first=>
  rcases HOS.out with rfl|rfl
  ·go_wp2
   go_meet;exact⟨rfl,rfl⟩
  ·go_wp2
   go_meet;exact⟨rfl,rfl⟩
 case rest=>
 obtain⟨rfl,hw⟩:=hcut;rw[hw];clear hw;go_upto_if 79 with fail;go_cut [12](fun s12 wx=>(∃f:Int,s12=Vi f/\Jw op z c=f)/\wx=u5)
 case first=>
  rcases HOS.out with rfl|rfl
  ·go_wp2
   go_meet;exact⟨⟨_,rfl,by simp[Jw]⟩,rfl⟩
  ·go_wp2
   go_meet;exact⟨⟨_,rfl,by simp[Jw]⟩,rfl⟩
 case rest=>
 obtain⟨⟨f,rfl,hfe⟩,hw⟩:=hcut;have HFE:=hxy hfe;clear hfe;rw[hw];clear hw;by_cases f0:f=0
 ·have e0:(f==0)=true:=by simp[f0]
  go_wp2;refine mY (.agg #[Vi 1,.slice none 0 0,Vi 0,Vi 0]) (by simp[results,Tryz.results64,go_sem, *]) ⟨Or.inl ⟨by rw[<-HE.out,FL,if_pos (by rw[HFE.out];exact f0)];decide,by rw[<-HE.out,FL,if_pos (by rw[HFE.out];exact f0)]⟩,?_⟩
  (iterate 4 refine Below.setCell ?_ (show w.heap.size<=w.heap.size+1+1+1 by omega) _)
  exact P5.bel
 have e0:(f==0)=false:=by simp[f0]
 have HF0:=hxy f0;clear f0;go_wp2_with fail;refine(Lc (V ia).k (V ia).s (V ia).m (V ia).h (V ia).lo (V ia).hi (V ib).k (V ib).s (V ib).m (V ib).h (V ib).lo (V ib).hi _).mono ?_;rintro e u6⟨rfl,hbe⟩;obtain⟨j,hj⟩:=Au (Cg (V ia) (V ib));rw[show Cg ⟨(V ia).k,(V ia).s,(V ia).m,(V ia).h,(V ia).lo,(V ia).hi⟩ ⟨(V ib).k,(V ib).s,(V ib).m,(V ib).h,(V ib).lo,(V ib).hi⟩=j from hj];have HJ:=hxy hj;clear hj;have P6:=hxy (P5.below hbe);clear hbe P5;clear a0 a1 a2 i0 x0 x1 x2 x3 x4 x5 y0 q0 r0 r1 r2 r3 rf rl of ol;simp only[VV.v];clear e0;obtain⟨a0,a1,a2⟩:=QN P6.A;have i0:=Aa P6.I;obtain⟨x0,x1,x2,x3,x4,x5⟩:=KL P6.a;have y0:=KL P6.b;have q0:=QN P6.O;obtain⟨r0,r1,r2,r3⟩:=QO P6.R;have rf:=P6.RF;have rl:=P6.R.1;have of:=P6.OF;have ol:=P6.O.1;go_upto_region 17 with fail;clear a0 a1 a2 i0 x0 x1 x2 x3 x4 x5 y0 q0 r0 r1 r2 r3 rf rl of ol;obtain⟨u7,hu7,b7,v7⟩:∃v,u6.alloc (.cells #[Vi j.k,.bool j.s,Vi j.m,Vi j.h,Vi j.lo,Vi j.hi] 47)=v/\Bw u6 v/\Vb v u6.heap.size j:=⟨_,rfl,Ai,Vb.new u6 j⟩
 rw[hu7];clear hu7;have P7:=hxy (P6.below b7);have HV7:=hxy v7;have ov:=P6.b.1;have ov2:=P6.R.1;have ov3:=P6.O.1;have ov4:=P6.G.lt;have ov5:=P6.a.1;clear b7 v7 P6;generalize u6.heap.size=nj at *;obtain⟨a0,a1,a2⟩:=QN P7.A;have i0:=Aa P7.I;obtain⟨x0,x1,x2,x3,x4,x5⟩:=KL P7.a;have y0:=KL P7.b;have q0:=QN P7.O;obtain⟨r0,r1,r2,r3⟩:=QO P7.R;have rf:=P7.RF;have rl:=P7.R.1;have of:=P7.OF;have ol:=P7.O.1;obtain⟨t0,t1,t2,t3,t4,t5⟩:=HV7.cells;have tf:=HV7.free;have tl:=HV7.lt;go_cut [94](fun s94 wx=>(∃b:Bool,s94=.bool b/\(b=true↔f=2/\j.k=1))/\wx=u7)
 case first=>
  by_cases f2:f=2
  ·have e2:(f==2)=true:=by simp[f2]
   have HF2:=hxy f2;clear f2;by_cases jk:j.k=1
   ·have ek:(j.k==1)=true:=by simp[jk]
    have HJK:=hxy jk;clear jk;go_wp2;go_meet;exact⟨⟨_,rfl,by simp[HF2.out,HJK.out]⟩,rfl⟩
   ·have ek:(j.k==1)=false:=by simp[jk]
    have HJK:=hxy jk;clear jk;go_wp2;go_meet;exact⟨⟨_,rfl,by simp[HJK.out]⟩,rfl⟩
  ·have e2:(f==2)=false:=by simp[f2]
   have HF2:=hxy f2;clear f2;go_wp2;go_meet;exact⟨⟨_,rfl,by simp[HF2.out]⟩,rfl⟩
 case rest=>
 obtain⟨⟨b,rfl,hb2⟩,hw⟩:=hcut;have HB2:=hxy hb2;clear hb2;rw[hw];clear hw;go_upto_if 94 with fail;go_cut [](fun wx=>∃jv,Ph w wx bA cA g cg z c op (di:Int) (ia:Int) (ib:Int) imm (q:Int) no z c na nb (V ia) (V ib) V/\Vb wx nj jv/\jv=(if f=2/\j.k=1 then Al true (-1)else j))
 case first=>
  cases b
  ·go_wp2
   go_meet;exact⟨j,P7,HV7,by rw[if_neg (fun h=>absurd (HB2.2 h) Ad)]⟩
  ·go_wp2_with fail
   refine(BN true (-1) _).mono ?_;rintro e v7⟨rfl,hbe⟩;have Q7:=hxy (P7.below hbe);have HW7:Hid (Vb v7 nj j):=HV7.below hbe HV7.lt;clear hbe P7 HV7 t0 t1 t2 t3 t4 t5 tf tl;clear a0 a1 a2 i0 x0 x1 x2 x3 x4 x5 y0 q0 r0 r1 r2 r3 rf rl of ol;obtain⟨nv,hnv⟩:=Au (Al true (-1));rw[hnv];have HNV:=hxy hnv;clear hnv;simp only[VV.v];obtain⟨t0,t1,t2,t3,t4,t5⟩:=HW7.cells;have tf:=HW7.free;have tl:=HW7.lt;obtain⟨a0,a1,a2⟩:=QN Q7.A;have i0:=Aa Q7.I;obtain⟨x0,x1,x2,x3,x4,x5⟩:=KL Q7.a;have y0:=KL Q7.b;have q0:=QN Q7.O;obtain⟨r0,r1,r2,r3⟩:=QO Q7.R;have rf:=Q7.RF;have rl:=Q7.R.1;have of:=Q7.OF;have ol:=Q7.O.1;go_wp2_with fail;go_meet;exact⟨nv,Q7.asideV ov2 ov4 ov3 ov5 ov nv,OB HW7 nv,by rw[if_pos (HB2.1 AX),HNV.out]⟩
 case rest=>
 obtain⟨jv,p8,v8,hjv⟩:=hcut;have HJV:=hxy hjv;clear hjv HB2;generalize wc=u8 at *;have P8:=hxy p8;have HV8:=hxy v8;clear p8 v8 P7 HV7 t0 t1 t2 t3 t4 t5 tf tl;clear a0 a1 a2 i0 x0 x1 x2 x3 x4 x5 y0 q0 r0 r1 r2 r3 rf rl of ol;obtain⟨a0,a1,a2⟩:=QN P8.A;have i0:=Aa P8.I;obtain⟨x0,x1,x2,x3,x4,x5⟩:=KL P8.a;have y0:=KL P8.b;have q0:=QN P8.O;obtain⟨r0,r1,r2,r3⟩:=QO P8.R;have rf:=P8.RF;have rl:=P8.R.1;have of:=P8.OF;have ol:=P8.O.1;obtain⟨t0,t1,t2,t3,t4,t5⟩:=HV8.cells;have tf:=HV8.free;have tl:=HV8.lt;go_upto_region 19 with fail;go_cut [](fun wx=>∃pv,Ph w wx bA cA g cg z c op (di:Int) (ia:Int) (ib:Int) imm (q:Int) no z c na nb (V ia) (V ib) V/\Vb wx nj pv/\pv={jv with s:=jv.s||decide (f=2)})
 case first=>
  cases hjs:jv.s<;>rw[hjs]at t1
  ·have HJS:=hxy hjs
   clear hjs;by_cases f2:f=2
   ·have e2:(f==2)=true:=by simp[f2]
    have HF2:=hxy f2;clear f2;go_wp2;go_meet;exact⟨{jv with s:=true},P8.aside ov2 ov4 ov3 ov5 ov _ _,sU HV8 true,by simp[HF2.out]⟩
   ·have e2:(f==2)=false:=by simp[f2]
    have HF2:=hxy f2;clear f2;go_wp2;go_meet;exact⟨{jv with s:=false},P8.aside ov2 ov4 ov3 ov5 ov _ _,sU HV8 false,by simp[HJS.out,HF2.out]⟩
  ·have HJS:=hxy hjs
   clear hjs;go_wp2;go_meet;exact⟨{jv with s:=true},P8.aside ov2 ov4 ov3 ov5 ov _ _,sU HV8 true,by simp[HJS.out]⟩
 case rest=>
 obtain⟨pv,p9,v9,hpv⟩:=hcut;have HPV:Hid (Df V di pv=W):=(by rw[<-HWW.out,hpv,HJV.out,HFE.out,KW,HJ.out]:Df V di pv=W)
 clear hpv HJV HWW HJ;generalize wc=u9 at *;have P9:=hxy p9;have HV9:=hxy v9;clear p9 v9 P8 HV8 t0 t1 t2 t3 t4 t5 tf tl;clear a0 a1 a2 i0 x0 x1 x2 x3 x4 x5 y0 q0 r0 r1 r2 r3 rf rl of ol;obtain⟨a0,a1,a2⟩:=QN P9.A;have i0:=Aa P9.I;obtain⟨x0,x1,x2,x3,x4,x5⟩:=KL P9.a;have y0:=KL P9.b;have q0:=QN P9.O;obtain⟨r0,r1,r2,r3⟩:=QO P9.R;have rf:=P9.RF;have rl:=P9.R.1;have of:=P9.OF;have ol:=P9.O.1;obtain⟨t0,t1,t2,t3,t4,t5⟩:=HV9.cells;have tf:=HV9.free;have tl:=HV9.lt;have d0:=Bh P9.G di hd;have gf:=P9.G.free;have gl:=P9.G.lt;have og2:=P9.o2;go_upto_region 21 with fail;clear a0 a1 a2 i0 x0 x1 x2 x3 x4 x5 y0 q0 r0 r1 r2 r3 rf rl of ol;clear t0 t1 t2 t3 t4 t5 tf tl d0 gf gl;change Code.wp _ _ _ _ (Ff u9 g (di*6) pv);obtain⟨u10,hu10⟩:=Au (Ff u9 g (di*6) pv);rw[hu10];have P10:Hid (Ph w u10 bA cA g cg z c op (di:Int) (ia:Int) (ib:Int) imm (q:Int) no z c na nb (V ia) (V ib) W):=by rw[<-hu10,<-HPV.out];exact P9.put hd pv
 clear hu10 P9 HV9;obtain⟨a0,a1,a2⟩:=QN P10.A;have i0:=Aa P10.I;obtain⟨x0,x1,x2,x3,x4,x5⟩:=KL P10.a;have y0:=KL P10.b;have q0:=QN P10.O;obtain⟨r0,r1,r2,r3⟩:=QO P10.R;have rf:=P10.RF;have rl:=P10.R.1;have of:=P10.OF;have ol:=P10.O.1;have og:=P10.o1;go_wp2;refine mY (.agg #[Vi 0,Vs g 8 cg,Vi z,Vi c]) (by simp[results,Tryz.results64,go_sem, *]) ⟨Or.inr ⟨by rw[<-HE.out,jZ (by rw[HFE.out];exact HF0.out) (by have:=HOS.out;omega) (by have:=HOS.out;omega)],g,cg,AB,rfl,?_⟩,?_⟩
 ·(iterate 4 refine Ak.other ?_ (show w.heap.size+1+1+1≠g by omega) _)
  exact P10.G
 ·(iterate 4 refine Below.setCell ?_ (show w.heap.size<=w.heap.size+1+1+1 by omega) _)
  exact P10.bel
theorem fK(bH cH A:Nat)(S:Nat->HS)(bR cR M:Nat)(V0:Nat->VV)(bA cA:Nat)(V:Nat->VV)(z c a j:Int)(r m n q:Nat)(hd:r<8)(ha:m<8)(hb:n<8)(w:World)(lH:A<=1048576)(lR:M<=1048576)(h1:Ck w bH A S bR M V0)(h2:Ak w bA (8*6) (vF V))(s:BK A S M V0 8 V z c=true)(aa:BF a (r:Int) (m:Int) (n:Int) j (q:Int)=true)(o1:21<=a)(ab:a<=28)(n0: -1000000<=j)(n1:j<=1000000):
 Ks 64 #[.agg #[Vs bH A cH,Vs bR M cR],.agg #[Vs bA 8 cA,Vi z,Vi c],.agg #[Vi a,Vi (r:Int),Vi (m:Int),Vi (n:Int),Vi j,Vi (q:Int)]] w (xQ (TN A S M V0 8 V z c a (r:Int) (m:Int) (n:Int) j (q:Int)) (Pj S V z c a (r:Int) (m:Int) (n:Int) j (q:Int)) (Mc V z c a (m:Int) (n:Int) z) (Mc V z c a (m:Int) (n:Int) c) w):=by
 obtain⟨er,Z⟩:=Au ((TN A S M V0 8 V z c a (r:Int) (m:Int) (n:Int) j (q:Int)));rw[Z];rw[wY o1 ab,Rq AB,Rq AB];obtain⟨W,hW⟩:=Au (TF S V a r q);rw[hW];have aw:=hxy hW;clear hW;have HE:Hid (FL a (Jw a z c) (Gi V a z c m n) (A8 a j (q:Int) (Gl V a m) (Gb V a n) (V r) (S q))=er):=(Sc s aa AB).symm.trans Z;clear Z;have H1:=hxy h1;have H2:=hxy h2;have au:=hxy s;have ae:=hxy aa;have am:=hxy (Ec ((FR s).2.2 m ha));have an:=hxy (Ec ((FR s).2.2 n hb));have av:Hid ((V m).k=1->(V m).h=(q:Int)->q<A):=fun k e=>by have:=Iu ((FR s).2.2 m ha) k;omega
 have l:Hid (21<=a/\a<=28):=⟨o1,ab⟩
 have HX:Hid (25<=a->Gb V a n=V n/\j=0):=fun o=>by
  have y:a=25∨a=26∨a=27∨a=28:=AB;rcases y with rfl|rfl|rfl|rfl<;>exact⟨if_pos AV,Jk ae AV⟩
 have HN:Hid (a<25->Gb V a n=zV):=fun o=>by
  have y:a=21∨a=22∨a=23∨a=24:=AB;rcases y with rfl|rfl|rfl|rfl<;>exact if_neg (show¬_=true from by rw[show Ap _ 4=false from by kernel_rfl];decide)
 have HA:Hid (Gl V a m=V m):=by
  have y:a=21∨a=22∨a=23∨a=24∨a=25∨a=26∨a=27∨a=28:=AB;rcases y with rfl|rfl|rfl|rfl|rfl|rfl|rfl|rfl<;>exact if_pos AV
 have ay:decide (21<=a)=true:=by simp;omega
 have az:decide (29<=a)=false:=by simp;omega
 clear h1 h2 s aa o1 ab;have aA:(m:Int)<8:=AB;have aB:(n:Int)<8:=AB;have aC:(r:Int)<8:=AB;go_enter Tryz.func64,Tryz.ntmps64;go_upto_region 1 with fail;obtain⟨u,hu,pu⟩:=Ny w bH A cH bR M cR bA 8 cA (z:=z) (c:=c) (op:=a) (d:=(r:Int)) (ra:=(m:Int)) (rb:=(n:Int)) (imm:=j) (h:=(q:Int));rw[hu];have X:=hxy pu;clear hu pu;obtain⟨⟨O,Q⟩,⟨F,J,K⟩,B,C,D,E⟩:=Cc X;have L:=Aa X.I;have N:=X.R.1;go_wp2_with fail;refine(GN bH cH A S bR cR M V0 bA cA 8 V z c u lH lR AB (H1.below X.bel) (H2.below X.bel H2.lt)).mono ?_;rintro e u1⟨rfl,b⟩;have P1:=hxy (X.below b);clear b X;clear O Q F J K B C D E L N;rw[au.out];obtain⟨⟨O,Q⟩,⟨F,J,K⟩,B,C,D,E⟩:=Cc P1;have L:=Aa P1.I;have N:=P1.R.1;go_wp2_with fail;refine(GX a (r:Int) (m:Int) (n:Int) j (q:Int) _).mono ?_;rintro e u2⟨rfl,b⟩;have Y:=hxy (P1.below b);clear b P1;clear O Q F J K B C D E L N;rw[ae.out];obtain⟨⟨O,Q⟩,⟨F,J,K⟩,B,C,D,E⟩:=Cc Y;have L:=Aa Y.I;have N:=Y.R.1;go_wp2_with fail;refine(J8 bA cA V z c u2 (H2.below Y.bel H2.lt)).mono ?_;rintro e u3⟨g,cg,hg,rfl,b,hG⟩;have P3:=hxy (Y.below b);have x:=hxy hG;have og:w.heap.size+1+1+1<g:=Ey Y.R.1 hg;clear b hG hg Y;clear O Q F J K B C D E L N;obtain⟨⟨O,Q⟩,⟨F,J,K⟩,B,C,D,E⟩:=Cc P3;have L:=Aa P3.I;have N:=P3.R.1;have lg:=x.lt;go_upto_region 4 with fail;clear O Q F J K B C D E L N;clear lg;obtain⟨u4,ak,b4,e4,f4⟩:∃v,u3.alloc (.cells #[Vs g 8 cg,Vi z,Vi c] 31)=v/\Bw u3 v/\Cl v u3.heap.size [Vs g 8 cg,Vi z,Vi c]/\(∀i,v.frozen? ⟨u3.heap.size,i,none⟩=false):=⟨_,rfl,Ai,Cl.new,fun i=>by simp[go_sem]⟩
 rw[ak];clear ak;have U:=hxy (P3.below b4);have ad:=hxy (x.below b4 x.lt);have on:=x.lt;have ar:=hxy e4;have ax:=hxy f4;clear b4 e4 f4 P3 x;generalize u3.heap.size=no at *;have q0:=QN ar;obtain⟨⟨O,Q⟩,⟨F,J,K⟩,B,C,D,E⟩:=Cc U;have L:=Aa U.I;have N:=U.R.1;have rf:=U.RF;go_wp2_with fail;refine(Wp bH A cH bR M cR g cg S V z c a j (Gb V a n) r m n q hd ha hb u4 lH av (H1.h.below U.bel H1.h.lt) ad am an n0 n1 l.1 l.2 HX HN).mono ?_;rintro e u5⟨hx,b⟩;have ah:A8 a j (q:Int) (V m) (Gb V a n) (V r) (S q)=er:=by
  have h:=HE.out;rw[wT (by rw[QX (by have:=l.out;omega) (by have:=l.out;omega) (by have:=l.out;omega)];decide) (by have:=l.out;omega) l.1 l.2,HA.out]at h;exact h
 rw[ah,aw.out]at hx;clear ah;have aD:w.heap.size+1+1+1<u5.heap.size:=Ey U.R.1 b.size;have af:Bw w u5:=U.bel.trans (b.mono AB);have t0:u5.cell? ⟨w.heap.size+1+1+1,0,none⟩=some (Vi 0):=(b.cell (p:=⟨w.heap.size+1+1+1,0,none⟩) (show _<g by omega)).trans B;have t1:u5.cell? ⟨w.heap.size+1+1+1,1,none⟩=some (.slice none 0 0):=(b.cell (p:=⟨w.heap.size+1+1+1,1,none⟩) (show _<g by omega)).trans C;have t2:u5.cell? ⟨w.heap.size+1+1+1,2,none⟩=some (Vi 0):=(b.cell (p:=⟨w.heap.size+1+1+1,2,none⟩) (show _<g by omega)).trans D;have t3:u5.cell? ⟨w.heap.size+1+1+1,3,none⟩=some (Vi 0):=(b.cell (p:=⟨w.heap.size+1+1+1,3,none⟩) (show _<g by omega)).trans E;have tf:∀i,u5.frozen? ⟨w.heap.size+1+1+1,i,none⟩=false:=fun i=>(b.frozen (p:=⟨w.heap.size+1+1+1,i,none⟩) (show _<g by omega)).trans (rf i)
 have ac:=hxy af;clear O Q F J K B C D E L N;clear q0 af b U ad rf;rcases hx with⟨aj,rfl⟩|⟨ai,rfl,ag⟩
 ·have ap:=hxy aj
  clear aj;go_wp2;refine mY (.agg #[Vi er,.slice none 0 0,Vi 0,Vi 0]) (by simp[results,Tryz.results64,go_sem, *]) ⟨Or.inl ⟨ap,rfl⟩,?_⟩
  (iterate 4 refine Below.setCell ?_ (show w.heap.size<=w.heap.size+1+1+1 by omega) _)
  exact ac
 ·have ao:=hxy ai
  have al:=hxy ag;clear ai ag;go_wp2;refine mY (.agg #[Vi 0,Vs g 8 cg,Vi z,Vi c]) (by simp[results,Tryz.results64,go_sem, *]) ⟨Or.inr ⟨ao,g,cg,AB,rfl,?_⟩,?_⟩
  ·(iterate 4 refine Ak.other ?_ (show w.heap.size+1+1+1≠g by omega) _)
   exact al
  ·(iterate 4 refine Below.setCell ?_ (show w.heap.size<=w.heap.size+1+1+1 by omega) _)
   exact ac
end
end Go.Proofs.YtcjnmdgomocpgaaGreatDoor
