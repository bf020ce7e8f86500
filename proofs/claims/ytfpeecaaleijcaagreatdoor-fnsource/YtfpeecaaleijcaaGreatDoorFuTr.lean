import Derived.Test.YtfpeecaaleijcaaGreatDoorOfCl
import Derived.Test.YtfpeecaaleijcaaGreatDoorOfTransSpS
import Derived.Deep.DeepCutAuto
set_option maxHeartbeats 32000000
set_option maxRecDepth 20000
namespace Go.Proofs.YtfpeecaaleijcaaGreatDoor
open Go.RowKit Go.Deep
theorem Xd(bH cH nH:Nat)(S:Nat->HS)(bR cR nR:Nat)(V0:Nat->VV)(bA cA:Nat)(V:Nat->VV)(z c op imm:Int)(di ia ib q:Nat)(hd:di<8)(ha:ia<8)(hb:ib<8)(w:World)(lH:nH<=1048576)(lR:nR<=1048576)(h1:Bl w bH nH S bR nR V0)(h2:A9 w bA (8*6) (vF V))(hok:BA nH S nR V0 8 V z c=true)(hik:Ar op (di:Int) (ia:Int) (ib:Int) imm (q:Int)=true)(o1:1<=op)(o28:op<=18)(n0: -1000000<=imm)(n1:imm<=1000000)(n2:op=12∨op=13->0<=imm/\imm<=63):
 Calls Tryz.prog 135 #[.agg #[.slice (some ⟨bH,0,none⟩) nH cH,.slice (some ⟨bR,0,none⟩) nR cR],.agg #[.slice (some ⟨bA,0,none⟩) 8 cA,.int .i64 z,.int .i64 c],.agg #[.int .i64 op,.int .i64 (di:Int),.int .i64 (ia:Int),.int .i64 (ib:Int),.int .i64 imm,.int .i64 (q:Int)]] w (gN nH S nR V0 op w):=by
 have H1:=hxy h1;have H2:=hxy h2;have HOK:=hxy hok;have HIK:=hxy hik;have HG:=hxy ((DK.1 hok).2.2.1);have HF:=hxy ((DK.1 hok).2.2.2);have HBA:=hxy (GU (gv.2 (HG.out ia ha)));have HBB:=hxy (GU (gv.2 (HG.out ib hb)));have e21:decide (21<=op)=false:=by simp;omega
 have e29:decide (29<=op)=false:=by simp;omega
 have HOP1:=hxy o1;have HO18:=hxy o28;have HN2:=hxy n2;have e19:(op==19)=false:=by simp;omega
 have e20:(op==20)=false:=by simp;omega
 clear n2;clear h1 h2 hok hik o1 o28;have ha8:(ia:Int)<8:=by omega
 have hb8:(ib:Int)<8:=by omega
 have hd8:(di:Int)<8:=by omega
 go_enter Tryz.func135,Tryz.ntmps135;go_upto_region 1 with fail;obtain⟨u,hu,pu⟩:=MG w bH nH cH bR nR cR bA 8 cA (z:=z) (c:=c) (op:=op) (d:=(di:Int)) (ra:=(ia:Int)) (rb:=(ib:Int)) (imm:=imm) (h:=(q:Int));rw[hu];have P0:=hxy pu;clear hu pu;obtain⟨⟨s0,s1⟩,⟨a0,a1,a2⟩,r0,r1,r2,r3⟩:=Br P0.out;obtain⟨i0,i1,i2,i3,i4,i5⟩:=AX P0.out.I;have rl:=P0.out.R.1;go_wp2_with fail;refine(Fa bH cH nH S bR cR nR V0 bA cA 8 V z c u lH lR (by omega) (H1.out.below P0.out.bel) (H2.out.below P0.out.bel H2.out.lt)).mono ?_;rintro e u1⟨rfl,hbe⟩;have P1:=hxy (P0.out.below hbe);clear hbe P0;clear s0 s1 a0 a1 a2 r0 r1 r2 r3 i0 i1 i2 i3 i4 i5 rl;rw[HOK.out];obtain⟨⟨s0,s1⟩,⟨a0,a1,a2⟩,r0,r1,r2,r3⟩:=Br P1.out;obtain⟨i0,i1,i2,i3,i4,i5⟩:=AX P1.out.I;have rl:=P1.out.R.1;go_wp2_with fail;refine(En op (di:Int) (ia:Int) (ib:Int) imm (q:Int) _).mono ?_;rintro e u2⟨rfl,hbe⟩;have P2:=hxy (P1.out.below hbe);clear hbe P1;clear s0 s1 a0 a1 a2 r0 r1 r2 r3 i0 i1 i2 i3 i4 i5 rl;rw[HIK.out];obtain⟨⟨s0,s1⟩,⟨a0,a1,a2⟩,r0,r1,r2,r3⟩:=Br P2.out;obtain⟨i0,i1,i2,i3,i4,i5⟩:=AX P2.out.I;have rl:=P2.out.R.1;go_wp2_with fail;refine(H9 bA cA V z c u2 (H2.out.below P2.out.bel H2.out.lt)).mono ?_;rintro e u3⟨g,cg,hg,rfl,hbe,hG⟩;have P3:=hxy (P2.out.below hbe);have HG3:=hxy hG;have og:w.heap.size+1+1+1<g:=Nat.lt_of_lt_of_le P2.out.R.1 hg;clear hbe hG hg P2;clear s0 s1 a0 a1 a2 r0 r1 r2 r3 i0 i1 i2 i3 i4 i5 rl;obtain⟨⟨s0,s1⟩,⟨a0,a1,a2⟩,r0,r1,r2,r3⟩:=Br P3.out;obtain⟨i0,i1,i2,i3,i4,i5⟩:=AX P3.out.I;have rl:=P3.out.R.1;have lg:=HG3.out.lt;go_upto_region 4 with fail;clear s0 s1 a0 a1 a2 r0 r1 r2 r3 i0 i1 i2 i3 i4 i5 rl;clear lg;obtain⟨u4,hu4,b4,e4,f4⟩:∃v,u3.alloc (.cells #[.slice (some ⟨g,0,none⟩) 8 cg,.int .i64 z,.int .i64 c] 136)=v/\Below u3.heap.size u3 v/\Cl v u3.heap.size [.slice (some ⟨g,0,none⟩) 8 cg,.int .i64 z,.int .i64 c]/\(∀i,v.frozen? ⟨u3.heap.size,i,none⟩=false):=⟨_,rfl,Ak,Cl.new,fun i=>by simp[go_sem]⟩
 rw[hu4];clear hu4;have P4:=hxy (P3.out.below b4);have HG4:=hxy (HG3.out.below b4 HG3.out.lt);have on:=HG3.out.lt;have HO4:=hxy e4;have HF4:=hxy f4;clear b4 e4 f4 P3 HG3;generalize u3.heap.size=no at *;obtain⟨⟨s0,s1⟩,⟨a0,a1,a2⟩,r0,r1,r2,r3⟩:=Br P4.out;obtain⟨i0,i1,i2,i3,i4,i5⟩:=AX P4.out.I;have rl:=P4.out.R.1;have ul2:=P4.out.I.1;go_wp2_with fail;refine(CK op _).mono ?_;rintro e w'⟨rfl,hw⟩;rw[hw];clear hw;have HX:=hxy (H2.out.below P4.out.bel H2.out.lt);obtain⟨x0,x1,x2,x3,x4,x5⟩:=Cm HX.out ia ha;obtain⟨y0,y1,y2,y3,y4,y5⟩:=Cm HX.out ib hb;have ul1:=P4.out.A.1;have ul3:=HX.out.lt;go_upto_region 9 with fail;clear s0 s1 a0 a1 a2 r0 r1 r2 r3 i0 i1 i2 i3 i4 i5 rl;clear ul1 ul2 ul3 x0 x1 x2 x3 x4 x5 y0 y1 y2 y3 y4 y5 HX;obtain⟨u5,hu5,p5⟩:∃v,(u4.alloc (.cells #[.int .i64 (V ia).k,.bool (V ia).s,.int .i64 (V ia).m,.int .i64 (V ia).h,.int .i64 (V ia).lo,.int .i64 (V ia).hi] 42)).alloc (.cells #[.int .i64 (V ib).k,.bool (V ib).s,.int .i64 (V ib).m,.int .i64 (V ib).h,.int .i64 (V ib).lo,.int .i64 (V ib).hi] 42)=v/\Ky w v bA cA g cg z c op (di:Int) (ia:Int) (ib:Int) imm (q:Int) no z c u4.heap.size (u4.heap.size+1) (V ia) (V ib) V:=by
  have b1:=(Below.refl u4.heap.size u4).alloc (Nat.le_refl _) (.cells #[.int .i64 (V ia).k,.bool (V ia).s,.int .i64 (V ia).m,.int .i64 (V ia).h,.int .i64 (V ia).lo,.int .i64 (V ia).hi] 42);have e1:=Cl.new (w:=u4) (vs:=#[.int .i64 (V ia).k,.bool (V ia).s,.int .i64 (V ia).m,.int .i64 (V ia).h,.int .i64 (V ia).lo,.int .i64 (V ia).hi]) (t:=42);generalize hy:u4.alloc (.cells #[.int .i64 (V ia).k,.bool (V ia).s,.int .i64 (V ia).m,.int .i64 (V ia).h,.int .i64 (V ia).lo,.int .i64 (V ia).hi] 42)=y at *;have s1:y.heap.size=u4.heap.size+1:=by rw[<-hy];simp
  clear hy;have b2:=(Below.refl y.heap.size y).alloc (Nat.le_refl _) (.cells #[.int .i64 (V ib).k,.bool (V ib).s,.int .i64 (V ib).m,.int .i64 (V ib).h,.int .i64 (V ib).lo,.int .i64 (V ib).hi] 42);have e2:=Cl.new (w:=y) (vs:=#[.int .i64 (V ib).k,.bool (V ib).s,.int .i64 (V ib).m,.int .i64 (V ib).h,.int .i64 (V ib).lo,.int .i64 (V ib).hi]) (t:=42);rw[s1]at e2;have bb:=b1.trans (b2.mono b1.size);have p:=P4.out.below bb;have on2:=HO4.out.1;exact⟨_,rfl,p.bel,p.A,p.I,p.R,p.RF,HO4.out.below bb,fun i=>(bb.frozen (p:=⟨no,i,none⟩) on2).trans (HF4.out i),e1.below b2,e2,HG4.out.below bb HG4.out.lt,og,on,on2,by omega⟩
 rw[hu5];clear hu5 P4 HG4 HO4 HF4;obtain⟨na,hna⟩:=Ae (u4.heap.size);obtain⟨nb,hnb⟩:=Ae (u4.heap.size+1);rw[hnb]at p5⊢;rw[hna]at p5⊢;clear hna hnb;have P5:=hxy p5;clear p5;obtain⟨a0,a1,a2⟩:=Nj P5.out.A;obtain⟨i0,i1,i2,i3,i4,i5⟩:=AX P5.out.I;obtain⟨x0,x1,x2,x3,x4,x5⟩:=Ip P5.out.a;obtain⟨y0,y1,y2,y3,y4,y5⟩:=Ip P5.out.b;obtain⟨q0,q1,q2⟩:=Nj P5.out.O;obtain⟨r0,r1,r2,r3⟩:=Nq P5.out.R;have rf:=P5.out.RF;have rl:=P5.out.R.1;have of:=P5.out.OF;have ol:=P5.out.O.1;go_cut [11](fun s11 wx=>(∃t:Bool,s11=.bool t)/\wx=u5)
 case first=>as_aux_lemma=>
  go_wp2_with fail;refine(Ct (Af op) 65 _ (Bu op) (by decide) (by decide)).mono ?_;rintro e w'⟨rfl,hw⟩;rw[hw];clear hw;obtain⟨bA1,hbA1⟩:=Ae (A8 (Af op) 65);rw[hbA1];clear hbA1;cases has_:(V ia).s<;>rw[has_]at x1<;>cases bA1
  ·
   go_wp2_with fail;refine(Ct (Af op) 66 _ (Bu op) (by decide) (by decide)).mono ?_;rintro e w'⟨rfl,hw⟩;rw[hw];clear hw;obtain⟨bB1,hbB1⟩:=Ae (A8 (Af op) 66);rw[hbB1];clear hbB1;cases bB1
   ·go_wp2
    go_meet;exact⟨⟨_,rfl⟩,rfl⟩
   ·go_wp2
    go_meet;exact⟨⟨_,rfl⟩,rfl⟩
  ·
   go_wp2_with fail;refine(Ct (Af op) 66 _ (Bu op) (by decide) (by decide)).mono ?_;rintro e w'⟨rfl,hw⟩;rw[hw];clear hw;obtain⟨bB1,hbB1⟩:=Ae (A8 (Af op) 66);rw[hbB1];clear hbB1;cases bB1
   ·go_wp2
    go_meet;exact⟨⟨_,rfl⟩,rfl⟩
   ·go_wp2
    go_meet;exact⟨⟨_,rfl⟩,rfl⟩
  ·
   go_wp2_with fail;refine(Ct (Af op) 66 _ (Bu op) (by decide) (by decide)).mono ?_;rintro e w'⟨rfl,hw⟩;rw[hw];clear hw;obtain⟨bB1,hbB1⟩:=Ae (A8 (Af op) 66);rw[hbB1];clear hbB1;cases bB1
   ·go_wp2
    go_meet;exact⟨⟨_,rfl⟩,rfl⟩
   ·go_wp2
    go_meet;exact⟨⟨_,rfl⟩,rfl⟩
  ·go_wp2
   go_meet;exact⟨⟨_,rfl⟩,rfl⟩
 case rest=>
 obtain⟨⟨t,rfl⟩,hw⟩:=hcut;rw[hw];clear hw;go_upto_if 113 with fail;go_cut [11](fun s11 wx=>(∃t:Bool,s11=.bool t)/\wx=u5)
 case first=>as_aux_lemma=>
  by_cases o15:op=15
  ·subst o15
   by_cases f0:c=0
   ·have e0:(c==0)=true:=by simp[f0]
    go_wp2;refine bodyPost_ret (v:=.agg #[.int .i64 1,.slice none 0 0,.int .i64 0,.int .i64 0]) (by simp[results,Tryz.results135,go_sem, *]) rfl ⟨1,V,z,c,Or.inl ⟨by decide,rfl⟩,fun e=>absurd e (by decide),fun o=>absurd o (by decide),?_⟩
    (iterate 4 refine Below.setCell ?_ (show w.heap.size<=w.heap.size+1+1+1 by omega) _)
    exact P5.out.bel
   have e0:(c==0)=false:=by simp[f0]
   clear f0;cases t
   ·go_wp2
    go_meet;exact⟨⟨_,rfl⟩,rfl⟩
   ·go_wp2
    go_meet;exact⟨⟨_,rfl⟩,rfl⟩
  ·have e15:(op==15)=false:=by simpa using o15
   clear o15;go_wp2;go_meet;exact⟨⟨_,rfl⟩,rfl⟩
 case rest=>
 obtain⟨⟨t2,rfl⟩,hw⟩:=hcut;rw[hw];clear hw;go_upto_region 26 with fail;go_cut [129](fun s129 wx=>(∃b:Bool,s129=.bool b/\(b=true->op=9))/\wx=u5)
 case first=>as_aux_lemma=>
  by_cases o9:op=9
  ·subst o9
   go_wp2;go_meet;exact⟨⟨_,rfl,fun _=>by simp⟩,rfl⟩
  ·have e9:(op==9)=false:=by simpa using o9
   clear o9;go_wp2;go_meet;exact⟨⟨_,rfl,fun e=>absurd e (by simp)⟩,rfl⟩
 case rest=>
 obtain⟨⟨b,rfl,hb9⟩,hw⟩:=hcut;rw[hw];clear hw;have HB9:=hxy hb9;clear hb9;cases b with
 |true=>
  go_wp2;refine bodyPost_ret (v:=.agg #[.int .i64 9,.slice none 0 0,.int .i64 0,.int .i64 0]) (by simp[results,Tryz.results135,go_sem, *]) rfl ⟨9,V,z,c,Or.inl ⟨by decide,rfl⟩,fun e=>absurd e (by decide),fun o=>absurd o (by have:=HB9.out (by simp);omega),?_⟩
  (iterate 4 refine Below.setCell ?_ (show w.heap.size<=w.heap.size+1+1+1 by omega) _)
  exact P5.out.bel
 |false=>
 clear HB9;go_wp2_with fail;refine(Ct (Af op) 68 _ (Bu op) (by decide) (by decide)).mono ?_;rintro e w'⟨rfl,hw⟩;rw[hw];clear hw;obtain⟨bD,hbD⟩:=Ae (A8 (Af op) 68);rw[hbD];have HU:Hid (bD=true->op<=16):=fun e=>eU HO18.out (hbD.trans e)
 clear hbD;go_upto_if 132 with fail;go_cut [](fun wx=>∃V',Ky w wx bA cA g cg z c op (di:Int) (ia:Int) (ib:Int) imm (q:Int) no z c na nb (V ia) (V ib) V'/\∀i,i<8->GV (V' i) nH)
 case first=>as_aux_lemma=>
  cases bD
  ·go_wp2
   go_meet;exact⟨V,P5.out,HG.out⟩
  ·go_upto_region 29 with fail
   clear a0 a1 a2 i0 i1 i2 i3 i4 i5 x0 x1 x2 x3 x4 x5 y0 y1 y2 y3 y4 y5 q0 q1 q2 r0 r1 r2 r3 rf rl of ol;have q0:∀w',Below u5.heap.size u5 w'->w'.cell? ⟨no,0,none⟩=some (.slice (some ⟨g,0,none⟩) 8 cg):=fun w' h=>(P5.out.O.below h).2 0 (by simp)
   have i0:∀w',Below u5.heap.size u5 w'->w'.cell? ⟨w.heap.size+1+1,0,none⟩=some (.int .i64 op):=fun w' h=>(P5.out.I.below h).2 0 (by simp)
   have i1:∀w',Below u5.heap.size u5 w'->w'.cell? ⟨w.heap.size+1+1,1,none⟩=some (.int .i64 (di:Int)):=fun w' h=>(P5.out.I.below h).2 1 (by simp)
   have i2:∀w',Below u5.heap.size u5 w'->w'.cell? ⟨w.heap.size+1+1,2,none⟩=some (.int .i64 (ia:Int)):=fun w' h=>(P5.out.I.below h).2 2 (by simp)
   have i3:∀w',Below u5.heap.size u5 w'->w'.cell? ⟨w.heap.size+1+1,3,none⟩=some (.int .i64 (ib:Int)):=fun w' h=>(P5.out.I.below h).2 3 (by simp)
   have i4:∀w',Below u5.heap.size u5 w'->w'.cell? ⟨w.heap.size+1+1,4,none⟩=some (.int .i64 imm):=fun w' h=>(P5.out.I.below h).2 4 (by simp)
   have i5:∀w',Below u5.heap.size u5 w'->w'.cell? ⟨w.heap.size+1+1,5,none⟩=some (.int .i64 (q:Int)):=fun w' h=>(P5.out.I.below h).2 5 (by simp)
   have x0:∀w',Below u5.heap.size u5 w'->w'.cell? ⟨na,0,none⟩=some (.int .i64 (V ia).k):=fun w' h=>(P5.out.a.below h).2 0 (by simp)
   have x1:∀w',Below u5.heap.size u5 w'->w'.cell? ⟨na,1,none⟩=some (.bool (V ia).s):=fun w' h=>(P5.out.a.below h).2 1 (by simp)
   have x2:∀w',Below u5.heap.size u5 w'->w'.cell? ⟨na,2,none⟩=some (.int .i64 (V ia).m):=fun w' h=>(P5.out.a.below h).2 2 (by simp)
   have x3:∀w',Below u5.heap.size u5 w'->w'.cell? ⟨na,3,none⟩=some (.int .i64 (V ia).h):=fun w' h=>(P5.out.a.below h).2 3 (by simp)
   have x4:∀w',Below u5.heap.size u5 w'->w'.cell? ⟨na,4,none⟩=some (.int .i64 (V ia).lo):=fun w' h=>(P5.out.a.below h).2 4 (by simp)
   have x5:∀w',Below u5.heap.size u5 w'->w'.cell? ⟨na,5,none⟩=some (.int .i64 (V ia).hi):=fun w' h=>(P5.out.a.below h).2 5 (by simp)
   have y0:∀w',Below u5.heap.size u5 w'->w'.cell? ⟨nb,0,none⟩=some (.int .i64 (V ib).k):=fun w' h=>(P5.out.b.below h).2 0 (by simp)
   have y1:∀w',Below u5.heap.size u5 w'->w'.cell? ⟨nb,1,none⟩=some (.bool (V ib).s):=fun w' h=>(P5.out.b.below h).2 1 (by simp)
   have y2:∀w',Below u5.heap.size u5 w'->w'.cell? ⟨nb,2,none⟩=some (.int .i64 (V ib).m):=fun w' h=>(P5.out.b.below h).2 2 (by simp)
   have y3:∀w',Below u5.heap.size u5 w'->w'.cell? ⟨nb,3,none⟩=some (.int .i64 (V ib).h):=fun w' h=>(P5.out.b.below h).2 3 (by simp)
   have y4:∀w',Below u5.heap.size u5 w'->w'.cell? ⟨nb,4,none⟩=some (.int .i64 (V ib).lo):=fun w' h=>(P5.out.b.below h).2 4 (by simp)
   have y5:∀w',Below u5.heap.size u5 w'->w'.cell? ⟨nb,5,none⟩=some (.int .i64 (V ib).hi):=fun w' h=>(P5.out.b.below h).2 5 (by simp)
   refine BF (T:=fun w'=>Below u5.heap.size u5 w') (s:=10) (by kernel_rfl) (Below.refl _ _).drew (fun hHeld=>?_);refine AJ 0 rfl ?_;refine AJ 1 rfl ?_;refine AJ 2 rfl ?_;refine AJ 3 rfl ?_;refine AJ 4 rfl ?_;refine AJ 5 rfl ?_;refine AJ 6 rfl ?_;refine AJ 7 rfl ?_;refine Aq (i:=8) rfl (by kernel_rfl) (fun KK hK=>?_);go_simp;refine(QJ op (di:Int) (ia:Int) (ib:Int) imm (q:Int) (V ia) (V ib) t2 _ HOP1.out (HU.out rfl) HBA.out HBB.out n0 n1 HN2.out).mono ?_;rintro e x6⟨rfl,hbe⟩;have bx:=(Below.refl u5.heap.size u5).drew.trans hbe;clear hbe;obtain⟨nv,hnv⟩:=Ae (Cb op imm (V ia) (V ib) t2);rw[hnv];have HNV:Hid (GV nv nH):=by rw[<-hnv];exact dJ (HG.out ia ha) (HG.out ib hb)
   clear hnv;simp only[VV.v];go_wp2_with fail;refine hK.out _ _ bx (fun hHeld2=>?_);clear hK KK;try simp only[Act.put,BP,BN,BK,BQ,BS,BM]
   refine AJ 9 rfl ?_;have P6:=hxy (P5.out.below bx);clear q0 i0 i1 i2 i3 i4 i5 x0 x1 x2 x3 x4 x5 y0 y1 y2 y3 y4 y5 hHeld hHeld2 bx P5;obtain⟨d0,d1,d2,d3,d4,d5⟩:=Cm P6.out.G di hd;have gf:=P6.out.G.free;have gl:=P6.out.G.lt;refine A7 rfl (by kernel_rfl) (by kernel_rfl) (fun KK hK=>?_)
   go_simp
   refine hK.out _ _ ?_
   clear hK KK d0 d1 d2 d3 d4 d5 gf gl
   go_wp2_with fail
   go_meet
   exact⟨Eo V di nv,P6.out.put hd nv,YS HG.out HNV.out⟩
 case rest=>
 obtain⟨V',p6,g6⟩:=hcut
 generalize wc=u6 at *
 have P6:=hxy p6
 have HG6:=hxy g6
 clear p6 g6 P5 HU
 clear a0 a1 a2 i0 i1 i2 i3 i4 i5 x0 x1 x2 x3 x4 x5 y0 y1 y2 y3 y4 y5 q0 q1 q2 r0 r1 r2 r3 rf rl of ol
 obtain⟨a0,a1,a2⟩:=Nj P6.out.A
 obtain⟨i0,i1,i2,i3,i4,i5⟩:=AX P6.out.I
 obtain⟨x0,x1,x2,x3,x4,x5⟩:=Ip P6.out.a
 obtain⟨y0,y1,y2,y3,y4,y5⟩:=Ip P6.out.b
 obtain⟨q0,q1,q2⟩:=Nj P6.out.O
 obtain⟨r0,r1,r2,r3⟩:=Nq P6.out.R
 have rf:=P6.out.RF
 have rl:=P6.out.R.1
 have of:=P6.out.OF
 have ol:=P6.out.O.1
 go_upto_region 30 with fail
 go_cut [165](fun s165 wx=>(∃b:Bool,s165=.bool b)/\wx=u6)
 case first=>as_aux_lemma=>
  by_cases o14:op=14
  ·subst o14
   go_wp2
   go_meet
   exact⟨⟨_,rfl⟩,rfl⟩
  have e14:(op==14)=false:=by simpa using o14
  clear o14
  by_cases o15:op=15
  ·subst o15
   go_wp2
   go_meet
   exact⟨⟨_,rfl⟩,rfl⟩
  have e15:(op==15)=false:=by simpa using o15
  clear o15
  by_cases o16:op=16
  ·subst o16
   go_wp2
   go_meet
   exact⟨⟨_,rfl⟩,rfl⟩
  have e16:(op==16)=false:=by simpa using o16
  clear o16
  by_cases o17:op=17
  ·subst o17
   go_wp2
   go_meet
   exact⟨⟨_,rfl⟩,rfl⟩
  have e17:(op==17)=false:=by simpa using o17
  clear o17
  go_wp2
  go_meet
  exact⟨⟨_,rfl⟩,rfl⟩
 case rest=>
 obtain⟨⟨b,rfl⟩,hw⟩:=hcut
 rw[hw]
 clear hw
 go_upto_if 165 with fail
 go_cut [](fun wx=>∃z' c':Int,Ky w wx bA cA g cg z c op (di:Int) (ia:Int) (ib:Int) imm (q:Int) no z' c' na nb (V ia) (V ib) V'/\(0<=z'/\z'<=2)/\0<=c'/\c'<=2)
 case first=>as_aux_lemma=>
  cases b
  ·go_wp2
   go_meet
   exact⟨z,c,P6.out,HF.out⟩
  ·obtain⟨f,hf⟩:∃x:Int,(if t2=true then(2:Int)else 1)=x:=⟨_,rfl⟩
   have HFL:Hid (0<=f/\f<=2):=(by rw[<-hf];cases t2<;>decide:0<=f/\f<=2)
   have HFE:=hxy hf
   clear hf
   go_wp2_with fail
   refine(J4 t2 _).mono ?_
   rintro e w'⟨rfl,hw⟩
   rw[hw,HFE.out]
   clear hw
   go_wp2_with fail
   refine(J4 t2 _).mono ?_
   rintro e w'⟨rfl,hw⟩
   rw[hw,HFE.out]
   clear hw
   go_wp2_with fail
   go_meet
   exact⟨f,f,P6.out.flags rfl,HFL.out,HFL.out⟩
 case rest=>
 obtain⟨z',c',p9,hz,hc⟩:=hcut
 generalize wc=u9 at *
 have P9:=hxy p9
 clear p9 P6
 clear a0 a1 a2 i0 i1 i2 i3 i4 i5 x0 x1 x2 x3 x4 x5 y0 y1 y2 y3 y4 y5 q0 q1 q2 r0 r1 r2 r3 rf rl of ol
 obtain⟨a0,a1,a2⟩:=Nj P9.out.A
 obtain⟨i0,i1,i2,i3,i4,i5⟩:=AX P9.out.I
 obtain⟨x0,x1,x2,x3,x4,x5⟩:=Ip P9.out.a
 obtain⟨y0,y1,y2,y3,y4,y5⟩:=Ip P9.out.b
 obtain⟨q0,q1,q2⟩:=Nj P9.out.O
 obtain⟨r0,r1,r2,r3⟩:=Nq P9.out.R
 have rf:=P9.out.RF
 have rl:=P9.out.R.1
 have of:=P9.out.OF
 have ol:=P9.out.O.1
 have og:=P9.out.o1
 go_wp2
 refine bodyPost_ret (v:=.agg #[.int .i64 0,.slice (some ⟨g,0,none⟩) 8 cg,.int .i64 z',.int .i64 c']) (by simp[results,Tryz.results135,go_sem, *]) rfl ⟨0,V',z',c',Or.inr ⟨rfl,g,cg,by omega,rfl,?_⟩,fun _=>VS HOK.out HG6.out hz hc,fun _=>rfl,?_⟩
 ·(iterate 4 refine A9.other ?_ (show w.heap.size+1+1+1≠g by omega) _)
  exact P9.out.G
 ·(iterate 4 refine Below.setCell ?_ (show w.heap.size<=w.heap.size+1+1+1 by omega) _)
  exact P9.out.bel
end Go.Proofs.YtfpeecaaleijcaaGreatDoor
