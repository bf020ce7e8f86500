import Derived.Test.YtfpeecaaleijcaaGreatDoorOfCl
import Derived.Test.YtfpeecaaleijcaaGreatDoorOfTransSpS
import Derived.Deep.DeepCutAuto
set_option maxHeartbeats 32000000
set_option maxRecDepth 20000
namespace Go.Proofs.YtfpeecaaleijcaaGreatDoor
open Go.RowKit Go.Deep
theorem YT(bH cH nH:Nat)(S:Nat->HS)(bR cR nR:Nat)(V0:Nat->VV)(bA cA:Nat)(V:Nat->VV)(z c op imm:Int)(di ia ib q:Nat)(hd:di<8)(ha:ia<8)(hb:ib<8)(w:World)(lH:nH<=1048576)(lR:nR<=1048576)(h1:Bl w bH nH S bR nR V0)(h2:A9 w bA (8*6) (vF V))(hok:BA nH S nR V0 8 V z c=true)(hik:Ar op (di:Int) (ia:Int) (ib:Int) imm (q:Int)=true)(o1:op=19∨op=20):
 Calls Tryz.prog 135 #[.agg #[Vs bH nH cH,Vs bR nR cR],.agg #[Vs bA 8 cA,Vi z,Vi c],.agg #[Vi op,Vi (di:Int),Vi (ia:Int),Vi (ib:Int),Vi imm,Vi (q:Int)]] w (gN nH S nR V0 op w):=by
 have H1:=hxy h1;have H2:=hxy h2;have HOK:=hxy hok;have HIK:=hxy hik;have HG:Hid (∀i,i<8->GV (V i) nH):=(DK.1 hok).2.2.1;have HF:Hid ((0<=z/\z<=2)/\0<=c/\c<=2):=(DK.1 hok).2.2.2;have e21:decide (21<=op)=false:=by simp;omega
 have e29:decide (29<=op)=false:=by simp;omega
 have HOS:=hxy o1;clear h1 h2 hok hik o1;have ha8:(ia:Int)<8:=by omega
 have hb8:(ib:Int)<8:=by omega
 have hd8:(di:Int)<8:=by omega
 go_enter Tryz.func135,Tryz.ntmps135;go_upto_region 1 with fail;obtain⟨u,hu,pu⟩:=MG w bH nH cH bR nR cR bA 8 cA (z:=z) (c:=c) (op:=op) (d:=(di:Int)) (ra:=(ia:Int)) (rb:=(ib:Int)) (imm:=imm) (h:=(q:Int));rw[hu];have P0:=hxy pu;clear hu pu;obtain⟨⟨s0,s1⟩,⟨a0,a1,a2⟩,r0,r1,r2,r3⟩:=Br P0.out;obtain⟨i0,i1,i2,i3,i4,i5⟩:=AX P0.out.I;have rl:=P0.out.R.1;go_wp2_with fail;refine(Fa bH cH nH S bR cR nR V0 bA cA 8 V z c u lH lR (by omega) (H1.out.below P0.out.bel) (H2.out.below P0.out.bel H2.out.lt)).mono ?_;rintro e u1⟨rfl,hbe⟩;have P1:Hid (Zc w u1 bH nH cH bR nR cR bA 8 cA z c op (di:Int) (ia:Int) (ib:Int) imm (q:Int)):=P0.out.below hbe;clear hbe P0;clear s0 s1 a0 a1 a2 r0 r1 r2 r3 i0 i1 i2 i3 i4 i5 rl;rw[HOK.out];obtain⟨⟨s0,s1⟩,⟨a0,a1,a2⟩,r0,r1,r2,r3⟩:=Br P1.out;obtain⟨i0,i1,i2,i3,i4,i5⟩:=AX P1.out.I;have rl:=P1.out.R.1;go_wp2_with fail;refine(En op (di:Int) (ia:Int) (ib:Int) imm (q:Int) _).mono ?_;rintro e u2⟨rfl,hbe⟩;have P2:Hid (Zc w u2 bH nH cH bR nR cR bA 8 cA z c op (di:Int) (ia:Int) (ib:Int) imm (q:Int)):=P1.out.below hbe;clear hbe P1;clear s0 s1 a0 a1 a2 r0 r1 r2 r3 i0 i1 i2 i3 i4 i5 rl;rw[HIK.out];obtain⟨⟨s0,s1⟩,⟨a0,a1,a2⟩,r0,r1,r2,r3⟩:=Br P2.out;obtain⟨i0,i1,i2,i3,i4,i5⟩:=AX P2.out.I;have rl:=P2.out.R.1;go_wp2_with fail;refine(H9 bA cA V z c u2 (H2.out.below P2.out.bel H2.out.lt)).mono ?_;rintro e u3⟨g,cg,hg,rfl,hbe,hG⟩;have P3:Hid (Zc w u3 bH nH cH bR nR cR bA 8 cA z c op (di:Int) (ia:Int) (ib:Int) imm (q:Int)):=P2.out.below hbe;have HG3:=hxy hG;have og:w.heap.size+1+1+1<g:=jI P2.out.R.1 hg;clear hbe hG hg P2;clear s0 s1 a0 a1 a2 r0 r1 r2 r3 i0 i1 i2 i3 i4 i5 rl;obtain⟨⟨s0,s1⟩,⟨a0,a1,a2⟩,r0,r1,r2,r3⟩:=Br P3.out;obtain⟨i0,i1,i2,i3,i4,i5⟩:=AX P3.out.I;have rl:=P3.out.R.1;have lg:=HG3.out.lt;go_upto_region 4 with fail;clear s0 s1 a0 a1 a2 r0 r1 r2 r3 i0 i1 i2 i3 i4 i5 rl;clear lg;obtain⟨u4,hu4,b4,e4,f4⟩:∃v,u3.alloc (.cells #[Vs g 8 cg,Vi z,Vi c] 136)=v/\Below u3.heap.size u3 v/\Cl v u3.heap.size [Vs g 8 cg,Vi z,Vi c]/\(∀i,v.frozen? ⟨u3.heap.size,i,none⟩=false):=⟨_,rfl,Ak,Cl.new,fun i=>by simp[go_sem]⟩
 rw[hu4];clear hu4;have P4:Hid (Zc w u4 bH nH cH bR nR cR bA 8 cA z c op (di:Int) (ia:Int) (ib:Int) imm (q:Int)):=P3.out.below b4;have HG4:Hid (A9 u4 g (8*6) (vF V)):=HG3.out.below b4 HG3.out.lt;have on:g<u3.heap.size:=HG3.out.lt;have HO4:=hxy e4;have HF4:=hxy f4;clear b4 e4 f4 P3 HG3;generalize u3.heap.size=no at *;obtain⟨⟨s0,s1⟩,⟨a0,a1,a2⟩,r0,r1,r2,r3⟩:=Br P4.out;obtain⟨i0,i1,i2,i3,i4,i5⟩:=AX P4.out.I;have rl:=P4.out.R.1;have ul2:=P4.out.I.1;go_wp2_with fail;refine(CK op _).mono ?_;rintro e w'⟨rfl,hw⟩;rw[hw];clear hw;have HX:Hid (A9 u4 bA (8*6) (vF V)):=H2.out.below P4.out.bel H2.out.lt;obtain⟨x0,x1,x2,x3,x4,x5⟩:=Cm HX.out ia ha;obtain⟨y0,y1,y2,y3,y4,y5⟩:=Cm HX.out ib hb;have ul1:=P4.out.A.1;have ul3:=HX.out.lt;go_upto_region 9 with fail;clear s0 s1 a0 a1 a2 r0 r1 r2 r3 i0 i1 i2 i3 i4 i5 rl;clear ul1 ul2 ul3 x0 x1 x2 x3 x4 x5 y0 y1 y2 y3 y4 y5 HX;obtain⟨u5,hu5,p5⟩:∃v,(u4.alloc (.cells #[Vi (V ia).k,.bool (V ia).s,Vi (V ia).m,Vi (V ia).h,Vi (V ia).lo,Vi (V ia).hi] 42)).alloc (.cells #[Vi (V ib).k,.bool (V ib).s,Vi (V ib).m,Vi (V ib).h,Vi (V ib).lo,Vi (V ib).hi] 42)=v/\Ky w v bA cA g cg z c op (di:Int) (ia:Int) (ib:Int) imm (q:Int) no z c u4.heap.size (u4.heap.size+1) (V ia) (V ib) V:=by
  have b1:=(Below.refl u4.heap.size u4).alloc jG (.cells #[Vi (V ia).k,.bool (V ia).s,Vi (V ia).m,Vi (V ia).h,Vi (V ia).lo,Vi (V ia).hi] 42);have e1:=Cl.new (w:=u4) (vs:=#[Vi (V ia).k,.bool (V ia).s,Vi (V ia).m,Vi (V ia).h,Vi (V ia).lo,Vi (V ia).hi]) (t:=42);generalize hy:u4.alloc (.cells #[Vi (V ia).k,.bool (V ia).s,Vi (V ia).m,Vi (V ia).h,Vi (V ia).lo,Vi (V ia).hi] 42)=y at *;have s1:y.heap.size=u4.heap.size+1:=by rw[<-hy];simp
  clear hy;have b2:=(Below.refl y.heap.size y).alloc jG (.cells #[Vi (V ib).k,.bool (V ib).s,Vi (V ib).m,Vi (V ib).h,Vi (V ib).lo,Vi (V ib).hi] 42);have e2:=Cl.new (w:=y) (vs:=#[Vi (V ib).k,.bool (V ib).s,Vi (V ib).m,Vi (V ib).h,Vi (V ib).lo,Vi (V ib).hi]) (t:=42);rw[s1]at e2;have bb:=b1.trans (b2.mono b1.size);have p:=P4.out.below bb;have on2:=HO4.out.1;exact⟨_,rfl,p.bel,p.A,p.I,p.R,p.RF,HO4.out.below bb,fun i=>(bb.frozen (p:=Va no i) on2).trans (HF4.out i),e1.below b2,e2,HG4.out.below bb HG4.out.lt,og,on,on2,by omega⟩
 rw[hu5];clear hu5 P4 HG4 HO4 HF4;obtain⟨na,hna⟩:=Ae u4.heap.size;obtain⟨nb,hnb⟩:=Ae (u4.heap.size+1);rw[hnb]at p5⊢;rw[hna]at p5⊢;clear hna hnb;have P5:=hxy p5;clear p5;obtain⟨a0,a1,a2⟩:=Nj P5.out.A;obtain⟨i0,i1,i2,i3,i4,i5⟩:=AX P5.out.I;obtain⟨x0,x1,x2,x3,x4,x5⟩:=Ip P5.out.a;obtain⟨y0,y1,y2,y3,y4,y5⟩:=Ip P5.out.b;obtain⟨q0,q1,q2⟩:=Nj P5.out.O;obtain⟨r0,r1,r2,r3⟩:=Nq P5.out.R;have rf:=P5.out.RF;have rl:=P5.out.R.1;have of:=P5.out.OF;have ol:=P5.out.O.1;go_cut [11](fun s11 wx=>(∃t:Bool,s11=.bool t)/\wx=u5)
 case first=>
  go_wp2_with fail;refine(Ct (Af op) 65 _ (Bu op) (by decide) (by decide)).mono ?_;rintro e w'⟨rfl,hw⟩;rw[hw];clear hw;obtain⟨bA1,hbA1⟩:=Ae (A8 (Af op) 65);rw[hbA1];clear hbA1;cases has_:(V ia).s<;>rw[has_]at x1<;>cases bA1
  ·
   go_wp2_with fail;refine(Ct (Af op) 66 _ (Bu op) (by decide) (by decide)).mono ?_;rintro e w'⟨rfl,hw⟩;rw[hw];clear hw;obtain⟨bB1,hbB1⟩:=Ae (A8 (Af op) 66);rw[hbB1];clear hbB1;cases bB1
   ·go_wp2
    go_meet;exact⟨⟨_,rfl⟩,rfl⟩
   ·go_wp2
    go_meet;exact⟨⟨_,rfl⟩,rfl⟩
  ·
   go_wp2_with fail;refine(Ct (Af op) 66 _ (Bu op) (by decide) (by decide)).mono ?_;rintro e w'⟨rfl,hw⟩;rw[hw];clear hw;obtain⟨bB1,hbB1⟩:=Ae (A8 (Af op) 66);rw[hbB1];clear hbB1;cases bB1
   ·go_wp2
    go_meet;exact⟨⟨_,rfl⟩,rfl⟩
   ·go_wp2
    go_meet;exact⟨⟨_,rfl⟩,rfl⟩
  ·
   go_wp2_with fail;refine(Ct (Af op) 66 _ (Bu op) (by decide) (by decide)).mono ?_;rintro e w'⟨rfl,hw⟩;rw[hw];clear hw;obtain⟨bB1,hbB1⟩:=Ae (A8 (Af op) 66);rw[hbB1];clear hbB1;cases bB1
   ·go_wp2
    go_meet;exact⟨⟨_,rfl⟩,rfl⟩
   ·go_wp2
    go_meet;exact⟨⟨_,rfl⟩,rfl⟩
  ·go_wp2
   go_meet;exact⟨⟨_,rfl⟩,rfl⟩
 case rest=>
 obtain⟨⟨t,rfl⟩,hw⟩:=hcut;rw[hw];clear hw;go_upto_region 10 with fail;go_cut [74](fun s74 wx=>s74=.bool true/\wx=u5)
 case first=>
  rcases HOS.out with rfl|rfl
  ·go_wp2
   go_meet;exact⟨rfl,rfl⟩
  ·go_wp2
   go_meet;exact⟨rfl,rfl⟩
 case rest=>
 obtain⟨rfl,hw⟩:=hcut;rw[hw];clear hw;go_upto_if 79 with fail;go_cut [12](fun s12 wx=>(∃f:Int,s12=Vi f/\0<=f/\f<=2)/\wx=u5)
 case first=>
  rcases HOS.out with rfl|rfl
  ·go_wp2
   go_meet;exact⟨⟨_,rfl,HF.out.1⟩,rfl⟩
  ·go_wp2
   go_meet;exact⟨⟨_,rfl,HF.out.2⟩,rfl⟩
 case rest=>
 obtain⟨⟨f,rfl,fl,fh⟩,hw⟩:=hcut;rw[hw];clear hw;by_cases f0:f=0
 ·have e0:(f==0)=true:=by simp[f0]
  go_wp2;refine bodyPost_ret (v:=.agg #[Vi 1,.slice none 0 0,Vi 0,Vi 0]) (by simp[results,Tryz.results135,go_sem, *]) rfl ⟨1,V,z,c,Or.inl ⟨by decide,rfl⟩,fun e=>absurd e (by decide),fun o=>absurd o (by have:=HOS.out;omega),?_⟩
  (iterate 4 refine Below.setCell ?_ (show w.heap.size<=w.heap.size+1+1+1 by omega) _)
  exact P5.out.bel
 have e0:(f==0)=false:=by simp[f0]
 clear f0;go_wp2_with fail;refine(J7 (V ia).k (V ia).s (V ia).m (V ia).h (V ia).lo (V ia).hi (V ib).k (V ib).s (V ib).m (V ib).h (V ib).lo (V ib).hi _).mono ?_;rintro e u6⟨rfl,hbe⟩;obtain⟨j,hj⟩:=Ae (Iq (V ia) (V ib));rw[show Iq ⟨(V ia).k,(V ia).s,(V ia).m,(V ia).h,(V ia).lo,(V ia).hi⟩ ⟨(V ib).k,(V ib).s,(V ib).m,(V ib).h,(V ib).lo,(V ib).hi⟩=j from hj];have HGJ:Hid (GV j nH):=by rw[<-hj];exact Us (HG.out ia ha) (HG.out ib hb)
 clear hj;have P6:Hid (Ky w u6 bA cA g cg z c op (di:Int) (ia:Int) (ib:Int) imm (q:Int) no z c na nb (V ia) (V ib) V):=P5.out.below hbe;clear hbe P5;clear a0 a1 a2 i0 i1 i2 i3 i4 i5 x0 x1 x2 x3 x4 x5 y0 y1 y2 y3 y4 y5 q0 q1 q2 r0 r1 r2 r3 rf rl of ol;simp only[VV.v];clear e0;obtain⟨a0,a1,a2⟩:=Nj P6.out.A;obtain⟨i0,i1,i2,i3,i4,i5⟩:=AX P6.out.I;obtain⟨x0,x1,x2,x3,x4,x5⟩:=Ip P6.out.a;obtain⟨y0,y1,y2,y3,y4,y5⟩:=Ip P6.out.b;obtain⟨q0,q1,q2⟩:=Nj P6.out.O;obtain⟨r0,r1,r2,r3⟩:=Nq P6.out.R;have rf:=P6.out.RF;have rl:=P6.out.R.1;have of:=P6.out.OF;have ol:=P6.out.O.1;go_upto_region 17 with fail;clear a0 a1 a2 i0 i1 i2 i3 i4 i5 x0 x1 x2 x3 x4 x5 y0 y1 y2 y3 y4 y5 q0 q1 q2 r0 r1 r2 r3 rf rl of ol;obtain⟨u7,hu7,b7,v7⟩:∃v,u6.alloc (.cells #[Vi j.k,.bool j.s,Vi j.m,Vi j.h,Vi j.lo,Vi j.hi] 42)=v/\Below u6.heap.size u6 v/\Vb v u6.heap.size j:=⟨_,rfl,Ak,Vb.new u6 j⟩
 rw[hu7];clear hu7;have P7:Hid (Ky w u7 bA cA g cg z c op (di:Int) (ia:Int) (ib:Int) imm (q:Int) no z c na nb (V ia) (V ib) V):=P6.out.below b7;have HV7:=hxy v7;have ov:nb<u6.heap.size:=P6.out.b.1;have ov2:=P6.out.R.1;have ov3:=P6.out.O.1;have ov4:=P6.out.G.lt;have ov5:=P6.out.a.1;clear b7 v7 P6;generalize u6.heap.size=nj at *;obtain⟨a0,a1,a2⟩:=Nj P7.out.A;obtain⟨i0,i1,i2,i3,i4,i5⟩:=AX P7.out.I;obtain⟨x0,x1,x2,x3,x4,x5⟩:=Ip P7.out.a;obtain⟨y0,y1,y2,y3,y4,y5⟩:=Ip P7.out.b;obtain⟨q0,q1,q2⟩:=Nj P7.out.O;obtain⟨r0,r1,r2,r3⟩:=Nq P7.out.R;have rf:=P7.out.RF;have rl:=P7.out.R.1;have of:=P7.out.OF;have ol:=P7.out.O.1;obtain⟨t0,t1,t2,t3,t4,t5⟩:=HV7.out.cells;have tf:=HV7.out.free;have tl:=HV7.out.lt;go_cut [94](fun s94 wx=>(∃b:Bool,s94=.bool b/\(b=false->f=2->j.k≠1))/\wx=u7)
 case first=>
  by_cases f2:f=2
  ·have e2:(f==2)=true:=by simp[f2]
   clear f2;by_cases jk:j.k=1
   ·have ek:(j.k==1)=true:=by simp[jk]
    clear jk;go_wp2;go_meet;exact⟨⟨_,rfl,fun e=>absurd e (by simp)⟩,rfl⟩
   ·have ek:(j.k==1)=false:=by simp[jk]
    have HJK:=hxy jk;clear jk;go_wp2;go_meet;exact⟨⟨_,rfl,fun _ _=>HJK.out⟩,rfl⟩
  ·have e2:(f==2)=false:=by simp[f2]
   have HF2:=hxy f2;clear f2;go_wp2;go_meet;exact⟨⟨_,rfl,fun _ e=>absurd e HF2.out⟩,rfl⟩
 case rest=>
 obtain⟨⟨b,rfl,hb2⟩,hw⟩:=hcut;rw[hw];clear hw;have HB2:=hxy hb2;clear hb2;go_upto_if 94 with fail;go_cut [](fun wx=>∃jv,Ky w wx bA cA g cg z c op (di:Int) (ia:Int) (ib:Int) imm (q:Int) no z c na nb (V ia) (V ib) V/\Vb wx nj jv/\GV jv nH/\(f=2->jv.k≠1))
 case first=>
  cases b
  ·go_wp2
   go_meet;exact⟨j,P7.out,HV7.out,HGJ.out,HB2.out (by simp)⟩
  ·go_wp2_with fail
   refine(Ap true (-1) _).mono ?_;rintro e v7⟨rfl,hbe⟩;have Q7:Hid (Ky w v7 bA cA g cg z c op (di:Int) (ia:Int) (ib:Int) imm (q:Int) no z c na nb (V ia) (V ib) V):=P7.out.below hbe;have HW7:Hid (Vb v7 nj j):=HV7.out.below hbe HV7.out.lt;clear hbe P7 HV7 t0 t1 t2 t3 t4 t5 tf tl;clear a0 a1 a2 i0 i1 i2 i3 i4 i5 x0 x1 x2 x3 x4 x5 y0 y1 y2 y3 y4 y5 q0 q1 q2 r0 r1 r2 r3 rf rl of ol;obtain⟨nv,hnv⟩:=Ae (Az true (-1));rw[hnv];have HNV:Hid (GV nv nH/\nv.k=0):=by rw[<-hnv];exact⟨I8 _ _ _,rfl⟩
   clear hnv;simp only[VV.v];obtain⟨t0,t1,t2,t3,t4,t5⟩:=HW7.out.cells;have tf:=HW7.out.free;have tl:=HW7.out.lt;obtain⟨a0,a1,a2⟩:=Nj Q7.out.A;obtain⟨i0,i1,i2,i3,i4,i5⟩:=AX Q7.out.I;obtain⟨x0,x1,x2,x3,x4,x5⟩:=Ip Q7.out.a;obtain⟨y0,y1,y2,y3,y4,y5⟩:=Ip Q7.out.b;obtain⟨q0,q1,q2⟩:=Nj Q7.out.O;obtain⟨r0,r1,r2,r3⟩:=Nq Q7.out.R;have rf:=Q7.out.RF;have rl:=Q7.out.R.1;have of:=Q7.out.OF;have ol:=Q7.out.O.1;go_wp2_with fail;go_meet;exact⟨nv,Q7.out.asideV ov2 ov4 ov3 ov5 ov nv,Mi HW7.out nv,HNV.out.1,fun _=>by have:=HNV.out.2;omega⟩
 case rest=>
 obtain⟨jv,p8,v8,gj,hk⟩:=hcut;generalize wc=u8 at *;have P8:=hxy p8;have HV8:=hxy v8;have HGV:=hxy gj;have HK:=hxy hk;clear p8 v8 gj hk P7 HV7 HGJ HB2 t0 t1 t2 t3 t4 t5 tf tl;clear a0 a1 a2 i0 i1 i2 i3 i4 i5 x0 x1 x2 x3 x4 x5 y0 y1 y2 y3 y4 y5 q0 q1 q2 r0 r1 r2 r3 rf rl of ol;obtain⟨a0,a1,a2⟩:=Nj P8.out.A;obtain⟨i0,i1,i2,i3,i4,i5⟩:=AX P8.out.I;obtain⟨x0,x1,x2,x3,x4,x5⟩:=Ip P8.out.a;obtain⟨y0,y1,y2,y3,y4,y5⟩:=Ip P8.out.b;obtain⟨q0,q1,q2⟩:=Nj P8.out.O;obtain⟨r0,r1,r2,r3⟩:=Nq P8.out.R;have rf:=P8.out.RF;have rl:=P8.out.R.1;have of:=P8.out.OF;have ol:=P8.out.O.1;obtain⟨t0,t1,t2,t3,t4,t5⟩:=HV8.out.cells;have tf:=HV8.out.free;have tl:=HV8.out.lt;go_upto_region 19 with fail;go_cut [](fun wx=>∃pv,Ky w wx bA cA g cg z c op (di:Int) (ia:Int) (ib:Int) imm (q:Int) no z c na nb (V ia) (V ib) V/\Vb wx nj pv/\GV pv nH)
 case first=>
  cases hjs:jv.s<;>rw[hjs]at t1
  ·clear hjs
   by_cases f2:f=2
   ·have e2:(f==2)=true:=by simp[f2]
    have HF2:=hxy f2;clear f2;go_wp2;go_meet;exact⟨{jv with s:=true},P8.out.aside ov2 ov4 ov3 ov5 ov _ _,cZ HV8.out true,bP HGV.out (fun k=>absurd k (HK.out HF2.out))⟩
   ·have e2:(f==2)=false:=by simp[f2]
    clear f2;go_wp2;go_meet;exact⟨{jv with s:=false},P8.out.aside ov2 ov4 ov3 ov5 ov _ _,cZ HV8.out false,bP HGV.out (fun _=>rfl)⟩
  ·have HJS:=hxy hjs
   clear hjs;go_wp2;go_meet;exact⟨{jv with s:=true},P8.out.aside ov2 ov4 ov3 ov5 ov _ _,cZ HV8.out true,bP HGV.out (fun k=>HJS.out.symm.trans (fP HGV.out k))⟩
 case rest=>
 obtain⟨pv,p9,v9,gp⟩:=hcut;generalize wc=u9 at *;have P9:=hxy p9;have HV9:=hxy v9;have HGP:=hxy gp;clear p9 v9 gp P8 HV8 HGV HK t0 t1 t2 t3 t4 t5 tf tl;clear a0 a1 a2 i0 i1 i2 i3 i4 i5 x0 x1 x2 x3 x4 x5 y0 y1 y2 y3 y4 y5 q0 q1 q2 r0 r1 r2 r3 rf rl of ol;obtain⟨a0,a1,a2⟩:=Nj P9.out.A;obtain⟨i0,i1,i2,i3,i4,i5⟩:=AX P9.out.I;obtain⟨x0,x1,x2,x3,x4,x5⟩:=Ip P9.out.a;obtain⟨y0,y1,y2,y3,y4,y5⟩:=Ip P9.out.b;obtain⟨q0,q1,q2⟩:=Nj P9.out.O;obtain⟨r0,r1,r2,r3⟩:=Nq P9.out.R;have rf:=P9.out.RF;have rl:=P9.out.R.1;have of:=P9.out.OF;have ol:=P9.out.O.1;obtain⟨t0,t1,t2,t3,t4,t5⟩:=HV9.out.cells;have tf:=HV9.out.free;have tl:=HV9.out.lt;obtain⟨d0,d1,d2,d3,d4,d5⟩:=Cm P9.out.G di hd;have gf:=P9.out.G.free;have gl:=P9.out.G.lt;have og2:=P9.out.o2;go_upto_region 21 with fail;clear a0 a1 a2 i0 i1 i2 i3 i4 i5 x0 x1 x2 x3 x4 x5 y0 y1 y2 y3 y4 y5 q0 q1 q2 r0 r1 r2 r3 rf rl of ol;clear t0 t1 t2 t3 t4 t5 tf tl d0 d1 d2 d3 d4 d5 gf gl;change Code.wp _ _ _ _ (put6 u9 g (di*6) pv);obtain⟨u10,hu10⟩:=Ae (put6 u9 g (di*6) pv);rw[hu10];have P10:Hid (Ky w u10 bA cA g cg z c op (di:Int) (ia:Int) (ib:Int) imm (q:Int) no z c na nb (V ia) (V ib) (Eo V di pv)):=by rw[<-hu10];exact P9.out.put hd pv
 clear hu10 P9 HV9;obtain⟨a0,a1,a2⟩:=Nj P10.out.A;obtain⟨i0,i1,i2,i3,i4,i5⟩:=AX P10.out.I;obtain⟨x0,x1,x2,x3,x4,x5⟩:=Ip P10.out.a;obtain⟨y0,y1,y2,y3,y4,y5⟩:=Ip P10.out.b;obtain⟨q0,q1,q2⟩:=Nj P10.out.O;obtain⟨r0,r1,r2,r3⟩:=Nq P10.out.R;have rf:=P10.out.RF;have rl:=P10.out.R.1;have of:=P10.out.OF;have ol:=P10.out.O.1;have og:=P10.out.o1;go_wp2;refine bodyPost_ret (v:=.agg #[Vi 0,Vs g 8 cg,Vi z,Vi c]) (by simp[results,Tryz.results135,go_sem, *]) rfl ⟨0,Eo V di pv,z,c,Or.inr ⟨rfl,g,cg,by omega,rfl,?_⟩,fun _=>Ut HOK.out HGP.out HF.out.1 HF.out.2,fun _=>rfl,?_⟩
 ·(iterate 4 refine A9.other ?_ (show w.heap.size+1+1+1≠g by omega) _)
  exact P10.out.G
 ·(iterate 4 refine Below.setCell ?_ (show w.heap.size<=w.heap.size+1+1+1 by omega) _)
  exact P10.out.bel
end Go.Proofs.YtfpeecaaleijcaaGreatDoor
