import Derived.Test.YtcjnmdgomocpgaaGreatDoorOfCk5c
set_option maxHeartbeats 16000000
set_option maxRecDepth 20000
namespace Go.Proofs.YtcjnmdgomocpgaaGreatDoor
open Go.RowKit Go.Deep
variable {F e p z:Int}{B K b c m o:Nat}{S:Nat->HS}{O:Nat->VV}{U:Option Addr}{s:SV}{u w:World}
def XT(s:SV):List Value:=[Vi s.k,Vi s.op,Vi s.d,Vi s.a,Vi s.b,Vi s.imm,Vi s.h,Vi s.cond,Vi s.thn,Vi s.els,Vi s.proc]
theorem SL.head{d:List SV}{v:Value}(h:SL w v (s::d)):∃b c a,v=.slice (some ⟨b,c,none⟩) (d.length+1) a/\d.length+1<=a/\At w b c ((d.length+1)*11) (JW (Qb (s::d))):=by
 obtain⟨l,a,j,k,e⟩:=h;rcases e with e|⟨b,c,rfl,e⟩
 ·simp at e
 ·exact⟨b,c,a,j,k,e⟩
theorem Vl{Y:Nat}{L d:List SV}{i u:Nat}(h:At w b c (L.length*11) (JW (Qb L)))(n:(L.drop i).take d.length=d)(o:L.length<=Y)(k:i+d.length<=L.length)(a:U=if Y=i then some ⟨b,c,none⟩else some ⟨b,c+i*11,none⟩)(l:m=d.length)(j:u=Y-i):SL w (.slice U m u) d:=by
 subst l j;refine⟨U,_,rfl,AB,?_⟩;by_cases e:Y=i
 ·exact .inl AB
 ·rw[if_neg e]at a
  have:=At.sub h i d.length k;rw[n]at this;exact .inr ⟨b,_,a,this⟩
structure YB(R:CR)(nH:Nat)(S:Nat->HS)(V0:Nat->VV)(bA B ny:Nat)(err at':Int)(ao:Option Addr)(m cap:Nat)(z c rounds:Int)(u:World):Prop where
 Y:u.heap[ny]?=some (.cells #[Vi err,Vi at',.slice ao m cap,Vi z,Vi c,Vi rounds] 89)
 ab:err=0->∃(g cg:Nat)(V:Nat->VV),(Value.slice ao m cap)=Vs g 8 cg/\(g=bA∨B<=g)/\g≠ny/\Ak u g (8*6) (vF V)/\BK nH S 8 V0 8 V z c=true/\R=.ok ⟨V,z,c⟩ rounds
 bd:Wv R err at'
theorem YB.below{R:CR}{a:Nat}{cap:Nat}{c b:Int}{Q:World}(h:YB R o S O K B a F p U m cap z c b u)(f:Below u.heap.size u Q):YB R o S O K B a F p U m cap z c b Q:=
 ⟨Ac h.Y f,fun e=>by obtain⟨g,j,V,k,l,n,d,q⟩:=h.ab e;exact⟨g,j,V,k,l,n,d.below f d.lt,q⟩,h.bd⟩
theorem YB.cells{R:CR}{a:Nat}{cap:Nat}{c b:Int}(h:YB R o S O K B a F p U m cap z c b u):u.cell? (Va a 0)=some (Vi F)/\u.cell? (Va a 1)=some (Vi p)/\u.cell? (Va a 2)=some (.slice U m cap)/\u.cell? (Va a 3)=some (Vi z)/\u.cell? (Va a 4)=some (Vi c)/\u.cell? (Va a 5)=some (Vi b)/\(∀i,u.frozen? (Va a i)=false)/\a<u.heap.size:=
 ⟨(AJ h.Y 0).trans rfl,(AJ h.Y 1).trans rfl,(AJ h.Y 2).trans rfl,(AJ h.Y 3).trans rfl,(AJ h.Y 4).trans rfl,(AJ h.Y 5).trans rfl,CP h.Y,Bp h.Y⟩
theorem Vg{R:CR}{at':Int}{Y:Nat}{c rounds:Int}(h:F=0->U8 R rounds o S O K B u (.slice U m Y) z c)(l:Wv R F at'):YB R o S O K B u.heap.size F at' U m Y z c rounds (u.alloc (.cells #[Vi F,Vi at',.slice U m Y,Vi z,Vi c,Vi rounds] 89)):=
 ⟨Az _ _,fun e=>by
   obtain⟨g,b,V,d,j,a,k⟩:=h e;exact⟨g,b,V,d,j,by have:=a.lt;omega,a.below Ai a.lt,k⟩,l⟩
theorem Nc{t:Nat}{a Q p x3 x4 n:Value}(h:u.heap[b]?=some (.cells #[a,Q,p,x3,x4,n] t))(c d e j k l:Value):(FC u b c d e j k l).heap[b]?=some (.cells #[c,d,e,j,k,l] t):=
 BG (BG (BG (BG (BG (BG h 0 c) 1 d) 2 e) 3 j) 4 k) 5 l
theorem tZ{n:Nat}{xs:List SV}(h:At w b c ((n+1)*11) (JW (Qb (s::xs)))):w.cell? (Va b c)=some (Vi s.k)/\w.cell? (Va b (c+1))=some (Vi s.op)/\w.cell? (Va b (c+2))=some (Vi s.d)/\w.cell? (Va b (c+3))=some (Vi s.a)/\w.cell? (Va b (c+4))=some (Vi s.b)/\w.cell? (Va b (c+5))=some (Vi s.imm)/\w.cell? (Va b (c+6))=some (Vi s.h)/\w.cell? (Va b (c+7))=some (Vi s.cond)/\w.cell? (Va b (c+8))=some (Vi s.thn)/\w.cell? (Va b (c+9))=some (Vi s.els)/\w.cell? (Va b (c+10))=some (Vi s.proc):=
 ⟨h.cell (i:=0) AB,h.cell (i:=1) AB,h.cell (i:=2) AB,h.cell (i:=3) AB,h.cell (i:=4) AB,h.cell (i:=5) AB,h.cell (i:=6) AB,h.cell (i:=7) AB,h.cell (i:=8) AB,h.cell (i:=9) AB,h.cell (i:=10) AB⟩
theorem qi(h:u.heap[c]?=some (.cells (XT s).toArray 117)):u.cell? (Va c 0)=some (Vi s.k)/\u.cell? (Va c 7)=some (Vi s.cond)/\u.cell? (Va c 8)=some (Vi s.thn)/\u.cell? (Va c 9)=some (Vi s.els)/\c<u.heap.size:=
 ⟨(AJ h 0).trans rfl,(AJ h 7).trans rfl,(AJ h 8).trans rfl,(AJ h 9).trans rfl,Bp h⟩
section
variable{G:SG}{s:SV}{x y:List SV}{here r r1 r2:Int}{F B C:FS}{RR:CR}
theorem Zk(i:cmpL G s x y here F r=RR)(h:s.k=3):Cq (fun B q=>ET G x (here+1) B q) s.cond here 20 F r=RR:=by
 rw[<-i,cmpL,if_pos h]
theorem Tt(i:cmpL G s x y here F r=RR)(h:¬s.k=3){f:Int}(a:He F s.cond=f)(b:¬f=0):RR=.bad f here:=by
 rw[<-i,cmpL,if_neg h,if_pos AB,a]
theorem Uz(i:cmpL G s x y here F r=RR)(h:¬s.k=3)(c:He F s.cond=0){a:Int}(b:ET G x (here+1) F r=.bad e a):RR=.bad e a:=by
 rw[<-i,cmpL,if_neg h,if_neg AB,b]
theorem TI(i:cmpL G s x y here F r=RR)(h:¬s.k=3)(b:s.thn=(x.length:Int))(j:He F s.cond=0){a:Int}(c:ET G x (here+1) F r=.ok B r1)(d:ET G y (here+1+(x.length:Int)) F r1=.bad e a):RR=.bad e a:=by
 rw[<-i,cmpL,if_neg h,if_neg AB,c];dsimp only;rw[b,d]
theorem ic(i:cmpL G s x y here F r=RR)(h:¬s.k=3)(a:s.thn=(x.length:Int))(d:He F s.cond=0)(b:ET G x (here+1) F r=.ok B r1)(c:ET G y (here+1+(x.length:Int)) F r1=.ok C r2):RR=.ok (jF B C) r2:=by
 rw[<-i,cmpL,if_neg h,if_neg AB,b];dsimp only;rw[a,c]
end
theorem Oj(s:SV)(x y:List SV)(ht:s.thn=(x.length:Int))(he:s.els=(y.length:Int))(IHx:BC x)(IHy:BC y)(bH cH nH:Nat)(S:Nat->HS)(bR cR:Nat)(V0:Nat->VV)(bA cA:Nat)(V:Nat->VV)(z c here rounds:Int)(v:Value)(w:World)(lH:nH<=1048576)(h1:Ck w bH nH S bR 8 V0)(h2:Ak w bA (8*6) (vF V))(h3:BK nH S 8 V0 8 V z c=true)(h4:SL w v (s::(x++y)))(hl:x.length+y.length<=1048576)(r0:0<=rounds)(r1:rounds<=1000)(a0:0<=here)(a1:here+1+(x.length:Int)+(y.length:Int)<=2097152):
 Ks 66 #[.agg #[Vs bH nH cH,Vs bR 8 cR],v,Vi here,.agg #[Vs bA 8 cA,Vi z,Vi c],Vi rounds] w (qK (cmpL ⟨nH,S,V0⟩ s x y here ⟨V,z,c⟩ rounds) nH S V0 bA w):=by
 obtain⟨RR,hRR⟩:=Au (cmpL ⟨nH,S,V0⟩ s x y here ⟨V,z,c⟩ rounds);rw[hRR];have INV:=hxy hRR;clear hRR;have N1:Hid (bH<w.heap.size/\bR<w.heap.size):=⟨h1.h.lt,h1.r.lt⟩
 have LL:=hxy lH;have HT:Hid (s.thn=(x.length:Int)/\s.els=(y.length:Int)):=⟨ht,he⟩
 have X0:Hid (LX w bH cH nH S bR cR V0 bA w.heap.size (w.heap.size+1) (w.heap.size+1+1) bA cA V z c (((w.alloc (.cells #[Vs bH nH cH,Vs bR 8 cR] 26)).alloc (.cells #[Vs bA 8 cA,Vi z,Vi c] 31)).alloc (.cells oz 89))):=Vy w h1 h2 h3;obtain⟨b,off,cap,rfl,hcap,hat⟩:=h4.head;rw[List.length_append]at hcap hat⊢;have HAT:=hxy hat;clear h1 h2 h3 lH h4 hat ht he;go_enter Tryz.func66,Tryz.ntmps66;go_upto_region 1 with fail;unfold oz at X0;obtain⟨u,hu⟩:=Au (((w.alloc (.cells #[Vs bH nH cH,Vs bR 8 cR] 26)).alloc (.cells #[Vs bA 8 cA,Vi z,Vi c] 31)).alloc (.cells #[Vi 0,Vi 0,.slice none 0 0,Vi 0,Vi 0,Vi 0] 89));rw[hu]at X0⊢;obtain⟨bs,hbs⟩:=Au w.heap.size;obtain⟨bh,hbh⟩:=Au (w.heap.size+1);obtain⟨br,hbr⟩:=Au (w.heap.size+1+1);have X0:Hid (LX w bH cH nH S bR cR V0 bA bs bh br bA cA V z c u):=by rw[<-hbs,<-hbh,<-hbr];exact X0
 rw[hbr,hbh,hbs];have BO:Hid (w.heap.size=bs/\bs<bh/\bh<br):=⟨hbs,AB,AB⟩
 clear hu hbs hbh hbr;have AT0:=HAT.below X0.bel HAT.lt;obtain⟨k0,k1,k2,k3,k4,k5,k6,k7,k8,k9,k10⟩:=tZ AT0;have kl:=AT0.lt;go_upto_region 2 with fail;obtain⟨u1,hu1,bu1⟩:∃y,u.alloc (.cells (XT s).toArray 117)=y/\Bw u y:=⟨_,rfl,Ai⟩
 have q1:=Az u (.cells (XT s).toArray 117);rw[hu1]at q1;unfold XT at hu1 q1;rw[hu1];have X1:=hxy (X0.below bu1);obtain⟨sb,hsb⟩:=Au u.heap.size;rw[hsb]at q1⊢;have Q1:=hxy q1;clear hu1 bu1 q1 hsb k0 k1 k2 k3 k4 k5 k6 k7 k8 k9 k10 kl AT0 X0;obtain⟨k0,k7,k8,k9,kl⟩:=qi Q1;rw[HT.1]at k8;rw[HT.2]at k9;go_upto_region 3 with fail;obtain⟨tv,htv,HS⟩:∃q,Value.slice (if cap=1 then some ⟨b,off,none⟩else some ⟨b,off+11,none⟩) (1+x.length-1) (cap-1)=q/\Hid (SL u1 q x):=⟨_,rfl,Vl (L:=s::(x++y)) (i:=1) (by rw[List.length_cons,List.length_append];exact HAT.below X1.bel HAT.lt) AX (by simp;omega) (by simp;omega) rfl AB rfl⟩
 rw[htv];clear htv;by_cases hk3:s.k=3
 ·obtain⟨⟨s0,s1⟩,⟨c0,c1,c2⟩,cl1,cl2⟩:=X1.cells
  go_wp2_with fail;refine(WR x IHx bH cH nH S bR cR V0 bA cA V z c s.cond here rounds tv u1 LL X1.sc X1.A X1.ok HS r0 r1 a0 AB).mono ?_;rintro e t⟨err,at2,ao,m,cap2,z2,c2',rr,rfl,q0,q1,hbd,hab,hb⟩;rw[Zk INV.out hk3]at hbd hab;have HBD:=hxy hbd;clear hbd;have Y:=hxy (X1.below hb);have HAB:Hid (err=0->U8 RR rr nH S V0 bA w.heap.size (FC t br (Vi err) (Vi at2) (.slice ao m cap2) (Vi z2) (Vi c2') (Vi rr)) (.slice ao m cap2) z2 c2'):=fun e=>by
   obtain⟨g,cg,U,h1,h2,h3,h4⟩:=hab e;have:=X1.bel.size;have hne:g≠br:=by
    rcases h2 with h2|h2
    ·rw[h2];exact X1.ne
    ·have:=Bp X1.R;omega
   exact⟨g,cg,U,h1,AB,IL h3 hne _ _ _ _ _ _,h4⟩
  obtain⟨y0,y1,y2,y3,y4,y5,yf,yl⟩:=Y.res;clear hb hab s0 s1 c0 c1 c2 cl1 cl2 k0 k7 k8 k9 kl;unfold DV;go_wp2_with fail;refine mY (DV err at2 (.slice ao m cap2) z2 c2' rr) (by simp[results,Tryz.results66,go_sem,DV, *]) ⟨err,at2,ao,m,cap2,z2,c2',rr,rfl,q0,q1,HBD,HAB,?_⟩;exact Ci Y.bel (by have:=BO.out;omega) _ _ _ _ _ _
 obtain⟨_,⟨c0,c1,c2⟩,cl1,cl2⟩:=X1.cells;go_wp2_with fail;refine(Ko _ _ _ V _ _ _ _).mono ?_;rintro e u2⟨rfl,hb⟩;obtain⟨fr,hfr⟩:=Au (He ⟨V,z,c⟩ s.cond);rw[hfr];have HFR:=hxy hfr;have HK3:=hxy hk3;clear hfr;have X2:=hxy (X1.below hb);have Q2:=hxy (Ac Q1 hb);have HS2:=hxy (HS.below hb);clear hb X1 Q1 HS c0 c1 c2 cl1 cl2 k0 k7 k8 k9 kl;by_cases hf:fr=0
 rotate_left
 ·go_wp2_with fail
  refine(II _ _ _ _).mono ?_;rintro e t⟨rfl,hb⟩;have Y:=hxy (X2.below hb);obtain⟨y0,y1,y2,y3,y4,y5,yf,yl⟩:=Y.res;unfold DV;go_wp2_with fail;refine mY (DV fr here (.slice none 0 0) 0 0 rounds) (by simp[results,Tryz.results66,go_sem,DV, *]) ⟨fr,here,none,0,0,0,0,rounds,rfl,r0,r1,⟨fun _=>Tt INV HK3 HFR hf,fun e=>absurd e hf⟩,fun e=>absurd e hf,?_⟩;exact Ci Y.bel (by have:=BO.out;omega) _ _ _ _ _ _
 subst hf;obtain⟨⟨s0,s1⟩,⟨c0,c1,c2⟩,cl1,cl2⟩:=X2.cells;go_wp2_with fail;refine(IHx bH cH nH S bR cR V0 bA cA V z c (here+1) rounds tv u2 LL X2.sc X2.A X2.ok HS2 r0 r1 AB AB).mono ?_;rintro e u3⟨err,at2,ao,m,cap2,z2,c2',rr,rfl,q0,q1,hbd,hab,hb⟩;obtain⟨RX,hRX⟩:=Au (ET ⟨nH,S,V0⟩ x (here+1) ⟨V,z,c⟩ rounds);rw[hRX]at hbd hab;have HRX:=hxy hRX;clear hRX;have bn3:Bw u3 (u3.alloc (.cells #[Vi err,Vi at2,.slice ao m cap2,Vi z2,Vi c2',Vi rr] 89)):=Ai;have yb3:=Vg (at':=at2) (rounds:=rr) hab hbd;obtain⟨u4,hu4⟩:=Au (u3.alloc (.cells #[Vi err,Vi at2,.slice ao m cap2,Vi z2,Vi c2',Vi rr] 89));rw[hu4]at bn3 yb3;have X4:=hxy ((X2.below hb).below bn3);have Q4:=hxy (Ac (Ac Q2 hb) bn3);have YX:=hxy yb3;have LB:Hid (br<u2.heap.size/\w.heap.size<=u2.heap.size):=⟨Bp X2.R,X2.bel.size⟩
 have NX0:=hb.size;clear hb hab hbd yb3 bn3 X2 Q2 HS2 s0 s1 c0 c1 c2 cl1 cl2;unfold DV;go_upto_region 9 with fail;obtain⟨nx,hnx⟩:=Au u3.heap.size;rw[hnx]at YX NX0⊢;have NX:=hxy NX0;clear hu4 hnx NX0;obtain⟨v0,v1,v2,v3,v4,v5,vf,vl⟩:=YX.cells;by_cases hx0:err=0
 rotate_left
 ·obtain⟨y0,y1,y2,y3,y4,y5,yf,yl⟩:=X4.res
  go_wp2_with fail;refine mY (DV err at2 (.slice ao m cap2) z2 c2' rr) (by simp[results,Tryz.results66,go_sem,DV, *]) ⟨err,at2,ao,m,cap2,z2,c2',rr,rfl,q0,q1,⟨fun _=>Uz INV HK3 HFR (HRX.trans (YX.bd.1 hx0)),fun e=>absurd e hx0⟩,fun e=>absurd e hx0,?_⟩;exact Ci X4.bel (by have:=BO.out;omega) _ _ _ _ _ _
 subst hx0;go_upto_region 11 with fail;clear v0 v1 v2 v3 v4 v5 vf vl;obtain⟨RY,hRY⟩:=Au (ET ⟨nH,S,V0⟩ y (here+1+(x.length:Int)) ⟨V,z,c⟩ rr);have HRY:=hxy hRY;clear hRY;go_cut [10,14,15](fun s10 s14 s15 wx=>s10=Vq br/\s14=Vq nx/\∃(ny:Nat)(err3 at3:Int)(ao3:Option Addr)(m3 cap3:Nat)(z3 c3 r3:Int),s15=Vq ny/\nx<ny/\0<=r3/\r3<=1000/\LX w bH cH nH S bR cR V0 bA bs bh br bA cA V z c wx/\YB RX nH S V0 bA u2.heap.size nx 0 at2 ao m cap2 z2 c2' rr wx/\YB RY nH S V0 bA u2.heap.size ny err3 at3 ao3 m3 cap3 z3 c3 r3 wx)
 case first=>
  have j0:Cb u4 bs 0 (Vs bH nH cH):=fun w' h=>(X4.below h).cells.1.1
  have j1:Cb u4 bs 1 (Vs bR 8 cR):=fun w' h=>(X4.below h).cells.1.2
  have j2:Cb u4 bh 0 (Vs bA 8 cA):=fun w' h=>(X4.below h).cells.2.1.1
  have j3:Cb u4 bh 1 (Vi z):=fun w' h=>(X4.below h).cells.2.1.2.1
  have j4:Cb u4 bh 2 (Vi c):=fun w' h=>(X4.below h).cells.2.1.2.2
  have j5:Cb u4 sb 8 (Vi (x.length:Int)):=fun w' h=>by rw[<-HT.1];exact(qi (Ac Q4 h)).2.2.1
  have j6:Cb u4 nx 5 (Vi rr):=fun w' h=>(YX.below h).cells.2.2.2.2.2.1
  have hw1:IntKind.i64.wrap (1+(x.length:Int))=((1+x.length:Nat):Int):=by rw[IntKind.wrap_i64]<;>omega
  have hw2:IntKind.i64.wrap (here+1)=here+1:=by rw[IntKind.wrap_i64]<;>omega
  have hw3:IntKind.i64.wrap (here+1+(x.length:Int))=here+1+(x.length:Int):=by rw[IntKind.wrap_i64]<;>omega
  have hg1:1+x.length<=x.length+y.length+1:=AB;have hg2:x.length+y.length+1<=cap:=AB;refine wp_region_held_drew (S:=fun w'=>Bw u4 w') AV BJ.drew (fun _=>?_);refine AU 0 ?_;refine AU 1 ?_;refine AU 2 ?_;refine AU 3 ?_;refine AU 4 ?_;refine Cj 5 ?kav rfl ?kay ?kar
  case kay=>(intro w hSw;(try dsimp only at hSw);go_simp;rw[if_pos AB])
  refine Cn ?_;refine AU 6 ?_;refine AU 7 ?_;refine AU 8 ?_;refine AU 9 ?_;refine AU 10 ?_;refine AU 11 ?_;refine AU 12 ?_;refine AU 13 ?_;obtain⟨ev,hev,HE⟩:∃q,Value.slice (if cap=(1+(x.length:Int)).toNat then some ⟨b,off,none⟩else some ⟨b,off+(1+(x.length:Int)).toNat*11,none⟩) (x.length+y.length+1-(1+(x.length:Int)).toNat) (cap-(1+(x.length:Int)).toNat)=q/\Hid (SL u4 q y):=⟨_,rfl,Vl (L:=s::(x++y)) (i:=1+x.length) (by rw[List.length_cons,List.length_append];exact HAT.below X4.bel HAT.lt) (by rw[Nat.add_comm];simp) (by simp;omega) (by simp;omega) (by rw[show(1+(x.length:Int)).toNat=1+x.length by omega]) AB AB⟩
  rw[hev];clear hev;have hbd:Bw u4 u4.drew:=BJ.drew;generalize u4.drew=t0 at hbd⊢;have E2:u2.heap.size<=u4.heap.size:=by have:=Bp YX.Y;have:=NX.out;omega
  have EN:=Bp YX.Y;refine wpAnyH_ready (rs:=[14,15]) AV AX ?_;refine AllReadyH.cons rfl (fun KK hK=>?_) (AllReadyH.cons rfl (fun KK hK=>?_) AllReadyH.nil)
  ·go_simp
   refine(IHy bH cH nH S bR cR V0 bA cA V z c (here+1+(x.length:Int)) rr ev t0 LL (X4.below hbd).sc (X4.below hbd).A X4.ok (HE.below hbd) q0 q1 AB AB).mono ?_;rintro e t1⟨err3,at3,ao3,m3,cap3,z3,c3,r3,rfl,p0,p1,hbd3,hab,hb⟩;rw[HRY.out]at hbd3 hab;have hB1:=hbd.trans (hb.mono hbd.size);refine hK.out _ _ hB1 (fun _=>?_);clear hK KK;unfold DV;refine Cn ?_;refine AO 15 rfl (fun KK hK=>?_);go_simp;refine hK.out _ _ (hB1.alloc hB1.size _) (fun _=>?_);clear hK KK;refine Cn ?_;refine AO 16 rfl (fun KK hK=>?_);go_simp;refine hK.out _ _ (hB1.alloc hB1.size _) (fun _=>?_);clear hK KK;refine wpAnyH_done AV ?_ _;have bn:Bw t1 (t1.alloc (.cells #[Vi err3,Vi at3,.slice ao3 m3 cap3,Vi z3,Vi c3,Vi r3] 89)):=Ai;have hab':err3=0->U8 RY r3 nH S V0 bA u2.heap.size t1 (.slice ao3 m3 cap3) z3 c3:=fun e=>by
    obtain⟨g,cg,U,h1,h2,h3,h4⟩:=hab e;exact⟨g,cg,U,h1,by have:=hbd.size;omega,h3,h4⟩
   have RES:Hid (LX w bH cH nH S bR cR V0 bA bs bh br bA cA V z c (t1.alloc (.cells #[Vi err3,Vi at3,.slice ao3 m3 cap3,Vi z3,Vi c3,Vi r3] 89))/\YB RX nH S V0 bA u2.heap.size nx 0 at2 ao m cap2 z2 c2' rr (t1.alloc (.cells #[Vi err3,Vi at3,.slice ao3 m3 cap3,Vi z3,Vi c3,Vi r3] 89))/\YB RY nH S V0 bA u2.heap.size t1.heap.size err3 at3 ao3 m3 cap3 z3 c3 r3 (t1.alloc (.cells #[Vi err3,Vi at3,.slice ao3 m3 cap3,Vi z3,Vi c3,Vi r3] 89))):=⟨(X4.below hB1).below bn,(YX.below hB1).below bn,Vg hab' hbd3⟩
   have hn1:nx<t1.heap.size:=by have:=hB1.size;omega
   clear hab hab' hbd3 hb hB1 bn j0 j1 j2 j3 j4 j5 j6;go_wp2_with fail;go_meet;exact⟨rfl,rfl,t1.heap.size,err3,at3,ao3,m3,cap3,z3,c3,r3,rfl,hn1,p0,p1,RES.1,RES.2.1,RES.2.2⟩
  ·go_simp
   obtain⟨t1,ht1,bn,n1⟩:∃q,t0.alloc (.cells #[Vi 0,Vi 0,.slice none 0 0,Vi 0,Vi 0,Vi 0] 89)=q/\Bw t0 q/\q.heap[t0.heap.size]?=some (.cells #[Vi 0,Vi 0,.slice none 0 0,Vi 0,Vi 0,Vi 0] 89):=⟨_,rfl,Ai,Az _ _⟩
   rw[ht1];have hB1:=hbd.trans (bn.mono hbd.size);refine hK.out _ _ hB1 (fun _=>?_);clear hK KK;refine Cn ?_;refine AO 14 rfl (fun KK hK=>?_);go_simp;refine(IHy bH cH nH S bR cR V0 bA cA V z c (here+1+(x.length:Int)) rr ev t1 LL (X4.below hB1).sc (X4.below hB1).A X4.ok (HE.below hB1) q0 q1 AB AB).mono ?_;rintro e t2⟨err3,at3,ao3,m3,cap3,z3,c3,r3,rfl,p0,p1,hbd3,hab,hb⟩;rw[HRY.out]at hbd3 hab;have hB2:=hB1.trans (hb.mono hB1.size);refine hK.out _ _ hB2 (fun _=>?_);clear hK KK;unfold DV;refine Cn ?_;have n2:=Ac n1 hb;have f0:=(AJ n2 0).trans rfl;have f1:=(AJ n2 1).trans rfl;have f2:=(AJ n2 2).trans rfl;have f3:=(AJ n2 3).trans rfl;have f4:=(AJ n2 4).trans rfl;have f5:=(AJ n2 5).trans rfl;have ff:=CP n2;have fl:=Bp n2;have hnA:bA≠t0.heap.size:=by have:=(X4.below hbd).A.lt;omega
   have hny:=Bp n1;have hnx:nx<t0.heap.size:=by have:=hbd.size;omega
   have hu4:=hbd.size;obtain⟨ny,hnye⟩:=Au t0.heap.size;rw[hnye]at n2 f0 f1 f2 f3 f4 f5 ff fl hnA hny hnx hu4⊢;have hab':err3=0->U8 RY r3 nH S V0 bA u2.heap.size t2 (.slice ao3 m3 cap3) z3 c3:=fun e=>by
    obtain⟨g,cg,U,h1,h2,h3,h4⟩:=hab e;exact⟨g,cg,U,h1,AB,h3,h4⟩
   have hYB:YB RY nH S V0 bA u2.heap.size ny err3 at3 ao3 m3 cap3 z3 c3 r3 (FC t2 ny (Vi err3) (Vi at3) (.slice ao3 m3 cap3) (Vi z3) (Vi c3) (Vi r3)):=by
    refine⟨Nc n2 _ _ _ _ _ _,fun e=>?_,hbd3⟩;obtain⟨g,cg,U,h1,h2,h3,h4⟩:=hab e;have hne:g≠ny:=AB;exact⟨g,cg,U,h1,AB,hne,IL h3 hne _ _ _ _ _ _,h4⟩
   have bs6:Bw u4 (FC t2 ny (Vi err3) (Vi at3) (.slice ao3 m3 cap3) (Vi z3) (Vi c3) (Vi r3)):=Ci hB2 hu4 _ _ _ _ _ _;have RES:Hid (LX w bH cH nH S bR cR V0 bA bs bh br bA cA V z c (FC t2 ny (Vi err3) (Vi at3) (.slice ao3 m3 cap3) (Vi z3) (Vi c3) (Vi r3))/\YB RX nH S V0 bA u2.heap.size nx 0 at2 ao m cap2 z2 c2' rr (FC t2 ny (Vi err3) (Vi at3) (.slice ao3 m3 cap3) (Vi z3) (Vi c3) (Vi r3))/\YB RY nH S V0 bA u2.heap.size ny err3 at3 ao3 m3 cap3 z3 c3 r3 (FC t2 ny (Vi err3) (Vi at3) (.slice ao3 m3 cap3) (Vi z3) (Vi c3) (Vi r3))):=⟨X4.below bs6,YX.below bs6,hYB⟩
   clear hab hab' hbd3 hb hYB n1 n2 ht1 bn hnye;refine AO 16 rfl (fun KK hK=>?_);go_simp;refine hK.out _ _ bs6 (fun _=>?_);clear hK KK bs6 f0 f1 f2 f3 f4 f5 ff fl j0 j1 j2 j3 j4 j5 j6;refine wpAnyH_done AV ?_ _;go_wp2_with fail;go_meet;exact⟨rfl,rfl,ny,err3,at3,ao3,m3,cap3,z3,c3,r3,rfl,hnx,p0,p1,RES.1,RES.2.1,RES.2.2⟩
 case rest=>
 obtain⟨rfl,rfl,ny,err3,at3,ao3,m3,cap3,z3,c3,r3,rfl,hnxy,p0,p1,l5,y5,y6⟩:=hcut;have X5:=hxy l5;have Y5:=hxy y5;have Y6:=hxy y6;clear l5 y5 y6 X4 YX Q4;generalize wc=u5 at X5 Y5 Y6⊢;obtain⟨v0,v1,v2,v3,v4,v5,vf,vl⟩:=Y6.cells;obtain⟨gx,cgx,Ux,hvx,nwx,_,Ax,okx,hRx⟩:=Y5.ab rfl;have HX0:=hxy (HRX.trans hRx);clear hRx;by_cases hy0:err3=0
 rotate_left
 ·obtain⟨y0,y1,y2,y3,y4,y5,yf,yl⟩:=X5.res
  go_wp2_with fail;refine mY (DV err3 at3 (.slice ao3 m3 cap3) z3 c3 r3) (by simp[results,Tryz.results66,go_sem,DV, *]) ⟨err3,at3,ao3,m3,cap3,z3,c3,r3,rfl,p0,p1,⟨fun _=>TI INV HK3 HT.1 HFR HX0 (HRY.trans (Y6.bd.1 hy0)),fun e=>absurd e hy0⟩,fun e=>absurd e hy0,?_⟩;exact Ci X5.bel (by have:=BO.out;omega) _ _ _ _ _ _
 subst hy0;have HAT0:Hid (at3=0):=Y6.bd.2 rfl;obtain⟨gy,cgy,Uy,hvy,nwy,_,Ay,oky,hRy⟩:=Y6.ab rfl;have HY0:=hxy (HRY.trans hRy);clear hRy;simp only[Value.slice.injEq]at hvx hvy;obtain⟨rfl,rfl,rfl⟩:=hvx;obtain⟨rfl,rfl,rfl⟩:=hvy;obtain⟨x0,x1,x2,x3,x4,x5,xf,xl⟩:=Y5.cells;go_wp2_with fail;refine(Kz _ _ Ux _ _ _ _ Uy _ _ u5 Ax Ay).mono ?_;rintro e u6⟨g4,cg4,rfl,ng4,A4,hb⟩;have ok4:=Ri.join (G:=⟨nH,S,V0⟩) (F:=⟨Ux,z2,c2'⟩) (B:=⟨Uy,z3,c3⟩) okx oky;have hC:=ic INV HK3 HT.1 HFR HX0 HY0;obtain⟨J,hJ⟩:=Au (jF ⟨Ux,z2,c2'⟩ ⟨Uy,z3,c3⟩);rw[hJ]at A4 ok4 hC⊢;obtain⟨U4,z4,c4⟩:=J;have HC:=hxy hC;clear hJ hC;unfold Ri at ok4;dsimp only at A4 ok4⊢;have X6:=hxy (X5.below hb);have Y7:=Y6.below hb;have A4:=hxy A4;have OK4:=hxy ok4;have hny5:ny<u5.heap.size:=vl;have hbr5:=Bp X5.R;have hw5:=X5.bel.size;have hbrny:br≠ny:=by have:=LB.out;have:=NX.out;omega
 have hwny:w.heap.size<=ny:=by have:=LB.out;have:=NX.out;omega
 clear hb ok4 Ax Ay okx oky nwx nwy x0 x1 x2 x3 x4 x5 xf xl v0 v1 v2 v3 v4 v5 vf vl X5 Y5 Y6;obtain⟨v0,v1,v2,v3,v4,v5,vf,vl⟩:=Y7.cells;obtain⟨y0,y1,y2,y3,y4,y5,yf,yl⟩:=X6.res;clear Y7;go_wp2_with fail;refine mY (DV 0 at3 (Vs g4 8 cg4) z4 c4 r3) (by simp[results,Tryz.results66,go_sem,DV, *]) ⟨0,at3,_,_,_,z4,c4,r3,rfl,p0,p1,⟨fun e=>absurd rfl e,fun _=>HAT0.out⟩,fun _=>⟨g4,cg4,U4,rfl,Or.inr AB,?_,OK4,HC⟩,?_⟩
 ·refine IL (((A4.other ?_ _).other ?_ _).other ?_ _) AB _ _ _ _ _ _
  all_goals(show ny≠g4;omega)
 ·refine Ci ?_ (by have:=BO.out;omega) _ _ _ _ _ _
  exact((X6.bel.setCell (p:=Va ny 2) hwny _).setCell (p:=Va ny 3) hwny _).setCell (p:=Va ny 4) hwny _
theorem LX.nh{bH M:Nat}{D cR:Nat}{F bs p Q cA:Nat}{V:Nat->VV}{c:Int}(h:LX w bH M o S D cR O F bs p Q K cA V z c u):K≠p:=fun e=>by
 have q:=h.A.cell (i:=3) AB;rw[e,AJ h.hd 3]at q;simp at q
theorem G9{a k:List SV}(j:Nat)(b:j<11):JW (Qb (a++s::k)) (a.length*11+j)=yD s j:=by
 rw[Gg _ _ _ b];congr 1
 unfold Qb;simp
theorem qo{n:Nat}{e rest:List SV}(h:At w b c (n*11) (JW (Qb (e++s::rest))))(j:e.length<n):w.cell? ⟨b,c+e.length*11,none⟩=some (Vi s.k)/\w.cell? ⟨b,c+e.length*11+1,none⟩=some (Vi s.op)/\w.cell? ⟨b,c+e.length*11+2,none⟩=some (Vi s.d)/\w.cell? ⟨b,c+e.length*11+3,none⟩=some (Vi s.a)/\w.cell? ⟨b,c+e.length*11+4,none⟩=some (Vi s.b)/\w.cell? ⟨b,c+e.length*11+5,none⟩=some (Vi s.imm)/\w.cell? ⟨b,c+e.length*11+6,none⟩=some (Vi s.h)/\w.cell? ⟨b,c+e.length*11+7,none⟩=some (Vi s.cond)/\w.cell? ⟨b,c+e.length*11+8,none⟩=some (Vi s.thn)/\w.cell? ⟨b,c+e.length*11+9,none⟩=some (Vi s.els)/\w.cell? ⟨b,c+e.length*11+10,none⟩=some (Vi s.proc)/\b<w.heap.size:=
 ⟨(h.cell (i:=e.length*11+0) AB).trans (congrArg some (G9 0 AB)),(h.cell (i:=e.length*11+1) AB).trans (congrArg some (G9 1 AB)),(h.cell (i:=e.length*11+2) AB).trans (congrArg some (G9 2 AB)),(h.cell (i:=e.length*11+3) AB).trans (congrArg some (G9 3 AB)),(h.cell (i:=e.length*11+4) AB).trans (congrArg some (G9 4 AB)),(h.cell (i:=e.length*11+5) AB).trans (congrArg some (G9 5 AB)),(h.cell (i:=e.length*11+6) AB).trans (congrArg some (G9 6 AB)),(h.cell (i:=e.length*11+7) AB).trans (congrArg some (G9 7 AB)),(h.cell (i:=e.length*11+8) AB).trans (congrArg some (G9 8 AB)),(h.cell (i:=e.length*11+9) AB).trans (congrArg some (G9 9 AB)),(h.cell (i:=e.length*11+10) AB).trans (congrArg some (G9 10 AB)),h.lt⟩
theorem lX(h:u.heap[c]?=some (.cells (XT s).toArray 117)):u.cell? (Va c 1)=some (Vi s.op)/\u.cell? (Va c 2)=some (Vi s.d)/\u.cell? (Va c 3)=some (Vi s.a)/\u.cell? (Va c 4)=some (Vi s.b)/\u.cell? (Va c 5)=some (Vi s.imm)/\u.cell? (Va c 6)=some (Vi s.h):=
 ⟨(AJ h 1).trans rfl,(AJ h 2).trans rfl,(AJ h 3).trans rfl,(AJ h 4).trans rfl,(AJ h 5).trans rfl,(AJ h 6).trans rfl⟩
def Ru:Prop:=∀(bH cH nH:Nat)(S:Nat->HS)(bR cR:Nat)(V0:Nat->VV)(bA cA:Nat)(V:Nat->VV)(z c op d ra rb imm h:Int)(w:World),nH<=1048576->Ck w bH nH S bR 8 V0->Ak w bA (8*6) (vF V)->BK nH S 8 V0 8 V z c=true->
 Ks 64 #[.agg #[Vs bH nH cH,Vs bR 8 cR],.agg #[Vs bA 8 cA,Vi z,Vi c],.agg #[Vi op,Vi d,Vi ra,Vi rb,Vi imm,Vi h]] w fun e w'=>Wx w w' e (TN nH S 8 V0 8 V z c op d ra rb imm h) (Pj S V z c op d ra rb imm h) (Mc V z c op ra rb z) (Mc V z c op ra rb c)/\Below w.heap.size w w'
section
variable{G:SG}{s:SV}{x y rest:List SV}{a r r':Int}{F B:FS}{RR:CR}
theorem lW(i:ET G [] a F r=RR):RR=.ok F r:=by rw[<-i,Fx]
theorem WX(i:ET G (s::rest) a F r=RR)(h:s.k=1)(b:GU G s F=e)(c:e≠0):RR=.bad e a:=by
 rw[<-i,Sb h,if_pos AB,b]
theorem mZ(i:ET G (s::rest) a F r=RR)(h:s.k=1)(d:GU G s F=0)(b:Km G s F=B)(c:a+1=p):ET G rest p B r=RR:=by
 rw[<-i,Sb h,if_neg AB,b,c]
theorem U5(i:ET G (s::(x++y++rest)) a F r=RR)(h:s.k≠1)(d:s.thn=(x.length:Int))(c:s.els=(y.length:Int))(b:cmpL G s x y a F r=.bad e p):RR=.bad e p:=by
 rw[<-i,Nz h d c,b]
theorem jX(i:ET G (s::(x++y++rest)) a F r=RR)(h:s.k≠1)(c:s.thn=(x.length:Int))(b:s.els=(y.length:Int))(e:cmpL G s x y a F r=.ok B r')(d:a+1+(x.length:Int)+(y.length:Int)=p):ET G rest p B r'=RR:=by
 rw[<-i,Nz h c b,e,c,b,<-d]
end
theorem Nt(bp:Ru)(I:List SV)(hl:I.length<=1048576)(hw:Wl I)(IH:∀ys:List SV,ys.length<I.length->Wl ys->BC ys):BC I:=by
 intro bH cH D S bR cR K bA cA V z c Z j v w lH h1 h2 h3 h4 r0 r1 a0 a1;obtain⟨RR,aS⟩:=Au (ET ⟨D,S,K⟩ I Z ⟨V,z,c⟩ j);rw[aS];have aI:Hid (ET ⟨D,S,K⟩ I (Z+(([]:List SV).length:Int)) ⟨V,z,c⟩ j=RR):=(by rw[<-aS];simp:ET ⟨D,S,K⟩ I (Z+(([]:List SV).length:Int)) ⟨V,z,c⟩ j=RR)
 clear aS;have N1:Hid (bH<w.heap.size/\bR<w.heap.size):=⟨h1.h.lt,h1.r.lt⟩
 have LL:=hxy lH;have X0:Hid (LX w bH cH D S bR cR K bA w.heap.size (w.heap.size+1) (w.heap.size+1+1) bA cA V z c (((w.alloc (.cells #[Vs bH D cH,Vs bR 8 cR] 26)).alloc (.cells #[Vs bA 8 cA,Vi z,Vi c] 31)).alloc (.cells oz 89))):=Vy w h1 h2 h3;have HL:=hxy h4;obtain⟨ao,al,rfl,a7,aM⟩:=h4;have aH:=hxy aM;clear h1 h2 h3 lH aM;go_enter Tryz.func31,Tryz.ntmps31;go_upto_region 1 with fail;unfold oz at X0;obtain⟨u,hu⟩:=Au (((w.alloc (.cells #[Vs bH D cH,Vs bR 8 cR] 26)).alloc (.cells #[Vs bA 8 cA,Vi z,Vi c] 31)).alloc (.cells #[Vi 0,Vi 0,.slice none 0 0,Vi 0,Vi 0,Vi 0] 89));rw[hu]at X0⊢;obtain⟨bs,aE⟩:=Au w.heap.size;obtain⟨M,aT⟩:=Au (w.heap.size+1);obtain⟨br,aD⟩:=Au (w.heap.size+1+1);have X0:Hid (LX w bH cH D S bR cR K bA bs M br bA cA V z c u):=by rw[<-aE,<-aT,<-aD];exact X0
 rw[aD,aT,aE];have BO:Hid (w.heap.size=bs/\bs<M/\M<br):=⟨aE,AB,AB⟩
 clear hu aE aT aD;go_wp2_with fail;go_loopw [4,11](fun rv iv wr=>∃(l rest:List SV)(j:Int)(g cg:Nat)(U:Nat->VV)(z' c':Int),rv=Vi j/\iv=Vi (l.length:Int)/\Hid (I=l++rest/\Wl rest)/\l.length+rest.length=I.length/\0<=j/\j<=1000/\Hid (ET ⟨D,S,K⟩ rest (Z+(l.length:Int)) ⟨U,z',c'⟩ j=RR)/\LX w bH cH D S bR cR K bA bs M br g cg U z' c' wr)(fun _ iv _=>I.length-(intOf iv).toNat)
 case atStart=>exact⟨[],I,j,bA,cA,V,z,c,rfl,rfl,⟨rfl,hw⟩,AX,r0,r1,aI,X0⟩
 case round=>
  clear X0 r0 r1 hw aI;obtain⟨l,rest,j,g,cg,U,z',c',rfl,rfl,HX,B,r0,r1,ap,x⟩:=hrel;have X:=hxy x;clear x;obtain⟨ax,bj⟩:=HX.out;have bE:=bj.inv;clear bj;rcases bE with rfl|⟨s,rest,rfl,hk,ht,he,aX⟩|⟨s,x,y,rest,rfl,hk,ht,he,bG,bI,aX⟩
  ·
   have bP:¬(l.length:Int)<(I.length:Int):=by simp at B;omega
   obtain⟨_,⟨c0,c1,c2⟩,az,aA⟩:=X.cells;obtain⟨y0,y1,y2,y3,y4,y5,yf,yl⟩:=X.res;have YA:Hid (Ak wr g (8*6) (vF U)/\g≠br/\BK D S 8 K 8 U z' c'=true/\(g=bA∨w.heap.size<=g)/\Bw w wr):=⟨X.A,X.ne,X.ok,X.nw,X.bel⟩
   have aD:M≠br:=by have:=BO.out;omega
   clear X HX ax B;go_wp2_with fail;refine mY (DV 0 0 (Vs g 8 cg) z' c' j) (by simp[results,Tryz.results31,go_sem,DV, *]) ⟨0,0,_,_,_,z',c',j,rfl,r0,r1,⟨fun e=>absurd rfl e,fun _=>rfl⟩,fun _=>⟨g,cg,U,rfl,YA.2.2.2.1,?_,YA.2.2.1,lW ap⟩,?_⟩
   ·exact IL YA.1 YA.2.1 _ _ _ _ _ _
   ·exact Ci YA.2.2.2.2 (by have:=BO.out;omega) _ _ _ _ _ _
  ·
   obtain⟨b,F,rfl,aa⟩:∃b F,ao=some ⟨b,F,none⟩/\At w b F (I.length*11) (JW (Qb I)):=by
    rcases aH.out with h|h
    ·simp at B;omega
    ·exact h
   have av:l.length<I.length:=by simp at B;omega
   have aO:=hxy aa;have ag:At wr b F (I.length*11) (JW (Qb (l++s::rest))):=by rw[<-ax];exact aa.below X.bel aa.lt
   obtain⟨k0,k1,k2,k3,k4,k5,k6,k7,k8,k9,aY,kl⟩:=qo ag av;have aW:(l.length:Int)<(I.length:Int):=AB;have bF:IntKind.i64.wrap (Z+(l.length:Int))=Z+(l.length:Int):=by rw[IntKind.wrap_i64]<;>omega
   clear aa ag ax;have HT:Hid (s.thn=0/\s.els=0/\s.k=1):=⟨ht,he,hk⟩
   clear ht he hk;go_upto_region 4 with fail;obtain⟨u1,ad,ar⟩:∃q,wr.alloc (.cells (XT s).toArray 117)=q/\Bw wr q:=⟨_,rfl,Ai⟩
   have q1:=Az wr (.cells (XT s).toArray 117);rw[ad]at q1;unfold XT at ad q1;rw[ad];have X1:=hxy (X.below ar);have ae:=X.hd.lt;have C:=Bp X.R;obtain⟨sb,aw⟩:=Au wr.heap.size;rw[aw]at q1 ae C⊢;have aQ:Hid (sb≠M):=(by omega:sb≠M)
   have aG:=hxy C;have Q1:=hxy q1;clear ad ar q1 aw ae C k0 k1 k2 k3 k4 k5 k6 k7 k8 k9 aY kl X;obtain⟨k0,k7,k8,k9,kl⟩:=qi Q1;rw[HT.1]at k8;rw[HT.2.1]at k9;rw[HT.2.2]at k0;obtain⟨i1,i2,i3,i4,i5,i6⟩:=lX Q1;obtain⟨⟨s0,s1⟩,⟨c0,c1,c2⟩,az,aA⟩:=X1.cells;go_wp2_with fail;refine(bp bH cH D S bR cR K g cg U z' c' s.op s.d s.a s.b s.imm s.h u1 LL X1.sc X1.A X1.ok).mono ?_;rintro e u2⟨aj,hb⟩;obtain⟨aB,ak⟩:=Au (GU ⟨D,S,K⟩ s ⟨U,z',c'⟩);obtain⟨F2,aC⟩:=Au (Km ⟨D,S,K⟩ s ⟨U,z',c'⟩);have aj:Wx u1 u2 e aB F2.V F2.z F2.c:=by rw[<-ak,<-aC];exact aj
   obtain⟨V2,z2,af⟩:=F2;dsimp only at aj;have aV:aB=0->BK D S 8 K 8 V2 z2 af=true:=fun e0=>by
    have:=Ri.tr (ak.trans e0);rw[aC]at this;exact this
   have aZ:=hxy ak;have bo:=hxy aC;clear ak aC;have X2:=hxy (X1.below hb);have Q2:=hxy (Ac Q1 hb);have a6:=Bp X1.R;have bX:=X1.bel.size;clear hb X1 Q1 s0 s1 c0 c1 c2 az aA i1 i2 i3 i4 i5 i6 k0 k7 k8 k9 kl;rcases aj with⟨an,rfl⟩|⟨rfl,g2,am,bV,rfl,A2⟩
   ·go_wp2_with fail
    refine(II _ _ _ _).mono ?_;rintro e t⟨rfl,hb⟩;have Y:=hxy ((X2.below Ai).below hb);obtain⟨y0,y1,y2,y3,y4,y5,yf,yl⟩:=Y.res;unfold DV;clear aV;go_wp2_with fail;refine mY (DV aB (Z+(l.length:Int)) (.slice none 0 0) 0 0 j) (by simp[results,Tryz.results31,go_sem,DV, *]) ⟨aB,_,none,0,0,0,0,j,rfl,r0,r1,⟨fun _=>WX ap HT.2.2 aZ an,fun e=>absurd e an⟩,fun e=>absurd e an,?_⟩;exact Ci Y.bel (by have:=BO.out;omega) _ _ _ _ _ _
   ·have bq:Hid (BK D S 8 K 8 V2 z2 af=true):=aV rfl
    have bn:Bw u2 (u2.alloc (.cells #[Vi 0,Vs g2 8 am,Vi z2,Vi af] 147)):=Ai;have n3:=Az u2 (.cells #[Vi 0,Vs g2 8 am,Vi z2,Vi af] 147);obtain⟨u3,bf⟩:=Au (u2.alloc (.cells #[Vi 0,Vs g2 8 am,Vi z2,Vi af] 147));rw[bf]at bn n3;have X3:=hxy (X2.below bn);have Q3:=hxy (Ac Q2 bn);have A3:=hxy (A2.below bn A2.lt);have m0:=(AJ n3 0).trans rfl;have m1:=(AJ n3 1).trans rfl;have m2:=(AJ n3 2).trans rfl;have m3:=(AJ n3 3).trans rfl;have ml:=Bp n3;go_upto_region 7 with fail;obtain⟨nt,bb⟩:=Au u2.heap.size;rw[bb]at m0 m1 m2 m3 ml⊢;clear bf bn n3 bb A2 aV X2 Q2;obtain⟨_,⟨c0,c1,c2⟩,az,aA⟩:=X3.cells;have hf:=X3.hd.free;obtain⟨k0,k7,k8,k9,kl⟩:=qi Q3;rw[HT.1]at k8;rw[HT.2.1]at k9;have bc:=aQ.out;have Y:Hid (LX w bH cH D S bR cR K bA bs M br g2 am V2 z2 af (((u3.setCell (Va M 0) (Vs g2 8 am)).setCell (Va M 1) (Vi z2)).setCell (Va M 2) (Vi af))):=X3.put A3 bq (Or.inr AB) AB (by have:=BO.out;omega) (by have:=N1.out;have:=BO.out;omega) (by have:=N1.out;have:=BO.out;omega);have bD:(l.length:Int)<1048576:=by have:=B;simp at this;omega
    clear X3 A3 Q3;go_wp2_with fail;go_roundw
    case rel=>exact⟨l++[s],rest,j,g2,am,V2,z2,af,rfl,by simp;try omega,⟨by rw[HX.1];simp,aX⟩,by simp at B⊢;omega,r0,r1,mZ ap HT.2.2 aZ bo (by rw[List.length_append];simp;omega),Y⟩
    case measure=>simp[intOf]at B⊢;omega
  ·
   obtain⟨b,F,rfl,aa⟩:∃b F,ao=some ⟨b,F,none⟩/\At w b F (I.length*11) (JW (Qb I)):=by
    rcases aH.out with h|h
    ·simp at B;omega
    ·exact h
   have av:l.length<I.length:=by simp at B;omega
   have aO:=hxy aa;have ag:At wr b F (I.length*11) (JW (Qb (l++s::(x++y++rest)))):=by rw[<-ax];exact aa.below X.bel aa.lt
   obtain⟨k0,k1,k2,k3,k4,k5,k6,k7,k8,k9,aY,kl⟩:=qo ag av;have aW:(l.length:Int)<(I.length:Int):=AB;have bF:IntKind.i64.wrap (Z+(l.length:Int))=Z+(l.length:Int):=by rw[IntKind.wrap_i64]<;>omega
   clear aa ag ax;have HT:Hid (s.thn=(x.length:Int)/\s.els=(y.length:Int)):=⟨ht,he⟩
   have aN:l.length+1+x.length+y.length+rest.length=I.length:=by simp at B;omega
   have J:=hxy aN;clear ht he;go_upto_region 4 with fail;obtain⟨u1,ad,ar⟩:∃q,wr.alloc (.cells (XT s).toArray 117)=q/\Bw wr q:=⟨_,rfl,Ai⟩
   have q1:=Az wr (.cells (XT s).toArray 117);rw[ad]at q1;unfold XT at ad q1;rw[ad];have X1:=hxy (X.below ar);have ae:=X.hd.lt;have C:=Bp X.R;obtain⟨sb,aw⟩:=Au wr.heap.size;rw[aw]at q1 ae C⊢;have aQ:Hid (sb≠M):=(by omega:sb≠M)
   have aG:=hxy C;have Q1:=hxy q1;clear ad ar q1 aw ae C k0 k1 k2 k3 k4 k5 k6 k7 k8 k9 aY kl X;obtain⟨k0,k7,k8,k9,kl⟩:=qi Q1;rw[HT.1]at k8;rw[HT.2]at k9;have ba:¬s.k=1:=hk;go_upto_region 10 with fail;clear k0 k7 k8 k9 kl;obtain⟨RC,a3⟩:=Au (cmpL ⟨D,S,K⟩ s x y (Z+(l.length:Int)) ⟨U,z',c'⟩ j);have aP:=hxy a3;clear a3;go_cut [15](fun bO wx=>∃(ny:Nat)(n p:Int)(o:Option Addr)(m3 m:Nat)(Q N O:Int),bO=Vq ny/\sb<ny/\0<=O/\O<=1000/\LX w bH cH D S bR cR K bA bs M br g cg U z' c' wx/\wx.heap[sb]?=some (.cells (XT s).toArray 117)/\YB RC D S K g sb ny n p o m3 m Q N O wx)
   case first=>
    have j0:Cb u1 bs 0 (Vs bH D cH):=fun w' h=>(X1.below h).cells.1.1
    have j1:Cb u1 bs 1 (Vs bR 8 cR):=fun w' h=>(X1.below h).cells.1.2
    have j2:Cb u1 M 0 (Vs g 8 cg):=fun w' h=>(X1.below h).cells.2.1.1
    have j3:Cb u1 M 1 (Vi z'):=fun w' h=>(X1.below h).cells.2.1.2.1
    have j4:Cb u1 M 2 (Vi c'):=fun w' h=>(X1.below h).cells.2.1.2.2
    have j5:Cb u1 sb 8 (Vi (x.length:Int)):=fun w' h=>by rw[<-HT.1];exact(qi (Ac Q1 h)).2.2.1
    have j6:Cb u1 sb 9 (Vi (y.length:Int)):=fun w' h=>by rw[<-HT.2];exact(qi (Ac Q1 h)).2.2.2.1
    have bT:=Bp Q1;obtain⟨i1,a9⟩:∃q:Nat,q=l.length+1+x.length+y.length:=⟨_,rfl⟩
    obtain⟨pa,bB⟩:∃q:Nat,q=l.length+1:=⟨_,rfl⟩
    obtain⟨pb,bC⟩:∃q:Nat,q=l.length+1+x.length:=⟨_,rfl⟩
    have wa:IntKind.i64.wrap ((l.length:Int)+1)=(pa:Int):=by rw[IntKind.wrap_i64]<;>omega
    have wb:IntKind.i64.wrap ((pa:Int)+(x.length:Int))=(pb:Int):=by rw[IntKind.wrap_i64]<;>omega
    have wc:IntKind.i64.wrap ((pb:Int)+(y.length:Int))=(i1:Int):=by rw[IntKind.wrap_i64]<;>omega
    have bZ:i1<=I.length:=AB;have b0:l.length<=i1:=AB;have b1:i1<=al:=AB;have b2:(i1:Int)<=(al:Int):=AB;have b3:(l.length:Int)<=(i1:Int):=AB;clear bB bC;have bl:=hxy a9;clear aN a9;refine wp_region_held_drew (S:=fun w'=>Bw u1 w') AV BJ.drew (fun _=>?_);refine EX [0,1,2,3,4,5,6,7,8,9,10] ?_;refine Cj 11 (.slice (if al=l.length then some ⟨b,F,none⟩else some ⟨b,F+l.length*11,none⟩) (i1-l.length) (al-l.length)) rfl ?kby ?kbr
    case kby=>(intro w bu;(try dsimp only at bu);go_simp;first|done|(rw[if_pos AB];simp))
    refine Cn ?_;refine EX [12,13,14] ?_;obtain⟨ev,a8,HE⟩:∃q,Value.slice (if al=l.length then some ⟨b,F,none⟩else some ⟨b,F+l.length*11,none⟩) (i1-l.length) (al-l.length)=q/\Hid (SL u1 q (s::(x++y))):=⟨_,rfl,Vl (L:=I) (i:=l.length) (aO.below X1.bel aO.lt) (by rw[HX.1,List.drop_left,List.length_cons,List.take_succ_cons,List.take_left]) a7 (by have:=J.out;simp;omega) rfl (by have:=bl.out;simp;omega) rfl⟩
    rw[a8];clear a8;have ac:Bw u1 u1.drew:=BJ.drew;generalize u1.drew=t0 at ac⊢;have bK:x.length+y.length<=1048576:=by have:=J.out;omega
    have bJ:x.length<I.length:=by have:=J.out;omega
    have bL:y.length<I.length:=by have:=J.out;omega
    have CC:Hid (∀t,Bw u1 t->Ks 66 #[.agg #[Vs bH D cH,Vs bR 8 cR],ev,Vi (Z+(l.length:Int)),.agg #[Vs g 8 cg,Vi z',Vi c'],Vi j] t (qK RC D S K g t)):=fun t ht=>aP.out▸Oj s x y HT.1 HT.2 (IH x bJ bG) (IH y bL bI) bH cH D S bR cR K g cg U z' c' _ j ev t LL (X1.below ht).sc (X1.below ht).A X1.ok (HE.below ht) bK r0 r1 AB (by have:=J.out;omega)
    refine wpAnyH_ready (rs:=[15,16]) AV AX ?_;refine AllReadyH.cons rfl (fun KK hK=>?_) (AllReadyH.cons rfl (fun KK hK=>?_) AllReadyH.nil)
    ·go_simp
     refine(CC t0 ac).mono ?_;rintro e t1⟨n,p,o,m3,m,Q,N,O,rfl,p0,p1,ah,au,hb⟩;have E:=ac.trans (hb.mono ac.size);refine hK.out _ _ E (fun _=>?_);clear hK KK;unfold DV;refine Cn ?_;refine AO 16 rfl (fun KK hK=>?_);go_simp;refine hK.out _ _ (E.alloc E.size _) (fun _=>?_);clear hK KK;refine Cn ?_;refine AO 17 rfl (fun KK hK=>?_);go_simp;refine hK.out _ _ (E.alloc E.size _) (fun _=>?_);clear hK KK;refine wpAnyH_done AV ?_ _;have bn:Bw t1 (t1.alloc (.cells #[Vi n,Vi p,.slice o m3 m,Vi Q,Vi N,Vi O] 89)):=Ai;have aJ:n=0->U8 RC O D S K g sb t1 (.slice o m3 m) Q N:=fun e=>by
      obtain⟨g',aR,U',h1,h2,h3,h4⟩:=au e;exact⟨g',aR,U',h1,by have:=ac.size;omega,h3,h4⟩
     have ai:Hid (LX w bH cH D S bR cR K bA bs M br g cg U z' c' (t1.alloc (.cells #[Vi n,Vi p,.slice o m3 m,Vi Q,Vi N,Vi O] 89))/\(t1.alloc (.cells #[Vi n,Vi p,.slice o m3 m,Vi Q,Vi N,Vi O] 89)).heap[sb]?=some (.cells (XT s).toArray 117)/\YB RC D S K g sb t1.heap.size n p o m3 m Q N O (t1.alloc (.cells #[Vi n,Vi p,.slice o m3 m,Vi Q,Vi N,Vi O] 89))):=⟨(X1.below E).below bn,Ac (Ac Q1 E) bn,Vg aJ ah⟩
     have aU:sb<t1.heap.size:=by have:=E.size;omega
     clear au aJ ah hb E bn j0 j1 j2 j3 j4 j5 j6;go_wp2_with fail;go_meet;exact⟨t1.heap.size,n,p,o,m3,m,Q,N,O,rfl,aU,p0,p1,ai.1,ai.2.1,ai.2.2⟩
    ·go_simp
     obtain⟨t1,be,bn,n1⟩:∃q,t0.alloc (.cells #[Vi 0,Vi 0,.slice none 0 0,Vi 0,Vi 0,Vi 0] 89)=q/\Bw t0 q/\q.heap[t0.heap.size]?=some (.cells #[Vi 0,Vi 0,.slice none 0 0,Vi 0,Vi 0,Vi 0] 89):=⟨_,rfl,Ai,Az _ _⟩
     rw[be];have E:=ac.trans (bn.mono ac.size);refine hK.out _ _ E (fun _=>?_);clear hK KK;refine Cn ?_;refine AO 15 rfl (fun KK hK=>?_);go_simp;refine(CC t1 E).mono ?_;rintro e t2⟨n,p,o,m3,m,Q,N,O,rfl,p0,p1,ah,au,hb⟩;have a2:=E.trans (hb.mono E.size);refine hK.out _ _ a2 (fun _=>?_);clear hK KK;unfold DV;refine Cn ?_;have n2:=Ac n1 hb;have f0:=(AJ n2 0).trans rfl;have f1:=(AJ n2 1).trans rfl;have f2:=(AJ n2 2).trans rfl;have f3:=(AJ n2 3).trans rfl;have f4:=(AJ n2 4).trans rfl;have f5:=(AJ n2 5).trans rfl;have ff:=CP n2;have fl:=Bp n2;have bv:g≠t0.heap.size:=by have:=(X1.below ac).A.lt;omega
     have bw:=Bp n1;have bg:=ac.size;obtain⟨ny,aK⟩:=Au t0.heap.size;rw[aK]at n2 f0 f1 f2 f3 f4 f5 ff fl bv bw bg⊢;have a5:YB RC D S K g sb ny n p o m3 m Q N O (FC t2 ny (Vi n) (Vi p) (.slice o m3 m) (Vi Q) (Vi N) (Vi O)):=by
      refine⟨Nc n2 _ _ _ _ _ _,fun e=>?_,ah⟩;obtain⟨g',aR,U',h1,h2,h3,h4⟩:=au e;have an:g'≠ny:=AB;exact⟨g',aR,U',h1,AB,an,IL h3 an _ _ _ _ _ _,h4⟩
     have ay:Bw u1 (FC t2 ny (Vi n) (Vi p) (.slice o m3 m) (Vi Q) (Vi N) (Vi O)):=Ci a2 bg _ _ _ _ _ _;have ai:Hid (LX w bH cH D S bR cR K bA bs M br g cg U z' c' (FC t2 ny (Vi n) (Vi p) (.slice o m3 m) (Vi Q) (Vi N) (Vi O))/\((FC t2 ny (Vi n) (Vi p) (.slice o m3 m) (Vi Q) (Vi N) (Vi O))).heap[sb]?=some (.cells (XT s).toArray 117)/\YB RC D S K g sb ny n p o m3 m Q N O (FC t2 ny (Vi n) (Vi p) (.slice o m3 m) (Vi Q) (Vi N) (Vi O))):=⟨X1.below ay,Ac Q1 ay,a5⟩
     have aU:sb<ny:=AB;clear au ah hb a5 n1 n2 be bn aK;refine AO 17 rfl (fun KK hK=>?_);go_simp;refine hK.out _ _ ay (fun _=>?_);clear hK KK ay f0 f1 f2 f3 f4 f5 ff fl j0 j1 j2 j3 j4 j5 j6;refine wpAnyH_done AV ?_ _;go_wp2_with fail;go_meet;exact⟨ny,n,p,o,m3,m,Q,N,O,rfl,aU,p0,p1,ai.1,ai.2.1,ai.2.2⟩
   case rest=>
   obtain⟨ny,n,p,o,m3,m,Q,N,O,rfl,bW,p0,p1,l5,q5,y5⟩:=hcut;have X5:=hxy l5;have Q5:=hxy q5;have Y5:=hxy y5;have a6:=aG.out;have bY:w.heap.size<=sb:=by have:=BO.out;omega
   clear l5 q5 y5 X1 Q1;generalize wc=u5 at X5 Q5 Y5⊢;obtain⟨v0,v1,v2,v3,v4,v5,vf,vl⟩:=Y5.cells;by_cases aF:n=0
   rotate_left
   ·obtain⟨y0,y1,y2,y3,y4,y5,yf,yl⟩:=X5.res
    go_wp2_with fail;refine mY (DV n p (.slice o m3 m) Q N O) (by simp[results,Tryz.results31,go_sem,DV, *]) ⟨n,p,o,m3,m,Q,N,O,rfl,p0,p1,⟨fun _=>U5 ap ba HT.1 HT.2 (aP.trans (Y5.bd.1 aF)),fun e=>absurd e aF⟩,fun e=>absurd e aF,?_⟩;exact Ci X5.bel (by have:=BO.out;omega) _ _ _ _ _ _
   subst aF;obtain⟨gy,bU,Uy,bi,bN,bM,Ay,bk,a4⟩:=Y5.ab rfl;have bm:=hxy (aP.trans a4);clear a4;simp only[Value.slice.injEq]at bi;obtain⟨rfl,rfl,rfl⟩:=bi;obtain⟨_,⟨c0,c1,c2⟩,az,aA⟩:=X5.cells;have hf:=X5.hd.free;obtain⟨k0,k7,k8,k9,kl⟩:=qi Q5;rw[HT.1]at k8;rw[HT.2]at k9;have bc:=aQ.out;have bS:ny≠M:=by have:=BO.out;omega
   have bQ:=X5.nh;have Y:Hid (LX w bH cH D S bR cR K bA bs M br gy m Uy Q N (((u5.setCell (Va M 0) (Vs gy 8 m)).setCell (Va M 1) (Vi Q)).setCell (Va M 2) (Vi N))):=X5.put Ay bk (by have:=X5.nw;omega) (by have:=X5.ne;omega) (by have:=BO.out;omega) (by have:=N1.out;have:=BO.out;omega) (by have:=N1.out;have:=BO.out;omega);have bD:(l.length:Int)+1+(x.length:Int)+(y.length:Int)<=1048576:=by have:=J.out;omega
   clear X5 Y5 Q5 Ay bk bN bM;go_wp2_with fail;go_roundw
   case rel=>exact⟨l++s::(x++y),rest,O,gy,m,Uy,Q,N,rfl,by simp;try omega,⟨by rw[HX.1];simp,aX⟩,by have:=J.out;simp;omega,p0,p1,jX ap ba HT.1 HT.2 bm (by simp;omega),Y⟩
   case measure=>have:=J.out;simp[intOf];omega
theorem NF(b:Ru)(c:List SV)(k:c.length<=1048576)(h:Wl c):BC c:=by
 have H:∀(n:Nat)(a:List SV),a.length<=n->a.length<=1048576->Wl a->BC a:=by
  intro n;induction n with
  |zero=>intro a j d e;exact Nt b a d e (fun zs l=>by omega)
  |succ n m=>intro a j d e;exact Nt b a d e (fun zs l h=>m zs AB AB h)
 exact H _ c BQ k h
end Go.Proofs.YtcjnmdgomocpgaaGreatDoor
