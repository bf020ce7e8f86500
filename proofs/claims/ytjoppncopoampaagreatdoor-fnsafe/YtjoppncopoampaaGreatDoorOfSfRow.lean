import Derived.Test.YtjoppncopoampaaGreatDoorOfCoreReg
import Derived.Test.YtjoppncopoampaaGreatDoorOfSfAns
import Derived.Test.YtjoppncopoampaaGreatDoorOfCkImpl
import Derived.Test.YtjoppncopoampaaGreatDoorCkSpec
import Derived.Test.YtjoppncopoampaaGreatDoorOfFuWk
import Derived.Test.YtjoppncopoampaaGreatDoorOfEvRun
import Derived.Deep.Cut
import Derived.Deep.CutBlock
import Derived.Test.YtjoppncopoampaaGreatDoorCards
import Derived.Test.YtjoppncopoampaaGreatDoorTie
import Derived.OpenShut
import Derived.ChangeOld
import Derived.Below
import Derived.LaidLaws
import Derived.LaidHandle
import Derived.SevenTiedAt
import Derived.Stop.Joined
set_option maxHeartbeats 16000000
set_option maxRecDepth 100000
namespace Go.Proofs.YtjoppncopoampaaGreatDoor
open Go.RowKit Go.Deep
theorem Rc(ao:Option Addr)(n cap:Nat)(w:World)(hn:n<=1048576)(hr:I9 w w.heap.size ao n)(hg:w.cell? (Va 0 0)=some (.iface 186 (.agg #[.pointer (some ⟨1,73,none⟩)])))(h0:0<w.heap.size):
 Calls Tryz.prog 3 #[.slice ao n cap] w fun e w'=>e=.returned (.bool true)/\Below w.heap.size w w':=by
 have HG0:=hxy hg;have HR:=hxy hr;have hn':¬(1048576:Int)<n:=AB;clear hg hr;go_enter Tryz.func3,Tryz.ntmps3;go_wp2_with fail;refine(RZ ao n cap w hn HR).mono ?_;rintro e u1⟨bH,cH,nH,S,bR,cR,V0,g,cg,xs,m,gR,cr,gH,ch,aO,cO,rfl,n1,n4,sok,sc,hxl,hrow,hfm,hml,hbel⟩;obtain⟨ra,rc,hvR⟩:=Cf hml.R;obtain⟨ha,hcp,hvH⟩:=Cf hml.H;have hf:=hfm.h.form;have HFM:=hxy hfm;have HML:=hxy hml;have SOK:=hxy sok;have SC:=hxy sc;have ROW:=hxy hrow;have B1:=hxy hbel;clear hfm hml sok sc hrow hbel HR;obtain⟨vR,gz,gc,ghz,ghc,vH,pc,st,vO,rs,hs,os⟩:=m;unfold GQ at hf;dsimp only at hf hvR hvH;injection hf with _ e1 e2 e3 e4 _ e6 e7 e8 _ _ e11;subst hvR hvH e1 e2 e3 e4 e6 e7 e8 e11;unfold Md.a;dsimp only;have hcg:=Uv ROW;obtain⟨N,hN⟩:=Au xs.length;obtain⟨L,hL⟩:=Au ((fun i=>xs.getD i sv0));have A1:Hid (Ak u1 g (N*11) (JW L)):=by rw[<-hN,<-hL];exact⟨(ROW.lt g rfl).2,fun i=>ROW.frozenAt i,fun i hi=>(ROW.cellAt i hi).trans (XF xs sv0 i hi)⟩
 rw[hN]at hxl hcg⊢;clear ROW hN hL;go_upto_region 4 with fail;obtain⟨u2,hu2,b2,q2⟩:∃y,((u1.alloc (.cells #[Vs bH nH cH,Vs bR 8 cR] 26)).alloc (.cells #[.slice ra rs.length rc,.bool false,.bool false,.bool false,.bool false,.slice ha hs.length hcp,Vi 0,Vi 0,.slice none 0 0] 32)).alloc (.cells #[Vs gR 8 cr,.bool false,.bool false,.bool false,.bool false,Vs gH nH ch,Vi 0,Vi 0,.slice aO 0 cO] 32)=y/\Bw u1 y/\LZ w bH cH nH S bR cR V0 g N L u1.heap.size (u1.heap.size+1) ra rs rc ha hs hcp y:=by
  generalize hh:u1.alloc (.cells #[Vs bH nH cH,Vs bR 8 cR] 26)=a;have sa:a.heap.size=u1.heap.size+1:=by rw[<-hh];simp
  have ea:a.heap[u1.heap.size]?=some (.cells #[Vs bH nH cH,Vs bR 8 cR] 26):=by rw[<-hh];exact Az _ _
  have ba:Bw u1 a:=by rw[<-hh];exact Ai
  generalize hk:a.alloc (.cells #[.slice ra rs.length rc,.bool false,.bool false,.bool false,.bool false,.slice ha hs.length hcp,Vi 0,Vi 0,.slice none 0 0] 32)=b;have eb:b.heap[u1.heap.size+1]?=some (.cells #[.slice ra rs.length rc,.bool false,.bool false,.bool false,.bool false,.slice ha hs.length hcp,Vi 0,Vi 0,.slice none 0 0] 32):=by rw[<-hk,<-sa];exact Az _ _
  have bb:Bw a b:=by rw[<-hk];exact Ai
  have bc:=(Below.refl b.heap.size b).alloc BQ (.cells #[Vs gR 8 cr,.bool false,.bool false,.bool false,.bool false,Vs gH nH ch,Vi 0,Vi 0,.slice aO 0 cO] 32);have bt:=(ba.trans (bb.mono ba.size)).trans (bc.mono (Nat.le_trans ba.size bb.size));exact⟨_,rfl,bt,B1.trans (bt.mono B1.size),Ac (Ac ea bb) bc,Ac eb bc,SC.below bt,A1.below bt A1.lt,HML.below bt⟩
 rw[hu2];obtain⟨qs,hqs⟩:=Au u1.heap.size;obtain⟨qm,hqm⟩:=Au (u1.heap.size+1);rw[hqm,hqs]at q2;rw[hqm,hqs];have L2:=hxy q2;have hw1:=B1.size;clear hu2 b2 q2 B1 SC A1 HML hqs hqm;have x0:=(AJ L2.X 0).trans rfl;have x1:=(AJ L2.X 1).trans rfl;have HG2:Hid (u2.cell? (Va 0 0)=some (.iface 186 (.agg #[.pointer (some ⟨1,73,none⟩)]))):=(L2.B.cell (p:=Va 0 0) h0).trans HG0;have hz2:=L2.B.size;clear HG0;go_wp2_with fail;refine(QH bH cH nH S bR cR 8 V0 g N cg L u2 AB AB AB L2.G L2.A HG2 AB).mono ?_;rintro e u3⟨b3,hans⟩;have L3:=hxy (L2.below b3);have h23:=b3.size;clear x0 x1 L2 HG2 b3;have ff:∀(v0 v1 v2 v3 v4:Value)(w:World),(Instr.field 38 (.agg #[v0,v1,v2,v3,v4]) 0).run Tryz.prog w=.ok v0 w:=fun v0 v1 v2 v3 v4 w=>by kernel_rfl
 rcases hans with⟨err,at',hR,rfl⟩|⟨F,r,gA,cA,hR,hgA,rfl,A3⟩
 ·have hne:=uN hR
  have HRR:=hxy hR;have hb1:(err !=0)=true:=by simpa using hne
  clear hR;go_upto_region 5 with fail;obtain⟨u4,hu4,b4,c4⟩:∃y,u3.alloc (.cells #[Vi err,Vi at',.slice none 0 0,Vi 0,Vi 0] 38)=y/\Bw u3 y/\y.heap[u3.heap.size]?=some (.cells #[Vi err,Vi at',.slice none 0 0,Vi 0,Vi 0] 38):=⟨_,rfl,Ai,Az _ _⟩
  rw[hu4];obtain⟨q7,hq7⟩:=Au u3.heap.size;rw[hq7]at c4⊢;have L4:=hxy (L3.below b4);have C4:=hxy c4;clear hu4 b4 c4 hq7 L3;have x0:=(AJ L4.X 0).trans rfl;have x1:=(AJ L4.X 1).trans rfl;go_wp2_with fail;refine(KT Nn bH cH nH S bR cR 8 V0 g N cg L u4 AB AB AB hcg L4.G L4.A).mono ?_;rintro e u5⟨b5,hans⟩;have B5:=hxy ((L4.below b5).B);have C5:=hxy (Ac C4 b5);clear x0 x1 L4 C4 b5;rcases hans with⟨err2,at2,hR,rfl⟩|⟨F,r,gA,cA,hR,_⟩;rotate_left
  ·exact absurd (HRR.symm.trans hR) AX
  obtain⟨e1,e2⟩:=CR.badI (HRR.symm.trans hR);subst e1 e2;have y0:=(AJ C5 0).trans rfl;have yl:=Bp C5;clear hR HRR;go_wp2_with fail;go_ret;exact⟨rfl,B5⟩
 obtain⟨hrun,hck⟩:=mV hR;obtain⟨_,_,gd0⟩:=Ja SOK;have gdF:=(Jv ⟨nH,S,V0⟩ _ _ _ BQ _ _ _ _ gd0 hck).1;have HRR:=hxy hR;have HCK:Hid (Hq L N/\ET ⟨nH,S,V0⟩ (seg L 0 N) 0 ⟨Fe V0,0,0⟩ 0=.ok F r/\JD ⟨nH,S,V0⟩ ⟨Fe V0,0,0⟩/\JD ⟨nH,S,V0⟩ F):=⟨hrun,hck,gd0,gdF⟩
 have HAF:=hxy A3;clear hR hrun hck gd0 gdF A3;go_upto_region 5 with fail;obtain⟨u4,hu4,b4,c4⟩:∃y,u3.alloc (.cells #[Vi 0,Vi 0,Vs gA 8 cA,Vi F.z,Vi F.c] 38)=y/\Bw u3 y/\y.heap[u3.heap.size]?=some (.cells #[Vi 0,Vi 0,Vs gA 8 cA,Vi F.z,Vi F.c] 38):=⟨_,rfl,Ai,Az _ _⟩
 rw[hu4];obtain⟨q7,hq7⟩:=Au u3.heap.size;rw[hq7]at c4⊢;have L4:=hxy (L3.below b4);have C4:=hxy c4;have A4:=hxy (HAF.below b4 HAF.lt);clear hu4 b4 c4 hq7 L3 HAF hgA;have x0:=(AJ L4.X 0).trans rfl;have x1:=(AJ L4.X 1).trans rfl;go_wp2_with fail;refine(KT Nn bH cH nH S bR cR 8 V0 g N cg L u4 AB AB AB hcg L4.G L4.A).mono ?_;rintro e u5⟨b5,hans⟩;have L5:=hxy (L4.below b5);have C5:=hxy (Ac C4 b5);have A5:=hxy (A4.below b5 A4.lt);clear x0 x1 L4 C4 A4 b5;rcases hans with⟨err2,at2,hR,_⟩|⟨F2,r2,gB,cB,hR,_,rfl,_⟩
 ·exact absurd (HRR.symm.trans hR) AX
 clear hR HRR;have x0:=(AJ L5.X 0).trans rfl;have x1:=(AJ L5.X 1).trans rfl;have y0:=(AJ C5 0).trans rfl;have y2:=(AJ C5 2).trans rfl;have y3:=(AJ C5 3).trans rfl;have y4:=(AJ C5 4).trans rfl;have yl:=Bp C5;have xl:=Bp L5.X;go_wp2_with fail;refine(GN bH cH nH S bR cR 8 V0 gA cA 8 F.V F.z F.c _ AB AB AB L5.G A5).mono ?_;rintro e u6⟨rfl,b6⟩;rw[show BK nH S 8 V0 8 F.V F.z F.c=true from HCK.2.2.2.1];have L6:=hxy (L5.below b6);have C6:=hxy (Ac C5 b6);have A6:=hxy (A5.below b6 A5.lt);clear x0 x1 y0 y2 y3 y4 yl xl L5 C5 A5 b6;have x0:=(AJ L6.X 0).trans rfl;have x1:=(AJ L6.X 1).trans rfl;have xl:=Bp L6.X;obtain⟨z0,z1,z2,z3,z4,z5,z6,z7,z8⟩:=Bq L6.Y;have zl:=Bp L6.Y;obtain⟨s8,hszs⟩:=Qo SOK;have HSZ:=hxy hszs;have HGV:Hid (∀i,i<8->GV (V0 i) nH):=fun i hi=>by
  have h3:=(Co.1 HCK.2.2.1.1).2.2.1 i hi;dsimp only[Fe]at h3;rw[if_pos hi]at h3;exact h3
 clear hszs;go_wp2_with fail;refine(SB bH cH nH S bR cR V0 ra rc ha hcp rs hs w.heap.size _ n1 n4 SOK HGV HSZ L6.G HFM L6.M).mono ?_;rintro e u7⟨rfl,b7⟩;have L7:=hxy (L6.below b7);have C7:=hxy (Ac C6 b7);have A7:=hxy (A6.below b7 A6.lt);clear x0 x1 xl z0 z1 z2 z3 z4 z5 z6 z7 z8 zl L6 C6 A6 b7;go_upto_region 9 with fail;have j0:Cb u7 qm 0 (.slice ra rs.length rc):=fun w' h=>(Bq (Ac L7.Y h)).1
 have j1:Cb u7 qm 1 (.bool false):=fun w' h=>(Bq (Ac L7.Y h)).2.1
 have j2:Cb u7 qm 2 (.bool false):=fun w' h=>(Bq (Ac L7.Y h)).2.2.1
 have j3:Cb u7 qm 3 (.bool false):=fun w' h=>(Bq (Ac L7.Y h)).2.2.2.1
 have j4:Cb u7 qm 4 (.bool false):=fun w' h=>(Bq (Ac L7.Y h)).2.2.2.2.1
 have j5:Cb u7 qm 5 (.slice ha hs.length hcp):=fun w' h=>(Bq (Ac L7.Y h)).2.2.2.2.2.1
 have j6:Cb u7 qm 6 (Vi 0):=fun w' h=>(Bq (Ac L7.Y h)).2.2.2.2.2.2.1
 have j7:Cb u7 qm 7 (Vi 0):=fun w' h=>(Bq (Ac L7.Y h)).2.2.2.2.2.2.2.1
 have j8:Cb u7 qm 8 (.slice none 0 0):=fun w' h=>(Bq (Ac L7.Y h)).2.2.2.2.2.2.2.2
 have BU0:Hid (Bw u7 u7.drew):=BJ.drew;go_cut [8](fun s8 wx=>∃q8 P,s8=Vq q8/\SE u7 q8 P (Dw (Bb L N) 2000 (dM rs hs)) wx)
 case first=>
  refine wp_region_held_drew (S:=fun w'=>Bw u7 w') AV BU0 (fun _=>?_);generalize u7.drew=t0 at BU0⊢;refine AU 0 ?_;refine AU 2 ?_;refine wpAnyH_ready (rs:=[1,4]) AV AX ?_;refine AllReadyH.cons rfl (fun KK hK=>?_) (AllReadyH.cons rfl (fun KK hK=>?_) AllReadyH.nil)
  ·skip
   go_simp;refine(qd g N cg L t0 hxl HCK.1 (L7.below BU0).A).mono ?_;rintro e t1⟨gP,cP,rfl,ap,bq⟩;have AP:=hxy ap;have Bt1:=hxy (BU0.trans (bq.mono BU0.size));go_wp2_with fail;refine hK.out _ _ Bt1 (fun _=>?_);clear hK KK ap bq;try go_frame
   refine wpAnyH_ready (rs:=[3,4]) AV AX ?_;refine AllReadyH.cons rfl (fun KK hK=>?_) (AllReadyH.cons rfl (fun KK hK=>?_) AllReadyH.nil)
   ·skip
    go_simp;refine(Z6 gP cP L N ra rs rc ha hs hcp nH w.heap.size S V0 t1 HCK.1 n4 HSZ HFM (L7.below Bt1).M AP).mono ?_;rintro e t2⟨P,rfl,mm,bq⟩;have Bt2:=hxy (Bt1.trans (bq.mono Bt1.size));have MM:=hxy (mm.mono Bt1.size);unfold ZQ;go_wp2_with fail;refine hK.out _ _ Bt2 (fun _=>?_);clear hK KK mm bq
    try go_frame
    refine AO 4 rfl (fun KK hK=>?_)
    go_simp
    obtain⟨t3,ht3,bq,e8⟩:∃y,t2.alloc (.cells #[.slice none 0 0,.bool false,.bool false,.bool false,.bool false,.slice none 0 0,Vi 0,Vi 0,.slice none 0 0] 32)=y/\Bw t2 y/\y.heap[t2.heap.size]?=some (.cells GQ.a 32):=⟨_,rfl,Ai,Az _ _⟩
    rw[ht3]
    have Bt3:=hxy (Bt2.trans (bq.mono Bt2.size))
    have l8:=Bt2.size
    obtain⟨q8,hq8⟩:=Au t2.heap.size
    rw[hq8]at e8 l8⊢
    have E8:=hxy e8
    have MM':=hxy (MM.below bq)
    refine hK.out _ _ Bt3 (fun _=>?_)
    clear hK KK ht3 e8 hq8 bq
    try go_frame
    clear MM
    have MM:=MM'
    obtain⟨z0,z1,z2,z3,z4,z5,z6,z7,z8,zf,zl⟩:=z9 E8
    refine AO 5 rfl (fun KK hK=>?_)
    go_simp
    change KK _ (JP t3 q8 (Vs P.bR 8 P.cR) (.bool (Dw (Bb L N) 2000 (dM rs hs)).z) (.bool (Dw (Bb L N) 2000 (dM rs hs)).c) (.bool (Dw (Bb L N) 2000 (dM rs hs)).hz) (.bool (Dw (Bb L N) 2000 (dM rs hs)).hc) (.slice P.aH (Dw (Bb L N) 2000 (dM rs hs)).nH P.cH) (Vi (Dw (Bb L N) 2000 (dM rs hs)).pc) (Vi (Dw (Bb L N) 2000 (dM rs hs)).st) (.slice P.aO (Dw (Bb L N) 2000 (dM rs hs)).nO P.cO))
    obtain⟨wz,hwz,SZ⟩:∃y,JP t3 q8 (Vs P.bR 8 P.cR) (.bool (Dw (Bb L N) 2000 (dM rs hs)).z) (.bool (Dw (Bb L N) 2000 (dM rs hs)).c) (.bool (Dw (Bb L N) 2000 (dM rs hs)).hz) (.bool (Dw (Bb L N) 2000 (dM rs hs)).hc) (.slice P.aH (Dw (Bb L N) 2000 (dM rs hs)).nH P.cH) (Vi (Dw (Bb L N) 2000 (dM rs hs)).pc) (Vi (Dw (Bb L N) 2000 (dM rs hs)).st) (.slice P.aO (Dw (Bb L N) 2000 (dM rs hs)).nO P.cO)=y/\SE u7 q8 P (Dw (Bb L N) 2000 (dM rs hs)) y:=⟨_,rfl,WO Bt3 E8 l8 MM⟩
    rw[hwz]
    refine hK.out _ _ SZ.1 (fun _=>?_)
    clear hK KK z0 z1 z2 z3 z4 z5 z6 z7 z8 zf zl hwz
    try go_frame
    refine wpAnyH_done AV ?_ _
    go_wp2_with fail
    go_meet
    exact⟨q8,P,rfl,SZ⟩
   ·skip
    go_simp
    obtain⟨t2,ht2,bq,e8⟩:∃y,t1.alloc (.cells #[.slice none 0 0,.bool false,.bool false,.bool false,.bool false,.slice none 0 0,Vi 0,Vi 0,.slice none 0 0] 32)=y/\Bw t1 y/\y.heap[t1.heap.size]?=some (.cells GQ.a 32):=⟨_,rfl,Ai,Az _ _⟩
    rw[ht2]
    have Bt2:=hxy (Bt1.trans (bq.mono Bt1.size))
    have l8:=Bt1.size
    obtain⟨q8,hq8⟩:=Au t1.heap.size
    rw[hq8]at e8 l8⊢
    have E8:=hxy e8
    have AP':=hxy (AP.below bq AP.lt)
    refine hK.out _ _ Bt2 (fun _=>?_)
    clear hK KK ht2 e8 hq8 bq
    try go_frame
    clear AP
    have AP:=AP'
    refine AO 3 rfl (fun KK hK=>?_)
    go_simp
    refine(Z6 gP cP L N ra rs rc ha hs hcp nH w.heap.size S V0 t2 HCK.1 n4 HSZ HFM (L7.below Bt2).M AP).mono ?_
    rintro e t3⟨P,rfl,mm,bq⟩
    have Bt3:=hxy (Bt2.trans (bq.mono Bt2.size))
    have MM:=hxy (mm.mono Bt2.size)
    have E9:=hxy (Ac E8 bq)
    unfold ZQ
    go_wp2_with fail
    refine hK.out _ _ Bt3 (fun _=>?_)
    clear hK KK mm bq
    try go_frame
    obtain⟨z0,z1,z2,z3,z4,z5,z6,z7,z8,zf,zl⟩:=z9 E9
    refine AO 5 rfl (fun KK hK=>?_)
    go_simp
    change KK _ (JP t3 q8 (Vs P.bR 8 P.cR) (.bool (Dw (Bb L N) 2000 (dM rs hs)).z) (.bool (Dw (Bb L N) 2000 (dM rs hs)).c) (.bool (Dw (Bb L N) 2000 (dM rs hs)).hz) (.bool (Dw (Bb L N) 2000 (dM rs hs)).hc) (.slice P.aH (Dw (Bb L N) 2000 (dM rs hs)).nH P.cH) (Vi (Dw (Bb L N) 2000 (dM rs hs)).pc) (Vi (Dw (Bb L N) 2000 (dM rs hs)).st) (.slice P.aO (Dw (Bb L N) 2000 (dM rs hs)).nO P.cO))
    obtain⟨wz,hwz,SZ⟩:∃y,JP t3 q8 (Vs P.bR 8 P.cR) (.bool (Dw (Bb L N) 2000 (dM rs hs)).z) (.bool (Dw (Bb L N) 2000 (dM rs hs)).c) (.bool (Dw (Bb L N) 2000 (dM rs hs)).hz) (.bool (Dw (Bb L N) 2000 (dM rs hs)).hc) (.slice P.aH (Dw (Bb L N) 2000 (dM rs hs)).nH P.cH) (Vi (Dw (Bb L N) 2000 (dM rs hs)).pc) (Vi (Dw (Bb L N) 2000 (dM rs hs)).st) (.slice P.aO (Dw (Bb L N) 2000 (dM rs hs)).nO P.cO)=y/\SE u7 q8 P (Dw (Bb L N) 2000 (dM rs hs)) y:=⟨_,rfl,WO Bt3 E9 l8 MM⟩
    rw[hwz]
    refine hK.out _ _ SZ.1 (fun _=>?_)
    clear hK KK z0 z1 z2 z3 z4 z5 z6 z7 z8 zf zl hwz
    try go_frame
    refine wpAnyH_done AV ?_ _
    go_wp2_with fail
    go_meet
    exact⟨q8,P,rfl,SZ⟩
  ·skip
   go_simp
   obtain⟨t1,ht1,bq,e8⟩:∃y,t0.alloc (.cells #[.slice none 0 0,.bool false,.bool false,.bool false,.bool false,.slice none 0 0,Vi 0,Vi 0,.slice none 0 0] 32)=y/\Bw t0 y/\y.heap[t0.heap.size]?=some (.cells GQ.a 32):=⟨_,rfl,Ai,Az _ _⟩
   rw[ht1]
   have Bt1:=hxy (BU0.trans (bq.mono BU0.size))
   have l8:=BU0.size
   obtain⟨q8,hq8⟩:=Au t0.heap.size
   rw[hq8]at e8 l8⊢
   have E8:=hxy e8
   refine hK.out _ _ Bt1 (fun _=>?_)
   clear hK KK ht1 e8 hq8 bq
   try go_frame
   refine AO 1 rfl (fun KK hK=>?_)
   go_simp
   refine(qd g N cg L t1 hxl HCK.1 (L7.below Bt1).A).mono ?_
   rintro e t2⟨gP,cP,rfl,ap,bq⟩
   have AP:=hxy ap
   have Bt2:=hxy (Bt1.trans (bq.mono Bt1.size))
   have E9:=hxy (Ac E8 bq)
   go_wp2_with fail
   refine hK.out _ _ Bt2 (fun _=>?_)
   clear hK KK ap bq
   try go_frame
   refine AO 3 rfl (fun KK hK=>?_)
   go_simp
   refine(Z6 gP cP L N ra rs rc ha hs hcp nH w.heap.size S V0 t2 HCK.1 n4 HSZ HFM (L7.below Bt2).M AP).mono ?_
   rintro e t3⟨P,rfl,mm,bq⟩
   have Bt3:=hxy (Bt2.trans (bq.mono Bt2.size))
   have MM:=hxy (mm.mono Bt2.size)
   have E10:=hxy (Ac E9 bq)
   unfold ZQ
   go_wp2_with fail
   refine hK.out _ _ Bt3 (fun _=>?_)
   clear hK KK mm bq
   try go_frame
   obtain⟨z0,z1,z2,z3,z4,z5,z6,z7,z8,zf,zl⟩:=z9 E10
   refine AO 5 rfl (fun KK hK=>?_)
   go_simp
   change KK _ (JP t3 q8 (Vs P.bR 8 P.cR) (.bool (Dw (Bb L N) 2000 (dM rs hs)).z) (.bool (Dw (Bb L N) 2000 (dM rs hs)).c) (.bool (Dw (Bb L N) 2000 (dM rs hs)).hz) (.bool (Dw (Bb L N) 2000 (dM rs hs)).hc) (.slice P.aH (Dw (Bb L N) 2000 (dM rs hs)).nH P.cH) (Vi (Dw (Bb L N) 2000 (dM rs hs)).pc) (Vi (Dw (Bb L N) 2000 (dM rs hs)).st) (.slice P.aO (Dw (Bb L N) 2000 (dM rs hs)).nO P.cO))
   obtain⟨wz,hwz,SZ⟩:∃y,JP t3 q8 (Vs P.bR 8 P.cR) (.bool (Dw (Bb L N) 2000 (dM rs hs)).z) (.bool (Dw (Bb L N) 2000 (dM rs hs)).c) (.bool (Dw (Bb L N) 2000 (dM rs hs)).hz) (.bool (Dw (Bb L N) 2000 (dM rs hs)).hc) (.slice P.aH (Dw (Bb L N) 2000 (dM rs hs)).nH P.cH) (Vi (Dw (Bb L N) 2000 (dM rs hs)).pc) (Vi (Dw (Bb L N) 2000 (dM rs hs)).st) (.slice P.aO (Dw (Bb L N) 2000 (dM rs hs)).nO P.cO)=y/\SE u7 q8 P (Dw (Bb L N) 2000 (dM rs hs)) y:=⟨_,rfl,WO Bt3 E10 l8 MM⟩
   rw[hwz]
   refine hK.out _ _ SZ.1 (fun _=>?_)
   clear hK KK z0 z1 z2 z3 z4 z5 z6 z7 z8 zf zl hwz
   try go_frame
   refine wpAnyH_done AV ?_ _
   go_wp2_with fail
   go_meet
   exact⟨q8,P,rfl,SZ⟩
 case rest=>
 obtain⟨q8,P,rfl,hse⟩:=hcut
 generalize wc=u8 at *
 clear j0 j1 j2 j3 j4 j5 j6 j7 j8 BU0
 have hrg:=L7.M.range
 have Mok:=uS HFM n4 hrg HSZ
 have hsf:=Z9 (G:=⟨nH,S,V0⟩) HCK.1 HCK.2.2.1 HCK.2.1 Mok rfl rfl (uj HFM) 2000
 have hro:=vM (P:=Bb L N) 2000 (dM rs hs)
 have hok:=xD (Uf HCK.1) 2000 0 (dM rs hs) ⟨Mok,Int.le_refl _,BQ⟩
 generalize Dw (Bb L N) 2000 (dM rs hs)=MR at hse hsf hro hok
 obtain⟨hst,has⟩:=hsf
 have L8:=hxy (L7.below hse.1)
 have C8:=hxy (Ac C7 hse.1)
 have A8:=hxy (A7.below hse.1 A7.lt)
 have R8:=hxy hse.2.1
 have M8:Hid (Mem u8 u7.heap.size P MR):=hse.2.2
 have HAS:=hxy has
 have HRO:=hxy hro
 have HOK:Hid MR.Ok:=hok
 have hnn:MR.nH=hs.length:=hro.1
 have hs1:(((MR.nH:Nat):Int) !=(hs.length:Int))=false:=by rw[hnn];simp
 have hs2:(MR.st==2)=false:=by simpa using hst
 have HNN:Hid (MR.nH=hs.length):=hnn
 have hnh:Hid (hs.length=nH):=HFM.nh
 have hle:hs.length<=4:=by have:=hnh.out;omega
 have hge:1<=hs.length:=by have:=hnh.out;omega
 clear hse hst has hro hok hrg Mok L7 C7 A7 hnn
 obtain⟨z0,z1,z2,z3,z4,z5,z6,z7,z8⟩:=Bq L8.Y
 have zl:=Bp L8.Y
 have R8':=R8.out
 unfold ZQ at R8'
 obtain⟨y0,y1,y2,y3,y4,y5,y6,y7,y8⟩:=Bq R8'
 have yl:=Bp R8'
 clear R8' z0 z1 z2 z3 z4 z6 z7 z8 y0 y1 y2 y3 y4 y6 y8
 go_upto_block 0 with fail
 have hml:=L8.M
 obtain⟨bRm,bHm,bOm,hg⟩:=ML.g (rs:=rs) (hs:=hs) (os:=[]) hml L8.A
 have eHm:ha=some ⟨bHm,0,none⟩:=hg.eH.some AB
 have HGM:=hxy hg
 obtain⟨bHr,cHr,eHr⟩:∃b c,Value.slice P.aH MR.nH P.cH=Vs b hs.length c:=by
  obtain⟨b,c,h⟩:=G8 M8.heaps (by rw[HNN.out];omega)
  exact⟨b,c,by rw[h,HNN.out]⟩
 have HRH:Hid (Ak u8 bHr (hs.length*3) (CO (place MR.Hp P.blk P.cap))):=by
  have k:=M8.heaps
  rw[eHr,HNN.out]at k
  exact(Fv k).2.2.2
 rw[eHr]at y5
 rw[eHm]at z5
 have lHm:=HGM.heaps.lt
 have lHr:=HRH.lt
 clear hml hg eHm eHr
 go_cut [](fun wx=>Bw u8 wx)
 case first=>
  go_wp2_with fail
  go_loopw [9](fun i wr=>∃k:Nat,k<=hs.length/\i=Vi k/\Bw u8 wr)(fun iv _=>((hs.length:Int)-intOf iv).toNat)
  case atStart=>exact⟨0,AB,rfl,Below.refl _ _⟩
  case round=>
  obtain⟨k,hk,rfl,hbr⟩:=hrel
  have HBR:=hxy hbr
  have c5:=(hbr.cell (p:=Va qm 5) zl).trans z5
  have cl:qm<wr.heap.size:=Ey zl hbr.size
  clear hbr
  by_cases hlt:k<hs.length
  rotate_left
  ·have hlt':¬(k:Int)<hs.length:=AB
   go_wp2_with fail
   go_meet
   exact HBR
  ·have hlt':(k:Int)<hs.length:=AB
   go_upto_region 15 with fail
   clear c5
   have m5:Cb wr qm 5 (Vs bHm hs.length hcp):=fun w' h=>(h.cell (p:=Va qm 5) cl).trans ((HBR.cell (p:=Va qm 5) zl).trans z5)
   have r5:Cb wr q8 5 (Vs bHr hs.length cHr):=fun w' h=>(h.cell (p:=Va q8 5) (Ey yl HBR.size)).trans ((HBR.cell (p:=Va q8 5) yl).trans y5)
   have m1:Cb wr bHm (k*3+1) (.bool (hL hs k).wr):=fun w' h=>(h.cell (p:=Va bHm (k*3+1)) (Ey lHm HBR.size)).trans ((HBR.cell (p:=Va bHm (k*3+1)) lHm).trans ((HGM.heaps.cell (i:=k*3+1) AB).trans (congrArg some (JE _ k))))
   have m2:Cb wr bHm (k*3+2) (.slice (aL hs k) (hL hs k).len (cL hs k)):=fun w' h=>(h.cell (p:=Va bHm (k*3+2)) (Ey lHm HBR.size)).trans ((HBR.cell (p:=Va bHm (k*3+2)) lHm).trans ((HGM.heaps.cell (i:=k*3+2) AB).trans (congrArg some (GD _ k))))
   have r2:Cb wr bHr (k*3+2) (.slice (some ⟨P.blk k,0,none⟩) (MR.Hp k).len (P.cap k)):=fun w' h=>(h.cell (p:=Va bHr (k*3+2)) (Ey lHr HBR.size)).trans ((HBR.cell (p:=Va bHr (k*3+2)) lHr).trans ((HRH.cell (i:=k*3+2) AB).trans (congrArg some (GD _ k))))
   obtain⟨o1,o2,o3,o4⟩:=HRO.2 k
   have o2':(MR.Hp k).len=(hL hs k).len:=o2
   rw[o2']at r2
   have HO4:=hxy o4
   have HO2:=hxy o2'
   clear o1 o2 o3 o4 o2'
   have BU1:Hid (Bw wr wr.drew):=BJ.drew
   cases hw:(hL hs k).wr with
   |true=>
    rw[hw]at m1
    refine wp_region_held_drew (S:=fun w'=>Bw wr w') AV BU1 (fun _=>?_)
    refine AU 0 ?_
    refine AU 1 ?_
    refine AU 2 ?_
    refine AU 3 ?_
    refine AU 4 ?_
    refine AU 5 ?_
    refine AU 6 ?_
    refine AU 7 ?_
    refine Br 8 rfl ?_
    refine Cn ?_
    refine Br 9 rfl ?_
    refine Cn ?_
    refine Br 10 rfl ?_
    refine Cn ?_
    refine Br 11 rfl ?_
    refine Cn ?_
    refine Br 12 rfl ?_
    refine Cn ?_
    refine Br 13 rfl ?_
    refine Cn ?_
    refine Br 14 rfl ?_
    refine Cn ?_
    refine Br 15 rfl ?_
    refine Cn ?_
    refine Br 16 rfl ?_
    refine Cn ?_
    refine Br 17 rfl ?_
    refine Cn ?_
    refine Br 18 rfl ?_
    refine Cn ?_
    refine Br 19 rfl ?_
    refine Cn ?_
    refine Br 20 rfl ?_
    refine Cn ?_
    refine Br 21 rfl ?_
    refine Cn ?_
    refine AU 22 ?_
    refine wpAnyH_done AV ?_ _
    clear m5 r5 m1 m2 r2
    go_wp2_with fail
    go_roundw
    case rel=>exact⟨k+1,AB,by go_num,HBR.trans (BU1.mono HBR.size)⟩
    case measure=>simp[intOf];omega
   |false=>
    have HDT:=HO4.out hw
    have hlen:0<(hL hs k).len:=by
     have h1:=(HFM.h.heap k hlt).1
     have h2:=HSZ.out k (by have:=hnh.out;omega)
     show 0<(hs.getD k hd0).ds.length
     dsimp only at h1
     omega
    obtain⟨bm,eb,am⟩:=HGM.data k hlt hlen
    rw[eb]at m2
    have ar:=(Fv (M8.data k (by rw[HNN.out];exact hlt))).2.2.2
    rw[HO2.out,HDT]at ar
    have HAM:=hxy am
    have HAR:=hxy ar
    have HDR:=hxy (L8.M.range.dat k hlt)
    rw[hw]at m1
    clear am ar eb HDT hlen
    refine wp_region_held_drew (S:=fun w'=>Bw wr w') AV BU1 (fun _=>?_)
    generalize wr.drew=t0 at BU1⊢
    refine AU 0 ?_
    refine AU 1 ?_
    refine AU 2 ?_
    refine AU 3 ?_
    refine AU 4 ?_
    refine AU 5 ?_
    refine AU 6 ?_
    refine AU 7 ?_
    refine AU 8 ?_
    refine AU 9 ?_
    refine AU 10 ?_
    refine AU 11 ?_
    refine AU 12 ?_
    refine AU 13 ?_
    refine AU 14 ?_
    refine AU 15 ?_
    refine AU 16 ?_
    refine AU 17 ?_
    refine AU 18 ?_
    refine AU 19 ?_
    refine AO 20 rfl (fun KK hK=>?_)
    go_simp
    go_simp
    have bt:=HBR.trans (BU1.mono HBR.size)
    refine(Rm bm (hL hs k).len (cL hs k) (P.blk k) (P.cap k) (hL hs k).dat t0 HDR (HAM.below bt HAM.lt) (HAR.below bt HAR.lt)).mono ?_
    rintro e t1⟨rfl,rfl⟩
    go_wp2_with fail
    refine hK.out _ _ BU1 (fun _=>?_)
    clear hK KK
    try go_frame
    refine AU 21 ?_
    refine AU 22 ?_
    refine wpAnyH_done AV ?_ _
    clear m5 r5 m1 m2 r2
    go_wp2_with fail
    go_roundw
    case rel=>exact⟨k+1,AB,by go_num,bt⟩
    case measure=>simp[intOf];omega
 case rest=>
 have hb9:Bw u8 wc:=hcut
 generalize wc=u9 at *
 have L9:=hxy (L8.below hb9)
 have C9:=hxy (Ac C8 hb9)
 have A9:=hxy (A8.below hb9 A8.lt)
 have R9:=hxy (Ac R8 hb9)
 have M9:=hxy (M8.below hb9)
 clear hb9 hcut L8 C8 A8 R8 M8 HGM HRH z5 y5 y7 zl yl lHm lHr
 have R9':=R9.out
 unfold ZQ at R9'
 obtain⟨y0,y1,y2,y3,y4,y5,y6,y7,y8⟩:=Bq R9'
 have yl:=Bp R9'
 have x2:=(AJ C9 2).trans rfl
 have x3:=(AJ C9 3).trans rfl
 have x4:=(AJ C9 4).trans rfl
 have xl:=Bp C9
 clear R9'
 by_cases h1:MR.st=1
 ·have hb:(MR.st !=1)=false:=by simp[h1]
  have has:=HAS.out h1
  have HA2:=hxy has
  have HVF:Hid (∀i,i<8->GV (F.V i) MR.nH):=fun i hi=>by
   have k:=(Co.1 HCK.2.2.2.1).2.2.1 i hi
   rw[HNN.out,hnh.out]
   exact k
  clear has h1
  go_wp2_with fail
  refine(Wm gA cA F.V F.z F.c u7.heap.size P MR nH S _ A9 M9 HVF HA2 HOK.reg (fun i hi=>?hb)).mono ?_
  case hb=>have k:=HOK.heap i hi;omega
  rintro e u10⟨rfl,b10⟩
  have B10:=hxy ((L9.below b10).B)
  clear b10 y0 y1 y2 y3 y4 y5 y6 y7 y8 yl x2 x3 x4 xl
  go_wp2_with fail
  go_ret
  exact⟨rfl,B10⟩
 ·have hb:(MR.st !=1)=true:=by simpa using h1
  have B10:=hxy L9.B
  clear h1
  go_wp2_with fail
  go_ret
  exact⟨rfl,B10⟩
end Go.Proofs.YtjoppncopoampaaGreatDoor
namespace Go.Proofs.YtjoppncopoampaaGreatDoor
open Go.ChangeShapes Go.WideShapes Go.ChangeAt Go.RowKit Go.Deep
theorem rR:ownKnob Tryz.prog.godebug=none:=AV
theorem wW:Tryz.prog.globalNamed "errors.errorType" =some 0:=AV
theorem wV:(Tryz.prog.cutTypes.find? (·.1== "internal/reflectlite.rtype")).map (·.2)=some 186:=AV
theorem YK:((List.range 301).filter fun t=>Tryz.prog.rowNamed t [101,114,114,111,114])=[73]:=AV
theorem oU:Tryz.prog.types.size=301:=AV
theorem Oy{W:World}(h:laidMetH Tryz.prog Rows.fnSafeRow.laid W):W.cell? (Va 0 0)=some (.iface 186 (.agg #[.pointer (some ⟨1,73,none⟩)])):=by
 have m:laidMet Tryz.prog [] W/\handlesMet Tryz.prog Rows.fnSafeRow.laid W:=h;obtain⟨c,u,o,d,e,j,k,a⟩:=m.2 _ (List.mem_singleton.2 rfl);have l:=(Option.some.inj d).symm;subst l;obtain rfl:=Option.some.inj (wV.symm.trans e);have b:o∈(List.range 301).filter fun t=>Tryz.prog.rowNamed t [101,114,114,111,114]:=List.mem_filter.2 ⟨List.mem_range.2 (by rw[<-oU];exact j),k⟩
 rw[YK]at b;obtain rfl:=List.mem_singleton.1 b;have n:typeHandle Tryz.prog 73=.pointer (some ⟨1,73,none⟩):=AV;rw[n]at a;simpa using World.var?_cell wW a 0
def iG(w0:World):World:=
 {w0 with heap:=w0.heap.modify 0 fun
  |.cells _ t frozen=>.cells #[.iface 186 (.agg #[.pointer (some ⟨1,73,none⟩)])] t frozen
  |o=>o}
theorem QR(b:Os)(a:Array Value):laidMetH Tryz.prog Rows.fnSafeRow.laid ((iG (World.holding Tryz.prog b ⟨#[],#[],[]⟩)).forCall (fun _ _=>0) ⟨#[],a,[]⟩).memory:=
 laidMetH_of_parts (laidMet_nil _ _) AV
theorem gQ{W:World}{v:Value}(h:W.cell? (Va 0 0)=some v):0<W.heap.size:=by
 rcases Nat.eq_zero_or_pos W.heap.size with a|b
 ·simp[World.cell?,a]at h
 ·exact b
theorem QF(b:Option Addr)(n a:Nat)(w:World)(h:1048576<n)(c:n<=maxLen):
 Calls Tryz.prog 3 #[.slice b n a] w fun e d=>e=.returned (.bool true)/\Below w.heap.size w d:=by
 unfold maxLen at c;have j:(1048576:Int)<n:=AB;clear h;go_enter Tryz.func3,Tryz.ntmps3;go_wp2;go_ret;exact⟨rfl,Below.refl _ _⟩
theorem xG:Tryz.prog.cellsOf 5=1:=AV
theorem rC{n:Int}(h:(Lit.int .u8 n).wf=true):0<=n/\n<=255:=by
 simpa[Lit.wf,IntKind.min,IntKind.max,IntKind.signed,IntKind.bits]using h
theorem ng{H:Type}{c:TypeId×Value->H}{w:World}{l:Nat}{E:Nat->Bool}{B:Bool}{q:Nat}{U:Option Addr}{X Y:Nat}{x:DataW H×List MemPlace}
 (h:DataW.trod c Tryz.prog w l E B q 22 [.slice U X Y]=some x):X<=maxLen/\I9 w w.heap.size U X:=by
 obtain⟨z,f,a,d⟩:=open_row Tryz.underlying22 xG AB h;refine⟨z,?_⟩;rw[Nat.mul_one]at a;rcases a with s|⟨b,e,u,k⟩
 ·exact .inl s
 ·refine .inr ⟨b,e,u,k.lt,fun i m=>?_⟩
  obtain⟨n,y,o⟩:=d i m;simp[List.range,List.range.loop]at o;obtain⟨r,j,_,p⟩:=DataW.trod_int Tryz.underlying5 o;simp at j;exact⟨r,(rC p).1,(rC p).2,by rw[k.cell m,j]⟩
theorem OQ(o:Os)(k:o.Started)(H:Type)(b:TypeId×Value->H):
 ReturnsInHanded {} Tryz.checked o 3 .any (fun w a=>(Rows.fnSafeSpec.pre b Tryz.prog Tryz.f3 Rows.fnSafeRow.domain false w a/\laidMetH Tryz.prog Rows.fnSafeRow.laid w)/\sizedMet b Tryz.prog Tryz.f3 (OpenSpec.ofChange Rows.fnSafeSpec) false w a)
  (Rows.fnSafeSpec.post b Tryz.prog Tryz.f3 false true false false):=by
 refine returnsInHanded_of_change_and (C:=Tryz.checked) (X:=fun w _=>laidMetH Tryz.prog Rows.fnSafeRow.laid w) (fun _ _ _ U h=>h.of_heap U) rR k AV Tryz.func3
  (ChangeSpec.witness_at (enc:=b) (C:=Tryz.checked) (os:=o) (X:=fun w _=>laidMetH Tryz.prog Rows.fnSafeRow.laid w) false (iG (World.holding Tryz.prog o ⟨#[],#[],[]⟩)) #[.slice none 0 0] 8 rfl AV AV AV AV AV (QR o _)) ?_
 intro W r a Q gs z d L _ _ hL _;have l:∀(j:Nat)t v,Tryz.f3.params[j]?=some t->a[j]?=some v->Value.okWide Tryz.prog W .any r t v:=d;have E:=L;obtain⟨p,q,y,R,rfl,_,_⟩:=L;have K:DataW.TrodAll b Tryz.prog W 0 (fun _=>true) true Tryz.f3.params.toList a.toList Q p:=y;rw[Tryz.params3]at K l;obtain⟨v0,d0,rfl,rfl,J⟩:=trodAll_one K;obtain⟨rfl,rfl⟩:=trodVars_none R;obtain⟨n,A,c,rfl⟩:=okWide_slice Tryz.underlying22 (l 0 22 v0 rfl rfl);have N:=J;have I:∀x∈p,x.block<W.heap.size:=by obtain⟨m,Z⟩:=N;exact DataW.trod_lt m _ _ _ Z
 obtain⟨D,F⟩:=J;obtain⟨m0,O⟩:=ng (by simpa[Value.cells]using F);have M:=Oy hL;clear y d;have u:∀(e:Ending)(B:World),e=.returned (.bool true)/\Bw W B->∃v,e=.returned v/\Rows.fnSafeSpec.post b Tryz.prog Tryz.f3 false true false false W #[.slice n A c] v B:=by
  rintro e B⟨S,s⟩;subst S;exact⟨_,rfl,_,_,_,[],_,[],E,trodAll_mk1 (shut_bool Tryz.underlying4 _),trodAll_mk1 (Below.trod (by kernel_rfl:laidOutB Tryz.prog=true) AV (of_decide_eq_true AV) N s I),rfl,s.frame _,fun h=>by cases h⟩
 by_cases Y:A<=1048576
 ·exact(Rc n A c W Y O M (gQ M)).mono u
 ·exact(QF n A c W AB m0).mono u
theorem NN:Rows.FnSafeSaid:=
 OpenClaim.holds_of_wide 3 Tryz.f3 rfl rfl rfl rfl rfl rfl rfl ⟨rfl,rfl,rfl,rfl,rfl⟩ rfl rfl rfl rfl rfl AV Tryz.func3 AV
  (of_decide_eq_true AV) (by unfold Func.isWrapper;first|(rw[if_pos (by decide+kernel)];kernel_rfl)|(rw[if_neg (by decide+kernel)];exact⟨rfl,rfl⟩))
  (fun c a H b _=>OQ c a H b)
theorem fnSafe_holds:Rows.FnSafeCardSaid:=
 Claim7.holds_tied_plain_at .later [] [.handle] true (true,"85a8dd957dc2aa036c4b7ab1ac3067514e70f915ea1707a1553ee15384cc59af") true NN (fun _ h=>by cases h) AV (fun _ h=>by cases h) fnSafe_row_tie rfl ⟨rfl,rfl⟩ AV rfl
  (fun f d e b=>by
    obtain rfl:f=3:=Option.some.inj ((show Tryz.prog.funcNamed "loop.example/s01319/laws.FnSafe" =some 3 by kernel_rfl).symm.trans e)|>.symm;obtain rfl:d=Tryz.f3:=(Option.some.inj (Tryz.func3.symm.trans b)).symm;exact⟨AV,fun j t c=>by
     rw[Tryz.params3]at c;have k:t∈[22]:=by simpa using Array.mem_of_getElem? c
     have a:([22].all fun u=>!Tryz.prog.wantsStandIn u)=true:=AV;exact(show Tryz.prog.wantsStandIn t=false by simpa using List.all_eq_true.1 a t k)⟩)
  AV
end Go.Proofs.YtjoppncopoampaaGreatDoor
