import Derived.Test.YtfpeecaaleijcaaGreatDoorOfCl
import Derived.Test.YtfpeecaaleijcaaGreatDoorOfFu6f
set_option maxHeartbeats 32000000
set_option maxRecDepth 20000
namespace Go.Proofs.YtfpeecaaleijcaaGreatDoor
open Go.RowKit Go.Deep
variable {xs:List SV}{B M g p:Nat}{u u' w:World}
theorem Ep.putA{ao:Option Addr}{n cap:Nat}{bH cH nH:Nat}{S:Nat->HS}{bR cR:Nat}{V0:Nat->VV}{bA cA:Nat}{V:Nat->VV}{z c:Int}{bs ba br:Nat}(h:Ep w p ao n cap bH cH nH S bR cR V0 bA cA V z c bs ba br u){g2 c2:Nat}{V2:Nat->VV}{z2 q2:Int}(hA:A9 u g2 (8*6) (vF V2))(ok:BA nH S 8 V0 8 V2 z2 q2=true)(n1:g2≠ba)(n2:g2≠br)(n3:g2≠p):Ep w p ao n cap bH cH nH S bR cR V0 g2 c2 V2 z2 q2 bs ba br (((u.setCell (Va ba 0) (Vs g2 8 c2)).setCell (Va ba 1) (Vi z2)).setCell (Va ba 2) (Vi q2)):=by
 have o0:=h.pw;have o1:=h.o1;have o2:=h.o2;have o3:=h.o3;have m1:=h.n1;have m2:=h.n2;exact⟨Ef h.F (by omega) _ _ _,EC h.K (by omega) _ _ _,Av (Av (Av h.sg (by omega) _ _) (by omega) _ _) (by omega) _ _,h.A.set _ _ _,Av (Av (Av h.R (by omega) _ _) (by omega) _ _) (by omega) _ _,⟨DY h.sc.h (by omega) _ _ _,DY h.sc.r (by omega) _ _ _⟩,DY hA n1 _ _ _,ok,h.lH,o0,o1,o2,o3,m1,m2,n2,h.p1,h.p2,n3⟩
theorem fI{ba t:Nat}{f:Nat->Value}{x y z:Value}(hA:A9 u g (8*6) f)(h:V3 u ba t x y z):g≠ba:=fun e=>by
 have q:=hA.cell (i:=3) (by omega);rw[e,AY h 3]at q;simp at q
theorem Q6(d:Nat)(hd:d<=3)(IH:∀d',d=d'+1->ZA d'):ZA d:=by
 intro p ao n cap bH cH nH S bR cR V0 bA cA V z c m busy w hm hc h1 h2 h3 p1 p2 p3;have X0:Hid (Ep w p ao n cap bH cH nH S bR cR V0 bA cA V z c w.heap.size (w.heap.size+1) (w.heap.size+1+1) (((w.alloc (.cells #[Vs bH nH cH,Vs bR 8 cR] 26)).alloc (.cells #[Vs bA 8 cA,Vi z,Vi c] 136)).alloc (.cells #[.slice none 0 0,Vi 0,Vi 0] 136))):=Ph w hc h1 h2 h3 p1 p2 p3;have LA:Hid (bA<w.heap.size/\bA≠p):=⟨h2.lt,p3⟩
 have lp:=hc.lt;have hgb:=Xz hd;have hgp:=NA d;clear hc h1 h2 h3 p1 p2 p3;go_enter Tryz.func67,Tryz.ntmps67;go_upto_region 1 with fail;obtain⟨u,hu⟩:=Ae (((w.alloc (.cells #[Vs bH nH cH,Vs bR 8 cR] 26)).alloc (.cells #[Vs bA 8 cA,Vi z,Vi c] 136)).alloc (.cells #[.slice none 0 0,Vi 0,Vi 0] 136));rw[hu]at X0⊢;obtain⟨bs,hbs⟩:=Ae w.heap.size;obtain⟨ba,hba⟩:=Ae (w.heap.size+1);obtain⟨br,hbr⟩:=Ae (w.heap.size+1+1);have X0:Hid (Ep w p ao n cap bH cH nH S bR cR V0 bA cA V z c bs ba br u):=by rw[<-hbs,<-hba,<-hbr];exact X0
 rw[hbr,hba,hbs];have BO:Hid (w.heap.size=bs/\bs<ba/\ba<br):=⟨hbs,by omega,by omega⟩
 clear hu hbs hba hbr;go_upto_region 2 with fail;obtain⟨u0,hu0,b0,o0⟩:∃y,u.alloc (.cells #[] 89)=y/\Below u.heap.size u y/\y.ownsRow u.heap.size 89 11 (Vs u.heap.size ([]:List SV).length 0) ([]:List SV).length (BZ []):=⟨_,rfl,Ak,World.ownsRow_lit u #[] 0 jG (by unfold maxLen;omega) rfl⟩
 rw[hu0];have X1:=hxy (X0.out.below b0);have O1:=hxy (Au o0 X0.out.F.size);obtain⟨og0,hog⟩:=Ae u.heap.size;rw[hog]at O1⊢;have OGA:Hid (og0≠bA):=(by have:=LA.out;have:=O1.out.lt og0 rfl;omega:og0≠bA)
 clear hu0 b0 o0 hog X0;go_wp2_with fail;go_loopw [14,15](fun ov iv wr=>∃(k:Nat)(og oc:Nat)(xs:List SV)(gA cA:Nat)(V:Nat->VV)(z c:Int),ov=Vs og xs.length oc/\iv=Vi (k:Int)/\k<=m/\Hid (Wl xs/\(gA=bA∨w.heap.size<=gA)/\og≠gA)/\xs.length<=k*gb d/\Ep w p ao n cap bH cH nH S bR cR V0 gA cA V z c bs ba br wr/\wr.ownsRow w.heap.size 89 11 (Vs og xs.length oc) xs.length (BZ xs))(fun _ iv _=>m-(intOf iv).toNat)
 case atStart=>exact⟨0,og0,0,[],bA,cA,V,z,c,rfl,rfl,by omega,⟨.nil,Or.inl rfl,OGA.out⟩,by simp,X1.out,O1.out⟩
 case round=>
  clear X1 O1;obtain⟨k,og,oc,xs,gA,cA,V,z,c,rfl,rfl,hk,HW,hlen,x,o⟩:=hrel;have X:=hxy x;have O:=hxy o;clear x o;by_cases hkm:k<m
  rotate_left
  ·have hkm':¬(k:Int)<(m:Int):=by omega
   have hle:xs.length<=m*gb d:=Nat.le_trans hlen (Nat.mul_le_mul_right _ hk);go_upto_region 15 with fail;have R9:=X.out.R;have hba:(some br:Option Nat)≠some ba:=by intro e;have e1:=Option.some.inj e;have:=BO.out;omega
   have hrn:(Vs og xs.length oc).ownBlock≠some br:=Am R9 O.out (by decide);have j0:∀w',Tn (some br) wr w'->w'.cell? (Va ba 0)=some (Vs gA 8 cA):=fun w' h=>(X.out.A.tn h hba).cells.1
   have j1:∀w',Tn (some br) wr w'->w'.cell? (Va ba 1)=some (Vi z):=fun w' h=>(X.out.A.tn h hba).cells.2.1
   have j2:∀w',Tn (some br) wr w'->w'.cell? (Va ba 2)=some (Vi c):=fun w' h=>(X.out.A.tn h hba).cells.2.2
   refine wp_region_held_drew (S:=fun w'=>Tn (some br) wr w') (by kernel_rfl) (Tn.of (Below.refl _ _).drew) (fun _=>?_);refine AB 0 rfl ?_;refine AB 1 rfl ?_;refine AB 2 rfl ?_;have hbd:Below wr.heap.size wr wr.drew:=(Below.refl _ _).drew;generalize wr.drew=t0 at hbd⊢;have R0:=R9.below hbd;obtain⟨r0,r1,r2⟩:=R0.cells;have rf:=R0.free;have rl:=R0.lt;have X2:=X.out.below hbd;have RS:Hid (Wi nH S V0 bA (m*gb d) w p ao n cap (.returned (.tuple #[Vs og xs.length oc,.agg #[Vs gA 8 cA,Vi z,Vi c]])) (((t0.setCell (Va br 0) (Vs gA 8 cA)).setCell (Va br 1) (Vi z)).setCell (Va br 2) (Vi c))):=⟨og,oc,xs,gA,cA,V,z,c,rfl,HW.out.1,hle,Dj (Ah O.out hbd) hrn _ _ _,HW.out.2.1,DY X2.G X2.n3 _ _ _,X2.ok,Ef X2.F (by have:=BO.out;omega) _ _ _,EC X2.K (by have:=BO.out;omega) _ _ _⟩
   have TT:Hid (Tn (some br) wr t0):=Tn.of hbd;clear hbd R0 X2 R9 j0 j1 j2 X O;refine AO 3 rfl (fun KK hK=>?_);go_simp;refine hK.out _ _ (TT.out.set3 _ _ _) (fun _=>?_);clear hK KK;refine wpAnyH_done (by kernel_rfl) ?_ _;go_wp2_with fail;refine bodyPost_ret (v:=.tuple #[Vs og xs.length oc,.agg #[Vs gA 8 cA,Vi z,Vi c]]) (by simp[results,Tryz.results67,go_sem, *]) rfl RS.out
  have hkm':(k:Int)<(m:Int):=by omega
  go_wp2_with fail;refine(Aa p ao n cap 10 _ (by omega) X.out.K).mono ?_;rintro e v1⟨kk,rfl,kk0,kk10,f,k'⟩;have X1:=hxy (X.out.fw f k');have O1:=hxy (DX O.out f lp);clear f k' X O;obtain⟨_,⟨a0,a1,a2⟩,al1,al2⟩:=X1.out.cells;go_upto_region 8 with fail;obtain⟨v2,hv2,b2⟩:∃y,v1.alloc (.cells #[] 89)=y/\Below v1.heap.size v1 y:=⟨_,rfl,Ak⟩
  have X2:=hxy (X1.out.below b2);have O2:=Ah O1.out b2;have e1:v2.heap.size=v1.heap.size+1:=by rw[<-hv2];simp
  obtain⟨v3,hv3,b3,n3⟩:∃y,v2.alloc (.cells #[Vs gA 8 cA,Vi z,Vi c] 136)=y/\Below v2.heap.size v2 y/\V3 y v2.heap.size 136 (Vs gA 8 cA) (Vi z) (Vi c):=⟨_,rfl,Ak,V3.new _ _ _ _ _⟩
  try rw[hv2]
  try rw[hv3]
  have X3:=hxy (X2.out.below b3)
  have O3:=hxy (Ah O2 b3)
  obtain⟨nv,hnv⟩:=Ae v2.heap.size
  have hnv1:v1.heap.size+1=nv:=by omega
  try rw[hnv]
  try rw[hnv1]
  rw[hnv]at n3
  have N3:=hxy n3
  have F23:Hid (Fw p v2 v3):=.of_below b3
  have ZV:Hid (v2.heap.size<=nv/\og<v2.heap.size/\gA<v2.heap.size/\p<v2.heap.size/\br<v2.heap.size/\w.heap.size<=v2.heap.size/\ba<v2.heap.size):=⟨by omega,(O2.lt og rfl).2,X2.out.G.lt,by have:=X2.out.F.size;omega,X2.out.R.lt,X2.out.F.size,X2.out.A.lt⟩
  have O2H:=hxy O2
  clear hv2 b2 e1 hv3 b3 n3 hnv hnv1 a0 a1 a2 al1 al2 X1 O1 O2
  go_cut [34](fun s34 wx=>∃b:Bool,s34=.bool b/\(b=true->0<d)/\wx=v3)
  case first=>
   by_cases hk0:kk=0
   ·have e1:(kk==0)=true:=by simp[hk0]
    clear hk0
    by_cases hd0:0<d
    ·have e2:decide (0<(d:Int))=true:=by simp;omega
     go_wp2_with fail
     go_meet
     exact⟨_,rfl,fun _=>hd0,rfl⟩
    ·have e2:decide (0<(d:Int))=false:=by simp;omega
     go_wp2_with fail
     go_meet
     exact⟨_,rfl,(by intro e;cases e),rfl⟩
   ·have e1:(kk==0)=false:=by simp[hk0]
    go_wp2_with fail
    go_meet
    exact⟨_,rfl,(by intro e;cases e),rfl⟩
  case rest=>
  obtain⟨b34,rfl,hb34,hwc⟩:=hcut
  rw[hwc]
  clear hwc
  go_upto_if 34 with fail
  go_cut [17](fun s17 wx=>∃(mg mc:Nat)(ms:List SV)(gA' cA':Nat)(V':Nat->VV)(z' c':Int),s17=Vs mg ms.length mc/\Wl ms/\ms.length<=gb d/\DR nH S V0 gA v2 p ao n cap mg mc ms nv gA' cA' V' z' c' wx)
  case first=>
   obtain⟨⟨s0,s1⟩,⟨a0,a1,a2⟩,al1,al2⟩:=X3.out.cells
   have FIN:Hid (∀(v4:World)(mg mc:Nat)(ms:List SV)(gA' cA':Nat)(V':Nat->VV)(z' c':Int)(mm:Nat),mm<=gb d->Wl ms->ms.length<=mm->v4.ownsRow v3.heap.size 89 11 (Vs mg ms.length mc) ms.length (BZ ms)->(gA'=gA∨v3.heap.size<=gA')->A9 v4 gA' (8*6) (vF V')->BA nH S 8 V0 8 V' z' c'=true->Fw p v3 v4->Bj v4 p ao n cap->Wl ms/\ms.length<=gb d/\DR nH S V0 gA v2 p ao n cap mg mc ms nv gA' cA' V' z' c' (((v4.setCell (Va nv 0) (Vs gA' 8 cA')).setCell (Va nv 1) (Vi z')).setCell (Va nv 2) (Vi c'))/\V3 v4 nv 136 (Vs gA 8 cA) (Vi z) (Vi c)):=fun v4 mg mc ms gA' cA' V' z' c' mm hmm hwl hl hrow nwA hA okA f k'=>by
    have zv:=ZV.out
    exact⟨hwl,by omega,JI F23.out (by omega) (by omega) N3.out (by omega) hrow nwA hA okA f k',CJ N3.out f (by omega)⟩
   cases b34 with
   |true=>
    obtain⟨d',hd'⟩:∃d',d=d'+1:=⟨d-1,by have:=hb34 rfl;omega⟩
    have hcall:=SG d' (IH d' hd') (by omega) p ao n cap bH cH nH S bR cR V0 gA cA V z c busy v3 X3.out.K X3.out.sc X3.out.G X3.out.ok X3.out.p1 X3.out.p2 X3.out.p3
    rw[<-hd']at hcall
    have HC:Hid _:=hcall
    clear hcall hd' hb34
    go_wp2_with fail
    refine Calls.mono HC.out ?_
    rintro e v4⟨mg,mc,ms,gA',cA',V',z',c',rfl,hwl,hl,hrow,nwA,hA,okA,f,k'⟩
    have R:=FIN.out v4 mg mc ms gA' cA' V' z' c' _ jG hwl hl hrow nwA hA okA f k'
    have RR:Hid _:=R
    obtain⟨n0,n1,n2⟩:=R.2.2.2.cells
    have nf:=R.2.2.2.free
    have nl:=R.2.2.2.lt
    clear R hwl hl hrow nwA hA okA f k' s0 s1 a0 a1 a2 al1 al2
    go_wp2_with fail
    go_meet
    exact⟨mg,mc,ms,gA',cA',V',z',c',rfl,RR.out.1,RR.out.2.1,RR.out.2.2.1⟩
   |false=>
    clear hb34
    go_upto_region 10 with fail
    go_cut [49](fun s49 wx=>∃b:Bool,s49=.bool b/\(b=true->0<d)/\wx=v3)
    case first=>
     by_cases hk0:kk=1
     ·have e1:(kk==1)=true:=by simp[hk0]
      clear hk0
      by_cases hd0:0<d
      ·have e2:decide (0<(d:Int))=true:=by simp;omega
       go_wp2_with fail
       go_meet
       exact⟨_,rfl,fun _=>hd0,rfl⟩
      ·have e2:decide (0<(d:Int))=false:=by simp;omega
       go_wp2_with fail
       go_meet
       exact⟨_,rfl,(by intro e;cases e),rfl⟩
     ·have e1:(kk==1)=false:=by simp[hk0]
      go_wp2_with fail
      go_meet
      exact⟨_,rfl,(by intro e;cases e),rfl⟩
    case rest=>
    obtain⟨b49,rfl,hb49,hwc⟩:=hcut
    rw[hwc]
    clear hwc
    cases b49 with
    |true=>
     obtain⟨d',hd'⟩:∃d',d=d'+1:=⟨d-1,by have:=hb49 rfl;omega⟩
     have hcall:=Ni d' (IH d' hd') (by omega) p ao n cap bH cH nH S bR cR V0 gA cA V z c busy v3 X3.out.K X3.out.sc X3.out.G X3.out.ok X3.out.p1 X3.out.p2 X3.out.p3
     rw[<-hd']at hcall
     have HC:Hid _:=hcall
     clear hcall hd' hb49
     go_wp2_with fail
     refine Calls.mono HC.out ?_
     rintro e v4⟨mg,mc,ms,gA',cA',V',z',c',rfl,hwl,hl,hrow,nwA,hA,okA,f,k'⟩
     have R:=FIN.out v4 mg mc ms gA' cA' V' z' c' _ jG hwl hl hrow nwA hA okA f k'
     have RR:Hid _:=R
     obtain⟨n0,n1,n2⟩:=R.2.2.2.cells
     have nf:=R.2.2.2.free
     have nl:=R.2.2.2.lt
     clear R hwl hl hrow nwA hA okA f k' s0 s1 a0 a1 a2 al1 al2
     go_wp2_with fail
     go_meet
     exact⟨mg,mc,ms,gA',cA',V',z',c',rfl,RR.out.1,RR.out.2.1,RR.out.2.2.1⟩
    |false=>
     clear hb49
     go_wp2_with fail
     refine(E5 p ao n cap bH cH nH S bR cR V0 gA cA V z c busy v3 X3.out.K X3.out.sc X3.out.G X3.out.ok X3.out.p1 X3.out.p2 X3.out.p3).mono ?_
     rintro e v4⟨mg,mc,ms,gA',cA',V',z',c',rfl,hwl,hl,hrow,nwA,hA,okA,f,k'⟩
     have R:=FIN.out v4 mg mc ms gA' cA' V' z' c' 1 hgp hwl hl hrow nwA hA okA f k'
     have RR:Hid _:=R
     obtain⟨n0,n1,n2⟩:=R.2.2.2.cells
     have nf:=R.2.2.2.free
     have nl:=R.2.2.2.lt
     clear R hwl hl hrow nwA hA okA f k' s0 s1 a0 a1 a2 al1 al2
     go_wp2_with fail
     go_meet
     exact⟨mg,mc,ms,gA',cA',V',z',c',rfl,RR.out.1,RR.out.2.1,RR.out.2.2.1⟩
  case rest=>
  obtain⟨mg,mc,ms,gA',cA',V',z',c',rfl,wlm,lenm,dr⟩:=hcut
  generalize wc=v4 at dr⊢
  have X4:=hxy (X2.out.fw dr.F dr.K)
  have O4:=hxy (DX O2H.out dr.F lp)
  have DRH:=hxy dr
  have WLM:Hid (Wl ms/\ms.length<=gb d):=⟨wlm,lenm⟩
  have hkg:k*gb d<=30*1000:=Nat.mul_le_mul (by omega) hgb
  obtain⟨g2,c2,v5,hrun,o5,hg,hg'⟩:=Dn v4 w.heap.size og oc xs O4.out _ mg mc ms dr.row (by omega) X4.out.F.size
  obtain⟨ys,hys⟩:=Ae (xs++ms)
  rw[hys]at hrun o5
  have hoge:=Ba O4.out (q:=og) rfl
  have ty:∀{b t:Nat}{vs:Array Value},v4.heap[b]?=some (.cells vs t)->t≠89->og≠b:=fun hx he e=>Am hx O4.out he (by rw[e];rfl)
  have zv:=ZV.out
  have nwA:=dr.nw
  have hga:=HW.out.2.2
  have hga':og≠gA':=by omega
  have X5:Hid (Ep w p ao n cap bH cH nH S bR cR V0 gA cA V z c bs ba br v5):=X4.out.grw hg hoge (ty X4.out.sg (by decide)) (ty X4.out.A (by decide)) (ty X4.out.R (by decide)) hga
  have N5:Hid (V3 v5 nv 136 (Vs gA' 8 cA') (Vi z') (Vi c')):=BJ dr.P hg (fun e=>ty dr.P (by decide) (Option.some.inj e))
  have A5:Hid (A9 v5 gA' (8*6) (vF V')):=dr.A.grw hg (fun e=>hga' (Option.some.inj e))
  have OK5:=hxy dr.ok
  have O5:=hxy o5
  have WY:Hid (Wl ys/\ys.length<=(k+1)*gb d):=(by
   rw[<-hys]
   exact⟨HW.out.1.app wlm,by rw[Nat.add_mul,Nat.one_mul,List.length_append];omega⟩:Wl ys/\ys.length<=(k+1)*gb d)
  have nab:gA'≠br:=by have:=X4.out.n3;omega
  have naa:=fI DRH.out.A X4.out.A
  have nap:gA'≠p:=by have:=X4.out.p3;omega
  have ng2:g2≠gA':=by have:=dr.A.lt;omega
  have NW:Hid (gA'=bA∨w.heap.size<=gA'):=(by have:=HW.out.2.1;omega:gA'=bA∨w.heap.size<=gA')
  have hg2ba:(Vs g2 ys.length c2).ownBlock≠some ba:=Am X5.out.A O5.out (by decide)
  clear hg hg' hys o5 ty dr wlm lenm zv nwA hga hga' X4 O4 DRH
  go_upto_region 14 with(first|(at_builtin;refine Bg rfl _ _ 36 rfl rfl rfl hrun ?_))
  clear hrun
  obtain⟨n0,n1,n2⟩:=N5.out.cells
  have nl:=N5.out.lt
  obtain⟨_,⟨a0,a1,a2⟩,al1,al2⟩:=X5.out.cells
  have af:=X5.out.A.free
  have Y5:Hid (Ep w p ao n cap bH cH nH S bR cR V0 gA' cA' V' z' c' bs ba br (((v5.setCell (Va ba 0) (Vs gA' 8 cA')).setCell (Va ba 1) (Vi z')).setCell (Va ba 2) (Vi c'))):=X5.out.putA A5.out OK5.out naa nab nap
  clear X5 N5 A5
  go_wp2_with fail
  go_roundw
  case rel=>exact⟨k+1,g2,c2,ys,gA',cA',V',z',c',rfl,by go_num,by omega,⟨WY.out.1,NW.out,ng2⟩,WY.out.2,Y5.out,Dj O5.out hg2ba _ _ _⟩
  case measure=>simp[intOf];omega
theorem OD:∀(d:Nat),d<=3->ZA d
 |0,h=>Q6 0 h (fun d' e=>by omega)
 |d+1,h=>Q6 (d+1) h (fun d' e=>by rw[show d'=d by omega];exact OD d (by omega))
def jC(m:Nat)(w:World)(p:Nat)(ao:Option Addr)(n cap:Nat)(e:Ending)(w':World):Prop:=
 ∃(g cg:Nat)(xs:List SV),e=.returned (Vs g xs.length cg)/\xs.length<=m/\w'.ownsRow w.heap.size 89 11 (Vs g xs.length cg) xs.length (BZ xs)/\Fw p w w'/\Bj w' p ao n cap
theorem Zl{nH:Nat}{S:Nat->HS}{V0:Nat->VV}(h:Cu nH S 8 V0=true):BA nH S 8 V0 8 V0 0 0=true:=by
 have h':=h;unfold Cu Cq at h';simp only[Bool.and_eq_true,decide_eq_true_eq,List.all_eq_true,List.mem_range,gv]at h';exact DK.2 ⟨h,rfl,h'.2.2,⟨by omega,by omega⟩,by omega,by omega⟩
theorem Gi(p:Nat)(ao:Option Addr)(n cap:Nat)(bH cH nH:Nat)(S:Nat->HS)(bR cR:Nat)(V0:Nat->VV)(w:World)(hc:Bj w p ao n cap)(h1:Bl w bH nH S bR 8 V0)(h3:Cu nH S 8 V0=true)(p1:bH≠p)(p2:bR≠p):
 Calls Tryz.prog 36 #[Vq p,.agg #[Vs bH nH cH,Vs bR 8 cR]] w (jC 9330 w p ao n cap):=by
 have HC:=hxy hc;have HS:=hxy h1;have OK:=hxy (Zl h3);have lp:=hc.lt;have l1:=h1.h.lt;have l2:=h1.r.lt;obtain⟨iV,gV,gV0,gV1,gV2⟩:=info_parts LM;have HIV:Hid (_/\_/\_/\_):=⟨gV,gV0,gV1,gV2⟩
 clear hc h1 h3 gV gV0 gV1 gV2;go_enter Tryz.func36,Tryz.ntmps36;go_upto_region 1 with fail;obtain⟨y0,hy0,b0⟩:∃y,w.alloc (.cells #[Vs bH nH cH,Vs bR 8 cR] 26)=y/\Below w.heap.size w y:=⟨_,rfl,Ak⟩
 have n0:=Bh w (.cells #[Vs bH nH cH,Vs bR 8 cR] 26);rw[hy0]at n0⊢;obtain⟨bs,hbs⟩:=Ae w.heap.size;rw[hbs]at n0⊢;have N0:=hxy n0;have F0:Hid (Fw p w y0):=.of_below b0;have K0:=hxy (HC.out.below b0);have S0:=hxy (HS.out.below b0);have hpb:p≠bs:=by omega
 have HBS:=hxy hbs;clear hy0 b0 n0 hbs HC HS;go_wp2_with fail;refine(Aa p ao n cap 9 _ (by omega) K0.out).mono ?_;rintro e y1⟨x,rfl,x0,x9,f,k⟩;have N1:=hxy (CJ N0.out f hpb);have F1:=hxy (F0.out.trans f);have K1:=hxy k;have S1:Hid (Bl y1 bH nH S bR 8 V0):=⟨f.arr S0.out.h p1,f.arr S0.out.r p2⟩
 clear f k N0 F0 K0 S0;go_wp2_with fail;refine(Dh p ao n cap 40 _ (by omega) K1.out).mono ?_;rintro e y2⟨b,rfl,f,k⟩;have N2:=hxy (CJ N1.out f hpb);have F2:=hxy (F1.out.trans f);have K2:=hxy k;have S2:Hid (Bl y2 bH nH S bR 8 V0):=⟨f.arr S1.out.h p1,f.arr S1.out.r p2⟩
 clear f k N1 F1 K1 S1;go_upto_if 13 with fail;go_cut [5](fun s5 wx=>(∃m:Nat,s5=Vi (m:Int)/\m<=30)/\wx=y2)
 case first=>
  cases b with
  |true=>
   go_wp2_with fail;go_meet;exact⟨⟨30,rfl,by omega⟩,rfl⟩
  |false=>
   go_wp2_with fail;go_meet;exact⟨⟨(2+x).toNat,by rw[show(((2+x).toNat:Nat):Int)=2+x by omega],by omega⟩,rfl⟩
 case rest=>
 obtain⟨⟨m,rfl,hm⟩,hwc⟩:=hcut;rw[hwc];clear hwc x0 x9;obtain⟨y3,hy3,b3,o3⟩:∃y,y2.alloc (.cells #[] 42)=y/\Below y2.heap.size y2 y/\y.ownsRow y2.heap.size 42 6 (Vs y2.heap.size 0 0) 0 []:=⟨_,rfl,Ak,World.ownsRow_lit y2 #[] 0 jG (by unfold maxLen;omega) rfl⟩
 have N3:=Aw N2.out b3;have n0:=(AY N3 0).trans rfl;have n1:=(AY N3 1).trans rfl;have nl:=Bb N3;have hA3:∀j v,(first (8*6) (vF V0))[j]?=some v->y3.cell? ((⟨bR,0,none⟩:Addr).add j)=some v:=fun j v hj=>by
  obtain⟨hmm,rfl⟩:=Oe hj;rw[Addr.add_lit,Nat.zero_add];exact(b3.cell (p:=Va bR j) S2.out.r.lt).trans (S2.out.r.cell hmm)
 have h1c:∀u∈first (8*6) (vF V0),u.oneCell'=true:=by
  intro v hv;obtain⟨j,hj,rfl⟩:=OW hv;unfold vF;have:j%6<6:=Nat.mod_lt _ (by decide);generalize j%6=q at this⊢;match q,this with
  |0,_=>rfl
  |1,_=>rfl
  |2,_=>rfl
  |3,_=>rfl
  |4,_=>rfl
  |5,_=>rfl
 obtain⟨v',y4,hrun,o4,hg,_,_⟩:=run_append_own_at (P:=Tryz.prog) y3 y2.heap.size 24 24 42 iV _ 6 48 Tryz.underlying24 HIV.out.1 HIV.out.2.1 HIV.out.2.2.1 HIV.out.2.2.2 rfl (by decide) _ _ _ o3 ⟨bR,0,none⟩ 8 cR (first (8*6) (vF V0)) (Je _ _) hA3 h1c (by unfold maxLen;omega) (by omega) b3.size;have o4':y4.ownsRow y2.heap.size 42 6 v' 8 (first (8*6) (vF V0)):=by simpa using o4
 obtain⟨gA,cA,rfl⟩:=Fv o4' (by omega);have b4:Below y2.heap.size y2 y4:=b3.trans ((Below.refl _ _).grown hg b3.size (by intro k hk;simp[Value.ownBlock]at hk;omega));have AA:=hxy (QN o4');have hgA:y2.heap.size<=gA:=(o4'.lt gA rfl).1;go_upto_region 5 with(first|(at_builtin;refine Bg rfl _ _ 24 rfl rfl rfl hrun ?_));obtain⟨y5,hy5,b5⟩:∃y,y4.alloc (.cells #[Vs gA 8 cA,Vi 0,Vi 0] 136)=y/\Below y4.heap.size y4 y:=⟨_,rfl,Ak⟩
 have n5:=V3.new y4 136 (Vs gA 8 cA) (Vi 0) (Vi 0);rw[hy5]at n5⊢;have b25:=b4.trans (b5.mono b4.size);have F5:Hid (Fw p w y5):=F2.out.trans (.of_below b25);have K5:=hxy (K2.out.below b25);have S5:=hxy (S2.out.below b25);have A5:=hxy (AA.out.below b5 AA.out.lt);have N5:=Aw N2.out b25;obtain⟨na,hna⟩:=Ae y4.heap.size;rw[hna]at n5⊢;obtain⟨a0,a1,a2⟩:=n5.cells;have al:=n5.lt;have hgp:gA≠p:=by have:=F2.out.size;omega
 have hs5:=F5.out.size;clear n0 n1 nl N3 hy3 b3 o3 hA3 h1c hrun o4 hg o4' b4 AA hy5 b5 n5 b25 hna N2 F2 K2 S2;have n0:=(AY N5 0).trans rfl;have n1:=(AY N5 1).trans rfl;have nl:=Bb N5;clear N5;go_wp2_with fail;refine(OD 3 (by omega) p ao n cap bH cH nH S bR cR V0 gA cA V0 0 0 m (-1) y5 hm K5.out S5.out A5.out OK.out p1 p2 hgp).mono ?_;rintro e y6⟨g,cg,xs,gB,cB,V',z',c',rfl,hwl,hlen,hrow,nwA,hA,okA,f,k'⟩;have RES:Hid (xs.length<=9330/\y6.ownsRow w.heap.size 89 11 (Vs g xs.length cg) xs.length (BZ xs)/\Fw p w y6/\Bj y6 p ao n cap):=⟨by have:m*gb 3<=30*311:=Nat.mul_le_mul hm (by decide);omega,Au hrow hs5,F5.out.trans f,k'⟩
 clear hwl hlen hrow nwA hA okA f k' a0 a1 a2 al n0 n1 nl;go_wp2_with fail;go_ret;have bn:Below y6.heap.size y6 (y6.alloc (.cells #[Vs gB 8 cB,Vi z',Vi c'] 136)):=Ak;exact⟨g,cg,xs,rfl,RES.out.1,Ah RES.out.2.1 bn,RES.out.2.2.1.trans (.of_below bn),RES.out.2.2.2.below bn⟩
structure BD where
 g:Nat
 c:Nat
 xs:List SV
def BD.v(b:BD):Value:=Vs b.g b.xs.length b.c
def NZ(u:World)(B M:Nat)(ps:List BD):Prop:=∀b∈ps,u.ownsRow B 89 11 b.v b.xs.length (BZ b.xs)/\b.xs.length<=M
theorem NZ.below{ps:List BD}(h:NZ u B M ps)(f:Below u.heap.size u u'):NZ u' B M ps:=fun b hb=>⟨Ah (h b hb).1 f,(h b hb).2⟩
theorem NZ.fw{ps:List BD}(h:NZ u B M ps)(f:Fw p u u')(hp:p<B):NZ u' B M ps:=fun b hb=>⟨DX (h b hb).1 f hp,(h b hb).2⟩
theorem NZ.grw{ps:List BD}(h:NZ u B M ps)(hg:u.grownBy u' (some g))(hn:∀b∈ps,b.g≠g):NZ u' B M ps:=fun b hb=>⟨DI (h b hb).1 hg (fun q hq e=>by
 have e1:=Option.some.inj hq;have e2:=Option.some.inj e;exact hn b hb (e1.trans e2.symm)),(h b hb).2⟩
theorem NZ.lt{ps:List BD}(h:NZ u B M ps):∀b∈ps,b.g<u.heap.size:=fun b hb=>((h b hb).1.lt b.g rfl).2
theorem NZ.snoc{ps:List BD}{b:BD}(h:NZ u B M ps)(hb:u.ownsRow B 89 11 b.v b.xs.length (BZ b.xs))(hl:b.xs.length<=M):NZ u B M (ps++[b]):=fun q hq=>by
 rcases List.mem_append.1 hq with hq|hq
 ·exact h q hq
 ·obtain rfl:=List.mem_singleton.1 hq
  exact⟨hb,hl⟩
structure KD(w:World)(p:Nat)(ao:Option Addr)(n cap:Nat)(bs bH cH nH:Nat)(S:Nat->HS)(bR cR:Nat)(V0:Nat->VV)(v:Value)(ps:List BD)(u:World):Prop where
 F:Fw p w u
 K:Bj u p ao n cap
 N:u.heap[bs]?=some (.cells #[Vs bH nH cH,Vs bR 8 cR] 26)
 sc:Bl u bH nH S bR 8 V0
 row:u.ownsRow w.heap.size 38 1 v ps.length (ps.map BD.v)
 pw:NZ u w.heap.size 9330 ps
 lp:p<w.heap.size
 n0:w.heap.size<=bs
 n1:bH<w.heap.size
 n2:bR<w.heap.size
 p1:bH≠p
 p2:bR≠p
section
variable{w:World}{p:Nat}{ao:Option Addr}{n cap:Nat}{bs bH cH nH:Nat}{S:Nat->HS}{bR cR:Nat}{V0:Nat->VV}{v:Value}{ps:List BD}{u u':World}
theorem KD.fw(h:KD w p ao n cap bs bH cH nH S bR cR V0 v ps u)(f:Fw p u u')(k:Bj u' p ao n cap):KD w p ao n cap bs bH cH nH S bR cR V0 v ps u':=
 ⟨h.F.trans f,k,CJ h.N f (by have:=h.lp;have:=h.n0;omega),⟨f.arr h.sc.h h.p1,f.arr h.sc.r h.p2⟩,DX h.row f h.lp,h.pw.fw f h.lp,h.lp,h.n0,h.n1,h.n2,h.p1,h.p2⟩
theorem KD.below(h:KD w p ao n cap bs bH cH nH S bR cR V0 v ps u)(f:Below u.heap.size u u'):KD w p ao n cap bs bH cH nH S bR cR V0 v ps u':=h.fw (.of_below f) (h.K.below f)
theorem KD.grw(h:KD w p ao n cap bs bH cH nH S bR cR V0 v ps u){c:Nat}(o:u.ownsRow w.heap.size 89 11 (Vs g xs.length c) xs.length (BZ xs))(hg:u.grownBy u' (some g))(hn:∀b∈ps,b.g≠g):KD w p ao n cap bs bH cH nH S bR cR V0 v ps u':=by
 have ge:=Ba o (q:=g) rfl;have lp:=h.lp;exact⟨h.F.grown hg (fun q hq=>by have e:=Option.some.inj hq;omega),h.K.grown hg (fun q hq=>by have e:=Option.some.inj hq;omega),BJ h.N hg (Am h.N o (by decide)),⟨h.sc.h.grw hg (fun e=>by have e1:=Option.some.inj e;have:=h.n1;omega),h.sc.r.grw hg (fun e=>by have e1:=Option.some.inj e;have:=h.n2;omega)⟩,DI h.row hg (fun q hq e=>own_ne h.row o (by decide) q hq e),h.pw.grw hg hn,h.lp,h.n0,h.n1,h.n2,h.p1,h.p2⟩
theorem KD.add(h:KD w p ao n cap bs bH cH nH S bR cR V0 v ps u){v':Value}{b:BD}(hg:u.grownBy u' v.ownBlock)(o:u'.ownsRow w.heap.size 38 1 v' (ps.length+1) (ps.map BD.v++[b.v]))(hb:u.ownsRow w.heap.size 89 11 b.v b.xs.length (BZ b.xs))(hl:b.xs.length<=9330):KD w p ao n cap bs bH cH nH S bR cR V0 v' (ps++[b]) u':=by
 have lp:=h.lp;have rg:∀{B s n:Nat}{v2:Value}{ys:List Value},u.ownsRow B 89 s v2 n ys->u'.ownsRow B 89 s v2 n ys:=fun r=>DI r hg (fun q hq e=>own_ne r h.row (by decide) q hq e)
 have ne:∀{c:Nat},c<w.heap.size->v.ownBlock≠some c:=fun hc e=>by have:=Ba h.row e;omega
 have pw2:NZ u' w.heap.size 9330 ps:=fun q hq=>⟨rg (h.pw q hq).1,(h.pw q hq).2⟩
 exact⟨h.F.grown hg (fun q hq=>Ba h.row hq),h.K.grown hg (fun q hq=>by have:=Ba h.row hq;omega),BJ h.N hg (Am h.N h.row (by decide)),⟨h.sc.h.grw hg (ne h.n1),h.sc.r.grw hg (ne h.n2)⟩,by simpa using o,pw2.snoc (rg hb) hl,h.lp,h.n0,h.n1,h.n2,h.p1,h.p2⟩
end
theorem LK{cg:Nat}(h:w.ownsRow B 89 11 (Vs g xs.length cg) xs.length (BZ xs)):A9 w g (xs.length*11) (IU (Gm xs)):=
 ⟨(h.lt g rfl).2,fun i=>h.frozenAt i,fun i hi=>by rw[h.cellAt i hi];exact LH xs UY i hi⟩
theorem Sz:(Tryz.prog.info? 38).map (fun i=>(i.zero,i.size,i.bytes))=some (some (.agg #[.slice none 0 0]),1,24):=by kernel_rfl
def jB(m:Nat)(w:World)(p:Nat)(ao:Option Addr)(n cap:Nat)(e:Ending)(w':World):Prop:=
 ∃(g cg:Nat)(ps:List BD),e=.returned (Vs g ps.length cg)/\1<=ps.length/\ps.length<=m/\w'.ownsRow w.heap.size 38 1 (Vs g ps.length cg) ps.length (ps.map BD.v)/\NZ w' w.heap.size 9330 ps/\Fw p w w'/\Bj w' p ao n cap
theorem Kz(p:Nat)(ao:Option Addr)(n cap:Nat)(bH cH nH:Nat)(S:Nat->HS)(bR cR:Nat)(V0:Nat->VV)(w:World)(hc:Bj w p ao n cap)(h1:Bl w bH nH S bR 8 V0)(h3:Cu nH S 8 V0=true)(p1:bH≠p)(p2:bR≠p):
 Calls Tryz.prog 34 #[Vq p,.agg #[Vs bH nH cH,Vs bR 8 cR]] w (jB 3 w p ao n cap):=by
 have OK:=hxy h3;have lp:=hc.lt;obtain⟨iP,gP,gP0,gP1,gP2⟩:=info_parts Sz;have HIP:Hid (_/\_/\_/\_):=⟨gP,gP0,gP1,gP2⟩
 have HW:Hid (Bj w p ao n cap/\Bl w bH nH S bR 8 V0/\bH≠p/\bR≠p):=⟨hc,h1,p1,p2⟩
 clear hc h1 h3 gP gP0 gP1 gP2 p1 p2;go_enter Tryz.func34,Tryz.ntmps34;go_upto_region 1 with fail;obtain⟨y0,hy0,b0⟩:∃y,w.alloc (.cells #[Vs bH nH cH,Vs bR 8 cR] 26)=y/\Below w.heap.size w y:=⟨_,rfl,Ak⟩
 have n0:=Bh w (.cells #[Vs bH nH cH,Vs bR 8 cR] 26);rw[hy0]at n0⊢;have X0:Hid (KD w p ao n cap w.heap.size bH cH nH S bR cR V0 (.slice none 0 0) [] y0):=⟨.of_below b0,HW.out.1.below b0,n0,HW.out.2.1.below b0,World.ownsRow_nil _ _ _ _,fun b hb=>(by cases hb),lp,jG,HW.out.2.1.h.lt,HW.out.2.1.r.lt,HW.out.2.2.1,HW.out.2.2.2⟩
 obtain⟨bs,hbs⟩:=Ae w.heap.size;have X0:Hid (KD w p ao n cap bs bH cH nH S bR cR V0 (.slice none 0 0) [] y0):=by rw[<-hbs];exact X0
 rw[hbs];clear hy0 b0 n0 hbs HW;go_wp2_with fail;refine(Aa p ao n cap 3 _ (by omega) X0.out.K).mono ?_;rintro e y1⟨x,rfl,x0,x3,f,k⟩;have X1:=hxy (X0.out.fw f k);clear f k X0;obtain⟨m,hm⟩:∃m:Nat,1+x=(m:Int):=⟨(1+x).toNat,by omega⟩
 have m1:1<=m:=by omega
 have m3:m<=3:=by omega
 go_upto_region 3 with fail;try rw[hm]
 clear hm x0 x3;obtain⟨y2,hy2,b2,o2⟩:∃y,y1.alloc (.cells #[] 38)=y/\Below y1.heap.size y1 y/\y.ownsRow y1.heap.size 38 1 (Vs y1.heap.size 0 0) 0 []:=⟨_,rfl,Ak,World.ownsRow_lit y1 #[] 0 jG (by unfold maxLen;omega) rfl⟩
 rw[hy2];have X2:Hid (KD w p ao n cap bs bH cH nH S bR cR V0 (Vs y1.heap.size 0 0) [] y2):=(by
  have X:=X1.out.below b2;exact⟨X.F,X.K,X.N,X.sc,Au o2 X1.out.F.size,X.pw,X.lp,X.n0,X.n1,X.n2,X.p1,X.p2⟩:KD w p ao n cap bs bH cH nH S bR cR V0 (Vs y1.heap.size 0 0) [] y2)
 obtain⟨pg0,hpg⟩:=Ae y1.heap.size;rw[hpg]at X2⊢;clear hy2 b2 o2 hpg X1;go_wp2_with fail;go_loopw [6,7](fun ov iv wr=>∃(ps:List BD)(pg pc:Nat),ov=Vs pg ps.length pc/\iv=Vi (ps.length:Int)/\ps.length<=m/\KD w p ao n cap bs bH cH nH S bR cR V0 (Vs pg ps.length pc) ps wr)(fun _ iv _=>m-(intOf iv).toNat)
 case atStart=>exact⟨[],pg0,0,rfl,rfl,by simp,X2.out⟩
 case round=>
  clear X2;obtain⟨ps,pg,pc,rfl,rfl,hle,x⟩:=hrel;have X:=hxy x;clear x;by_cases hlt:ps.length<m
  rotate_left
  ·have hlt':¬(ps.length:Int)<(m:Int):=by omega
   go_wp2_with fail;go_ret;exact⟨pg,pc,ps,rfl,by omega,by omega,X.out.row,X.out.pw,X.out.F,X.out.K⟩
  have hlt':(ps.length:Int)<(m:Int):=by omega
  go_upto_region 7 with fail;obtain⟨y3,hy3,b3,o3⟩:∃y,wr.alloc (.cells #[] 89)=y/\Below wr.heap.size wr y/\y.ownsRow wr.heap.size 89 11 (Vs wr.heap.size ([]:List SV).length 0) ([]:List SV).length (BZ []):=⟨_,rfl,Ak,World.ownsRow_lit wr #[] 0 jG (by unfold maxLen;omega) rfl⟩
  try rw[hy3]
  have X3:=hxy (X.out.below b3)
  have O3:=hxy (Au o3 X.out.F.size)
  have HN:Hid (∀b∈ps,b.g≠wr.heap.size):=fun b hb=>by have:=X.out.pw.lt b hb;omega
  obtain⟨xb,hxb⟩:=Ae wr.heap.size
  rw[hxb]at O3 HN
  try rw[hxb]
  have hxb3:xb<y3.heap.size:=(O3.out.lt xb rfl).2
  clear hy3 b3 o3 hxb X
  have s0:=(AY X3.out.N 0).trans rfl
  have s1:=(AY X3.out.N 1).trans rfl
  have sl:=Bb X3.out.N
  go_wp2_with fail
  refine(Gi p ao n cap bH cH nH S bR cR V0 y3 X3.out.K X3.out.sc OK.out X3.out.p1 X3.out.p2).mono ?_
  rintro e y4⟨lg,lc,ls,rfl,hll,hlr,f,k⟩
  have X4:=hxy (X3.out.fw f k)
  have O4:=hxy (DX O3.out f lp)
  have hlg:y3.heap.size<=lg:=(hlr.lt lg rfl).1
  have L4:=hxy (Au hlr X3.out.F.size)
  have hne:xb≠lg:=by omega
  clear f k hlr X3 O3 s0 s1 sl
  go_wp2_with fail
  go_loopw [8,10](fun bv iv wr=>∃(xs:List SV)(xg xc:Nat),bv=Vs xg xs.length xc/\iv=Vi (xs.length:Int)/\xs.length<=ls.length/\xg≠lg/\Hid (∀b∈ps,b.g≠xg)/\KD w p ao n cap bs bH cH nH S bR cR V0 (Vs pg ps.length pc) ps wr/\wr.ownsRow w.heap.size 89 11 (Vs xg xs.length xc) xs.length (BZ xs)/\wr.ownsRow w.heap.size 89 11 (Vs lg ls.length lc) ls.length (BZ ls))(fun _ iv _=>ls.length-(intOf iv).toNat)
  case atStart=>exact⟨[],xb,0,rfl,rfl,by simp,hne,HN,X4.out,O4.out,L4.out⟩
  case round=>
   clear X4 O4 L4 HN hne hxb3 hlg
   obtain⟨xs,xg,xc,rfl,rfl,hlx,hne,HN,x,ob,ol⟩:=hrel
   have X5:=hxy x
   have O5:=hxy ob
   have L5:=hxy ol
   clear x ob ol
   by_cases hlt2:xs.length<ls.length
   rotate_left
   ·have hlt2':¬(xs.length:Int)<(ls.length:Int):=by omega
    obtain⟨y6,hy6,b6,c6⟩:∃y,wr.alloc (.cells #[Vs xg xs.length xc] 38)=y/\Below wr.heap.size wr y/\(∀j u,[Vs xg xs.length xc][j]?=some u->y.cell? ((⟨wr.heap.size,0,none⟩:Addr).add j)=some u):=⟨_,rfl,Ak,FN wr _ _⟩
    have X6:=X5.out.below b6
    obtain⟨v',y7,hrun,o7,hg,hnil,_⟩:=run_append_own_at (P:=Tryz.prog) y6 w.heap.size 27 27 38 iP _ 1 24 Tryz.underlying27 HIP.out.1 HIP.out.2.1 HIP.out.2.2.1 HIP.out.2.2.2 rfl (by decide) _ _ _ X6.row ⟨wr.heap.size,0,none⟩ 1 1 [Vs xg xs.length xc] rfl c6 (by simp[Value.oneCell']) (by unfold maxLen;omega) (by omega) X6.F.size
    have hn:v'≠ .slice none 0 0:=fun e=>by
     have:=(hnil.1 e).1
     simp at this
    obtain⟨g7,c7,rfl⟩:=Oz o7 hn
    have X7:Hid (KD w p ao n cap bs bH cH nH S bR cR V0 (Vs g7 (ps.length+1) c7) (ps++[⟨xg,xc,xs⟩]) y7):=X6.add (b:=⟨xg,xc,xs⟩) hg o7 (Ah O5.out b6) (by show xs.length<=9330;omega)
    clear hnil hn o7 hg X6 c6 b6 X5 O5 L5
    go_wp2_with(first|(at_builtin;refine Bg rfl _ _ 27 rfl rfl rfl hrun ?_))
    clear hrun hy6
    go_roundw
    case rel=>exact⟨ps++[⟨xg,xc,xs⟩],g7,c7,by simp,by simp,by simp;omega,by simpa using X7.out⟩
    case measure=>simp[intOf];omega
   have hlt2':(xs.length:Int)<(ls.length:Int):=by omega
   have hplus:IntKind.i64.wrap ((ps.length:Int)+1)=(ps.length:Int)+1:=by rw[IntKind.wrap_i64]<;>omega
   go_upto_region 11 with fail
   go_cut [45](fun s45 wx=>∃b:Bool,s45=.bool b/\(b=true->ps.length+1<m)/\KD w p ao n cap bs bH cH nH S bR cR V0 (Vs pg ps.length pc) ps wx/\wx.ownsRow w.heap.size 89 11 (Vs xg xs.length xc) xs.length (BZ xs)/\wx.ownsRow w.heap.size 89 11 (Vs lg ls.length lc) ls.length (BZ ls))
   case first=>
    by_cases hp1:ps.length+1<m
    ·have e1:decide ((ps.length:Int)+1<(m:Int))=true:=by simp;omega
     go_wp2_with fail
     refine(Dh p ao n cap 6 _ (by omega) X5.out.K).mono ?_
     rintro e y6⟨b,rfl,f,k⟩
     have X6:=hxy (X5.out.fw f k)
     have O6:=hxy (DX O5.out f lp)
     have L6:=hxy (DX L5.out f lp)
     clear f k
     obtain⟨k0,_,_,_,_,_,_,_,_,_,_⟩:=Eu (LK L6.out) xs.length hlt2
     have kl:=(LK L6.out).lt
     cases b with
     |false=>
      go_wp2_with fail
      go_meet
      exact⟨_,rfl,(by intro e;cases e),X6.out,O6.out,L6.out⟩
     |true=>
      go_wp2_with fail
      go_meet
      exact⟨_,rfl,fun _=>hp1,X6.out,O6.out,L6.out⟩
    ·have e1:decide ((ps.length:Int)+1<(m:Int))=false:=by simp;omega
     go_wp2_with fail
     go_meet
     exact⟨_,rfl,(by intro e;cases e),X5.out,O5.out,L5.out⟩
   case rest=>
   obtain⟨b45,rfl,hb45,x6,o6,l6⟩:=hcut
   generalize wc=y6 at x6 o6 l6⊢
   have X6:=hxy x6
   have O6:=hxy o6
   have L6:=hxy l6
   clear x6 o6 l6 X5 O5 L5
   go_upto_if 45 with fail
   have AP:Hid (∀(v:World)(s:SV),KD w p ao n cap bs bH cH nH S bR cR V0 (Vs pg ps.length pc) ps v->v.ownsRow w.heap.size 89 11 (Vs xg xs.length xc) xs.length (BZ xs)->v.ownsRow w.heap.size 89 11 (Vs lg ls.length lc) ls.length (BZ ls)->∃g2 c2 v2,(Builtin.append_ #[36,36] 36 #[Vs xg xs.length xc,Vs v.heap.size 1 1]).run Tryz.prog (v.alloc (.cells (CV s).toArray 89))=.ok (Vs g2 (xs++[s]).length c2) v2/\g2≠lg/\(∀b∈ps,b.g≠g2)/\KD w p ao n cap bs bH cH nH S bR cR V0 (Vs pg ps.length pc) ps v2/\v2.ownsRow w.heap.size 89 11 (Vs g2 (xs++[s]).length c2) (xs++[s]).length (BZ (xs++[s]))/\v2.ownsRow w.heap.size 89 11 (Vs lg ls.length lc) ls.length (BZ ls)):=fun v s x o l=>by
    have b1:Below v.heap.size v (v.alloc (.cells (CV s).toArray 89)):=Ak
    have o1:(v.alloc (.cells (CV s).toArray 89)).ownsRow v.heap.size 89 11 (.slice (some ⟨v.heap.size,0,none⟩) [s].length 1) [s].length (BZ [s]):=by rw[ED];exact World.ownsRow_lit v (CV s).toArray 1 jG (by unfold maxLen;omega) rfl
    obtain⟨g2,c2,v2,hrun,o2,hg,hg'⟩:=Dn _ w.heap.size xg xc xs (Ah o b1) _ v.heap.size 1 [s] o1 (by simp;omega) (x.below b1).F.size
    have hl:=(l.lt lg rfl).2
    have hz:(v.alloc (.cells (CV s).toArray 89)).heap.size=v.heap.size+1:=by simp
    exact⟨g2,c2,v2,hrun,by omega,fun b hb=>by have:=HN.out b hb;have:=x.pw.lt b hb;omega,(x.below b1).grw (Ah o b1) hg HN.out,o2,DI (Ah l b1) hg (fun q hq e=>by
     have e1:lg=q:=Option.some.inj hq
     have e2:xg=q:=Option.some.inj e
     omega)⟩
   cases b45 with
   |true=>
    have hp1:=hb45 rfl
    clear hb45
    have hsub:(1:Int)<=(m:Int)-(ps.length:Int)-1:=by omega
    go_wp2_with fail
    refine(Aa p ao n cap _ _ hsub X6.out.K).mono ?_
    rintro e y7⟨q,rfl,q0,q1,f,k⟩
    have X7:=X6.out.fw f k
    have O7:=DX O6.out f lp
    have L7:=DX L6.out f lp
    obtain⟨s,hs⟩:∃s:SV,(⟨4,0,0,0,0,0,0,0,0,0,(ps.length:Int)+1+q⟩:SV)=s:=⟨_,rfl⟩
    obtain⟨g2,c2,v2,hrun,r1,r2,r3,r4,r5⟩:=AP.out y7 s X7 O7 L7
    have RES:Hid (g2≠lg/\(∀b∈ps,b.g≠g2)/\KD w p ao n cap bs bH cH nH S bR cR V0 (Vs pg ps.length pc) ps v2/\v2.ownsRow w.heap.size 89 11 (Vs g2 (xs++[s]).length c2) (xs++[s]).length (BZ (xs++[s]))/\v2.ownsRow w.heap.size 89 11 (Vs lg ls.length lc) ls.length (BZ ls)):=⟨r1,r2,r3,r4,r5⟩
    rw[<-hs]at hrun
    unfold CV at hrun
    dsimp only at hrun
    obtain⟨zs,hzs⟩:=Ae (xs++[s])
    rw[hs,hzs]at hrun
    rw[hzs]at RES
    have hzl:zs.length=xs.length+1:=by rw[<-hzs];simp
    have HZL:=hxy hzl
    clear f k X7 O7 L7 r1 r2 r3 r4 r5 hs hzs hzl
    go_wp2_with(first|(at_builtin;refine Bg rfl _ _ 36 rfl rfl rfl hrun ?_))
    clear hrun
    go_roundw
    case rel=>exact⟨zs,g2,c2,rfl,by rw[HZL.out];simp,by have:=HZL.out;omega,RES.out.1,RES.out.2.1,RES.out.2.2.1,RES.out.2.2.2.1,RES.out.2.2.2.2⟩
    case measure=>simp[intOf];omega
   |false=>
    clear hb45
    obtain⟨k0,k1,k2,k3,k4,k5,k6,k7,k8,k9,k10⟩:=Eu (LK L6.out) xs.length hlt2
    have kl:=(LK L6.out).lt
    obtain⟨s,hs⟩:∃s:SV,Gm ls xs.length=s:=⟨_,rfl⟩
    rw[hs]at k0 k1 k2 k3 k4 k5 k6 k7 k8 k9 k10
    obtain⟨g2,c2,v2,hrun,r1,r2,r3,r4,r5⟩:=AP.out y6 s X6.out O6.out L6.out
    have RES:Hid (g2≠lg/\(∀b∈ps,b.g≠g2)/\KD w p ao n cap bs bH cH nH S bR cR V0 (Vs pg ps.length pc) ps v2/\v2.ownsRow w.heap.size 89 11 (Vs g2 (xs++[s]).length c2) (xs++[s]).length (BZ (xs++[s]))/\v2.ownsRow w.heap.size 89 11 (Vs lg ls.length lc) ls.length (BZ ls)):=⟨r1,r2,r3,r4,r5⟩
    unfold CV at hrun
    obtain⟨zs,hzs⟩:=Ae (xs++[s])
    rw[hzs]at hrun RES
    have HZL:Hid (zs.length=xs.length+1):=(by rw[<-hzs];simp:zs.length=xs.length+1)
    clear r1 r2 r3 r4 r5 hs hzs
    go_wp2_with(first|(at_builtin;refine Bg rfl _ _ 36 rfl rfl rfl hrun ?_))
    clear hrun
    go_roundw
    case rel=>exact⟨zs,g2,c2,rfl,by rw[HZL.out];simp,by have:=HZL.out;omega,RES.out.1,RES.out.2.1,RES.out.2.2.1,RES.out.2.2.2.1,RES.out.2.2.2.2⟩
    case measure=>simp[intOf];omega
structure QX(G:Nat->Array Value->Prop)(w:World)(p:Nat)(ao:Option Addr)(n cap:Nat)(pg pc:Nat)(ps:List BD)(u:World):Prop where
 F:Fw p w u
 K:Bj u p ao n cap
 row:u.ownsRow w.heap.size 38 1 (Vs pg ps.length pc) ps.length (ps.map BD.v)
 pw:NZ u w.heap.size 100000 ps
 lp:p<w.heap.size
 X:∀q vs,G q vs->q≠p/\u.heap[q]?=some (.cells vs 29)
theorem fE{a b:Nat}{v v2:Array Value}{t t2:TypeId}(h:w.heap[a]?=some (.cells v t))(h2:w.heap[b]?=some (.cells v2 t2))(ht:t≠t2):a≠b:=fun e=>by
 subst e;rw[h]at h2;injection h2 with h2;injection h2 with _ h2;exact ht h2
section
variable{G:Nat->Array Value->Prop}{w:World}{p:Nat}{ao:Option Addr}{n cap pg pc:Nat}{ps:List BD}{u u':World}
theorem QX.fw(h:QX G w p ao n cap pg pc ps u)(f:Fw p u u')(k:Bj u' p ao n cap):QX G w p ao n cap pg pc ps u':=⟨h.F.trans f,k,DX h.row f h.lp,h.pw.fw f h.lp,h.lp,fun q vs g=>⟨(h.X q vs g).1,CJ (h.X q vs g).2 f (h.X q vs g).1.symm⟩⟩
theorem QX.below(h:QX G w p ao n cap pg pc ps u)(f:Below u.heap.size u u'):QX G w p ao n cap pg pc ps u':=h.fw (.of_below f) (h.K.below f)
theorem QX.grw(h:QX G w p ao n cap pg pc ps u){c:Nat}(o:u.ownsRow w.heap.size 89 11 (Vs g xs.length c) xs.length (BZ xs))(hg:u.grownBy u' (some g))(hn:∀b∈ps,b.g≠g):QX G w p ao n cap pg pc ps u':=by
 have ge:=Ba o (q:=g) rfl;have lp:=h.lp;exact⟨h.F.grown hg (fun q hq=>by have e:=Option.some.inj hq;omega),h.K.grown hg (fun q hq=>by have e:=Option.some.inj hq;omega),DI h.row hg (fun q hq e=>own_ne h.row o (by decide) q hq e),h.pw.grw hg hn,h.lp,fun q vs g=>⟨(h.X q vs g).1,BJ (h.X q vs g).2 hg (Am (h.X q vs g).2 o (by decide))⟩⟩
theorem QX.put(h:QX G w p ao n cap pg pc ps u){q:Nat}{vs:Array Value}(hq:u.heap[q]?=some (.cells vs 89))(hw:w.heap.size<=q)(hn:∀b∈ps,b.g≠q)(j:Nat)(v:Value):QX G w p ao n cap pg pc ps (u.setCell (Va q j) v):=
 ⟨h.F.put hw _ _,h.K.put (by have:=h.lp;omega) _ _,Cs h.row (Am hq h.row (by decide)) _ _,fun b hb=>⟨Cs (h.pw b hb).1 (fun e=>hn b hb (Option.some.inj e)) _ _,(h.pw b hb).2⟩,h.lp,fun r vs g=>⟨(h.X r vs g).1,Av (h.X r vs g).2 (fE (h.X r vs g).2 hq (by decide)) _ _⟩⟩
theorem QX.setP(h:QX G w p ao n cap pg pc ps u){i:Nat}{b:BD}(hb:u.ownsRow w.heap.size 89 11 b.v b.xs.length (BZ b.xs))(hl:b.xs.length<=100000):QX G w p ao n cap pg pc (ps.set i b) (u.setCell (Va pg i) b.v):=by
 have lp:=h.lp;have ge:=Ba h.row (q:=pg) rfl;have rw1:∀{s n:Nat}{v2:Value}{ys:List Value},u.ownsRow w.heap.size 89 s v2 n ys->(u.setCell (Va pg i) b.v).ownsRow w.heap.size 89 s v2 n ys:=fun r=>Cs r (fun e=>own_ne r h.row (by decide) pg e rfl) _ _
 have rs:=(h.row.stored i b.v).1;refine⟨h.F.put ge _ _,h.K.put (by omega) _ _,?_,fun q hq=>?_,h.lp,fun r vs g=>⟨(h.X r vs g).1,Av (h.X r vs g).2 (fun e=>Am (h.X r vs g).2 h.row (by decide) (congrArg some e.symm)) _ _⟩⟩
 ·rw[List.length_set,List.map_set]
  exact rs
 ·rcases List.mem_or_eq_of_mem_set hq with hq|hq
  ·exact⟨rw1 (h.pw q hq).1,(h.pw q hq).2⟩
  ·rw[hq];exact⟨rw1 hb,hl⟩
theorem QX.add(h:QX G w p ao n cap pg pc ps u){g2 c2:Nat}{b:BD}(hg:u.grownBy u' (some pg))(o:u'.ownsRow w.heap.size 38 1 (Vs g2 (ps.length+1) c2) (ps.length+1) (ps.map BD.v++[b.v]))(hb:u.ownsRow w.heap.size 89 11 b.v b.xs.length (BZ b.xs))(hl:b.xs.length<=100000):QX G w p ao n cap g2 c2 (ps++[b]) u':=by
 have lp:=h.lp;have ge:=Ba h.row (q:=pg) rfl;have rg:∀{B s n:Nat}{v2:Value}{ys:List Value},u.ownsRow B 89 s v2 n ys->u'.ownsRow B 89 s v2 n ys:=fun r=>DI r hg (fun q hq e=>own_ne r h.row (by decide) q hq e)
 have pw2:NZ u' w.heap.size 100000 ps:=fun q hq=>⟨rg (h.pw q hq).1,(h.pw q hq).2⟩
 exact⟨h.F.grown hg (fun q hq=>by have e:=Option.some.inj hq;omega),h.K.grown hg (fun q hq=>by have e:=Option.some.inj hq;omega),by simpa using o,pw2.snoc (rg hb) hl,h.lp,fun r vs g=>⟨(h.X r vs g).1,BJ (h.X r vs g).2 hg (Am (h.X r vs g).2 h.row (by decide))⟩⟩
end
theorem GX(w:World)(B g cg:Nat)(xs:List SV)(o:w.ownsRow B 89 11 (Vs g xs.length cg) xs.length (BZ xs))(ad:Addr)(m cg':Nat)(ys:List SV)(hm:m=ys.length)(hc:∀j u,(BZ ys)[j]?=some u->w.cell? (ad.add j)=some u)(hl:xs.length+ys.length<=1048576)(hB:B<=w.heap.size):
 ∃g2 c2 w',(Builtin.append_ #[36,36] 36 #[Vs g xs.length cg,.slice (some ad) m cg']).run Tryz.prog w=.ok (Vs g2 (xs++ys).length c2) w'/\w'.ownsRow B 89 11 (Vs g2 (xs++ys).length c2) (xs++ys).length (BZ (xs++ys))/\w.grownBy w' (some g)/\(g2=g∨g2=w.heap.size):=by
 subst hm;obtain⟨iS,gS,gS0,gS1,gS2⟩:=info_parts TL;obtain⟨v',w',h1,h2,h3,h4,h5⟩:=run_append_own_at (P:=Tryz.prog) w B 36 36 89 iS _ 11 88 Tryz.underlying36 gS gS0 gS1 gS2 rfl (by decide) _ _ _ o ad ys.length cg' (BZ ys) (IB ys) hc (Uv ys) (by unfold maxLen;omega) (by omega) hB;have hn:v'≠ .slice none 0 0:=fun e=>by
  have:=(h4.1 e).1;simp at this
 obtain⟨g2,c2,rfl⟩:=Oz h2 hn;rw[<-List.length_append,<-VJ]at h2;rw[<-List.length_append]at h1;refine⟨g2,c2,w',h1,by simpa using h2,h3,?_⟩;rcases h5 with h5|h5
 ·exact Or.inl (Option.some.inj h5)
 ·exact Or.inr (Option.some.inj h5)
theorem QW:∀(xs:List SV)(k:Nat),BZ (xs.take k)=(BZ xs).take (k*11)
 |xs,0=>by simp[BZ]
 |[],k+1=>by simp[BZ]
 |x::l,k+1=>by
  show CV x++BZ (l.take k)=(CV x++BZ l).take ((k+1)*11);rw[QW l k,show(k+1)*11=(CV x).length+k*11 by show _=11+k*11;omega,List.take_length_add_append]
theorem Uw:∀(xs:List SV)(k:Nat),BZ (xs.drop k)=(BZ xs).drop (k*11)
 |xs,0=>by simp
 |[],k+1=>by simp[BZ]
 |x::l,k+1=>by
  show BZ (l.drop k)=(CV x++BZ l).drop ((k+1)*11);rw[Uw l k,show(k+1)*11=(CV x).length+k*11 by show _=11+k*11;omega,List.drop_length_add_append]
theorem Kh{P:Program}{md:Region.Mode}{ops:Array Oper}{Q:Exit->Act->World->Prop}{S:World->Prop}{fuel i:Nat}{is:List Nat}{listed:Array Bool}{a:Act}{w':World}{o:Oper}(s x:Operand){t:TypeId}{v u v':Value}(ho:ops[i]?=some o)(hw:Region.wanted o (yielded ops a.tmps)=true)
 (hop:o.op=.call {callee:=.builtin .append,args:=#[s,x],argTypes:=#[t,t]})(hs:a.eval s=v)(hx:a.eval x=u)(hr:(Builtin.append_ #[t,t] o.type #[v,u]).run P w=.ok v' w')(hS:S w')(h:S w'->wpAnyH P md ops Q S fuel (listed.setIfInBounds i true) (a.put o.dst v') w')(hrest:AllReadyH P md ops Q S fuel listed a w is):AllReadyH P md ops Q S fuel listed a w (i::is):=
 AllReadyH.cons ho (fun K' hK=>by
  rw[if_pos hw];unfold Oper.wp execOp;simp only[hop,resolve,invoke,builtin,Sem.run_bind,Sem.run_pure,Result.andThen_ok,List.map_toArray,List.map_cons,List.map_nil,hs,hx,hr];exact hK _ _ hS h) hrest
theorem LV{G:Nat->Array Value->Prop}{ao:Option Addr}{n cap pg pc:Nat}{ps:List BD}(v:World)(g c:Nat)(zs:List SV)(s:SV)(Q:QX G w p ao n cap pg pc ps v)(o:v.ownsRow w.heap.size 89 11 (Vs g zs.length c) zs.length (BZ zs))(hn:∀b∈ps,b.g≠g)(hl:zs.length<=1000000):
 ∃g2 c2 v2 ys,(Builtin.append_ #[36,36] 36 #[Vs g zs.length c,Vs v.heap.size 1 1]).run Tryz.prog (v.alloc (.cells (CV s).toArray 89))=.ok (Vs g2 ys.length c2) v2/\ys.length=zs.length+1/\QX G w p ao n cap pg pc ps v2/\v2.ownsRow w.heap.size 89 11 (Vs g2 ys.length c2) ys.length (BZ ys)/\(∀b∈ps,b.g≠g2)/\(∀(g' c':Nat)(xs:List SV),g'≠g->v.ownsRow w.heap.size 89 11 (Vs g' xs.length c') xs.length (BZ xs)->g'≠g2/\v2.ownsRow w.heap.size 89 11 (Vs g' xs.length c') xs.length (BZ xs))/\(∀(q:Nat)(r:Obj),q≠g->v.heap[q]?=some r->q≠g2/\v2.heap[q]?=some r):=by
 have b1:Below v.heap.size v (v.alloc (.cells (CV s).toArray 89)):=Ak;have o1:(v.alloc (.cells (CV s).toArray 89)).ownsRow v.heap.size 89 11 (.slice (some ⟨v.heap.size,0,none⟩) [s].length 1) [s].length (BZ [s]):=by rw[ED];exact World.ownsRow_lit v (CV s).toArray 1 jG (by unfold maxLen;omega) rfl
 obtain⟨g2,c2,v2,hrun,o2,hg,hg'⟩:=Dn _ w.heap.size g c zs (Ah o b1) _ v.heap.size 1 [s] o1 (by simp;omega) (Q.below b1).F.size;have hz:(v.alloc (.cells (CV s).toArray 89)).heap.size=v.heap.size+1:=by simp
 refine⟨g2,c2,v2,zs++[s],hrun,by simp,(Q.below b1).grw (Ah o b1) hg hn,o2,fun b hb=>by have:=hn b hb;have:=Q.pw.lt b hb;omega,fun g' c' xs hne r=>⟨by have:=(r.lt g' rfl).2;omega,DI (Ah r b1) hg (fun q hq e=>by
  have e1:g'=q:=Option.some.inj hq;have e2:g=q:=Option.some.inj e;omega)⟩,fun q r hne hq=>⟨by have:=Bb hq;omega,BJ (Aw hq b1) hg (fun e=>hne (Option.some.inj e).symm)⟩⟩
end Go.Proofs.YtfpeecaaleijcaaGreatDoor
