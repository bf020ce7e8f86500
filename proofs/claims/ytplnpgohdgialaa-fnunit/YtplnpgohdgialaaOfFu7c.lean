import Derived.Test.YtplnpgohdgialaaOfFu6f
set_option maxHeartbeats 32000000
set_option maxRecDepth 20000
namespace Go.Proofs.Ytplnpgohdgialaa
open Go.RowKit Go.Deep
theorem GX.putA{w:World}{p:Nat}{ao:Option Addr}{n cap:Nat}{bH cH nH:Nat}{S:Nat->HS}{bR cR:Nat}{V0:Nat->VV}{bA cA:Nat}{V:Nat->VV}{z c:Int}{bs ba br:Nat}{u:World}(h:GX w p ao n cap bH cH nH S bR cR V0 bA cA V z c bs ba br u){g2 c2:Nat}{V2:Nat->VV}{z2 q2:Int}(hA:Arr u g2 (8*6) (vF V2))(ok:absOK nH S 8 V0 8 V2 z2 q2=true)(n1:g2≠ba)(n2:g2≠br)(n3:g2≠p):GX w p ao n cap bH cH nH S bR cR V0 g2 c2 V2 z2 q2 bs ba br (((u.setCell ⟨ba,0,none⟩ (.slice (some ⟨g2,0,none⟩) 8 c2)).setCell ⟨ba,1,none⟩ (.int .i64 z2)).setCell ⟨ba,2,none⟩ (.int .i64 q2)):=by
 have o0:=h.pw;have o1:=h.o1;have o2:=h.o2;have o3:=h.o3;have m1:=h.n1;have m2:=h.n2;exact⟨fw_set3 h.F (by omega) _ _ _,cur_set3 h.K (by omega) _ _ _,hq_other (hq_other (hq_other h.sg (by omega) _ _) (by omega) _ _) (by omega) _ _,h.A.set _ _ _,hq_other (hq_other (hq_other h.R (by omega) _ _) (by omega) _ _) (by omega) _ _,⟨arr_set3 h.sc.h (by omega) _ _ _,arr_set3 h.sc.r (by omega) _ _ _⟩,arr_set3 hA n1 _ _ _,ok,h.lH,o0,o1,o2,o3,m1,m2,n2,h.p1,h.p2,n3⟩
theorem ga_ne{u:World}{g ba t:Nat}{f:Nat->Value}{x y z:Value}(hA:Arr u g (8*6) f)(h:V3 u ba t x y z):g≠ba:=fun e=>by
 have q:=hA.cell (i:=3) (by omega);rw[e,hq_cell h 3]at q;simp at q
theorem l5Gen_go(d:Nat)(hd:d<=3)(IH:∀d',d=d'+1->GenC d'):GenC d:=by
 intro p ao n cap bH cH nH S bR cR V0 bA cA V z c m busy w hm hc h1 h2 h3 p1 p2 p3
 have X0:Hid (GX w p ao n cap bH cH nH S bR cR V0 bA cA V z c w.heap.size (w.heap.size+1) (w.heap.size+1+1) (((w.alloc (.cells #[.slice (some ⟨bH,0,none⟩) nH cH,.slice (some ⟨bR,0,none⟩) 8 cR] 47)).alloc (.cells #[.slice (some ⟨bA,0,none⟩) 8 cA,.int .i64 z,.int .i64 c] 106)).alloc (.cells #[.slice none 0 0,.int .i64 0,.int .i64 0] 106))):=gx_new w hc h1 h2 h3 p1 p2 p3
 have LA:Hid (bA<w.heap.size/\bA≠p):=⟨h2.lt,p3⟩
 have lp:=hc.lt
 have hgb:gb d<=1000:=gb_le hd
 have hgp:1<=gb d:=gb_pos d
 clear hc h1 h2 h3 p1 p2 p3
 go_enter Try.func41,Try.ntmps41
 go_upto_region 1 with fail
 obtain⟨u,hu⟩:∃y,((w.alloc (.cells #[.slice (some ⟨bH,0,none⟩) nH cH,.slice (some ⟨bR,0,none⟩) 8 cR] 47)).alloc (.cells #[.slice (some ⟨bA,0,none⟩) 8 cA,.int .i64 z,.int .i64 c] 106)).alloc (.cells #[.slice none 0 0,.int .i64 0,.int .i64 0] 106)=y:=⟨_,rfl⟩
 rw[hu]at X0⊢
 obtain⟨bs,hbs⟩:∃y,w.heap.size=y:=⟨_,rfl⟩
 obtain⟨ba,hba⟩:∃y,w.heap.size+1=y:=⟨_,rfl⟩
 obtain⟨br,hbr⟩:∃y,w.heap.size+1+1=y:=⟨_,rfl⟩
 have X0:Hid (GX w p ao n cap bH cH nH S bR cR V0 bA cA V z c bs ba br u):=by rw[<-hbs,<-hba,<-hbr];exact X0
 rw[hbr,hba,hbs]
 have BO:Hid (w.heap.size=bs/\bs<ba/\ba<br):=⟨hbs,by omega,by omega⟩
 clear hu hbs hba hbr
 go_upto_region 2 with fail
 obtain⟨u0,hu0,b0,o0⟩:∃y,u.alloc (.cells #[] 33)=y/\Below u.heap.size u y/\y.ownsRow u.heap.size 33 11 (.slice (some ⟨u.heap.size,0,none⟩) ([]:List SV).length 0) ([]:List SV).length (cs []):=⟨_,rfl,(Below.refl _ _).alloc (Nat.le_refl _) _,World.ownsRow_lit u #[] 0 (Nat.le_refl _) (by unfold maxLen;omega) rfl⟩
 rw[hu0]
 have X1:Hid (GX w p ao n cap bH cH nH S bR cR V0 bA cA V z c bs ba br u0):=X0.out.below b0
 have O1:Hid (u0.ownsRow w.heap.size 33 11 (.slice (some ⟨u.heap.size,0,none⟩) ([]:List SV).length 0) ([]:List SV).length (cs [])):=row_down o0 X0.out.F.size
 obtain⟨og0,hog⟩:∃y,u.heap.size=y:=⟨_,rfl⟩
 rw[hog]at O1⊢
 have OGA:Hid (og0≠bA):=(by have:=LA.out;have:=O1.out.lt og0 rfl;omega:og0≠bA)
 clear hu0 b0 o0 hog X0
 go_wp2_with fail
 go_loopw [14,15](fun ov iv wr=>∃(k:Nat)(og oc:Nat)(xs:List SV)(gA cA:Nat)(V:Nat->VV)(z c:Int),ov=.slice (some ⟨og,0,none⟩) xs.length oc/\iv=.int .i64 (k:Int)/\k<=m/\Hid (Wl xs/\(gA=bA∨w.heap.size<=gA)/\og≠gA)/\xs.length<=k*gb d/\GX w p ao n cap bH cH nH S bR cR V0 gA cA V z c bs ba br wr/\wr.ownsRow w.heap.size 33 11 (.slice (some ⟨og,0,none⟩) xs.length oc) xs.length (cs xs))(fun _ iv _=>m-(intOf iv).toNat)
 case atStart=>exact⟨0,og0,0,[],bA,cA,V,z,c,rfl,rfl,by omega,⟨.nil,Or.inl rfl,OGA.out⟩,by simp,X1.out,O1.out⟩
 case round=>
  clear X1 O1
  obtain⟨k,og,oc,xs,gA,cA,V,z,c,rfl,rfl,hk,HW,hlen,x,o⟩:=hrel
  have X:Hid (GX w p ao n cap bH cH nH S bR cR V0 gA cA V z c bs ba br wr):=x
  have O:Hid (wr.ownsRow w.heap.size 33 11 (.slice (some ⟨og,0,none⟩) xs.length oc) xs.length (cs xs)):=o
  clear x o
  by_cases hkm:k<m
  rotate_left
  ·have hkm':¬(k:Int)<(m:Int):=by omega
   have hle:xs.length<=m*gb d:=Nat.le_trans hlen (Nat.mul_le_mul_right _ hk)
   go_upto_region 15 with fail
   have R9:=X.out.R
   have hba:(some br:Option Nat)≠some ba:=by intro e;have e1:=Option.some.inj e;have:=BO.out;omega
   have hrn:(Value.slice (some ⟨og,0,none⟩) xs.length oc).ownBlock≠some br:=grown_ne R9 O.out (by decide)
   have j0:∀w',Tn (some br) wr w'->w'.cell? ⟨ba,0,none⟩=some (.slice (some ⟨gA,0,none⟩) 8 cA):=fun w' h=>(X.out.A.tn h hba).cells.1
   have j1:∀w',Tn (some br) wr w'->w'.cell? ⟨ba,1,none⟩=some (.int .i64 z):=fun w' h=>(X.out.A.tn h hba).cells.2.1
   have j2:∀w',Tn (some br) wr w'->w'.cell? ⟨ba,2,none⟩=some (.int .i64 c):=fun w' h=>(X.out.A.tn h hba).cells.2.2
   refine wp_region_held_drew (S:=fun w'=>Tn (some br) wr w') (by kernel_rfl) (Tn.of (Below.refl _ _).drew) (fun _=>?_)
   refine wpAnyH_tk 0 ?k1v rfl ?k1y ?k1r
   case k1y=>(intro w hSw;(try dsimp only at hSw);go_simp;try with_reducible rfl)
   try simp only[Act.put,List.getElem_toArray,List.getElem_cons_zero,List.setIfInBounds_toArray,List.set_cons_zero,List.set_cons_succ]
   refine wpAnyH_tk 1 ?k2v rfl ?k2y ?k2r
   case k2y=>(intro w hSw;(try dsimp only at hSw);go_simp;try with_reducible rfl)
   try simp only[Act.put,List.getElem_toArray,List.getElem_cons_zero,List.getElem_cons_succ,List.setIfInBounds_toArray,List.set_cons_zero,List.set_cons_succ]
   refine wpAnyH_tk 2 ?k3v rfl ?k3y ?k3r
   case k3y=>(intro w hSw;(try dsimp only at hSw);go_simp;try with_reducible rfl)
   try simp only[Act.put,List.getElem_toArray,List.getElem_cons_zero,List.getElem_cons_succ,List.setIfInBounds_toArray,List.set_cons_zero,List.set_cons_succ]
   have hbd:Below wr.heap.size wr wr.drew:=(Below.refl _ _).drew
   generalize wr.drew=t0 at hbd⊢
   have R0:=R9.below hbd
   obtain⟨r0,r1,r2⟩:=R0.cells
   have rf:=R0.free
   have rl:=R0.lt
   have X2:=X.out.below hbd
   have RS:Hid (GenR nH S V0 bA (m*gb d) w p ao n cap (.returned (.tuple #[.slice (some ⟨og,0,none⟩) xs.length oc,.agg #[.slice (some ⟨gA,0,none⟩) 8 cA,.int .i64 z,.int .i64 c]])) (((t0.setCell ⟨br,0,none⟩ (.slice (some ⟨gA,0,none⟩) 8 cA)).setCell ⟨br,1,none⟩ (.int .i64 z)).setCell ⟨br,2,none⟩ (.int .i64 c))):=⟨og,oc,xs,gA,cA,V,z,c,rfl,HW.out.1,hle,row_set3 (row_belowD O.out hbd) hrn _ _ _,HW.out.2.1,arr_set3 X2.G X2.n3 _ _ _,X2.ok,fw_set3 X2.F (by have:=BO.out;omega) _ _ _,cur_set3 X2.K (by have:=BO.out;omega) _ _ _⟩
   have TT:Hid (Tn (some br) wr t0):=Tn.of hbd
   clear hbd R0 X2 R9 j0 j1 j2 X O
   refine wpAnyH_ready (rs:=[3]) (by kernel_rfl) (by simp) ?_
   refine AllReadyH.cons rfl (fun KK hK=>?_) AllReadyH.nil
   go_simp
   refine hK.out _ _ (TT.out.set3 _ _ _) (fun _=>?_)
   clear hK KK
   refine wpAnyH_done (by kernel_rfl) ?_ _
   go_wp2_with fail
   refine bodyPost_ret (v:=.tuple #[.slice (some ⟨og,0,none⟩) xs.length oc,.agg #[.slice (some ⟨gA,0,none⟩) 8 cA,.int .i64 z,.int .i64 c]]) (by simp[results,Try.results41,go_sem, *]) rfl RS.out
  have hkm':(k:Int)<(m:Int):=by omega
  go_wp2_with fail
  refine(l1Below_any p ao n cap 10 _ (by omega) X.out.K).mono ?_
  rintro e v1⟨kk,rfl,kk0,kk10,f,k'⟩
  have X1:Hid (GX w p ao n cap bH cH nH S bR cR V0 gA cA V z c bs ba br v1):=X.out.fw f k'
  have O1:Hid (v1.ownsRow w.heap.size 33 11 (.slice (some ⟨og,0,none⟩) xs.length oc) xs.length (cs xs)):=row_fw O.out f lp
  clear f k' X O
  obtain⟨_,⟨a0,a1,a2⟩,al1,al2⟩:=X1.out.cells
  go_upto_region 8 with fail
  obtain⟨v2,hv2,b2⟩:∃y,v1.alloc (.cells #[] 33)=y/\Below v1.heap.size v1 y:=⟨_,rfl,(Below.refl _ _).alloc (Nat.le_refl _) _⟩
  have X2:Hid (GX w p ao n cap bH cH nH S bR cR V0 gA cA V z c bs ba br v2):=X1.out.below b2
  have O2:=row_belowD O1.out b2
  have e1:v2.heap.size=v1.heap.size+1:=by rw[<-hv2];simp
  obtain⟨v3,hv3,b3,n3⟩:∃y,v2.alloc (.cells #[.slice (some ⟨gA,0,none⟩) 8 cA,.int .i64 z,.int .i64 c] 106)=y/\Below v2.heap.size v2 y/\V3 y v2.heap.size 106 (.slice (some ⟨gA,0,none⟩) 8 cA) (.int .i64 z) (.int .i64 c):=⟨_,rfl,(Below.refl _ _).alloc (Nat.le_refl _) _,V3.new _ _ _ _ _⟩
  try rw[hv2]
  try rw[hv3]
  have X3:Hid (GX w p ao n cap bH cH nH S bR cR V0 gA cA V z c bs ba br v3):=X2.out.below b3
  have O3:Hid (v3.ownsRow w.heap.size 33 11 (.slice (some ⟨og,0,none⟩) xs.length oc) xs.length (cs xs)):=row_belowD O2 b3
  obtain⟨nv,hnv⟩:∃y,v2.heap.size=y:=⟨_,rfl⟩
  have hnv1:v1.heap.size+1=nv:=by omega
  try rw[hnv]
  try rw[hnv1]
  rw[hnv]at n3
  have N3:Hid (V3 v3 nv 106 (.slice (some ⟨gA,0,none⟩) 8 cA) (.int .i64 z) (.int .i64 c)):=n3
  have F23:Hid (Fw p v2 v3):=.of_below b3
  have ZV:Hid (v2.heap.size<=nv/\og<v2.heap.size/\gA<v2.heap.size/\p<v2.heap.size/\br<v2.heap.size/\w.heap.size<=v2.heap.size/\ba<v2.heap.size):=⟨by omega,(O2.lt og rfl).2,X2.out.G.lt,by have:=X2.out.F.size;omega,X2.out.R.lt,X2.out.F.size,X2.out.A.lt⟩
  have O2H:Hid (v2.ownsRow w.heap.size 33 11 (.slice (some ⟨og,0,none⟩) xs.length oc) xs.length (cs xs)):=O2
  clear hv2 b2 e1 hv3 b3 n3 hnv hnv1 a0 a1 a2 al1 al2 X1 O1 O2
  go_cut [34](fun s34 wx=>∃b:Bool,s34=.bool b/\(b=true->0<d)/\wx=v3)
  case first=>
   by_cases hk0:kk=0
   ·have e1:(kk==0)=true:=by simp[hk0]
    clear hk0
    by_cases hd0:0<d
    ·have e2:decide (0<(d:Int))=true:=by simp;omega
     go_wp2_with fail
     go_meet
     exact⟨_,rfl,fun _=>hd0,rfl⟩
    ·have e2:decide (0<(d:Int))=false:=by simp;omega
     go_wp2_with fail
     go_meet
     exact⟨_,rfl,(by intro e;cases e),rfl⟩
   ·have e1:(kk==0)=false:=by simp[hk0]
    go_wp2_with fail
    go_meet
    exact⟨_,rfl,(by intro e;cases e),rfl⟩
  case rest=>
  obtain⟨b34,rfl,hb34,hwc⟩:=hcut
  rw[hwc]
  clear hwc
  go_upto_if 34 with fail
  go_cut [17](fun s17 wx=>∃(mg mc:Nat)(ms:List SV)(gA' cA':Nat)(V':Nat->VV)(z' c':Int),s17=.slice (some ⟨mg,0,none⟩) ms.length mc/\Wl ms/\ms.length<=gb d/\DR nH S V0 gA v2 p ao n cap mg mc ms nv gA' cA' V' z' c' wx)
  case first=>
   obtain⟨⟨s0,s1⟩,⟨a0,a1,a2⟩,al1,al2⟩:=X3.out.cells
   have FIN:Hid (∀(v4:World)(mg mc:Nat)(ms:List SV)(gA' cA':Nat)(V':Nat->VV)(z' c':Int)(mm:Nat),mm<=gb d->Wl ms->ms.length<=mm->v4.ownsRow v3.heap.size 33 11 (.slice (some ⟨mg,0,none⟩) ms.length mc) ms.length (cs ms)->(gA'=gA∨v3.heap.size<=gA')->Arr v4 gA' (8*6) (vF V')->absOK nH S 8 V0 8 V' z' c'=true->Fw p v3 v4->Cur v4 p ao n cap->Wl ms/\ms.length<=gb d/\DR nH S V0 gA v2 p ao n cap mg mc ms nv gA' cA' V' z' c' (((v4.setCell ⟨nv,0,none⟩ (.slice (some ⟨gA',0,none⟩) 8 cA')).setCell ⟨nv,1,none⟩ (.int .i64 z')).setCell ⟨nv,2,none⟩ (.int .i64 c'))/\V3 v4 nv 106 (.slice (some ⟨gA,0,none⟩) 8 cA) (.int .i64 z) (.int .i64 c)):=fun v4 mg mc ms gA' cA' V' z' c' mm hmm hwl hl hrow nwA hA okA f k'=>by
    have zv:=ZV.out
    exact⟨hwl,by omega,dr_old F23.out (by omega) (by omega) N3.out (by omega) hrow nwA hA okA f k',hq_fw N3.out f (by omega)⟩
   cases b34 with
   |true=>
    obtain⟨d',hd'⟩:∃d',d=d'+1:=⟨d-1,by have:=hb34 rfl;omega⟩
    have hcall:=l5GenIf_any d' (IH d' hd') (by omega) p ao n cap bH cH nH S bR cR V0 gA cA V z c busy v3 X3.out.K X3.out.sc X3.out.G X3.out.ok X3.out.p1 X3.out.p2 X3.out.p3
    rw[<-hd']at hcall
    have HC:Hid _:=hcall
    clear hcall hd' hb34
    go_wp2_with fail
    refine Calls.mono HC.out ?_
    rintro e v4⟨mg,mc,ms,gA',cA',V',z',c',rfl,hwl,hl,hrow,nwA,hA,okA,f,k'⟩
    have R:=FIN.out v4 mg mc ms gA' cA' V' z' c' _ (Nat.le_refl _) hwl hl hrow nwA hA okA f k'
    have RR:Hid _:=R
    obtain⟨n0,n1,n2⟩:=R.2.2.2.cells
    have nf:=R.2.2.2.free
    have nl:=R.2.2.2.lt
    clear R hwl hl hrow nwA hA okA f k' s0 s1 a0 a1 a2 al1 al2
    go_wp2_with fail
    go_meet
    exact⟨mg,mc,ms,gA',cA',V',z',c',rfl,RR.out.1,RR.out.2.1,RR.out.2.2.1⟩
   |false=>
    clear hb34
    go_upto_region 10 with fail
    go_cut [49](fun s49 wx=>∃b:Bool,s49=.bool b/\(b=true->0<d)/\wx=v3)
    case first=>
     by_cases hk0:kk=1
     ·have e1:(kk==1)=true:=by simp[hk0]
      clear hk0
      by_cases hd0:0<d
      ·have e2:decide (0<(d:Int))=true:=by simp;omega
       go_wp2_with fail
       go_meet
       exact⟨_,rfl,fun _=>hd0,rfl⟩
      ·have e2:decide (0<(d:Int))=false:=by simp;omega
       go_wp2_with fail
       go_meet
       exact⟨_,rfl,(by intro e;cases e),rfl⟩
     ·have e1:(kk==1)=false:=by simp[hk0]
      go_wp2_with fail
      go_meet
      exact⟨_,rfl,(by intro e;cases e),rfl⟩
    case rest=>
    obtain⟨b49,rfl,hb49,hwc⟩:=hcut
    rw[hwc]
    clear hwc
    cases b49 with
    |true=>
     obtain⟨d',hd'⟩:∃d',d=d'+1:=⟨d-1,by have:=hb49 rfl;omega⟩
     have hcall:=l5GenLoop_any d' (IH d' hd') (by omega) p ao n cap bH cH nH S bR cR V0 gA cA V z c busy v3 X3.out.K X3.out.sc X3.out.G X3.out.ok X3.out.p1 X3.out.p2 X3.out.p3
     rw[<-hd']at hcall
     have HC:Hid _:=hcall
     clear hcall hd' hb49
     go_wp2_with fail
     refine Calls.mono HC.out ?_
     rintro e v4⟨mg,mc,ms,gA',cA',V',z',c',rfl,hwl,hl,hrow,nwA,hA,okA,f,k'⟩
     have R:=FIN.out v4 mg mc ms gA' cA' V' z' c' _ (Nat.le_refl _) hwl hl hrow nwA hA okA f k'
     have RR:Hid _:=R
     obtain⟨n0,n1,n2⟩:=R.2.2.2.cells
     have nf:=R.2.2.2.free
     have nl:=R.2.2.2.lt
     clear R hwl hl hrow nwA hA okA f k' s0 s1 a0 a1 a2 al1 al2
     go_wp2_with fail
     go_meet
     exact⟨mg,mc,ms,gA',cA',V',z',c',rfl,RR.out.1,RR.out.2.1,RR.out.2.2.1⟩
    |false=>
     clear hb49
     go_wp2_with fail
     refine(l5GenIns_any p ao n cap bH cH nH S bR cR V0 gA cA V z c busy v3 X3.out.K X3.out.sc X3.out.G X3.out.ok X3.out.p1 X3.out.p2 X3.out.p3).mono ?_
     rintro e v4⟨mg,mc,ms,gA',cA',V',z',c',rfl,hwl,hl,hrow,nwA,hA,okA,f,k'⟩
     have R:=FIN.out v4 mg mc ms gA' cA' V' z' c' 1 hgp hwl hl hrow nwA hA okA f k'
     have RR:Hid _:=R
     obtain⟨n0,n1,n2⟩:=R.2.2.2.cells
     have nf:=R.2.2.2.free
     have nl:=R.2.2.2.lt
     clear R hwl hl hrow nwA hA okA f k' s0 s1 a0 a1 a2 al1 al2
     go_wp2_with fail
     go_meet
     exact⟨mg,mc,ms,gA',cA',V',z',c',rfl,RR.out.1,RR.out.2.1,RR.out.2.2.1⟩
  case rest=>
  obtain⟨mg,mc,ms,gA',cA',V',z',c',rfl,wlm,lenm,dr⟩:=hcut
  generalize wc=v4 at dr⊢
  have X4:Hid (GX w p ao n cap bH cH nH S bR cR V0 gA cA V z c bs ba br v4):=X2.out.fw dr.F dr.K
  have O4:Hid (v4.ownsRow w.heap.size 33 11 (.slice (some ⟨og,0,none⟩) xs.length oc) xs.length (cs xs)):=row_fw O2H.out dr.F lp
  have DRH:Hid (DR nH S V0 gA v2 p ao n cap mg mc ms nv gA' cA' V' z' c' v4):=dr
  have WLM:Hid (Wl ms/\ms.length<=gb d):=⟨wlm,lenm⟩
  have hkg:k*gb d<=30*1000:=Nat.mul_le_mul (by omega) hgb
  obtain⟨g2,c2,v5,hrun,o5,hg,hg'⟩:=app_st v4 w.heap.size og oc xs O4.out _ mg mc ms dr.row (by omega) X4.out.F.size
  obtain⟨ys,hys⟩:∃ys,xs++ms=ys:=⟨_,rfl⟩
  rw[hys]at hrun o5
  have hoge:=own_ge O4.out (q:=og) rfl
  have ty:∀{b t:Nat}{vs:Array Value},v4.heap[b]?=some (.cells vs t)->t≠33->og≠b:=fun hx he e=>grown_ne hx O4.out he (by rw[e];rfl)
  have zv:=ZV.out
  have nwA:=dr.nw
  have hga:og≠gA:=HW.out.2.2
  have hga':og≠gA':=by omega
  have X5:Hid (GX w p ao n cap bH cH nH S bR cR V0 gA cA V z c bs ba br v5):=X4.out.grw hg hoge (ty X4.out.sg (by decide)) (ty X4.out.A (by decide)) (ty X4.out.R (by decide)) hga
  have N5:Hid (V3 v5 nv 106 (.slice (some ⟨gA',0,none⟩) 8 cA') (.int .i64 z') (.int .i64 c')):=grown_obj dr.P hg (fun e=>ty dr.P (by decide) (Option.some.inj e))
  have A5:Hid (Arr v5 gA' (8*6) (vF V')):=dr.A.grw hg (fun e=>hga' (Option.some.inj e))
  have OK5:Hid (absOK nH S 8 V0 8 V' z' c'=true):=dr.ok
  have O5:Hid (v5.ownsRow w.heap.size 33 11 (.slice (some ⟨g2,0,none⟩) ys.length c2) ys.length (cs ys)):=o5
  have WY:Hid (Wl ys/\ys.length<=(k+1)*gb d):=(by
   rw[<-hys]
   exact⟨HW.out.1.app wlm,by rw[Nat.add_mul,Nat.one_mul,List.length_append];omega⟩:Wl ys/\ys.length<=(k+1)*gb d)
  have nab:gA'≠br:=by have:=X4.out.n3;omega
  have naa:gA'≠ba:=ga_ne DRH.out.A X4.out.A
  have nap:gA'≠p:=by have:=X4.out.p3;omega
  have ng2:g2≠gA':=by have:=dr.A.lt;omega
  have NW:Hid (gA'=bA∨w.heap.size<=gA'):=(by have:=HW.out.2.1;omega:gA'=bA∨w.heap.size<=gA')
  have hg2ba:(Value.slice (some ⟨g2,0,none⟩) ys.length c2).ownBlock≠some ba:=grown_ne X5.out.A O5.out (by decide)
  clear hg hg' hys o5 ty dr wlm lenm zv nwA hga hga' X4 O4 DRH
  go_upto_region 14 with(first|(at_builtin;refine wpList_app rfl _ _ 28 rfl rfl rfl hrun ?_))
  clear hrun
  obtain⟨n0,n1,n2⟩:=N5.out.cells
  have nl:=N5.out.lt
  obtain⟨_,⟨a0,a1,a2⟩,al1,al2⟩:=X5.out.cells
  have af:=X5.out.A.free
  have Y5:Hid (GX w p ao n cap bH cH nH S bR cR V0 gA' cA' V' z' c' bs ba br (((v5.setCell ⟨ba,0,none⟩ (.slice (some ⟨gA',0,none⟩) 8 cA')).setCell ⟨ba,1,none⟩ (.int .i64 z')).setCell ⟨ba,2,none⟩ (.int .i64 c'))):=X5.out.putA A5.out OK5.out naa nab nap
  clear X5 N5 A5
  go_wp2_with fail
  go_roundw
  case rel=>exact⟨k+1,g2,c2,ys,gA',cA',V',z',c',rfl,by go_num,by omega,⟨WY.out.1,NW.out,ng2⟩,WY.out.2,Y5.out,row_set3 O5.out hg2ba _ _ _⟩
  case measure=>simp[intOf];omega
theorem l5Gen_any:∀(d:Nat),d<=3->GenC d
 |0,h=>l5Gen_go 0 h (fun d' e=>by omega)
 |d+1,h=>l5Gen_go (d+1) h (fun d' e=>by rw[show d'=d by omega];exact l5Gen_any d (by omega))
def StR(m:Nat)(w:World)(p:Nat)(ao:Option Addr)(n cap:Nat)(e:Ending)(w':World):Prop:=
 ∃(g cg:Nat)(xs:List SV),e=.returned (.slice (some ⟨g,0,none⟩) xs.length cg)/\xs.length<=m/\w'.ownsRow w.heap.size 33 11 (.slice (some ⟨g,0,none⟩) xs.length cg) xs.length (cs xs)/\Fw p w w'/\Cur w' p ao n cap
theorem sig_abs{nH:Nat}{S:Nat->HS}{V0:Nat->VV}(h:sigOK nH S 8 V0=true):absOK nH S 8 V0 8 V0 0 0=true:=by
 have h':=h;unfold sigOK goodAll at h';simp only[Bool.and_eq_true,decide_eq_true_eq,List.all_eq_true,List.mem_range,gv]at h';exact abs_iff.2 ⟨h,rfl,h'.2.2,⟨by omega,by omega⟩,by omega,by omega⟩
theorem l5DrawStmts_any(p:Nat)(ao:Option Addr)(n cap:Nat)(bH cH nH:Nat)(S:Nat->HS)(bR cR:Nat)(V0:Nat->VV)(w:World)(hc:Cur w p ao n cap)(h1:SigCp w bH nH S bR 8 V0)(h3:sigOK nH S 8 V0=true)(p1:bH≠p)(p2:bR≠p):
 Calls Try.prog 28 #[.pointer (some ⟨p,0,none⟩),.agg #[.slice (some ⟨bH,0,none⟩) nH cH,.slice (some ⟨bR,0,none⟩) 8 cR]] w (StR 9330 w p ao n cap):=by
 have HC:Hid (Cur w p ao n cap):=hc;have HS:Hid (SigCp w bH nH S bR 8 V0):=h1;have OK:Hid (absOK nH S 8 V0 8 V0 0 0=true):=sig_abs h3;have lp:=hc.lt;have l1:=h1.h.lt;have l2:=h1.r.lt;obtain⟨iV,gV,gV0,gV1,gV2⟩:=info_parts info_cV;have HIV:Hid (_/\_/\_/\_):=⟨gV,gV0,gV1,gV2⟩
 clear hc h1 h3 gV gV0 gV1 gV2;go_enter Try.func28,Try.ntmps28;go_upto_region 1 with fail;obtain⟨y0,hy0,b0⟩:∃y,w.alloc (.cells #[.slice (some ⟨bH,0,none⟩) nH cH,.slice (some ⟨bR,0,none⟩) 8 cR] 47)=y/\Below w.heap.size w y:=⟨_,rfl,(Below.refl _ _).alloc (Nat.le_refl _) _⟩
 have n0:=hq_new w (.cells #[.slice (some ⟨bH,0,none⟩) nH cH,.slice (some ⟨bR,0,none⟩) 8 cR] 47);rw[hy0]at n0⊢;obtain⟨bs,hbs⟩:∃y,w.heap.size=y:=⟨_,rfl⟩
 rw[hbs]at n0⊢;have N0:Hid (y0.heap[bs]?=some (.cells #[.slice (some ⟨bH,0,none⟩) nH cH,.slice (some ⟨bR,0,none⟩) 8 cR] 47)):=n0;have F0:Hid (Fw p w y0):=.of_below b0;have K0:Hid (Cur y0 p ao n cap):=HC.out.below b0;have S0:Hid (SigCp y0 bH nH S bR 8 V0):=HS.out.below b0;have hpb:p≠bs:=by omega
 have HBS:Hid (w.heap.size=bs):=hbs;clear hy0 b0 n0 hbs HC HS;go_wp2_with fail;refine(l1Below_any p ao n cap 9 _ (by omega) K0.out).mono ?_;rintro e y1⟨x,rfl,x0,x9,f,k⟩;have N1:Hid (y1.heap[bs]?=some (.cells #[.slice (some ⟨bH,0,none⟩) nH cH,.slice (some ⟨bR,0,none⟩) 8 cR] 47)):=hq_fw N0.out f hpb;have F1:Hid (Fw p w y1):=F0.out.trans f;have K1:Hid (Cur y1 p ao n cap):=k;have S1:Hid (SigCp y1 bH nH S bR 8 V0):=⟨f.arr S0.out.h p1,f.arr S0.out.r p2⟩
 clear f k N0 F0 K0 S0;go_wp2_with fail;refine(l1Once_any p ao n cap 40 _ (by omega) K1.out).mono ?_;rintro e y2⟨b,rfl,f,k⟩;have N2:Hid (y2.heap[bs]?=some (.cells #[.slice (some ⟨bH,0,none⟩) nH cH,.slice (some ⟨bR,0,none⟩) 8 cR] 47)):=hq_fw N1.out f hpb;have F2:Hid (Fw p w y2):=F1.out.trans f;have K2:Hid (Cur y2 p ao n cap):=k;have S2:Hid (SigCp y2 bH nH S bR 8 V0):=⟨f.arr S1.out.h p1,f.arr S1.out.r p2⟩
 clear f k N1 F1 K1 S1;go_upto_if 13 with fail;go_cut [5](fun s5 wx=>(∃m:Nat,s5=.int .i64 (m:Int)/\m<=30)/\wx=y2)
 case first=>
  cases b with
  |true=>
   go_wp2_with fail;go_meet;exact⟨⟨30,rfl,by omega⟩,rfl⟩
  |false=>
   go_wp2_with fail;go_meet;exact⟨⟨(2+x).toNat,by rw[show(((2+x).toNat:Nat):Int)=2+x by omega],by omega⟩,rfl⟩
 case rest=>
 obtain⟨⟨m,rfl,hm⟩,hwc⟩:=hcut;rw[hwc];clear hwc x0 x9;obtain⟨y3,hy3,b3,o3⟩:∃y,y2.alloc (.cells #[] 80)=y/\Below y2.heap.size y2 y/\y.ownsRow y2.heap.size 80 6 (.slice (some ⟨y2.heap.size,0,none⟩) 0 0) 0 []:=⟨_,rfl,(Below.refl _ _).alloc (Nat.le_refl _) _,World.ownsRow_lit y2 #[] 0 (Nat.le_refl _) (by unfold maxLen;omega) rfl⟩
 have N3:=hq_below N2.out b3;have n0:=(hq_cell N3 0).trans rfl;have n1:=(hq_cell N3 1).trans rfl;have nl:=hq_lt N3;have hA3:∀j v,(first (8*6) (vF V0))[j]?=some v->y3.cell? ((⟨bR,0,none⟩:Addr).add j)=some v:=fun j v hj=>by
  obtain⟨hmm,rfl⟩:=first_get hj;rw[Addr.add_lit,Nat.zero_add];exact(b3.cell (p:=⟨bR,j,none⟩) S2.out.r.lt).trans (S2.out.r.cell hmm)
 have h1c:∀u∈first (8*6) (vF V0),u.oneCell'=true:=by
  intro v hv;obtain⟨j,hj,rfl⟩:=first_mem hv;unfold vF;have:j%6<6:=Nat.mod_lt _ (by decide);generalize j%6=q at this⊢;match q,this with
  |0,_=>rfl
  |1,_=>rfl
  |2,_=>rfl
  |3,_=>rfl
  |4,_=>rfl
  |5,_=>rfl
 obtain⟨v',y4,hrun,o4,hg,_,_⟩:=run_append_own_at (P:=Try.prog) y3 y2.heap.size 45 45 80 iV _ 6 48 Try.underlying45 HIV.out.1 HIV.out.2.1 HIV.out.2.2.1 HIV.out.2.2.2 rfl (by decide) _ _ _ o3 ⟨bR,0,none⟩ 8 cR (first (8*6) (vF V0)) (first_length _ _) hA3 h1c (by unfold maxLen;omega) (by omega) b3.size;have o4':y4.ownsRow y2.heap.size 80 6 v' 8 (first (8*6) (vF V0)):=by simpa using o4
 obtain⟨gA,cA,rfl⟩:=row_some' o4' (by omega);have b4:Below y2.heap.size y2 y4:=b3.trans ((Below.refl _ _).grown hg b3.size (by intro k hk;simp[Value.ownBlock]at hk;omega));have AA:Hid (Arr y4 gA (8*6) (vF V0)):=row_arr o4';have hgA:y2.heap.size<=gA:=(o4'.lt gA rfl).1;go_upto_region 5 with(first|(at_builtin;refine wpList_app rfl _ _ 45 rfl rfl rfl hrun ?_));obtain⟨y5,hy5,b5⟩:∃y,y4.alloc (.cells #[.slice (some ⟨gA,0,none⟩) 8 cA,.int .i64 0,.int .i64 0] 106)=y/\Below y4.heap.size y4 y:=⟨_,rfl,(Below.refl _ _).alloc (Nat.le_refl _) _⟩
 have n5:=V3.new y4 106 (.slice (some ⟨gA,0,none⟩) 8 cA) (.int .i64 0) (.int .i64 0);rw[hy5]at n5⊢;have b25:Below y2.heap.size y2 y5:=b4.trans (b5.mono b4.size);have F5:Hid (Fw p w y5):=F2.out.trans (.of_below b25);have K5:Hid (Cur y5 p ao n cap):=K2.out.below b25;have S5:Hid (SigCp y5 bH nH S bR 8 V0):=S2.out.below b25;have A5:Hid (Arr y5 gA (8*6) (vF V0)):=AA.out.below b5 AA.out.lt;have N5:=hq_below N2.out b25;obtain⟨na,hna⟩:∃y,y4.heap.size=y:=⟨_,rfl⟩
 rw[hna]at n5⊢;obtain⟨a0,a1,a2⟩:=n5.cells;have al:=n5.lt;have hgp:gA≠p:=by have:=F2.out.size;omega
 have hs5:=F5.out.size;clear n0 n1 nl N3 hy3 b3 o3 hA3 h1c hrun o4 hg o4' b4 AA hy5 b5 n5 b25 hna N2 F2 K2 S2;have n0:=(hq_cell N5 0).trans rfl;have n1:=(hq_cell N5 1).trans rfl;have nl:=hq_lt N5;clear N5;go_wp2_with fail;refine(l5Gen_any 3 (by omega) p ao n cap bH cH nH S bR cR V0 gA cA V0 0 0 m (-1) y5 hm K5.out S5.out A5.out OK.out p1 p2 hgp).mono ?_;rintro e y6⟨g,cg,xs,gB,cB,V',z',c',rfl,hwl,hlen,hrow,nwA,hA,okA,f,k'⟩;have RES:Hid (xs.length<=9330/\y6.ownsRow w.heap.size 33 11 (.slice (some ⟨g,0,none⟩) xs.length cg) xs.length (cs xs)/\Fw p w y6/\Cur y6 p ao n cap):=⟨by have:m*gb 3<=30*311:=Nat.mul_le_mul hm (by decide);omega,row_down hrow hs5,F5.out.trans f,k'⟩
 clear hwl hlen hrow nwA hA okA f k' a0 a1 a2 al n0 n1 nl;go_wp2_with fail;go_ret;have bn:Below y6.heap.size y6 (y6.alloc (.cells #[.slice (some ⟨gB,0,none⟩) 8 cB,.int .i64 z',.int .i64 c'] 106)):=(Below.refl _ _).alloc (Nat.le_refl _) _;exact⟨g,cg,xs,rfl,RES.out.1,row_belowD RES.out.2.1 bn,RES.out.2.2.1.trans (.of_below bn),RES.out.2.2.2.below bn⟩
structure BD where
 g:Nat
 c:Nat
 xs:List SV
def BD.v(b:BD):Value:=.slice (some ⟨b.g,0,none⟩) b.xs.length b.c
def PW(u:World)(B M:Nat)(ps:List BD):Prop:=∀b∈ps,u.ownsRow B 33 11 b.v b.xs.length (cs b.xs)/\b.xs.length<=M
theorem PW.below{u u':World}{B M:Nat}{ps:List BD}(h:PW u B M ps)(f:Below u.heap.size u u'):PW u' B M ps:=fun b hb=>⟨row_belowD (h b hb).1 f,(h b hb).2⟩
theorem PW.fw{u u':World}{B M p:Nat}{ps:List BD}(h:PW u B M ps)(f:Fw p u u')(hp:p<B):PW u' B M ps:=fun b hb=>⟨row_fw (h b hb).1 f hp,(h b hb).2⟩
theorem PW.grw{u u':World}{B M g:Nat}{ps:List BD}(h:PW u B M ps)(hg:u.grownBy u' (some g))(hn:∀b∈ps,b.g≠g):PW u' B M ps:=fun b hb=>⟨row_grw (h b hb).1 hg (fun q hq e=>by
 have e1:b.g=q:=Option.some.inj hq;have e2:g=q:=Option.some.inj e;exact hn b hb (e1.trans e2.symm)),(h b hb).2⟩
theorem PW.lt{u:World}{B M:Nat}{ps:List BD}(h:PW u B M ps):∀b∈ps,b.g<u.heap.size:=fun b hb=>((h b hb).1.lt b.g rfl).2
theorem PW.snoc{u:World}{B M:Nat}{ps:List BD}{b:BD}(h:PW u B M ps)(hb:u.ownsRow B 33 11 b.v b.xs.length (cs b.xs))(hl:b.xs.length<=M):PW u B M (ps++[b]):=fun q hq=>by
 rcases List.mem_append.1 hq with hq|hq
 ·exact h q hq
 ·obtain rfl:=List.mem_singleton.1 hq
  exact⟨hb,hl⟩
structure PX(w:World)(p:Nat)(ao:Option Addr)(n cap:Nat)(bs bH cH nH:Nat)(S:Nat->HS)(bR cR:Nat)(V0:Nat->VV)(v:Value)(ps:List BD)(u:World):Prop where
 F:Fw p w u
 K:Cur u p ao n cap
 N:u.heap[bs]?=some (.cells #[.slice (some ⟨bH,0,none⟩) nH cH,.slice (some ⟨bR,0,none⟩) 8 cR] 47)
 sc:SigCp u bH nH S bR 8 V0
 row:u.ownsRow w.heap.size 35 1 v ps.length (ps.map BD.v)
 pw:PW u w.heap.size 9330 ps
 lp:p<w.heap.size
 n0:w.heap.size<=bs
 n1:bH<w.heap.size
 n2:bR<w.heap.size
 p1:bH≠p
 p2:bR≠p
section
variable{w:World}{p:Nat}{ao:Option Addr}{n cap:Nat}{bs bH cH nH:Nat}{S:Nat->HS}{bR cR:Nat}{V0:Nat->VV}{v:Value}{ps:List BD}{u u':World}
theorem PX.fw(h:PX w p ao n cap bs bH cH nH S bR cR V0 v ps u)(f:Fw p u u')(k:Cur u' p ao n cap):PX w p ao n cap bs bH cH nH S bR cR V0 v ps u':=
 ⟨h.F.trans f,k,hq_fw h.N f (by have:=h.lp;have:=h.n0;omega),⟨f.arr h.sc.h h.p1,f.arr h.sc.r h.p2⟩,row_fw h.row f h.lp,h.pw.fw f h.lp,h.lp,h.n0,h.n1,h.n2,h.p1,h.p2⟩
theorem PX.below(h:PX w p ao n cap bs bH cH nH S bR cR V0 v ps u)(f:Below u.heap.size u u'):PX w p ao n cap bs bH cH nH S bR cR V0 v ps u':=h.fw (.of_below f) (h.K.below f)
theorem PX.grw(h:PX w p ao n cap bs bH cH nH S bR cR V0 v ps u){g c:Nat}{xs:List SV}(o:u.ownsRow w.heap.size 33 11 (.slice (some ⟨g,0,none⟩) xs.length c) xs.length (cs xs))(hg:u.grownBy u' (some g))(hn:∀b∈ps,b.g≠g):PX w p ao n cap bs bH cH nH S bR cR V0 v ps u':=by
 have ge:=own_ge o (q:=g) rfl;have lp:=h.lp;exact⟨h.F.grown hg (fun q hq=>by have e:=Option.some.inj hq;omega),h.K.grown hg (fun q hq=>by have e:=Option.some.inj hq;omega),grown_obj h.N hg (grown_ne h.N o (by decide)),⟨h.sc.h.grw hg (fun e=>by have e1:=Option.some.inj e;have:=h.n1;omega),h.sc.r.grw hg (fun e=>by have e1:=Option.some.inj e;have:=h.n2;omega)⟩,row_grw h.row hg (fun q hq e=>own_ne h.row o (by decide) q hq e),h.pw.grw hg hn,h.lp,h.n0,h.n1,h.n2,h.p1,h.p2⟩
theorem PX.add(h:PX w p ao n cap bs bH cH nH S bR cR V0 v ps u){v':Value}{b:BD}(hg:u.grownBy u' v.ownBlock)(o:u'.ownsRow w.heap.size 35 1 v' (ps.length+1) (ps.map BD.v++[b.v]))(hb:u.ownsRow w.heap.size 33 11 b.v b.xs.length (cs b.xs))(hl:b.xs.length<=9330):PX w p ao n cap bs bH cH nH S bR cR V0 v' (ps++[b]) u':=by
 have lp:=h.lp;have rg:∀{B s n:Nat}{v2:Value}{ys:List Value},u.ownsRow B 33 s v2 n ys->u'.ownsRow B 33 s v2 n ys:=fun r=>row_grw r hg (fun q hq e=>own_ne r h.row (by decide) q hq e)
 have ne:∀{c:Nat},c<w.heap.size->v.ownBlock≠some c:=fun hc e=>by have:=own_ge h.row e;omega
 have pw2:PW u' w.heap.size 9330 ps:=fun q hq=>⟨rg (h.pw q hq).1,(h.pw q hq).2⟩
 exact⟨h.F.grown hg (fun q hq=>own_ge h.row hq),h.K.grown hg (fun q hq=>by have:=own_ge h.row hq;omega),grown_obj h.N hg (grown_ne h.N h.row (by decide)),⟨h.sc.h.grw hg (ne h.n1),h.sc.r.grw hg (ne h.n2)⟩,by simpa using o,pw2.snoc (rg hb) hl,h.lp,h.n0,h.n1,h.n2,h.p1,h.p2⟩
end
theorem arr_row{w:World}{B g cg:Nat}{xs:List SV}(h:w.ownsRow B 33 11 (.slice (some ⟨g,0,none⟩) xs.length cg) xs.length (cs xs)):Arr w g (xs.length*11) (stF (lst xs)):=
 ⟨(h.lt g rfl).2,fun i=>h.frozenAt i,fun i hi=>by rw[h.cellAt i hi];exact cs_get xs sv0 i hi⟩
theorem info_cPr:(Try.prog.info? 35).map (fun i=>(i.zero,i.size,i.bytes))=some (some (.agg #[.slice none 0 0]),1,24):=by kernel_rfl
def PrR(m:Nat)(w:World)(p:Nat)(ao:Option Addr)(n cap:Nat)(e:Ending)(w':World):Prop:=
 ∃(g cg:Nat)(ps:List BD),e=.returned (.slice (some ⟨g,0,none⟩) ps.length cg)/\1<=ps.length/\ps.length<=m/\w'.ownsRow w.heap.size 35 1 (.slice (some ⟨g,0,none⟩) ps.length cg) ps.length (ps.map BD.v)/\PW w' w.heap.size 9330 ps/\Fw p w w'/\Cur w' p ao n cap
theorem l5DrawProcs_any(p:Nat)(ao:Option Addr)(n cap:Nat)(bH cH nH:Nat)(S:Nat->HS)(bR cR:Nat)(V0:Nat->VV)(w:World)(hc:Cur w p ao n cap)(h1:SigCp w bH nH S bR 8 V0)(h3:sigOK nH S 8 V0=true)(p1:bH≠p)(p2:bR≠p):
 Calls Try.prog 13 #[.pointer (some ⟨p,0,none⟩),.agg #[.slice (some ⟨bH,0,none⟩) nH cH,.slice (some ⟨bR,0,none⟩) 8 cR]] w (PrR 3 w p ao n cap):=by
 have OK:Hid (sigOK nH S 8 V0=true):=h3
 have lp:=hc.lt
 obtain⟨iP,gP,gP0,gP1,gP2⟩:=info_parts info_cPr
 have HIP:Hid (_/\_/\_/\_):=⟨gP,gP0,gP1,gP2⟩
 have HW:Hid (Cur w p ao n cap/\SigCp w bH nH S bR 8 V0/\bH≠p/\bR≠p):=⟨hc,h1,p1,p2⟩
 clear hc h1 h3 gP gP0 gP1 gP2 p1 p2
 go_enter Try.func13,Try.ntmps13
 go_upto_region 1 with fail
 obtain⟨y0,hy0,b0⟩:∃y,w.alloc (.cells #[.slice (some ⟨bH,0,none⟩) nH cH,.slice (some ⟨bR,0,none⟩) 8 cR] 47)=y/\Below w.heap.size w y:=⟨_,rfl,(Below.refl _ _).alloc (Nat.le_refl _) _⟩
 have n0:=hq_new w (.cells #[.slice (some ⟨bH,0,none⟩) nH cH,.slice (some ⟨bR,0,none⟩) 8 cR] 47)
 rw[hy0]at n0⊢
 have X0:Hid (PX w p ao n cap w.heap.size bH cH nH S bR cR V0 (.slice none 0 0) [] y0):=⟨.of_below b0,HW.out.1.below b0,n0,HW.out.2.1.below b0,World.ownsRow_nil _ _ _ _,fun b hb=>(by cases hb),lp,Nat.le_refl _,HW.out.2.1.h.lt,HW.out.2.1.r.lt,HW.out.2.2.1,HW.out.2.2.2⟩
 obtain⟨bs,hbs⟩:∃y,w.heap.size=y:=⟨_,rfl⟩
 have X0:Hid (PX w p ao n cap bs bH cH nH S bR cR V0 (.slice none 0 0) [] y0):=by rw[<-hbs];exact X0
 rw[hbs]
 clear hy0 b0 n0 hbs HW
 go_wp2_with fail
 refine(l1Below_any p ao n cap 3 _ (by omega) X0.out.K).mono ?_
 rintro e y1⟨x,rfl,x0,x3,f,k⟩
 have X1:Hid (PX w p ao n cap bs bH cH nH S bR cR V0 (.slice none 0 0) [] y1):=X0.out.fw f k
 clear f k X0
 obtain⟨m,hm⟩:∃m:Nat,1+x=(m:Int):=⟨(1+x).toNat,by omega⟩
 have m1:1<=m:=by omega
 have m3:m<=3:=by omega
 go_upto_region 3 with fail
 try rw[hm]
 clear hm x0 x3
 obtain⟨y2,hy2,b2,o2⟩:∃y,y1.alloc (.cells #[] 35)=y/\Below y1.heap.size y1 y/\y.ownsRow y1.heap.size 35 1 (.slice (some ⟨y1.heap.size,0,none⟩) 0 0) 0 []:=⟨_,rfl,(Below.refl _ _).alloc (Nat.le_refl _) _,World.ownsRow_lit y1 #[] 0 (Nat.le_refl _) (by unfold maxLen;omega) rfl⟩
 rw[hy2]
 have X2:Hid (PX w p ao n cap bs bH cH nH S bR cR V0 (.slice (some ⟨y1.heap.size,0,none⟩) 0 0) [] y2):=(by
  have X:=X1.out.below b2
  exact⟨X.F,X.K,X.N,X.sc,row_down o2 X1.out.F.size,X.pw,X.lp,X.n0,X.n1,X.n2,X.p1,X.p2⟩:PX w p ao n cap bs bH cH nH S bR cR V0 (.slice (some ⟨y1.heap.size,0,none⟩) 0 0) [] y2)
 obtain⟨pg0,hpg⟩:∃y,y1.heap.size=y:=⟨_,rfl⟩
 rw[hpg]at X2⊢
 clear hy2 b2 o2 hpg X1
 go_wp2_with fail
 go_loopw [6,7](fun ov iv wr=>∃(ps:List BD)(pg pc:Nat),ov=.slice (some ⟨pg,0,none⟩) ps.length pc/\iv=.int .i64 (ps.length:Int)/\ps.length<=m/\PX w p ao n cap bs bH cH nH S bR cR V0 (.slice (some ⟨pg,0,none⟩) ps.length pc) ps wr)(fun _ iv _=>m-(intOf iv).toNat)
 case atStart=>exact⟨[],pg0,0,rfl,rfl,by simp,X2.out⟩
 case round=>
  clear X2
  obtain⟨ps,pg,pc,rfl,rfl,hle,x⟩:=hrel
  have X:Hid (PX w p ao n cap bs bH cH nH S bR cR V0 (.slice (some ⟨pg,0,none⟩) ps.length pc) ps wr):=x
  clear x
  by_cases hlt:ps.length<m
  rotate_left
  ·have hlt':¬(ps.length:Int)<(m:Int):=by omega
   go_wp2_with fail
   go_ret
   exact⟨pg,pc,ps,rfl,by omega,by omega,X.out.row,X.out.pw,X.out.F,X.out.K⟩
  have hlt':(ps.length:Int)<(m:Int):=by omega
  go_upto_region 7 with fail
  obtain⟨y3,hy3,b3,o3⟩:∃y,wr.alloc (.cells #[] 33)=y/\Below wr.heap.size wr y/\y.ownsRow wr.heap.size 33 11 (.slice (some ⟨wr.heap.size,0,none⟩) ([]:List SV).length 0) ([]:List SV).length (cs []):=⟨_,rfl,(Below.refl _ _).alloc (Nat.le_refl _) _,World.ownsRow_lit wr #[] 0 (Nat.le_refl _) (by unfold maxLen;omega) rfl⟩
  try rw[hy3]
  have X3:Hid (PX w p ao n cap bs bH cH nH S bR cR V0 (.slice (some ⟨pg,0,none⟩) ps.length pc) ps y3):=X.out.below b3
  have O3:Hid (y3.ownsRow w.heap.size 33 11 (.slice (some ⟨wr.heap.size,0,none⟩) ([]:List SV).length 0) ([]:List SV).length (cs [])):=row_down o3 X.out.F.size
  have HN:Hid (∀b∈ps,b.g≠wr.heap.size):=fun b hb=>by have:=X.out.pw.lt b hb;omega
  obtain⟨xb,hxb⟩:∃y,wr.heap.size=y:=⟨_,rfl⟩
  rw[hxb]at O3 HN
  try rw[hxb]
  have hxb3:xb<y3.heap.size:=(O3.out.lt xb rfl).2
  clear hy3 b3 o3 hxb X
  have s0:=(hq_cell X3.out.N 0).trans rfl
  have s1:=(hq_cell X3.out.N 1).trans rfl
  have sl:=hq_lt X3.out.N
  go_wp2_with fail
  refine(l5DrawStmts_any p ao n cap bH cH nH S bR cR V0 y3 X3.out.K X3.out.sc OK.out X3.out.p1 X3.out.p2).mono ?_
  rintro e y4⟨lg,lc,ls,rfl,hll,hlr,f,k⟩
  have X4:Hid (PX w p ao n cap bs bH cH nH S bR cR V0 (.slice (some ⟨pg,0,none⟩) ps.length pc) ps y4):=X3.out.fw f k
  have O4:Hid (y4.ownsRow w.heap.size 33 11 (.slice (some ⟨xb,0,none⟩) ([]:List SV).length 0) ([]:List SV).length (cs [])):=row_fw O3.out f lp
  have hlg:y3.heap.size<=lg:=(hlr.lt lg rfl).1
  have L4:Hid (y4.ownsRow w.heap.size 33 11 (.slice (some ⟨lg,0,none⟩) ls.length lc) ls.length (cs ls)):=row_down hlr X3.out.F.size
  have hne:xb≠lg:=by omega
  clear f k hlr X3 O3 s0 s1 sl
  go_wp2_with fail
  go_loopw [8,10](fun bv iv wr=>∃(xs:List SV)(xg xc:Nat),bv=.slice (some ⟨xg,0,none⟩) xs.length xc/\iv=.int .i64 (xs.length:Int)/\xs.length<=ls.length/\xg≠lg/\Hid (∀b∈ps,b.g≠xg)/\PX w p ao n cap bs bH cH nH S bR cR V0 (.slice (some ⟨pg,0,none⟩) ps.length pc) ps wr/\wr.ownsRow w.heap.size 33 11 (.slice (some ⟨xg,0,none⟩) xs.length xc) xs.length (cs xs)/\wr.ownsRow w.heap.size 33 11 (.slice (some ⟨lg,0,none⟩) ls.length lc) ls.length (cs ls))(fun _ iv _=>ls.length-(intOf iv).toNat)
  case atStart=>exact⟨[],xb,0,rfl,rfl,by simp,hne,HN,X4.out,O4.out,L4.out⟩
  case round=>
   clear X4 O4 L4 HN hne hxb3 hlg
   obtain⟨xs,xg,xc,rfl,rfl,hlx,hne,HN,x,ob,ol⟩:=hrel
   have X5:Hid (PX w p ao n cap bs bH cH nH S bR cR V0 (.slice (some ⟨pg,0,none⟩) ps.length pc) ps wr):=x
   have O5:Hid (wr.ownsRow w.heap.size 33 11 (.slice (some ⟨xg,0,none⟩) xs.length xc) xs.length (cs xs)):=ob
   have L5:Hid (wr.ownsRow w.heap.size 33 11 (.slice (some ⟨lg,0,none⟩) ls.length lc) ls.length (cs ls)):=ol
   clear x ob ol
   by_cases hlt2:xs.length<ls.length
   rotate_left
   ·have hlt2':¬(xs.length:Int)<(ls.length:Int):=by omega
    obtain⟨y6,hy6,b6,c6⟩:∃y,wr.alloc (.cells #[.slice (some ⟨xg,0,none⟩) xs.length xc] 35)=y/\Below wr.heap.size wr y/\(∀j u,[Value.slice (some ⟨xg,0,none⟩) xs.length xc][j]?=some u->y.cell? ((⟨wr.heap.size,0,none⟩:Addr).add j)=some u):=⟨_,rfl,(Below.refl _ _).alloc (Nat.le_refl _) _,cells_newD wr _ _⟩
    have X6:=X5.out.below b6
    obtain⟨v',y7,hrun,o7,hg,hnil,_⟩:=run_append_own_at (P:=Try.prog) y6 w.heap.size 23 23 35 iP _ 1 24 Try.underlying23 HIP.out.1 HIP.out.2.1 HIP.out.2.2.1 HIP.out.2.2.2 rfl (by decide) _ _ _ X6.row ⟨wr.heap.size,0,none⟩ 1 1 [Value.slice (some ⟨xg,0,none⟩) xs.length xc] rfl c6 (by simp[Value.oneCell']) (by unfold maxLen;omega) (by omega) X6.F.size
    have hn:v'≠ .slice none 0 0:=fun e=>by
     have:=(hnil.1 e).1
     simp at this
    obtain⟨g7,c7,rfl⟩:=row_nn o7 hn
    have X7:Hid (PX w p ao n cap bs bH cH nH S bR cR V0 (.slice (some ⟨g7,0,none⟩) (ps.length+1) c7) (ps++[⟨xg,xc,xs⟩]) y7):=X6.add (b:=⟨xg,xc,xs⟩) hg o7 (row_belowD O5.out b6) (by show xs.length<=9330;omega)
    clear hnil hn o7 hg X6 c6 b6 X5 O5 L5
    go_wp2_with(first|(at_builtin;refine wpList_app rfl _ _ 23 rfl rfl rfl hrun ?_))
    clear hrun hy6
    go_roundw
    case rel=>exact⟨ps++[⟨xg,xc,xs⟩],g7,c7,by simp,by simp,by simp;omega,by simpa using X7.out⟩
    case measure=>simp[intOf];omega
   have hlt2':(xs.length:Int)<(ls.length:Int):=by omega
   have hplus:IntKind.i64.wrap ((ps.length:Int)+1)=(ps.length:Int)+1:=by rw[IntKind.wrap_i64]<;>omega
   go_upto_region 11 with fail
   go_cut [45](fun s45 wx=>∃b:Bool,s45=.bool b/\(b=true->ps.length+1<m)/\PX w p ao n cap bs bH cH nH S bR cR V0 (.slice (some ⟨pg,0,none⟩) ps.length pc) ps wx/\wx.ownsRow w.heap.size 33 11 (.slice (some ⟨xg,0,none⟩) xs.length xc) xs.length (cs xs)/\wx.ownsRow w.heap.size 33 11 (.slice (some ⟨lg,0,none⟩) ls.length lc) ls.length (cs ls))
   case first=>
    by_cases hp1:ps.length+1<m
    ·have e1:decide ((ps.length:Int)+1<(m:Int))=true:=by simp;omega
     go_wp2_with fail
     refine(l1Once_any p ao n cap 6 _ (by omega) X5.out.K).mono ?_
     rintro e y6⟨b,rfl,f,k⟩
     have X6:Hid (PX w p ao n cap bs bH cH nH S bR cR V0 (.slice (some ⟨pg,0,none⟩) ps.length pc) ps y6):=X5.out.fw f k
     have O6:Hid (y6.ownsRow w.heap.size 33 11 (.slice (some ⟨xg,0,none⟩) xs.length xc) xs.length (cs xs)):=row_fw O5.out f lp
     have L6:Hid (y6.ownsRow w.heap.size 33 11 (.slice (some ⟨lg,0,none⟩) ls.length lc) ls.length (cs ls)):=row_fw L5.out f lp
     clear f k
     obtain⟨k0,_,_,_,_,_,_,_,_,_,_⟩:=st_at (arr_row L6.out) xs.length hlt2
     have kl:=(arr_row L6.out).lt
     cases b with
     |false=>
      go_wp2_with fail
      go_meet
      exact⟨_,rfl,(by intro e;cases e),X6.out,O6.out,L6.out⟩
     |true=>
      go_wp2_with fail
      go_meet
      exact⟨_,rfl,fun _=>hp1,X6.out,O6.out,L6.out⟩
    ·have e1:decide ((ps.length:Int)+1<(m:Int))=false:=by simp;omega
     go_wp2_with fail
     go_meet
     exact⟨_,rfl,(by intro e;cases e),X5.out,O5.out,L5.out⟩
   case rest=>
   obtain⟨b45,rfl,hb45,x6,o6,l6⟩:=hcut
   generalize wc=y6 at x6 o6 l6⊢
   have X6:Hid (PX w p ao n cap bs bH cH nH S bR cR V0 (.slice (some ⟨pg,0,none⟩) ps.length pc) ps y6):=x6
   have O6:Hid (y6.ownsRow w.heap.size 33 11 (.slice (some ⟨xg,0,none⟩) xs.length xc) xs.length (cs xs)):=o6
   have L6:Hid (y6.ownsRow w.heap.size 33 11 (.slice (some ⟨lg,0,none⟩) ls.length lc) ls.length (cs ls)):=l6
   clear x6 o6 l6 X5 O5 L5
   go_upto_if 45 with fail
   have AP:Hid (∀(v:World)(s:SV),PX w p ao n cap bs bH cH nH S bR cR V0 (.slice (some ⟨pg,0,none⟩) ps.length pc) ps v->v.ownsRow w.heap.size 33 11 (.slice (some ⟨xg,0,none⟩) xs.length xc) xs.length (cs xs)->v.ownsRow w.heap.size 33 11 (.slice (some ⟨lg,0,none⟩) ls.length lc) ls.length (cs ls)->∃g2 c2 v2,(Builtin.append_ #[28,28] 28 #[.slice (some ⟨xg,0,none⟩) xs.length xc,.slice (some ⟨v.heap.size,0,none⟩) 1 1]).run Try.prog (v.alloc (.cells (stL s).toArray 33))=.ok (.slice (some ⟨g2,0,none⟩) (xs++[s]).length c2) v2/\g2≠lg/\(∀b∈ps,b.g≠g2)/\PX w p ao n cap bs bH cH nH S bR cR V0 (.slice (some ⟨pg,0,none⟩) ps.length pc) ps v2/\v2.ownsRow w.heap.size 33 11 (.slice (some ⟨g2,0,none⟩) (xs++[s]).length c2) (xs++[s]).length (cs (xs++[s]))/\v2.ownsRow w.heap.size 33 11 (.slice (some ⟨lg,0,none⟩) ls.length lc) ls.length (cs ls)):=fun v s x o l=>by
    have b1:Below v.heap.size v (v.alloc (.cells (stL s).toArray 33)):=(Below.refl _ _).alloc (Nat.le_refl _) _
    have o1:(v.alloc (.cells (stL s).toArray 33)).ownsRow v.heap.size 33 11 (.slice (some ⟨v.heap.size,0,none⟩) [s].length 1) [s].length (cs [s]):=by rw[cs_one];exact World.ownsRow_lit v (stL s).toArray 1 (Nat.le_refl _) (by unfold maxLen;omega) rfl
    obtain⟨g2,c2,v2,hrun,o2,hg,hg'⟩:=app_st _ w.heap.size xg xc xs (row_belowD o b1) _ v.heap.size 1 [s] o1 (by simp;omega) (x.below b1).F.size
    have hl:=(l.lt lg rfl).2
    have hz:(v.alloc (.cells (stL s).toArray 33)).heap.size=v.heap.size+1:=by simp
    exact⟨g2,c2,v2,hrun,by omega,fun b hb=>by have:=HN.out b hb;have:=x.pw.lt b hb;omega,(x.below b1).grw (row_belowD o b1) hg HN.out,o2,row_grw (row_belowD l b1) hg (fun q hq e=>by
     have e1:lg=q:=Option.some.inj hq
     have e2:xg=q:=Option.some.inj e
     omega)⟩
   cases b45 with
   |true=>
    have hp1:=hb45 rfl
    clear hb45
    have hsub:(1:Int)<=(m:Int)-(ps.length:Int)-1:=by omega
    go_wp2_with fail
    refine(l1Below_any p ao n cap _ _ hsub X6.out.K).mono ?_
    rintro e y7⟨q,rfl,q0,q1,f,k⟩
    have X7:=X6.out.fw f k
    have O7:=row_fw O6.out f lp
    have L7:=row_fw L6.out f lp
    obtain⟨s,hs⟩:∃s:SV,(⟨4,0,0,0,0,0,0,0,0,0,(ps.length:Int)+1+q⟩:SV)=s:=⟨_,rfl⟩
    obtain⟨g2,c2,v2,hrun,r1,r2,r3,r4,r5⟩:=AP.out y7 s X7 O7 L7
    have RES:Hid (g2≠lg/\(∀b∈ps,b.g≠g2)/\PX w p ao n cap bs bH cH nH S bR cR V0 (.slice (some ⟨pg,0,none⟩) ps.length pc) ps v2/\v2.ownsRow w.heap.size 33 11 (.slice (some ⟨g2,0,none⟩) (xs++[s]).length c2) (xs++[s]).length (cs (xs++[s]))/\v2.ownsRow w.heap.size 33 11 (.slice (some ⟨lg,0,none⟩) ls.length lc) ls.length (cs ls)):=⟨r1,r2,r3,r4,r5⟩
    rw[<-hs]at hrun
    unfold stL at hrun
    dsimp only at hrun
    obtain⟨zs,hzs⟩:∃zs,xs++[s]=zs:=⟨_,rfl⟩
    rw[hs,hzs]at hrun
    rw[hzs]at RES
    have hzl:zs.length=xs.length+1:=by rw[<-hzs];simp
    have HZL:Hid (zs.length=xs.length+1):=hzl
    clear f k X7 O7 L7 r1 r2 r3 r4 r5 hs hzs hzl
    go_wp2_with(first|(at_builtin;refine wpList_app rfl _ _ 28 rfl rfl rfl hrun ?_))
    clear hrun
    go_roundw
    case rel=>exact⟨zs,g2,c2,rfl,by rw[HZL.out];simp,by have:=HZL.out;omega,RES.out.1,RES.out.2.1,RES.out.2.2.1,RES.out.2.2.2.1,RES.out.2.2.2.2⟩
    case measure=>simp[intOf];omega
   |false=>
    clear hb45
    obtain⟨k0,k1,k2,k3,k4,k5,k6,k7,k8,k9,k10⟩:=st_at (arr_row L6.out) xs.length hlt2
    have kl:=(arr_row L6.out).lt
    obtain⟨s,hs⟩:∃s:SV,lst ls xs.length=s:=⟨_,rfl⟩
    rw[hs]at k0 k1 k2 k3 k4 k5 k6 k7 k8 k9 k10
    obtain⟨g2,c2,v2,hrun,r1,r2,r3,r4,r5⟩:=AP.out y6 s X6.out O6.out L6.out
    have RES:Hid (g2≠lg/\(∀b∈ps,b.g≠g2)/\PX w p ao n cap bs bH cH nH S bR cR V0 (.slice (some ⟨pg,0,none⟩) ps.length pc) ps v2/\v2.ownsRow w.heap.size 33 11 (.slice (some ⟨g2,0,none⟩) (xs++[s]).length c2) (xs++[s]).length (cs (xs++[s]))/\v2.ownsRow w.heap.size 33 11 (.slice (some ⟨lg,0,none⟩) ls.length lc) ls.length (cs ls)):=⟨r1,r2,r3,r4,r5⟩
    unfold stL at hrun
    obtain⟨zs,hzs⟩:∃zs,xs++[s]=zs:=⟨_,rfl⟩
    rw[hzs]at hrun RES
    have HZL:Hid (zs.length=xs.length+1):=(by rw[<-hzs];simp:zs.length=xs.length+1)
    clear r1 r2 r3 r4 r5 hs hzs
    go_wp2_with(first|(at_builtin;refine wpList_app rfl _ _ 28 rfl rfl rfl hrun ?_))
    clear hrun
    go_roundw
    case rel=>exact⟨zs,g2,c2,rfl,by rw[HZL.out];simp,by have:=HZL.out;omega,RES.out.1,RES.out.2.1,RES.out.2.2.1,RES.out.2.2.2.1,RES.out.2.2.2.2⟩
    case measure=>simp[intOf];omega
structure QX(w:World)(p:Nat)(ao:Option Addr)(n cap:Nat)(pg pc:Nat)(ps:List BD)(u:World):Prop where
 F:Fw p w u
 K:Cur u p ao n cap
 row:u.ownsRow w.heap.size 35 1 (.slice (some ⟨pg,0,none⟩) ps.length pc) ps.length (ps.map BD.v)
 pw:PW u w.heap.size 100000 ps
 lp:p<w.heap.size
section
variable{w:World}{p:Nat}{ao:Option Addr}{n cap pg pc:Nat}{ps:List BD}{u u':World}
theorem QX.fw(h:QX w p ao n cap pg pc ps u)(f:Fw p u u')(k:Cur u' p ao n cap):QX w p ao n cap pg pc ps u':=⟨h.F.trans f,k,row_fw h.row f h.lp,h.pw.fw f h.lp,h.lp⟩
theorem QX.below(h:QX w p ao n cap pg pc ps u)(f:Below u.heap.size u u'):QX w p ao n cap pg pc ps u':=h.fw (.of_below f) (h.K.below f)
theorem QX.grw(h:QX w p ao n cap pg pc ps u){g c:Nat}{xs:List SV}(o:u.ownsRow w.heap.size 33 11 (.slice (some ⟨g,0,none⟩) xs.length c) xs.length (cs xs))(hg:u.grownBy u' (some g))(hn:∀b∈ps,b.g≠g):QX w p ao n cap pg pc ps u':=by
 have ge:=own_ge o (q:=g) rfl;have lp:=h.lp;exact⟨h.F.grown hg (fun q hq=>by have e:=Option.some.inj hq;omega),h.K.grown hg (fun q hq=>by have e:=Option.some.inj hq;omega),row_grw h.row hg (fun q hq e=>own_ne h.row o (by decide) q hq e),h.pw.grw hg hn,h.lp⟩
theorem QX.put(h:QX w p ao n cap pg pc ps u){q:Nat}{vs:Array Value}(hq:u.heap[q]?=some (.cells vs 33))(hw:w.heap.size<=q)(hn:∀b∈ps,b.g≠q)(j:Nat)(v:Value):QX w p ao n cap pg pc ps (u.setCell ⟨q,j,none⟩ v):=
 ⟨h.F.put hw _ _,h.K.put (by have:=h.lp;omega) _ _,row_put h.row (grown_ne hq h.row (by decide)) _ _,fun b hb=>⟨row_put (h.pw b hb).1 (fun e=>hn b hb (Option.some.inj e)) _ _,(h.pw b hb).2⟩,h.lp⟩
theorem QX.setP(h:QX w p ao n cap pg pc ps u){i:Nat}{b:BD}(hb:u.ownsRow w.heap.size 33 11 b.v b.xs.length (cs b.xs))(hl:b.xs.length<=100000):QX w p ao n cap pg pc (ps.set i b) (u.setCell ⟨pg,i,none⟩ b.v):=by
 have lp:=h.lp;have ge:=own_ge h.row (q:=pg) rfl;have rw1:∀{s n:Nat}{v2:Value}{ys:List Value},u.ownsRow w.heap.size 33 s v2 n ys->(u.setCell ⟨pg,i,none⟩ b.v).ownsRow w.heap.size 33 s v2 n ys:=fun r=>row_put r (fun e=>own_ne r h.row (by decide) pg e rfl) _ _
 have rs:=(h.row.stored i b.v).1;refine⟨h.F.put ge _ _,h.K.put (by omega) _ _,?_,fun q hq=>?_,h.lp⟩
 ·rw[List.length_set,List.map_set]
  exact rs
 ·rcases List.mem_or_eq_of_mem_set hq with hq|hq
  ·exact⟨rw1 (h.pw q hq).1,(h.pw q hq).2⟩
  ·rw[hq];exact⟨rw1 hb,hl⟩
theorem QX.add(h:QX w p ao n cap pg pc ps u){g2 c2:Nat}{b:BD}(hg:u.grownBy u' (some pg))(o:u'.ownsRow w.heap.size 35 1 (.slice (some ⟨g2,0,none⟩) (ps.length+1) c2) (ps.length+1) (ps.map BD.v++[b.v]))(hb:u.ownsRow w.heap.size 33 11 b.v b.xs.length (cs b.xs))(hl:b.xs.length<=100000):QX w p ao n cap g2 c2 (ps++[b]) u':=by
 have lp:=h.lp;have ge:=own_ge h.row (q:=pg) rfl;have rg:∀{B s n:Nat}{v2:Value}{ys:List Value},u.ownsRow B 33 s v2 n ys->u'.ownsRow B 33 s v2 n ys:=fun r=>row_grw r hg (fun q hq e=>own_ne r h.row (by decide) q hq e)
 have pw2:PW u' w.heap.size 100000 ps:=fun q hq=>⟨rg (h.pw q hq).1,(h.pw q hq).2⟩
 exact⟨h.F.grown hg (fun q hq=>by have e:=Option.some.inj hq;omega),h.K.grown hg (fun q hq=>by have e:=Option.some.inj hq;omega),by simpa using o,pw2.snoc (rg hb) hl,h.lp⟩
end
theorem app_at(w:World)(B g cg:Nat)(xs:List SV)(o:w.ownsRow B 33 11 (.slice (some ⟨g,0,none⟩) xs.length cg) xs.length (cs xs))(ad:Addr)(m cg':Nat)(ys:List SV)(hm:m=ys.length)(hc:∀j u,(cs ys)[j]?=some u->w.cell? (ad.add j)=some u)(hl:xs.length+ys.length<=1048576)(hB:B<=w.heap.size):
 ∃g2 c2 w',(Builtin.append_ #[28,28] 28 #[.slice (some ⟨g,0,none⟩) xs.length cg,.slice (some ad) m cg']).run Try.prog w=.ok (.slice (some ⟨g2,0,none⟩) (xs++ys).length c2) w'/\w'.ownsRow B 33 11 (.slice (some ⟨g2,0,none⟩) (xs++ys).length c2) (xs++ys).length (cs (xs++ys))/\w.grownBy w' (some g)/\(g2=g∨g2=w.heap.size):=by
 subst hm;obtain⟨iS,gS,gS0,gS1,gS2⟩:=info_parts info_cSt;obtain⟨v',w',h1,h2,h3,h4,h5⟩:=run_append_own_at (P:=Try.prog) w B 28 28 33 iS _ 11 88 Try.underlying28 gS gS0 gS1 gS2 rfl (by decide) _ _ _ o ad ys.length cg' (cs ys) (cs_len ys) hc (cs_one1 ys) (by unfold maxLen;omega) (by omega) hB;have hn:v'≠ .slice none 0 0:=fun e=>by
  have:=(h4.1 e).1;simp at this
 obtain⟨g2,c2,rfl⟩:=row_nn h2 hn;rw[<-List.length_append,<-cs_app]at h2;rw[<-List.length_append]at h1;refine⟨g2,c2,w',h1,by simpa using h2,h3,?_⟩;rcases h5 with h5|h5
 ·exact Or.inl (Option.some.inj h5)
 ·exact Or.inr (Option.some.inj h5)
theorem cs_take:∀(xs:List SV)(k:Nat),cs (xs.take k)=(cs xs).take (k*11)
 |xs,0=>by simp[cs]
 |[],k+1=>by simp[cs]
 |x::l,k+1=>by
  show stL x++cs (l.take k)=(stL x++cs l).take ((k+1)*11);rw[cs_take l k,show(k+1)*11=(stL x).length+k*11 by show _=11+k*11;omega,List.take_length_add_append]
theorem cs_drop:∀(xs:List SV)(k:Nat),cs (xs.drop k)=(cs xs).drop (k*11)
 |xs,0=>by simp
 |[],k+1=>by simp[cs]
 |x::l,k+1=>by
  show cs (l.drop k)=(stL x++cs l).drop ((k+1)*11);rw[cs_drop l k,show(k+1)*11=(stL x).length+k*11 by show _=11+k*11;omega,List.drop_length_add_append]
theorem readyH_app2{P:Program}{md:Region.Mode}{ops:Array Oper}{Q:Exit->Act->World->Prop}{S:World->Prop}{fuel i:Nat}{is:List Nat}{listed:Array Bool}{a:Act}{w w':World}{o:Oper}(s x:Operand){t:TypeId}{v u v':Value}(ho:ops[i]?=some o)(hw:Region.wanted o (yielded ops a.tmps)=true)
 (hop:o.op=.call {callee:=.builtin .append,args:=#[s,x],argTypes:=#[t,t]})(hs:a.eval s=v)(hx:a.eval x=u)(hr:(Builtin.append_ #[t,t] o.type #[v,u]).run P w=.ok v' w')(hS:S w')(h:S w'->wpAnyH P md ops Q S fuel (listed.setIfInBounds i true) (a.put o.dst v') w')(hrest:AllReadyH P md ops Q S fuel listed a w is):AllReadyH P md ops Q S fuel listed a w (i::is):=
 AllReadyH.cons ho (fun K' hK=>by
  rw[if_pos hw];unfold Oper.wp execOp;simp only[hop,resolve,invoke,builtin,Sem.run_bind,Sem.run_pure,Result.andThen_ok,List.map_toArray,List.map_cons,List.map_nil,hs,hx,hr];exact hK _ _ hS h) hrest
theorem app_one{w:World}{p:Nat}{ao:Option Addr}{n cap pg pc:Nat}{ps:List BD}(v:World)(g c:Nat)(zs:List SV)(s:SV)(Q:QX w p ao n cap pg pc ps v)(o:v.ownsRow w.heap.size 33 11 (.slice (some ⟨g,0,none⟩) zs.length c) zs.length (cs zs))(hn:∀b∈ps,b.g≠g)(hl:zs.length<=1000000):
 ∃g2 c2 v2 ys,(Builtin.append_ #[28,28] 28 #[.slice (some ⟨g,0,none⟩) zs.length c,.slice (some ⟨v.heap.size,0,none⟩) 1 1]).run Try.prog (v.alloc (.cells (stL s).toArray 33))=.ok (.slice (some ⟨g2,0,none⟩) ys.length c2) v2/\ys.length=zs.length+1/\QX w p ao n cap pg pc ps v2/\v2.ownsRow w.heap.size 33 11 (.slice (some ⟨g2,0,none⟩) ys.length c2) ys.length (cs ys)/\(∀b∈ps,b.g≠g2)/\(∀(g' c':Nat)(xs:List SV),g'≠g->v.ownsRow w.heap.size 33 11 (.slice (some ⟨g',0,none⟩) xs.length c') xs.length (cs xs)->g'≠g2/\v2.ownsRow w.heap.size 33 11 (.slice (some ⟨g',0,none⟩) xs.length c') xs.length (cs xs))/\(∀(q:Nat)(r:Obj),q≠g->v.heap[q]?=some r->q≠g2/\v2.heap[q]?=some r):=by
 have b1:Below v.heap.size v (v.alloc (.cells (stL s).toArray 33)):=(Below.refl _ _).alloc (Nat.le_refl _) _;have o1:(v.alloc (.cells (stL s).toArray 33)).ownsRow v.heap.size 33 11 (.slice (some ⟨v.heap.size,0,none⟩) [s].length 1) [s].length (cs [s]):=by rw[cs_one];exact World.ownsRow_lit v (stL s).toArray 1 (Nat.le_refl _) (by unfold maxLen;omega) rfl
 obtain⟨g2,c2,v2,hrun,o2,hg,hg'⟩:=app_st _ w.heap.size g c zs (row_belowD o b1) _ v.heap.size 1 [s] o1 (by simp;omega) (Q.below b1).F.size;have hz:(v.alloc (.cells (stL s).toArray 33)).heap.size=v.heap.size+1:=by simp
 refine⟨g2,c2,v2,zs++[s],hrun,by simp,(Q.below b1).grw (row_belowD o b1) hg hn,o2,fun b hb=>by have:=hn b hb;have:=Q.pw.lt b hb;omega,fun g' c' xs hne r=>⟨by have:=(r.lt g' rfl).2;omega,row_grw (row_belowD r b1) hg (fun q hq e=>by
  have e1:g'=q:=Option.some.inj hq;have e2:g=q:=Option.some.inj e;omega)⟩,fun q r hne hq=>⟨by have:=hq_lt hq;omega,grown_obj (hq_below hq b1) hg (fun e=>hne (Option.some.inj e).symm)⟩⟩
end Go.Proofs.Ytplnpgohdgialaa
