import Derived.Test.YtcjnmdgomocpgaaGreatDoorOfFu6f
set_option maxHeartbeats 32000000
set_option maxRecDepth 20000
namespace Go.Proofs.YtcjnmdgomocpgaaGreatDoor
open Go.RowKit Go.Deep
theorem Ga.putA{w:World}{p:Nat}{U:Option Addr}{n Y:Nat}{bH M o:Nat}{S:Nat->HS}{D cR:Nat}{O:Nat->VV}{bA cA:Nat}{V:Nat->VV}{z c:Int}{bs L Q:Nat}{u:World}(h:Ga w p U n Y bH M o S D cR O bA cA V z c bs L Q u){g2 c2:Nat}{V2:Nat->VV}{z2 B:Int}(a:Ak u g2 (8*6) (vF V2))(x:BK o S 8 O 8 V2 z2 B=true)(e:g2≠L)(j:g2≠Q)(k:g2≠p):Ga w p U n Y bH M o S D cR O g2 c2 V2 z2 B bs L Q (((u.setCell (Va L 0) (Vs g2 8 c2)).setCell (Va L 1) (Vi z2)).setCell (Va L 2) (Vi B)):=by
 have l:=h.pw;have m:=h.o1;have q:=h.o2;have s:=h.o3;have b:=h.n1;have d:=h.n2;exact⟨GI h.F AB _ _ _,Ez h.K AB _ _ _,Ao (Ao (Ao h.sg AB _ _) AB _ _) AB _ _,h.A.set _ _ _,Ao (Ao (Ao h.R AB _ _) AB _ _) AB _ _,⟨EI h.sc.h AB _ _ _,EI h.sc.r AB _ _ _⟩,EI a e _ _ _,x,h.lH,l,m,q,s,b,d,j,h.p1,h.p2,k⟩
theorem vQ{u:World}{g L t:Nat}{f:Nat->Value}{x y z:Value}(a:Ak u g (8*6) f)(h:V3 u L t x y z):g≠L:=fun e=>by
 have q:=a.cell (i:=3) AB;rw[e,AJ h 3]at q;simp at q
theorem Ut(d:Nat)(hd:d<=3)(IH:∀d',d=d'+1->fG d'):fG d:=by
 intro p ao n B bH cH nH S bR cR V0 bA M V z c m ah w hm hc h1 h2 h3 p1 p2 p3;have X0:Hid (Ga w p ao n B bH cH nH S bR cR V0 bA M V z c w.heap.size (w.heap.size+1) (w.heap.size+1+1) (((w.alloc (.cells #[Vs bH nH cH,Vs bR 8 cR] 26)).alloc (.cells #[Vs bA 8 M,Vi z,Vi c] 31)).alloc (.cells #[.slice none 0 0,Vi 0,Vi 0] 31))):=Rx w hc h1 h2 h3 p1 p2 p3;have LA:Hid (bA<w.heap.size/\bA≠p):=⟨h2.lt,p3⟩
 have lp:=hc.lt;have aS:=Xz hd;have aT:=PO d;clear hc h1 h2 h3 p1 p2 p3;go_enter Tryz.func49,Tryz.ntmps49;go_upto_region 1 with fail;obtain⟨u,hu⟩:=Au (((w.alloc (.cells #[Vs bH nH cH,Vs bR 8 cR] 26)).alloc (.cells #[Vs bA 8 M,Vi z,Vi c] 31)).alloc (.cells #[.slice none 0 0,Vi 0,Vi 0] 31));rw[hu]at X0⊢;obtain⟨bs,am⟩:=Au w.heap.size;obtain⟨ba,aa⟩:=Au (w.heap.size+1);obtain⟨U,aw⟩:=Au (w.heap.size+1+1);have X0:Hid (Ga w p ao n B bH cH nH S bR cR V0 bA M V z c bs ba U u):=by rw[<-am,<-aa,<-aw];exact X0
 rw[aw,aa,am];have BO:Hid (w.heap.size=bs/\bs<ba/\ba<U):=⟨am,AB,AB⟩
 clear hu am aa aw;go_upto_region 2 with fail;obtain⟨u0,aI,b0,o0⟩:∃y,u.alloc (.cells #[] 117)=y/\Bw u y/\y.ownsRow u.heap.size 117 11 (Vs u.heap.size ([]:List SV).length 0) ([]:List SV).length (Es []):=⟨_,rfl,Ai,World.ownsRow_lit u #[] 0 BQ (by unfold maxLen;omega) rfl⟩
 rw[aI];have X1:=hxy (X0.below b0);have O1:=hxy (ES o0 X0.F.size);obtain⟨an,aG⟩:=Au u.heap.size;rw[aG]at O1⊢;have aN:Hid (an≠bA):=(by have:=LA.out;have:=O1.lt an rfl;omega:an≠bA)
 clear aI b0 o0 aG X0;go_wp2_with fail;go_loopw [14,15](fun ov iv wr=>∃(k:Nat)(og oc:Nat)(xs:List SV)(E M:Nat)(V:Nat->VV)(z c:Int),ov=Vs og xs.length oc/\iv=Vi (k:Int)/\k<=m/\Hid (Wl xs/\(E=bA∨w.heap.size<=E)/\og≠E)/\xs.length<=k*gb d/\Ga w p ao n B bH cH nH S bR cR V0 E M V z c bs ba U wr/\wr.ownsRow w.heap.size 117 11 (Vs og xs.length oc) xs.length (Es xs))(fun _ iv _=>m-(intOf iv).toNat)
 case atStart=>exact⟨0,an,0,[],bA,M,V,z,c,rfl,rfl,AB,⟨.nil,Or.inl rfl,aN⟩,AX,X1,O1⟩
 case round=>
  clear X1 O1;obtain⟨k,og,oc,xs,E,M,V,z,c,rfl,rfl,hk,HW,aF,x,o⟩:=hrel;have X:=hxy x;have O:=hxy o;clear x o;by_cases a9:k<m
  rotate_left
  ·have aE:¬(k:Int)<(m:Int):=AB
   have aU:xs.length<=m*gb d:=Nat.le_trans aF (Nat.mul_le_mul_right _ hk);go_upto_region 15 with fail;have R9:=X.R;have aa:(some U:Option Nat)≠some ba:=by intro e;have e1:=Option.some.inj e;have:=BO.out;omega
   have aV:(Vs og xs.length oc).ownBlock≠some U:=Ar R9 O Ad;have j0:∀w',Tn (some U) wr w'->w'.cell? (Va ba 0)=some (Vs E 8 M):=fun w' h=>(X.A.tn h aa).cells.1
   have j1:∀w',Tn (some U) wr w'->w'.cell? (Va ba 1)=some (Vi z):=fun w' h=>(X.A.tn h aa).cells.2.1
   have j2:∀w',Tn (some U) wr w'->w'.cell? (Va ba 2)=some (Vi c):=fun w' h=>(X.A.tn h aa).cells.2.2
   refine wp_region_held_drew (S:=fun w'=>Tn (some U) wr w') AV (Tn.of BJ.drew) (fun _=>?_);refine EX [0,1,2] ?_;have ag:Bw wr wr.drew:=BJ.drew;generalize wr.drew=t0 at ag⊢;have R0:=R9.below ag;obtain⟨r0,r1,r2⟩:=R0.cells;have rf:=R0.free;have rl:=R0.lt;have X2:=X.below ag;have RS:Hid (Xt nH S V0 bA (m*gb d) w p ao n B (.returned (.tuple #[Vs og xs.length oc,.agg #[Vs E 8 M,Vi z,Vi c]])) (((t0.setCell (Va U 0) (Vs E 8 M)).setCell (Va U 1) (Vi z)).setCell (Va U 2) (Vi c))):=⟨og,oc,xs,E,M,V,z,c,rfl,HW.1,aU,ER (BM O ag) aV _ _ _,HW.2.1,EI X2.G X2.n3 _ _ _,X2.ok,GI X2.F (by have:=BO.out;omega) _ _ _,Ez X2.K (by have:=BO.out;omega) _ _ _⟩
   have TT:Hid (Tn (some U) wr t0):=Tn.of ag;clear ag R0 X2 R9 j0 j1 j2 X O;refine AO 3 rfl (fun KK hK=>?_);go_simp;refine hK.out _ _ (TT.set3 _ _ _) (fun _=>?_);clear hK KK;refine wpAnyH_done AV ?_ _;go_wp2_with fail;refine mY (.tuple #[Vs og xs.length oc,.agg #[Vs E 8 M,Vi z,Vi c]]) (by simp[results,Tryz.results49,go_sem, *]) RS
  have aE:(k:Int)<(m:Int):=AB;go_wp2_with fail;refine(Af p ao n B 10 _ AB X.K).mono ?_;rintro e v1⟨kk,rfl,bc,a6,f,k'⟩;have X1:=hxy (X.fw f k');have O1:=hxy (Eb O f lp);clear f k' X O;obtain⟨_,⟨a0,a1,a2⟩,ad,ae⟩:=X1.cells;go_upto_region 8 with fail;obtain⟨v2,az,b2⟩:∃y,v1.alloc (.cells #[] 117)=y/\Bw v1 y:=⟨_,rfl,Ai⟩
  have X2:=hxy (X1.below b2);have O2:=BM O1 b2;have e1:v2.heap.size=v1.heap.size+1:=by rw[<-az];simp
  obtain⟨v3,aJ,b3,n3⟩:∃y,v2.alloc (.cells #[Vs E 8 M,Vi z,Vi c] 31)=y/\Bw v2 y/\V3 y v2.heap.size 31 (Vs E 8 M) (Vi z) (Vi c):=⟨_,rfl,Ai,V3.new _ _ _ _ _⟩
  try rw[az]
  try rw[aJ]
  have D:=hxy (X2.below b3);have O3:=hxy (BM O2 b3);obtain⟨nv,ay⟩:=Au v2.heap.size
  have ar:v1.heap.size+1=nv:=AB
  try rw[ay]
  try rw[ar]
  rw[ay]at n3
  have N3:=hxy n3
  have aK:Hid (Fw p v2 v3):=.of_below b3
  have ZV:Hid (v2.heap.size<=nv/\og<v2.heap.size/\E<v2.heap.size/\p<v2.heap.size/\U<v2.heap.size/\w.heap.size<=v2.heap.size/\ba<v2.heap.size):=⟨AB,(O2.lt og rfl).2,X2.G.lt,by have:=X2.F.size;omega,X2.R.lt,X2.F.size,X2.A.lt⟩
  have aM:=hxy O2
  clear az b2 e1 aJ b3 n3 ay ar a0 a1 a2 ad ae X1 O1 O2
  go_cut [34](fun a4 wx=>∃b:Bool,a4=.bool b/\(b=true->0<d)/\wx=v3)
  case first=>
   by_cases ac:kk=0
   ·have e1:(kk==0)=true:=by simp[ac]
    clear ac
    by_cases hd0:0<d
    ·have e2:decide (0<(d:Int))=true:=by simp;omega
     go_wp2_with fail
     go_meet
     exact⟨_,rfl,fun _=>hd0,rfl⟩
    ·have e2:decide (0<(d:Int))=false:=by simp;omega
     go_wp2_with fail
     go_meet
     exact⟨_,rfl,(by intro e;cases e),rfl⟩
   ·have e1:(kk==0)=false:=by simp[ac]
    go_wp2_with fail
    go_meet
    exact⟨_,rfl,(by intro e;cases e),rfl⟩
  case rest=>
  obtain⟨aP,rfl,ai,al⟩:=hcut
  rw[al]
  clear al
  go_upto_if 34 with fail
  go_cut [17](fun a3 wx=>∃(Z Y:Nat)(s:List SV)(a j:Nat)(Q:Nat->VV)(N L:Int),a3=Vs Z s.length Y/\Wl s/\s.length<=gb d/\DR nH S V0 E v2 p ao n B Z Y s nv a j Q N L wx)
  case first=>
   obtain⟨⟨s0,s1⟩,⟨a0,a1,a2⟩,ad,ae⟩:=D.cells
   have av:Hid (∀(v4:World)(Z Y:Nat)(s:List SV)(a j:Nat)(Q:Nat->VV)(N L:Int)(mm:Nat),mm<=gb d->Wl s->s.length<=mm->v4.ownsRow v3.heap.size 117 11 (Vs Z s.length Y) s.length (Es s)->(a=E∨v3.heap.size<=a)->Ak v4 a (8*6) (vF Q)->BK nH S 8 V0 8 Q N L=true->Fw p v3 v4->CJ v4 p ao n B->Wl s/\s.length<=gb d/\DR nH S V0 E v2 p ao n B Z Y s nv a j Q N L (((v4.setCell (Va nv 0) (Vs a 8 j)).setCell (Va nv 1) (Vi N)).setCell (Va nv 2) (Vi L))/\V3 v4 nv 31 (Vs E 8 M) (Vi z) (Vi c)):=fun v4 Z Y s a j Q N L mm bb I hl l C hA J f k'=>by
    have zv:=ZV.out
    exact⟨I,AB,Ky aK AB AB N3 AB l C hA J f k',Ct N3 f AB⟩
   cases aP with
   |true=>
    obtain⟨d',ab⟩:∃d',d=d'+1:=⟨d-1,by have:=ai rfl;omega⟩
    have r:=Ul d' (IH d' ab) AB p ao n B bH cH nH S bR cR V0 E M V z c ah v3 D.K D.sc D.G D.ok D.p1 D.p2 D.p3
    rw[<-ab]at r
    have HC:Hid _:=r
    clear r ab ai
    go_wp2_with fail
    refine Calls.mono HC ?_
    rintro e v4⟨Z,Y,s,a,j,Q,N,L,rfl,I,hl,l,C,hA,J,f,k'⟩
    have R:=av.out v4 Z Y s a j Q N L _ BQ I hl l C hA J f k'
    have RR:Hid _:=R
    obtain⟨n0,n1,n2⟩:=R.2.2.2.cells
    have nf:=R.2.2.2.free
    have nl:=R.2.2.2.lt
    clear R I hl l C hA J f k' s0 s1 a0 a1 a2 ad ae
    go_wp2_with fail
    go_meet
    exact⟨Z,Y,s,a,j,Q,N,L,rfl,RR.1,RR.2.1,RR.2.2.1⟩
   |false=>
    clear ai
    go_upto_region 10 with fail
    go_cut [49](fun a5 wx=>∃b:Bool,a5=.bool b/\(b=true->0<d)/\wx=v3)
    case first=>
     by_cases ac:kk=1
     ·have e1:(kk==1)=true:=by simp[ac]
      clear ac
      by_cases hd0:0<d
      ·have e2:decide (0<(d:Int))=true:=by simp;omega
       go_wp2_with fail
       go_meet
       exact⟨_,rfl,fun _=>hd0,rfl⟩
      ·have e2:decide (0<(d:Int))=false:=by simp;omega
       go_wp2_with fail
       go_meet
       exact⟨_,rfl,(by intro e;cases e),rfl⟩
     ·have e1:(kk==1)=false:=by simp[ac]
      go_wp2_with fail
      go_meet
      exact⟨_,rfl,(by intro e;cases e),rfl⟩
    case rest=>
    obtain⟨aQ,rfl,aj,al⟩:=hcut
    rw[al]
    clear al
    cases aQ with
    |true=>
     obtain⟨d',ab⟩:∃d',d=d'+1:=⟨d-1,by have:=aj rfl;omega⟩
     have r:=QA d' (IH d' ab) AB p ao n B bH cH nH S bR cR V0 E M V z c ah v3 D.K D.sc D.G D.ok D.p1 D.p2 D.p3
     rw[<-ab]at r
     have HC:Hid _:=r
     clear r ab aj
     go_wp2_with fail
     refine Calls.mono HC ?_
     rintro e v4⟨Z,Y,s,a,j,Q,N,L,rfl,I,hl,l,C,hA,J,f,k'⟩
     have R:=av.out v4 Z Y s a j Q N L _ BQ I hl l C hA J f k'
     have RR:Hid _:=R
     obtain⟨n0,n1,n2⟩:=R.2.2.2.cells
     have nf:=R.2.2.2.free
     have nl:=R.2.2.2.lt
     clear R I hl l C hA J f k' s0 s1 a0 a1 a2 ad ae
     go_wp2_with fail
     go_meet
     exact⟨Z,Y,s,a,j,Q,N,L,rfl,RR.1,RR.2.1,RR.2.2.1⟩
    |false=>
     clear aj
     go_wp2_with fail
     refine(Gs p ao n B bH cH nH S bR cR V0 E M V z c ah v3 D.K D.sc D.G D.ok D.p1 D.p2 D.p3).mono ?_
     rintro e v4⟨Z,Y,s,a,j,Q,N,L,rfl,I,hl,l,C,hA,J,f,k'⟩
     have R:=av.out v4 Z Y s a j Q N L 1 aT I hl l C hA J f k'
     have RR:Hid _:=R
     obtain⟨n0,n1,n2⟩:=R.2.2.2.cells
     have nf:=R.2.2.2.free
     have nl:=R.2.2.2.lt
     clear R I hl l C hA J f k' s0 s1 a0 a1 a2 ad ae
     go_wp2_with fail
     go_meet
     exact⟨Z,Y,s,a,j,Q,N,L,rfl,RR.1,RR.2.1,RR.2.2.1⟩
  case rest=>
  obtain⟨Z,Y,s,a,j,Q,N,L,rfl,aB,au,dr⟩:=hcut
  generalize wc=v4 at dr⊢
  have X4:=hxy (X2.fw dr.F dr.K)
  have O4:=hxy (Eb aM dr.F lp)
  have aC:=hxy dr
  have a7:Hid (Wl s/\s.length<=gb d):=⟨aB,au⟩
  have a8:k*gb d<=30*1000:=Nat.mul_le_mul AB aS
  obtain⟨g2,c2,v5,ak,o5,hg,aR⟩:=Ju v4 w.heap.size og oc xs O4 _ Z Y s dr.row AB X4.F.size
  obtain⟨ys,aA⟩:=Au (xs++s)
  rw[aA]at ak o5
  have aH:=Hz O4 (q:=og) rfl
  have ty:∀{b t:Nat}{vs:Array Value},v4.heap[b]?=some (.cells vs t)->t≠117->og≠b:=fun hx he e=>Ar hx O4 he (by rw[e];rfl)
  have zv:=ZV.out
  have C:=dr.nw
  have aD:=HW.2.2
  have ap:og≠a:=AB
  have X5:Hid (Ga w p ao n B bH cH nH S bR cR V0 E M V z c bs ba U v5):=X4.grw hg aH (ty X4.sg Ad) (ty X4.A Ad) (ty X4.R Ad) aD
  have N5:Hid (V3 v5 nv 31 (Vs a 8 j) (Vi N) (Vi L)):=Be dr.P hg (fun e=>ty dr.P Ad (Option.some.inj e))
  have A5:Hid (Ak v5 a (8*6) (vF Q)):=dr.A.grw hg (fun e=>ap (Option.some.inj e))
  have aO:=hxy dr.ok
  have O5:=hxy o5
  have WY:Hid (Wl ys/\ys.length<=(k+1)*gb d):=(by
   rw[<-aA]
   exact⟨HW.1.app aB,by rw[Nat.add_mul,Nat.one_mul,List.length_append];omega⟩:Wl ys/\ys.length<=(k+1)*gb d)
  have aX:a≠U:=by have:=X4.n3;omega
  have aW:=vQ aC.A X4.A
  have aY:a≠p:=by have:=X4.p3;omega
  have aZ:g2≠a:=by have:=dr.A.lt;omega
  have NW:Hid (a=bA∨w.heap.size<=a):=(by have:=HW.2.1;omega:a=bA∨w.heap.size<=a)
  have ax:(Vs g2 ys.length c2).ownBlock≠some ba:=Ar X5.A O5 Ad
  clear hg aR aA o5 ty dr aB au zv C aD ap X4 O4 aC
  go_upto_region 14 with(first|(at_builtin;refine FO rfl _ _ 27 rfl rfl rfl ak ?_))
  clear ak
  obtain⟨n0,n1,n2⟩:=N5.cells
  have nl:=N5.lt
  obtain⟨_,⟨a0,a1,a2⟩,ad,ae⟩:=X5.cells
  have af:=X5.A.free
  have Y5:Hid (Ga w p ao n B bH cH nH S bR cR V0 a j Q N L bs ba U (((v5.setCell (Va ba 0) (Vs a 8 j)).setCell (Va ba 1) (Vi N)).setCell (Va ba 2) (Vi L))):=X5.putA A5 aO aW aX aY
  clear X5 N5 A5
  go_wp2_with fail
  go_roundw
  case rel=>exact⟨k+1,g2,c2,ys,a,j,Q,N,L,rfl,by go_num,AB,⟨WY.1,NW,aZ⟩,WY.2,Y5,ER O5 ax _ _ _⟩
  case measure=>simp[intOf];omega
theorem QZ:∀(d:Nat),d<=3->fG d
 |0,h=>Ut 0 h (fun a e=>by omega)
 |d+1,h=>Ut (d+1) h (fun a e=>by rw[show a=d by omega];exact QZ d AB)
def yj(m:Nat)(w:World)(p:Nat)(ao:Option Addr)(n cap:Nat)(e:Ending)(w':World):Prop:=
 ∃(g cg:Nat)(xs:List SV),e=.returned (Vs g xs.length cg)/\xs.length<=m/\w'.ownsRow w.heap.size 117 11 (Vs g xs.length cg) xs.length (Es xs)/\Fw p w w'/\CJ w' p ao n cap
theorem nC{o:Nat}{S:Nat->HS}{O:Nat->VV}(h:Db o S 8 O=true):BK o S 8 O 8 O 0 0=true:=by
 have a:=h;unfold Db Dq at a;simp only[Bool.and_eq_true,decide_eq_true_eq,List.all_eq_true,List.mem_range,gv]at a;exact Co.2 ⟨h,rfl,a.2.2,⟨AB,AB⟩,AB,AB⟩
theorem NT(p:Nat)(D:Option Addr)(n a:Nat)(A U B:Nat)(S:Nat->HS)(c J:Nat)(l:Nat->VV)(w:World)(hc:CJ w p D n a)(h1:Ck w A B S c 8 l)(h3:Db B S 8 l=true)(p1:A≠p)(p2:c≠p):
 Ks 17 #[Vq p,.agg #[Vs A B U,Vs c 8 J]] w (yj 9330 w p D n a):=by
 have HC:=hxy hc;have HS:=hxy h1;have OK:=hxy (nC h3);have lp:=hc.lt;have l1:=h1.h.lt;have l2:=h1.r.lt;obtain⟨iV,gV,aa,ab,ac⟩:=info_parts LC;have o:Hid (_/\_/\_/\_):=⟨gV,aa,ab,ac⟩
 go_enter Tryz.func17,Tryz.ntmps17;go_upto_region 1 with fail;obtain⟨y0,ak,b0⟩:∃y,w.alloc (.cells #[Vs A B U,Vs c 8 J] 26)=y/\Bw w y:=⟨_,rfl,Ai⟩
 have O:=Az w (.cells #[Vs A B U,Vs c 8 J] 26);rw[ak]at O⊢;obtain⟨bs,K⟩:=Au w.heap.size;rw[K]at O⊢;have N0:=hxy O;have F0:Hid (Fw p w y0):=.of_below b0;have K0:=hxy (HC.below b0);have S0:=hxy (HS.below b0);have L:p≠bs:=AB;have ap:=hxy K;go_wp2_with fail;refine(Af p D n a 9 _ AB K0).mono ?_;rintro e y1⟨x,rfl,x0,x9,f,k⟩;have N1:=hxy (Ct N0 f L);have F1:=hxy (F0.trans f);have K1:=hxy k;have S1:Hid (Ck y1 A B S c 8 l):=⟨f.arr S0.h p1,f.arr S0.r p2⟩
 go_wp2_with fail;refine(Ed p D n a 40 _ AB K1).mono ?_;rintro e d⟨b,rfl,f,k⟩;have N2:=hxy (Ct N1 f L);have F2:=hxy (F1.trans f);have K2:=hxy k;have S2:Hid (Ck d A B S c 8 l):=⟨f.arr S1.h p1,f.arr S1.r p2⟩
 go_upto_if 13 with fail;go_cut [5](fun s5 wx=>(∃m:Nat,s5=Vi (m:Int)/\m<=30)/\wx=d)
 case first=>
  cases b with
  |true=>
   go_wp2_with fail;go_meet;exact⟨⟨30,rfl,AB⟩,rfl⟩
  |false=>
   go_wp2_with fail;go_meet;exact⟨⟨(2+x).toNat,by rw[show(((2+x).toNat:Nat):Int)=2+x by omega],AB⟩,rfl⟩
 case rest=>
 obtain⟨⟨m,rfl,hm⟩,aj⟩:=hcut;rw[aj];obtain⟨y3,av,I,o3⟩:∃y,d.alloc (.cells #[] 47)=y/\Bw d y/\y.ownsRow d.heap.size 47 6 (Vs d.heap.size 0 0) 0 []:=⟨_,rfl,Ai,World.ownsRow_lit d #[] 0 BQ (by unfold maxLen;omega) rfl⟩
 have Y:=Ac N2 I;have O:=(AJ Y 0).trans rfl;have n1:=(AJ Y 1).trans rfl;have nl:=Bp Y;have ae:∀j v,(first (8*6) (vF l))[j]?=some v->y3.cell? ((⟨c,0,none⟩:Addr).add j)=some v:=fun j v hj=>by
  obtain⟨ag,rfl⟩:=Ca hj;rw[Addr.add_lit,Nat.zero_add];exact(I.cell (p:=Va c j) S2.r.lt).trans (S2.r.cell ag)
 have ad:∀u∈first (8*6) (vF l),u.oneCell'=true:=by
  intro v hv;obtain⟨j,hj,rfl⟩:=Cv hv;unfold vF;have:j%6<6:=Nat.mod_lt _ Ad;generalize j%6=q at this⊢;match q,this with
  |0,_=>rfl
  |1,_=>rfl
  |2,_=>rfl
  |3,_=>rfl
  |4,_=>rfl
  |5,_=>rfl
 obtain⟨v',F,N,o4,hg,_,_⟩:=run_append_own_at (P:=Tryz.prog) y3 d.heap.size 24 24 47 iV _ 6 48 Tryz.underlying24 o.1 o.2.1 o.2.2.1 o.2.2.2 rfl Ad _ _ _ o3 ⟨c,0,none⟩ 8 J (first (8*6) (vF l)) (Aw _ _) ae ad (by unfold maxLen;omega) AB I.size;have C:F.ownsRow d.heap.size 47 6 v' 8 (first (8*6) (vF l)):=by simpa using o4
 obtain⟨E,cA,rfl⟩:=Dy C AB;have b4:Bw d F:=I.trans (BJ.grown hg I.size (by intro k hk;simp[Value.ownBlock]at hk;omega));have AA:=hxy (Gy C);have ar:d.heap.size<=E:=(C.lt E rfl).1;go_upto_region 5 with(first|(at_builtin;refine FO rfl _ _ 24 rfl rfl rfl N ?_));obtain⟨y5,am,b5⟩:∃y,F.alloc (.cells #[Vs E 8 cA,Vi 0,Vi 0] 31)=y/\Bw F y:=⟨_,rfl,Ai⟩
 have X:=V3.new F 31 (Vs E 8 cA) (Vi 0) (Vi 0);rw[am]at X⊢;have z:=b4.trans (b5.mono b4.size);have F5:Hid (Fw p w y5):=F2.trans (.of_below z);have K5:=hxy (K2.below z);have S5:=hxy (S2.below z);have A5:=hxy (AA.below b5 AA.lt);have Z:=Ac N2 z;obtain⟨na,ah⟩:=Au F.heap.size;rw[ah]at X⊢;have a0:=X.cells;have al:=X.lt;have af:E≠p:=by have:=F2.size;omega
 have ai:=F5.size;have O:=(AJ Z 0).trans rfl;have n1:=(AJ Z 1).trans rfl;have nl:=Bp Z;go_wp2_with fail;refine(QZ 3 AB p D n a A U B S c J l E cA l 0 0 m (-1) y5 hm K5 S5 A5 OK p1 p2 af).mono ?_;rintro e R⟨g,cg,Q,gB,cB,V',z',c',rfl,au,an,M,aw,hA,ax,f,k'⟩;have s:Hid (Q.length<=9330/\R.ownsRow w.heap.size 117 11 (Vs g Q.length cg) Q.length (Es Q)/\Fw p w R/\CJ R p D n a):=⟨by have:m*gb 3<=30*311:=Nat.mul_le_mul hm Ad;omega,ES M ai,F5.trans f,k'⟩
 go_wp2_with fail;go_ret;have bn:Bw R (R.alloc (.cells #[Vs gB 8 cB,Vi z',Vi c'] 31)):=Ai;exact⟨g,cg,Q,rfl,s.1,BM s.2.1 bn,s.2.2.1.trans (.of_below bn),s.2.2.2.below bn⟩
end Go.Proofs.YtcjnmdgomocpgaaGreatDoor
