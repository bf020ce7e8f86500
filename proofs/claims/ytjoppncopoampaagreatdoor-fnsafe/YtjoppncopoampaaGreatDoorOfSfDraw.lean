import Derived.Test.YtjoppncopoampaaGreatDoorOfCoreReg
import Derived.Test.YtjoppncopoampaaGreatDoorOfFu6f
import Derived.Test.YtjoppncopoampaaGreatDoorSfPair
set_option maxHeartbeats 32000000
set_option maxRecDepth 20000
namespace Go.Proofs.YtjoppncopoampaaGreatDoor
open Go.RowKit Go.Deep
variable {L o:Nat}{S:Nat->HS}{O:Nat->VV}{u:World}
theorem Ga.putA{w:World}{p:Nat}{U:Option Addr}{n Y:Nat}{bH M:Nat}{D cR:Nat}{bA cA:Nat}{V:Nat->VV}{z c:Int}{bs Q:Nat}(h:Ga w p U n Y bH M o S D cR O bA cA V z c bs L Q u){g2 c2:Nat}{V2:Nat->VV}{z2 B:Int}(a:Ak u g2 (8*6) (vF V2))(x:BK o S 8 O 8 V2 z2 B=true)(e:g2≠L)(j:g2≠Q)(k:g2≠p):Ga w p U n Y bH M o S D cR O g2 c2 V2 z2 B bs L Q (((u.setCell (Va L 0) (Vs g2 8 c2)).setCell (Va L 1) (Vi z2)).setCell (Va L 2) (Vi B)):=by
 have l:=h.pw;have m:=h.o1;have q:=h.o2;have s:=h.o3;have b:=h.n1;have d:=h.n2;exact⟨GI h.F AB _ _ _,Ez h.K AB _ _ _,Ao (Ao (Ao h.sg AB _ _) AB _ _) AB _ _,h.A.set _ _ _,Ao (Ao (Ao h.R AB _ _) AB _ _) AB _ _,⟨EI h.sc.h AB _ _ _,EI h.sc.r AB _ _ _⟩,EI a e _ _ _,x,h.lH,l,m,q,s,b,d,j,h.p1,h.p2,k⟩
theorem vQ{g t:Nat}{f:Nat->Value}{x y z:Value}(a:Ak u g (8*6) f)(h:V3 u L t x y z):g≠L:=fun e=>by
 have q:=a.cell (i:=3) AB;rw[e,AJ h 3]at q;simp at q
theorem Ut(d:Nat)(hd:d<=3)(IH:∀d',d=d'+1->fG d'):fG d:=by
 intro p ao n B bH cH nH S bR cR V0 bA M V z c m ah w hm hc h1 h2 h3 p1 p2 p3;have X0:Hid (Ga w p ao n B bH cH nH S bR cR V0 bA M V z c w.heap.size (w.heap.size+1) (w.heap.size+1+1) (((w.alloc (.cells #[Vs bH nH cH,Vs bR 8 cR] 26)).alloc (.cells #[Vs bA 8 M,Vi z,Vi c] 36)).alloc (.cells #[.slice none 0 0,Vi 0,Vi 0] 36))):=Rx w hc h1 h2 h3 p1 p2 p3;have LA:Hid (bA<w.heap.size/\bA≠p):=⟨h2.lt,p3⟩
 have lp:=hc.lt;have aS:=kR hd;have aT:=PO d;clear hc h1 h2 h3 p1 p2 p3;go_enter Tryz.func42,Tryz.ntmps42;go_upto_region 1 with fail;obtain⟨u,hu⟩:=Au (((w.alloc (.cells #[Vs bH nH cH,Vs bR 8 cR] 26)).alloc (.cells #[Vs bA 8 M,Vi z,Vi c] 36)).alloc (.cells #[.slice none 0 0,Vi 0,Vi 0] 36));rw[hu]at X0⊢;obtain⟨bs,am⟩:=Au w.heap.size;obtain⟨ba,aa⟩:=Au (w.heap.size+1);obtain⟨U,aw⟩:=Au (w.heap.size+1+1);have X0:Hid (Ga w p ao n B bH cH nH S bR cR V0 bA M V z c bs ba U u):=by rw[<-am,<-aa,<-aw];exact X0
 rw[aw,aa,am];have BO:Hid (w.heap.size=bs/\bs<ba/\ba<U):=⟨am,AB,AB⟩
 clear hu am aa aw;go_upto_region 2 with fail;obtain⟨u0,aI,b0,o0⟩:∃y,u.alloc (.cells #[] 150)=y/\Bw u y/\y.ownsRow u.heap.size 150 11 (Vs u.heap.size ([]:List SV).length 0) ([]:List SV).length (Es []):=⟨_,rfl,Ai,World.ownsRow_lit u #[] 0 BQ (by unfold maxLen;omega) rfl⟩
 rw[aI];have X1:=hxy (X0.below b0);have O1:=hxy (ES o0 X0.F.size);obtain⟨an,aG⟩:=Au u.heap.size;rw[aG]at O1⊢;have aN:Hid (an≠bA):=(by have:=LA.out;have:=O1.lt an rfl;omega:an≠bA)
 clear aI b0 o0 aG X0;go_wp2_with fail;go_loopw [14,15](fun ov iv wr=>∃(k:Nat)(og oc:Nat)(xs:List SV)(E M:Nat)(V:Nat->VV)(z c:Int),ov=Vs og xs.length oc/\iv=Vi (k:Int)/\k<=m/\Hid (Wl xs/\(E=bA∨w.heap.size<=E)/\og≠E)/\xs.length<=k*gb d/\Ga w p ao n B bH cH nH S bR cR V0 E M V z c bs ba U wr/\wr.ownsRow w.heap.size 150 11 (Vs og xs.length oc) xs.length (Es xs))(fun _ iv _=>m-(intOf iv).toNat)
 case atStart=>exact⟨0,an,0,[],bA,M,V,z,c,rfl,rfl,AB,⟨.nil,Or.inl rfl,aN⟩,AX,X1,O1⟩
 case round=>
  clear X1 O1;obtain⟨k,og,oc,xs,E,M,V,z,c,rfl,rfl,hk,HW,aF,x,o⟩:=hrel;have X:=hxy x;have O:=hxy o;clear x o;by_cases a9:k<m
  rotate_left
  ·have aE:¬(k:Int)<(m:Int):=AB
   have aU:xs.length<=m*gb d:=Nat.le_trans aF (Nat.mul_le_mul_right _ hk);go_upto_region 15 with fail;have R9:=X.R;have aa:(some U:Option Nat)≠some ba:=by intro e;have e1:=Option.some.inj e;have:=BO.out;omega
   have aV:(Vs og xs.length oc).ownBlock≠some U:=Ar R9 O Ad;have j0:∀w',Tn (some U) wr w'->w'.cell? (Va ba 0)=some (Vs E 8 M):=fun w' h=>(X.A.tn h aa).cells.1
   have j1:∀w',Tn (some U) wr w'->w'.cell? (Va ba 1)=some (Vi z):=fun w' h=>(X.A.tn h aa).cells.2.1
   have j2:∀w',Tn (some U) wr w'->w'.cell? (Va ba 2)=some (Vi c):=fun w' h=>(X.A.tn h aa).cells.2.2
   refine wp_region_held_drew (S:=fun w'=>Tn (some U) wr w') AV (Tn.of BJ.drew) (fun _=>?_);refine EX [0,1,2] ?_;have ag:Bw wr wr.drew:=BJ.drew;generalize wr.drew=t0 at ag⊢;have R0:=R9.below ag;obtain⟨r0,r1,r2⟩:=R0.cells;have rf:=R0.free;have rl:=R0.lt;have X2:=X.below ag;have RS:Hid (Xt nH S V0 bA (m*gb d) w p ao n B (.returned (.tuple #[Vs og xs.length oc,.agg #[Vs E 8 M,Vi z,Vi c]])) (((t0.setCell (Va U 0) (Vs E 8 M)).setCell (Va U 1) (Vi z)).setCell (Va U 2) (Vi c))):=⟨og,oc,xs,E,M,V,z,c,rfl,HW.1,aU,ER (BM O ag) aV _ _ _,HW.2.1,EI X2.G X2.n3 _ _ _,X2.ok,GI X2.F (by have:=BO.out;omega) _ _ _,Ez X2.K (by have:=BO.out;omega) _ _ _⟩
   have TT:Hid (Tn (some U) wr t0):=Tn.of ag;clear ag R0 X2 R9 j0 j1 j2 X O;refine AO 3 rfl (fun KK hK=>?_);go_simp;refine hK.out _ _ (TT.set3 _ _ _) (fun _=>?_);clear hK KK;refine wpAnyH_done AV ?_ _;go_wp2_with fail;refine bodyPost_ret (v:=.tuple #[Vs og xs.length oc,.agg #[Vs E 8 M,Vi z,Vi c]]) (by simp[results,Tryz.results42,go_sem, *]) rfl RS
  have aE:(k:Int)<(m:Int):=AB;go_wp2_with fail;refine(Af p ao n B 10 _ AB X.K).mono ?_;rintro e v1⟨kk,rfl,bc,a6,f,k'⟩;have X1:=hxy (X.fw f k');have O1:=hxy (Eb O f lp);clear f k' X O;obtain⟨_,⟨a0,a1,a2⟩,ad,ae⟩:=X1.cells;go_upto_region 8 with fail;obtain⟨v2,az,b2⟩:∃y,v1.alloc (.cells #[] 150)=y/\Bw v1 y:=⟨_,rfl,Ai⟩
  have X2:=hxy (X1.below b2);have O2:=BM O1 b2;have e1:v2.heap.size=v1.heap.size+1:=by rw[<-az];simp
  obtain⟨v3,aJ,b3,n3⟩:∃y,v2.alloc (.cells #[Vs E 8 M,Vi z,Vi c] 36)=y/\Bw v2 y/\V3 y v2.heap.size 36 (Vs E 8 M) (Vi z) (Vi c):=⟨_,rfl,Ai,V3.new _ _ _ _ _⟩
  try rw[az]
  try rw[aJ]
  have D:=hxy (X2.below b3);have O3:=hxy (BM O2 b3);obtain⟨nv,ay⟩:=Au v2.heap.size
  have ar:v1.heap.size+1=nv:=AB
  try rw[ay]
  try rw[ar]
  rw[ay]at n3
  have N3:=hxy n3
  have aK:Hid (Fw p v2 v3):=.of_below b3
  have ZV:Hid (v2.heap.size<=nv/\og<v2.heap.size/\E<v2.heap.size/\p<v2.heap.size/\U<v2.heap.size/\w.heap.size<=v2.heap.size/\ba<v2.heap.size):=⟨AB,(O2.lt og rfl).2,X2.G.lt,by have:=X2.F.size;omega,X2.R.lt,X2.F.size,X2.A.lt⟩
  have aM:=hxy O2
  clear az b2 e1 aJ b3 n3 ay ar a0 a1 a2 ad ae X1 O1 O2
  go_cut [34](fun a4 wx=>∃b:Bool,a4=.bool b/\(b=true->0<d)/\wx=v3)
  case first=>
   by_cases ac:kk=0
   ·have e1:(kk==0)=true:=by simp[ac]
    clear ac
    by_cases hd0:0<d
    ·have e2:decide (0<(d:Int))=true:=by simp;omega
     go_wp2_with fail
     go_meet
     exact⟨_,rfl,fun _=>hd0,rfl⟩
    ·have e2:decide (0<(d:Int))=false:=by simp;omega
     go_wp2_with fail
     go_meet
     exact⟨_,rfl,(by intro e;cases e),rfl⟩
   ·have e1:(kk==0)=false:=by simp[ac]
    go_wp2_with fail
    go_meet
    exact⟨_,rfl,(by intro e;cases e),rfl⟩
  case rest=>
  obtain⟨aP,rfl,ai,al⟩:=hcut
  rw[al]
  clear al
  go_upto_if 34 with fail
  go_cut [17](fun a3 wx=>∃(Z Y:Nat)(s:List SV)(a j:Nat)(Q:Nat->VV)(N L:Int),a3=Vs Z s.length Y/\Wl s/\s.length<=gb d/\DR nH S V0 E v2 p ao n B Z Y s nv a j Q N L wx)
  case first=>
   obtain⟨⟨s0,s1⟩,⟨a0,a1,a2⟩,ad,ae⟩:=D.cells
   have av:Hid (∀(v4:World)(Z Y:Nat)(s:List SV)(a j:Nat)(Q:Nat->VV)(N L:Int)(mm:Nat),mm<=gb d->Wl s->s.length<=mm->v4.ownsRow v3.heap.size 150 11 (Vs Z s.length Y) s.length (Es s)->(a=E∨v3.heap.size<=a)->Ak v4 a (8*6) (vF Q)->BK nH S 8 V0 8 Q N L=true->Fw p v3 v4->CJ v4 p ao n B->Wl s/\s.length<=gb d/\DR nH S V0 E v2 p ao n B Z Y s nv a j Q N L (((v4.setCell (Va nv 0) (Vs a 8 j)).setCell (Va nv 1) (Vi N)).setCell (Va nv 2) (Vi L))/\V3 v4 nv 36 (Vs E 8 M) (Vi z) (Vi c)):=fun v4 Z Y s a j Q N L mm bb I hl l C hA J f k'=>by
    have zv:=ZV.out
    exact⟨I,AB,Ky aK AB AB N3 AB l C hA J f k',Ct N3 f AB⟩
   cases aP with
   |true=>
    obtain⟨d',ab⟩:∃d',d=d'+1:=⟨d-1,by have:=ai rfl;omega⟩
    have r:=Ul d' (IH d' ab) AB p ao n B bH cH nH S bR cR V0 E M V z c ah v3 D.K D.sc D.G D.ok D.p1 D.p2 D.p3
    rw[<-ab]at r
    have HC:Hid _:=r
    clear r ab ai
    go_wp2_with fail
    refine Calls.mono HC ?_
    rintro e v4⟨Z,Y,s,a,j,Q,N,L,rfl,I,hl,l,C,hA,J,f,k'⟩
    have R:=av.out v4 Z Y s a j Q N L _ BQ I hl l C hA J f k'
    have RR:Hid _:=R
    obtain⟨n0,n1,n2⟩:=R.2.2.2.cells
    have nf:=R.2.2.2.free
    have nl:=R.2.2.2.lt
    clear R I hl l C hA J f k' s0 s1 a0 a1 a2 ad ae
    go_wp2_with fail
    go_meet
    exact⟨Z,Y,s,a,j,Q,N,L,rfl,RR.1,RR.2.1,RR.2.2.1⟩
   |false=>
    clear ai
    go_upto_region 10 with fail
    go_cut [49](fun a5 wx=>∃b:Bool,a5=.bool b/\(b=true->0<d)/\wx=v3)
    case first=>
     by_cases ac:kk=1
     ·have e1:(kk==1)=true:=by simp[ac]
      clear ac
      by_cases hd0:0<d
      ·have e2:decide (0<(d:Int))=true:=by simp;omega
       go_wp2_with fail
       go_meet
       exact⟨_,rfl,fun _=>hd0,rfl⟩
      ·have e2:decide (0<(d:Int))=false:=by simp;omega
       go_wp2_with fail
       go_meet
       exact⟨_,rfl,(by intro e;cases e),rfl⟩
     ·have e1:(kk==1)=false:=by simp[ac]
      go_wp2_with fail
      go_meet
      exact⟨_,rfl,(by intro e;cases e),rfl⟩
    case rest=>
    obtain⟨aQ,rfl,aj,al⟩:=hcut
    rw[al]
    clear al
    cases aQ with
    |true=>
     obtain⟨d',ab⟩:∃d',d=d'+1:=⟨d-1,by have:=aj rfl;omega⟩
     have r:=QA d' (IH d' ab) AB p ao n B bH cH nH S bR cR V0 E M V z c ah v3 D.K D.sc D.G D.ok D.p1 D.p2 D.p3
     rw[<-ab]at r
     have HC:Hid _:=r
     clear r ab aj
     go_wp2_with fail
     refine Calls.mono HC ?_
     rintro e v4⟨Z,Y,s,a,j,Q,N,L,rfl,I,hl,l,C,hA,J,f,k'⟩
     have R:=av.out v4 Z Y s a j Q N L _ BQ I hl l C hA J f k'
     have RR:Hid _:=R
     obtain⟨n0,n1,n2⟩:=R.2.2.2.cells
     have nf:=R.2.2.2.free
     have nl:=R.2.2.2.lt
     clear R I hl l C hA J f k' s0 s1 a0 a1 a2 ad ae
     go_wp2_with fail
     go_meet
     exact⟨Z,Y,s,a,j,Q,N,L,rfl,RR.1,RR.2.1,RR.2.2.1⟩
    |false=>
     clear aj
     go_wp2_with fail
     refine(Gs p ao n B bH cH nH S bR cR V0 E M V z c ah v3 D.K D.sc D.G D.ok D.p1 D.p2 D.p3).mono ?_
     rintro e v4⟨Z,Y,s,a,j,Q,N,L,rfl,I,hl,l,C,hA,J,f,k'⟩
     have R:=av.out v4 Z Y s a j Q N L 1 aT I hl l C hA J f k'
     have RR:Hid _:=R
     obtain⟨n0,n1,n2⟩:=R.2.2.2.cells
     have nf:=R.2.2.2.free
     have nl:=R.2.2.2.lt
     clear R I hl l C hA J f k' s0 s1 a0 a1 a2 ad ae
     go_wp2_with fail
     go_meet
     exact⟨Z,Y,s,a,j,Q,N,L,rfl,RR.1,RR.2.1,RR.2.2.1⟩
  case rest=>
  obtain⟨Z,Y,s,a,j,Q,N,L,rfl,aB,au,dr⟩:=hcut
  generalize wc=v4 at dr⊢
  have X4:=hxy (X2.fw dr.F dr.K)
  have O4:=hxy (Eb aM dr.F lp)
  have aC:=hxy dr
  have a7:Hid (Wl s/\s.length<=gb d):=⟨aB,au⟩
  have a8:k*gb d<=30*1000:=Nat.mul_le_mul AB aS
  obtain⟨g2,c2,v5,ak,o5,hg,aR⟩:=Ju v4 w.heap.size og oc xs O4 _ Z Y s dr.row AB X4.F.size
  obtain⟨ys,aA⟩:=Au (xs++s)
  rw[aA]at ak o5
  have aH:=Hz O4 (q:=og) rfl
  have ty:∀{b t:Nat}{vs:Array Value},v4.heap[b]?=some (.cells vs t)->t≠150->og≠b:=fun hx he e=>Ar hx O4 he (by rw[e];rfl)
  have zv:=ZV.out
  have C:=dr.nw
  have aD:=HW.2.2
  have ap:og≠a:=AB
  have X5:Hid (Ga w p ao n B bH cH nH S bR cR V0 E M V z c bs ba U v5):=X4.grw hg aH (ty X4.sg Ad) (ty X4.A Ad) (ty X4.R Ad) aD
  have N5:Hid (V3 v5 nv 36 (Vs a 8 j) (Vi N) (Vi L)):=Be dr.P hg (fun e=>ty dr.P Ad (Option.some.inj e))
  have A5:Hid (Ak v5 a (8*6) (vF Q)):=dr.A.grw hg (fun e=>ap (Option.some.inj e))
  have aO:=hxy dr.ok
  have O5:=hxy o5
  have WY:Hid (Wl ys/\ys.length<=(k+1)*gb d):=(by
   rw[<-aA]
   exact⟨HW.1.app aB,by rw[Nat.add_mul,Nat.one_mul,List.length_append];omega⟩:Wl ys/\ys.length<=(k+1)*gb d)
  have aX:a≠U:=by have:=X4.n3;omega
  have aW:=vQ aC.A X4.A
  have aY:a≠p:=by have:=X4.p3;omega
  have aZ:g2≠a:=by have:=dr.A.lt;omega
  have NW:Hid (a=bA∨w.heap.size<=a):=(by have:=HW.2.1;omega:a=bA∨w.heap.size<=a)
  have ax:(Vs g2 ys.length c2).ownBlock≠some ba:=Ar X5.A O5 Ad
  clear hg aR aA o5 ty dr aB au zv C aD ap X4 O4 aC
  go_upto_region 14 with(first|(at_builtin;refine FO rfl _ _ 27 rfl rfl rfl ak ?_))
  clear ak
  obtain⟨n0,n1,n2⟩:=N5.cells
  have nl:=N5.lt
  obtain⟨_,⟨a0,a1,a2⟩,ad,ae⟩:=X5.cells
  have af:=X5.A.free
  have Y5:Hid (Ga w p ao n B bH cH nH S bR cR V0 a j Q N L bs ba U (((v5.setCell (Va ba 0) (Vs a 8 j)).setCell (Va ba 1) (Vi N)).setCell (Va ba 2) (Vi L))):=X5.putA A5 aO aW aX aY
  clear X5 N5 A5
  go_wp2_with fail
  go_roundw
  case rel=>exact⟨k+1,g2,c2,ys,a,j,Q,N,L,rfl,by go_num,AB,⟨WY.1,NW,aZ⟩,WY.2,Y5,ER O5 ax _ _ _⟩
  case measure=>simp[intOf];omega
theorem QZ:∀(d:Nat),d<=3->fG d
 |0,h=>Ut 0 h (fun a e=>by omega)
 |d+1,h=>Ut (d+1) h (fun a e=>by rw[show a=d by omega];exact QZ d AB)
def yj(m:Nat)(w:World)(p:Nat)(ao:Option Addr)(n cap:Nat)(e:Ending)(w':World):Prop:=
 ∃(g cg:Nat)(xs:List SV),e=.returned (Vs g xs.length cg)/\xs.length<=m/\w'.ownsRow w.heap.size 150 11 (Vs g xs.length cg) xs.length (Es xs)/\Fw p w w'/\CJ w' p ao n cap
theorem nC(h:Db o S 8 O=true):BK o S 8 O 8 O 0 0=true:=by
 have a:=h;unfold Db Dq at a;simp only[Bool.and_eq_true,decide_eq_true_eq,List.all_eq_true,List.mem_range,gv]at a;exact Co.2 ⟨h,rfl,a.2.2,⟨AB,AB⟩,AB,AB⟩
theorem NT(p:Nat)(D:Option Addr)(n a:Nat)(A U B:Nat)(S:Nat->HS)(c J:Nat)(l:Nat->VV)(w:World)(hc:CJ w p D n a)(h1:Ck w A B S c 8 l)(h3:Db B S 8 l=true)(p1:A≠p)(p2:c≠p):
 Calls Tryz.prog 15 #[Vq p,.agg #[Vs A B U,Vs c 8 J]] w (yj 9330 w p D n a):=by
 have HC:=hxy hc;have HS:=hxy h1;have OK:=hxy (nC h3);have lp:=hc.lt;have l1:=h1.h.lt;have l2:=h1.r.lt;obtain⟨iV,gV,aa,ab,ac⟩:=info_parts LC;have o:Hid (_/\_/\_/\_):=⟨gV,aa,ab,ac⟩
 go_enter Tryz.func15,Tryz.ntmps15;go_upto_region 1 with fail;obtain⟨y0,ak,b0⟩:∃y,w.alloc (.cells #[Vs A B U,Vs c 8 J] 26)=y/\Bw w y:=⟨_,rfl,Ai⟩
 have O:=Az w (.cells #[Vs A B U,Vs c 8 J] 26);rw[ak]at O⊢;obtain⟨bs,K⟩:=Au w.heap.size;rw[K]at O⊢;have N0:=hxy O;have F0:Hid (Fw p w y0):=.of_below b0;have K0:=hxy (HC.below b0);have S0:=hxy (HS.below b0);have L:p≠bs:=AB;have ap:=hxy K;go_wp2_with fail;refine(Af p D n a 9 _ AB K0).mono ?_;rintro e y1⟨x,rfl,x0,x9,f,k⟩;have N1:=hxy (Ct N0 f L);have F1:=hxy (F0.trans f);have K1:=hxy k;have S1:Hid (Ck y1 A B S c 8 l):=⟨f.arr S0.h p1,f.arr S0.r p2⟩
 go_wp2_with fail;refine(Ed p D n a 40 _ AB K1).mono ?_;rintro e d⟨b,rfl,f,k⟩;have N2:=hxy (Ct N1 f L);have F2:=hxy (F1.trans f);have K2:=hxy k;have S2:Hid (Ck d A B S c 8 l):=⟨f.arr S1.h p1,f.arr S1.r p2⟩
 go_upto_if 13 with fail;go_cut [5](fun s5 wx=>(∃m:Nat,s5=Vi (m:Int)/\m<=30)/\wx=d)
 case first=>
  cases b with
  |true=>
   go_wp2_with fail;go_meet;exact⟨⟨30,rfl,AB⟩,rfl⟩
  |false=>
   go_wp2_with fail;go_meet;exact⟨⟨(2+x).toNat,by rw[show(((2+x).toNat:Nat):Int)=2+x by omega],AB⟩,rfl⟩
 case rest=>
 obtain⟨⟨m,rfl,hm⟩,aj⟩:=hcut;rw[aj];obtain⟨y3,av,I,o3⟩:∃y,d.alloc (.cells #[] 68)=y/\Bw d y/\y.ownsRow d.heap.size 68 6 (Vs d.heap.size 0 0) 0 []:=⟨_,rfl,Ai,World.ownsRow_lit d #[] 0 BQ (by unfold maxLen;omega) rfl⟩
 have Y:=Ac N2 I;have O:=(AJ Y 0).trans rfl;have n1:=(AJ Y 1).trans rfl;have nl:=Bp Y;have ae:∀j v,(first (8*6) (vF l))[j]?=some v->y3.cell? ((⟨c,0,none⟩:Addr).add j)=some v:=fun j v hj=>by
  obtain⟨ag,rfl⟩:=Ca hj;rw[Addr.add_lit,Nat.zero_add];exact(I.cell (p:=Va c j) S2.r.lt).trans (S2.r.cell ag)
 have ad:∀u∈first (8*6) (vF l),u.oneCell'=true:=by
  intro v hv;obtain⟨j,hj,rfl⟩:=Cv hv;unfold vF;have:j%6<6:=Nat.mod_lt _ Ad;generalize j%6=q at this⊢;match q,this with
  |0,_=>rfl
  |1,_=>rfl
  |2,_=>rfl
  |3,_=>rfl
  |4,_=>rfl
  |5,_=>rfl
 obtain⟨v',F,N,o4,hg,_,_⟩:=run_append_own_at (P:=Tryz.prog) y3 d.heap.size 24 24 68 iV _ 6 48 Tryz.underlying24 o.1 o.2.1 o.2.2.1 o.2.2.2 rfl Ad _ _ _ o3 ⟨c,0,none⟩ 8 J (first (8*6) (vF l)) (Aw _ _) ae ad (by unfold maxLen;omega) AB I.size;have C:F.ownsRow d.heap.size 68 6 v' 8 (first (8*6) (vF l)):=by simpa using o4
 obtain⟨E,cA,rfl⟩:=Dy C AB;have b4:Bw d F:=I.trans (BJ.grown hg I.size (by intro k hk;simp[Value.ownBlock]at hk;omega));have AA:=hxy (Gy C);have ar:d.heap.size<=E:=(C.lt E rfl).1;go_upto_region 5 with(first|(at_builtin;refine FO rfl _ _ 24 rfl rfl rfl N ?_));obtain⟨y5,am,b5⟩:∃y,F.alloc (.cells #[Vs E 8 cA,Vi 0,Vi 0] 36)=y/\Bw F y:=⟨_,rfl,Ai⟩
 have X:=V3.new F 36 (Vs E 8 cA) (Vi 0) (Vi 0);rw[am]at X⊢;have z:=b4.trans (b5.mono b4.size);have F5:Hid (Fw p w y5):=F2.trans (.of_below z);have K5:=hxy (K2.below z);have S5:=hxy (S2.below z);have A5:=hxy (AA.below b5 AA.lt);have Z:=Ac N2 z;obtain⟨na,ah⟩:=Au F.heap.size;rw[ah]at X⊢;have a0:=X.cells;have al:=X.lt;have af:E≠p:=by have:=F2.size;omega
 have ai:=F5.size;have O:=(AJ Z 0).trans rfl;have n1:=(AJ Z 1).trans rfl;have nl:=Bp Z;go_wp2_with fail;refine(QZ 3 AB p D n a A U B S c J l E cA l 0 0 m (-1) y5 hm K5 S5 A5 OK p1 p2 af).mono ?_;rintro e R⟨g,cg,Q,gB,cB,V',z',c',rfl,au,an,M,aw,hA,ax,f,k'⟩;have s:Hid (Q.length<=9330/\R.ownsRow w.heap.size 150 11 (Vs g Q.length cg) Q.length (Es Q)/\Fw p w R/\CJ R p D n a):=⟨by have:m*gb 3<=30*311:=Nat.mul_le_mul hm Ad;omega,ES M ai,F5.trans f,k'⟩
 go_wp2_with fail;go_ret;have bn:Bw R (R.alloc (.cells #[Vs gB 8 cB,Vi z',Vi c'] 36)):=Ai;exact⟨g,cg,Q,rfl,s.1,BM s.2.1 bn,s.2.2.1.trans (.of_below bn),s.2.2.2.below bn⟩
theorem Qo{J:Nat}(e:Db o S J O=true):o<=8/\∀i,i<o->1<=(S i).size/\(S i).size<=4096:=by
 unfold Db GJ at e;simp only[Bool.and_eq_true,decide_eq_true_eq,List.all_eq_true,List.mem_range]at e;exact⟨e.1.1,e.1.2⟩
def jR:Array Value:=#[.slice none 0 0,.slice none 0 0]
def SR(qs q9 q10:Nat)(a2 a6 a7:Array Value)(u:World):Prop:=u.heap[qs]?=some (.cells a2 26)/\SQ q9 q10 a6 a7 u
def KP(w:World)(bH nH:Nat)(S:Nat->HS)(bR:Nat)(V0:Nat->VV)(B g cg:Nat)(xs:List SV)(B':Nat)(m:Md)(u:World):Prop:=
 Ck u bH nH S bR 8 V0/\u.ownsRow B 150 11 (Vs g xs.length cg) xs.length (Es xs)/\ML B' m u/\Below w.heap.size w u
theorem KP.put{w:World}{A:Nat}{D:Nat}{B g:Nat}{d:List SV}{J:Nat}{m:Md}{q:Nat}(h:KP w A o S D O B g L d J m u)(b:w.heap.size<=q)(k:q<A)(l:q<D)(n:q<B)(c:q<J)(j:Nat)(v:Value):KP w A o S D O B g L d J m (u.setCell (Va q j) v):=
 ⟨⟨h.1.h.other (a:=Va q j) (show q≠A by omega) _,h.1.r.other (a:=Va q j) (show q≠D by omega) _⟩,CV h.2.1 (fun e=>by have:=iJ h.2.1 e;omega) j v,h.2.2.1.putlt c j v,h.2.2.2.setCell (p:=Va q j) b v⟩
theorem mJ{b t:Nat}{a Q:Value}(h:u.heap[b]?=some (.cells #[a,Q] t))(c d:Value):((u.setCell (Va b 0) c).setCell (Va b 1) d).heap[b]?=some (.cells #[c,d] t):=by
 have k:=BG (BG h 0 c) 1 d;simpa only[List.setIfInBounds_toArray,List.set_cons_zero,List.set_cons_succ]using k
def yZ(w:World)(e:Ending)(w':World):Prop:=
 ∃(bH cH nH:Nat)(S:Nat->HS)(bR cR:Nat)(V0:Nat->VV)(g cg:Nat)(xs:List SV)(m:Md)(gR cr gH ch:Nat)(aO:Option Addr)(cO:Nat),e=.returned (.tuple #[.agg #[Vs bH nH cH,Vs bR 8 cR],Vs g xs.length cg,.agg m.a,.agg #[Vs gR 8 cr,.bool false,.bool false,.bool false,.bool false,Vs gH nH ch,Vi 0,Vi 0,.slice aO 0 cO]])/\1<=nH/\nH<=4/\Db nH S 8 V0=true/\Ck w' bH nH S bR 8 V0/\xs.length<=9330/\w'.ownsRow w.heap.size 150 11 (Vs g xs.length cg) xs.length (Es xs)/\OH m nH S V0/\ML w.heap.size m w'/\Below w.heap.size w w'
theorem RZ(ao:Option Addr)(n cap:Nat)(w:World)(hn:n<=1048576)(hr:I9 w w.heap.size ao n):
 Calls Tryz.prog 4 #[.slice ao n cap] w (yZ w):=by
 have HR:=hxy hr;clear hr;go_enter Tryz.func4,Tryz.ntmps4;go_upto_region 1 with fail;obtain⟨u0,hu0,b0,z2,z3,z4⟩:∃y,((w.alloc (.cells #[.slice none 0 0,.slice none 0 0] 26)).alloc (.cells #[.slice none 0 0,.bool false,.bool false,.bool false,.bool false,.slice none 0 0,.int .i64 0,.int .i64 0,.slice none 0 0] 32)).alloc (.cells #[.slice none 0 0,.bool false,.bool false,.bool false,.bool false,.slice none 0 0,.int .i64 0,.int .i64 0,.slice none 0 0] 32)=y/\Below w.heap.size w y/\y.heap[w.heap.size]?=some (.cells jR 26)/\y.heap[w.heap.size+1]?=some (.cells GQ.a 32)/\y.heap[w.heap.size+1+1]?=some (.cells GQ.a 32):=by
  generalize ha:w.alloc (.cells #[.slice none 0 0,.slice none 0 0] 26)=a;have sa:a.heap.size=w.heap.size+1:=by rw[<-ha];simp
  have ea:a.heap[w.heap.size]?=some (.cells jR 26):=by rw[<-ha];exact Az _ _
  have ba:Below w.heap.size w a:=by rw[<-ha];exact Ai
  generalize hb:a.alloc (.cells #[.slice none 0 0,.bool false,.bool false,.bool false,.bool false,.slice none 0 0,.int .i64 0,.int .i64 0,.slice none 0 0] 32)=b;have sb:b.heap.size=w.heap.size+1+1:=by rw[<-hb];simp[sa]
  have bb:Below a.heap.size a b:=by rw[<-hb];exact Ai
  have eb:b.heap[w.heap.size+1]?=some (.cells GQ.a 32):=by rw[<-hb,<-sa];exact Az _ _
  have bc:Below b.heap.size b (b.alloc (.cells #[.slice none 0 0,.bool false,.bool false,.bool false,.bool false,.slice none 0 0,.int .i64 0,.int .i64 0,.slice none 0 0] 32)):=Ai;exact⟨_,rfl,(ba.trans (bb.mono ba.size)).trans (bc.mono (by omega)),Ac (Ac ea bb) bc,Ac eb bc,by rw[<-sb];exact Az _ _⟩
 rw[hu0];obtain⟨r,hrr⟩:=Au (w.heap.size);have hrw:w.heap.size<=r:=by omega
 have hb0:I9 u0 u0.heap.size ao n:=by
  rcases HR.out with h|⟨b,off,h1,h2,h3⟩
  ·exact .inl h
  ·exact .inr ⟨b,off,h1,Nat.lt_of_lt_of_le h2 b0.size,fun i hi=>by obtain⟨v,q1,q2,q3⟩:=h3 i hi;exact⟨v,q1,q2,(b0.cell (p:=⟨b,off+i,none⟩) h2).trans q3⟩⟩
 have HB0:=hxy hb0;have B0:=hxy b0;rw[hrr]at z2 z3 z4⊢;have Z0:Hid (u0.heap[r]?=some (.cells jR 26)/\u0.heap[r+1]?=some (.cells GQ.a 32)/\u0.heap[r+1+1]?=some (.cells GQ.a 32)):=⟨z2,z3,z4⟩
 have zl:r+1+1<u0.heap.size:=Bp z4;clear hu0 b0 z2 z3 z4 hb0 hrr HR;go_wp2_with fail;refine(YT ao n cap u0 hn HB0.out).mono ?_;rintro e u1⟨p,rfl,hp,b1,c1⟩;have B1:=hxy (B0.out.trans (b1.mono B0.out.size));have Z1:Hid (u1.heap[r]?=some (.cells jR 26)/\u1.heap[r+1]?=some (.cells GQ.a 32)/\u1.heap[r+1+1]?=some (.cells GQ.a 32)):=⟨Ac Z0.out.1 b1,Ac Z0.out.2.1 b1,Ac Z0.out.2.2 b1⟩
 have C1:=hxy c1;have rp:r+1+1<p:=by omega
 have lp1:p<u1.heap.size:=c1.lt;have wp1:w.heap.size<=u1.heap.size:=B1.out.size;clear b1 c1 Z0 B0 HB0;go_wp2_with fail;refine(Po p ao n cap u1 C1.out).mono ?_;rintro e u2⟨bH,cH,nH,S,bR,cR,V0,rfl,n1,n4,g2,sok,gH,gR,f2,c2,hcR,hne⟩;have F2:=hxy f2;have C2:=hxy c2;have G2:=hxy g2;have SOK:=hxy sok;clear f2 c2 g2 sok;go_upto_region 3 with fail;obtain⟨u3,hu3,b3,q3⟩:∃y,u2.alloc (.cells #[.slice (some ⟨bH,0,none⟩) nH cH,.slice (some ⟨bR,0,none⟩) 8 cR] 26)=y/\Below u2.heap.size u2 y/\y.heap[u2.heap.size]?=some (.cells #[.slice (some ⟨bH,0,none⟩) nH cH,.slice (some ⟨bR,0,none⟩) 8 cR] 26):=⟨_,rfl,Ai,Az _ _⟩
 rw[hu3];have l2H:bH<u2.heap.size:=G2.out.h.lt;have l2R:bR<u2.heap.size:=G2.out.r.lt;have F3':Hid (Fw p u1 u3):=F2.out.trans (.of_below b3);have C3:=hxy (C2.out.below b3);have G3:=hxy (G2.out.below b3);obtain⟨qs,hqs⟩:=Au (u2.heap.size);rw[hqs]at q3 l2H l2R;rw[hqs];have Q3:=hxy q3;have lqs:qs<u3.heap.size:=Bp q3;have x0:=(AJ q3 0).trans rfl;have x1:=(AJ q3 1).trans rfl;clear hu3 b3 q3 hqs F2 C2 G2;go_wp2_with fail;refine(NT p ao n cap bH cH nH S bR cR V0 u3 C3.out G3.out SOK.out (by omega) (by omega)).mono ?_;rintro e u4⟨g,cg,xs,rfl,hxl,hrow,f4,c4⟩;have F4:=hxy (F3'.out.trans f4);have C4:=hxy c4;have G4:Hid (Ck u4 bH nH S bR 8 V0):=⟨f4.arr G3.out.h (by omega),f4.arr G3.out.r (by omega)⟩
 have Q4:Hid (u4.heap[qs]?=some (.cells #[.slice (some ⟨bH,0,none⟩) nH cH,.slice (some ⟨bR,0,none⟩) 8 cR] 26)):=Hr Q3.out f4 (by omega);have R4:=hxy hrow;have h34:=f4.size;clear f4 c4 hrow F3' C3 G3 Q3 x0 x1;have x0:=(AJ Q4.out 0).trans rfl;have x1:=(AJ Q4.out 1).trans rfl;obtain⟨s8,hszs⟩:=Qo SOK.out;have HSZ:=hxy hszs;clear hszs;have HGV:Hid (∀i,i<8->GV (V0 i) nH):=fun i hi=>by
  have:=(Ja SOK.out).2.2.1;have h3:=(Co.1 this).2.2.1 i hi;dsimp only[Fe]at h3;rw[if_pos hi]at h3;exact h3
 go_wp2_with fail;refine(OL p ao n cap bH cH nH S bR cR V0 u4 C4.out G4.out.h G4.out.r (by omega) (by omega) n1 n4 HSZ.out HGV.out).mono ?_;rintro e u5⟨m,gR',cr,gH',ch,aO,cO,rfl,hfm,hml,f5,c5⟩;obtain⟨ra,rc,hvR⟩:=Cf hml.R;obtain⟨ha,hcp,hvH⟩:=Cf hml.H;have hf:=hfm.h.form;have HFM:=hxy hfm;have HML:=hxy hml;have F5:=hxy f5;have C5:=hxy c5;have h45:=f5.size;clear hfm hml f5 c5 x0 x1;obtain⟨vR,gz,gc,ghz,ghc,vH,pc,st,vO,rs,hs,os⟩:=m;unfold GQ at hf;dsimp only at hf hvR hvH;injection hf with _ e1 e2 e3 e4 _ e6 e7 e8 _ _ e11;subst hvR hvH e1 e2 e3 e4 e6 e7 e8 e11;unfold Md.a;dsimp only;go_upto_region 5 with fail;obtain⟨u6,hu6,b6,q9h,q10h⟩:∃y,(u5.alloc (.cells #[.slice ra rs.length rc,.bool false,.bool false,.bool false,.bool false,.slice ha hs.length hcp,.int .i64 0,.int .i64 0,.slice none 0 0] 32)).alloc (.cells #[.slice (some ⟨gR',0,none⟩) 8 cr,.bool false,.bool false,.bool false,.bool false,.slice (some ⟨gH',0,none⟩) nH ch,.int .i64 0,.int .i64 0,.slice aO 0 cO] 32)=y/\Below u5.heap.size u5 y/\y.heap[u5.heap.size]?=some (.cells #[.slice ra rs.length rc,.bool false,.bool false,.bool false,.bool false,.slice ha hs.length hcp,.int .i64 0,.int .i64 0,.slice none 0 0] 32)/\y.heap[u5.heap.size+1]?=some (.cells #[.slice (some ⟨gR',0,none⟩) 8 cr,.bool false,.bool false,.bool false,.bool false,.slice (some ⟨gH',0,none⟩) nH ch,.int .i64 0,.int .i64 0,.slice aO 0 cO] 32):=by
  generalize hh:u5.alloc (.cells #[.slice ra rs.length rc,.bool false,.bool false,.bool false,.bool false,.slice ha hs.length hcp,.int .i64 0,.int .i64 0,.slice none 0 0] 32)=a;have sa:a.heap.size=u5.heap.size+1:=by rw[<-hh];simp
  have ea:a.heap[u5.heap.size]?=some (.cells #[.slice ra rs.length rc,.bool false,.bool false,.bool false,.bool false,.slice ha hs.length hcp,.int .i64 0,.int .i64 0,.slice none 0 0] 32):=by rw[<-hh];exact Az _ _
  have ba:Below u5.heap.size u5 a:=by rw[<-hh];exact Ai
  have bb:Below a.heap.size a (a.alloc (.cells #[.slice (some ⟨gR',0,none⟩) 8 cr,.bool false,.bool false,.bool false,.bool false,.slice (some ⟨gH',0,none⟩) nH ch,.int .i64 0,.int .i64 0,.slice aO 0 cO] 32)):=Ai;exact⟨_,rfl,ba.trans (bb.mono ba.size),Ac ea bb,by rw[<-sa];exact Az _ _⟩
 rw[hu6];obtain⟨q9,hq9⟩:=Au (u5.heap.size);rw[hq9]at q9h q10h h45⊢;obtain⟨wA,hwA,bA⟩:∃y,u6.drew=y/\Below u6.heap.size u6 y:=⟨_,rfl,(Below.refl _ _).drew⟩
 have F6:Hid (Fw p u1 wA):=((F4.out.trans F5.out).trans (.of_below b6)).trans (.of_below bA);have hS8:SR qs q9 (q9+1) #[.slice (some ⟨bH,0,none⟩) nH cH,.slice (some ⟨bR,0,none⟩) 8 cR] #[.slice ra rs.length rc,.bool false,.bool false,.bool false,.bool false,.slice ha hs.length hcp,.int .i64 0,.int .i64 0,.slice none 0 0] #[.slice (some ⟨gR',0,none⟩) 8 cr,.bool false,.bool false,.bool false,.bool false,.slice (some ⟨gH',0,none⟩) nH ch,.int .i64 0,.int .i64 0,.slice aO 0 cO] wA:=⟨Ac (Ac (Hr Q4.out F5.out (by omega)) b6) bA,Ac q9h bA,Ac q10h bA⟩
 have KA:Hid (KP w bH nH S bR V0 u3.heap.size g cg xs u4.heap.size ⟨.slice ra rs.length rc,false,false,false,false,.slice ha hs.length hcp,0,0,.slice none 0 0,rs,hs,[]⟩ wA):=⟨⟨(Fw.of_below (p:=p) bA).arr ((Fw.of_below (p:=p) b6).arr (F5.out.arr G4.out.h (by omega)) (by omega)) (by omega),(Fw.of_below (p:=p) bA).arr ((Fw.of_below (p:=p) b6).arr (F5.out.arr G4.out.r (by omega)) (by omega)) (by omega)⟩,BM (BM (Eb R4.out F5.out (by omega)) b6) bA,(HML.out.below b6).below bA,F6.out.below B1.out (by omega) wp1⟩
 have E2:Hid (wA.heap[r]?=some (.cells jR 26)):=Hr Z1.out.1 F6.out (by omega);have E3:Hid (wA.heap[r+1]?=some (.cells GQ.a 32)):=Hr Z1.out.2.1 F6.out (by omega);have E4:Hid (wA.heap[r+1+1]?=some (.cells GQ.a 32)):=Hr Z1.out.2.2 F6.out (by omega);have l34:u3.heap.size<=u4.heap.size:=h34;have l13:u1.heap.size<=u3.heap.size:=by omega
 have s0:∀w',SR qs q9 (q9+1) #[.slice (some ⟨bH,0,none⟩) nH cH,.slice (some ⟨bR,0,none⟩) 8 cR] #[.slice ra rs.length rc,.bool false,.bool false,.bool false,.bool false,.slice ha hs.length hcp,.int .i64 0,.int .i64 0,.slice none 0 0] #[.slice (some ⟨gR',0,none⟩) 8 cr,.bool false,.bool false,.bool false,.bool false,.slice (some ⟨gH',0,none⟩) nH ch,.int .i64 0,.int .i64 0,.slice aO 0 cO] w'->w'.cell? ⟨qs,0,none⟩=some (.slice (some ⟨bH,0,none⟩) nH cH):=fun w' h=>(AJ h.1 0).trans rfl
 have s1:∀w',SR qs q9 (q9+1) #[.slice (some ⟨bH,0,none⟩) nH cH,.slice (some ⟨bR,0,none⟩) 8 cR] #[.slice ra rs.length rc,.bool false,.bool false,.bool false,.bool false,.slice ha hs.length hcp,.int .i64 0,.int .i64 0,.slice none 0 0] #[.slice (some ⟨gR',0,none⟩) 8 cr,.bool false,.bool false,.bool false,.bool false,.slice (some ⟨gH',0,none⟩) nH ch,.int .i64 0,.int .i64 0,.slice aO 0 cO] w'->w'.cell? ⟨qs,1,none⟩=some (.slice (some ⟨bR,0,none⟩) 8 cR):=fun w' h=>(AJ h.1 1).trans rfl
 have x0:∀w',SR qs q9 (q9+1) #[.slice (some ⟨bH,0,none⟩) nH cH,.slice (some ⟨bR,0,none⟩) 8 cR] #[.slice ra rs.length rc,.bool false,.bool false,.bool false,.bool false,.slice ha hs.length hcp,.int .i64 0,.int .i64 0,.slice none 0 0] #[.slice (some ⟨gR',0,none⟩) 8 cr,.bool false,.bool false,.bool false,.bool false,.slice (some ⟨gH',0,none⟩) nH ch,.int .i64 0,.int .i64 0,.slice aO 0 cO] w'->w'.cell? ⟨q9,0,none⟩=some (.slice ra rs.length rc):=fun w' h=>(Bq h.2.1).1
 have x1:∀w',SR qs q9 (q9+1) #[.slice (some ⟨bH,0,none⟩) nH cH,.slice (some ⟨bR,0,none⟩) 8 cR] #[.slice ra rs.length rc,.bool false,.bool false,.bool false,.bool false,.slice ha hs.length hcp,.int .i64 0,.int .i64 0,.slice none 0 0] #[.slice (some ⟨gR',0,none⟩) 8 cr,.bool false,.bool false,.bool false,.bool false,.slice (some ⟨gH',0,none⟩) nH ch,.int .i64 0,.int .i64 0,.slice aO 0 cO] w'->w'.cell? ⟨q9,1,none⟩=some (.bool false):=fun w' h=>(Bq h.2.1).2.1
 have x2:∀w',SR qs q9 (q9+1) #[.slice (some ⟨bH,0,none⟩) nH cH,.slice (some ⟨bR,0,none⟩) 8 cR] #[.slice ra rs.length rc,.bool false,.bool false,.bool false,.bool false,.slice ha hs.length hcp,.int .i64 0,.int .i64 0,.slice none 0 0] #[.slice (some ⟨gR',0,none⟩) 8 cr,.bool false,.bool false,.bool false,.bool false,.slice (some ⟨gH',0,none⟩) nH ch,.int .i64 0,.int .i64 0,.slice aO 0 cO] w'->w'.cell? ⟨q9,2,none⟩=some (.bool false):=fun w' h=>(Bq h.2.1).2.2.1
 have x3:∀w',SR qs q9 (q9+1) #[.slice (some ⟨bH,0,none⟩) nH cH,.slice (some ⟨bR,0,none⟩) 8 cR] #[.slice ra rs.length rc,.bool false,.bool false,.bool false,.bool false,.slice ha hs.length hcp,.int .i64 0,.int .i64 0,.slice none 0 0] #[.slice (some ⟨gR',0,none⟩) 8 cr,.bool false,.bool false,.bool false,.bool false,.slice (some ⟨gH',0,none⟩) nH ch,.int .i64 0,.int .i64 0,.slice aO 0 cO] w'->w'.cell? ⟨q9,3,none⟩=some (.bool false):=fun w' h=>(Bq h.2.1).2.2.2.1
 have x4:∀w',SR qs q9 (q9+1) #[.slice (some ⟨bH,0,none⟩) nH cH,.slice (some ⟨bR,0,none⟩) 8 cR] #[.slice ra rs.length rc,.bool false,.bool false,.bool false,.bool false,.slice ha hs.length hcp,.int .i64 0,.int .i64 0,.slice none 0 0] #[.slice (some ⟨gR',0,none⟩) 8 cr,.bool false,.bool false,.bool false,.bool false,.slice (some ⟨gH',0,none⟩) nH ch,.int .i64 0,.int .i64 0,.slice aO 0 cO] w'->w'.cell? ⟨q9,4,none⟩=some (.bool false):=fun w' h=>(Bq h.2.1).2.2.2.2.1
 have x5:∀w',SR qs q9 (q9+1) #[.slice (some ⟨bH,0,none⟩) nH cH,.slice (some ⟨bR,0,none⟩) 8 cR] #[.slice ra rs.length rc,.bool false,.bool false,.bool false,.bool false,.slice ha hs.length hcp,.int .i64 0,.int .i64 0,.slice none 0 0] #[.slice (some ⟨gR',0,none⟩) 8 cr,.bool false,.bool false,.bool false,.bool false,.slice (some ⟨gH',0,none⟩) nH ch,.int .i64 0,.int .i64 0,.slice aO 0 cO] w'->w'.cell? ⟨q9,5,none⟩=some (.slice ha hs.length hcp):=fun w' h=>(Bq h.2.1).2.2.2.2.2.1
 have x6:∀w',SR qs q9 (q9+1) #[.slice (some ⟨bH,0,none⟩) nH cH,.slice (some ⟨bR,0,none⟩) 8 cR] #[.slice ra rs.length rc,.bool false,.bool false,.bool false,.bool false,.slice ha hs.length hcp,.int .i64 0,.int .i64 0,.slice none 0 0] #[.slice (some ⟨gR',0,none⟩) 8 cr,.bool false,.bool false,.bool false,.bool false,.slice (some ⟨gH',0,none⟩) nH ch,.int .i64 0,.int .i64 0,.slice aO 0 cO] w'->w'.cell? ⟨q9,6,none⟩=some (.int .i64 0):=fun w' h=>(Bq h.2.1).2.2.2.2.2.2.1
 have x7:∀w',SR qs q9 (q9+1) #[.slice (some ⟨bH,0,none⟩) nH cH,.slice (some ⟨bR,0,none⟩) 8 cR] #[.slice ra rs.length rc,.bool false,.bool false,.bool false,.bool false,.slice ha hs.length hcp,.int .i64 0,.int .i64 0,.slice none 0 0] #[.slice (some ⟨gR',0,none⟩) 8 cr,.bool false,.bool false,.bool false,.bool false,.slice (some ⟨gH',0,none⟩) nH ch,.int .i64 0,.int .i64 0,.slice aO 0 cO] w'->w'.cell? ⟨q9,7,none⟩=some (.int .i64 0):=fun w' h=>(Bq h.2.1).2.2.2.2.2.2.2.1
 have x8:∀w',SR qs q9 (q9+1) #[.slice (some ⟨bH,0,none⟩) nH cH,.slice (some ⟨bR,0,none⟩) 8 cR] #[.slice ra rs.length rc,.bool false,.bool false,.bool false,.bool false,.slice ha hs.length hcp,.int .i64 0,.int .i64 0,.slice none 0 0] #[.slice (some ⟨gR',0,none⟩) 8 cr,.bool false,.bool false,.bool false,.bool false,.slice (some ⟨gH',0,none⟩) nH ch,.int .i64 0,.int .i64 0,.slice aO 0 cO] w'->w'.cell? ⟨q9,8,none⟩=some (.slice none 0 0):=fun w' h=>(Bq h.2.1).2.2.2.2.2.2.2.2
 have y0:∀w',SR qs q9 (q9+1) #[.slice (some ⟨bH,0,none⟩) nH cH,.slice (some ⟨bR,0,none⟩) 8 cR] #[.slice ra rs.length rc,.bool false,.bool false,.bool false,.bool false,.slice ha hs.length hcp,.int .i64 0,.int .i64 0,.slice none 0 0] #[.slice (some ⟨gR',0,none⟩) 8 cr,.bool false,.bool false,.bool false,.bool false,.slice (some ⟨gH',0,none⟩) nH ch,.int .i64 0,.int .i64 0,.slice aO 0 cO] w'->w'.cell? ⟨q9+1,0,none⟩=some (.slice (some ⟨gR',0,none⟩) 8 cr):=fun w' h=>(Bq h.2.2).1
 have y1:∀w',SR qs q9 (q9+1) #[.slice (some ⟨bH,0,none⟩) nH cH,.slice (some ⟨bR,0,none⟩) 8 cR] #[.slice ra rs.length rc,.bool false,.bool false,.bool false,.bool false,.slice ha hs.length hcp,.int .i64 0,.int .i64 0,.slice none 0 0] #[.slice (some ⟨gR',0,none⟩) 8 cr,.bool false,.bool false,.bool false,.bool false,.slice (some ⟨gH',0,none⟩) nH ch,.int .i64 0,.int .i64 0,.slice aO 0 cO] w'->w'.cell? ⟨q9+1,1,none⟩=some (.bool false):=fun w' h=>(Bq h.2.2).2.1
 have y2:∀w',SR qs q9 (q9+1) #[.slice (some ⟨bH,0,none⟩) nH cH,.slice (some ⟨bR,0,none⟩) 8 cR] #[.slice ra rs.length rc,.bool false,.bool false,.bool false,.bool false,.slice ha hs.length hcp,.int .i64 0,.int .i64 0,.slice none 0 0] #[.slice (some ⟨gR',0,none⟩) 8 cr,.bool false,.bool false,.bool false,.bool false,.slice (some ⟨gH',0,none⟩) nH ch,.int .i64 0,.int .i64 0,.slice aO 0 cO] w'->w'.cell? ⟨q9+1,2,none⟩=some (.bool false):=fun w' h=>(Bq h.2.2).2.2.1
 have y3:∀w',SR qs q9 (q9+1) #[.slice (some ⟨bH,0,none⟩) nH cH,.slice (some ⟨bR,0,none⟩) 8 cR] #[.slice ra rs.length rc,.bool false,.bool false,.bool false,.bool false,.slice ha hs.length hcp,.int .i64 0,.int .i64 0,.slice none 0 0] #[.slice (some ⟨gR',0,none⟩) 8 cr,.bool false,.bool false,.bool false,.bool false,.slice (some ⟨gH',0,none⟩) nH ch,.int .i64 0,.int .i64 0,.slice aO 0 cO] w'->w'.cell? ⟨q9+1,3,none⟩=some (.bool false):=fun w' h=>(Bq h.2.2).2.2.2.1
 have y4:∀w',SR qs q9 (q9+1) #[.slice (some ⟨bH,0,none⟩) nH cH,.slice (some ⟨bR,0,none⟩) 8 cR] #[.slice ra rs.length rc,.bool false,.bool false,.bool false,.bool false,.slice ha hs.length hcp,.int .i64 0,.int .i64 0,.slice none 0 0] #[.slice (some ⟨gR',0,none⟩) 8 cr,.bool false,.bool false,.bool false,.bool false,.slice (some ⟨gH',0,none⟩) nH ch,.int .i64 0,.int .i64 0,.slice aO 0 cO] w'->w'.cell? ⟨q9+1,4,none⟩=some (.bool false):=fun w' h=>(Bq h.2.2).2.2.2.2.1
 have y5:∀w',SR qs q9 (q9+1) #[.slice (some ⟨bH,0,none⟩) nH cH,.slice (some ⟨bR,0,none⟩) 8 cR] #[.slice ra rs.length rc,.bool false,.bool false,.bool false,.bool false,.slice ha hs.length hcp,.int .i64 0,.int .i64 0,.slice none 0 0] #[.slice (some ⟨gR',0,none⟩) 8 cr,.bool false,.bool false,.bool false,.bool false,.slice (some ⟨gH',0,none⟩) nH ch,.int .i64 0,.int .i64 0,.slice aO 0 cO] w'->w'.cell? ⟨q9+1,5,none⟩=some (.slice (some ⟨gH',0,none⟩) nH ch):=fun w' h=>(Bq h.2.2).2.2.2.2.2.1
 have y6:∀w',SR qs q9 (q9+1) #[.slice (some ⟨bH,0,none⟩) nH cH,.slice (some ⟨bR,0,none⟩) 8 cR] #[.slice ra rs.length rc,.bool false,.bool false,.bool false,.bool false,.slice ha hs.length hcp,.int .i64 0,.int .i64 0,.slice none 0 0] #[.slice (some ⟨gR',0,none⟩) 8 cr,.bool false,.bool false,.bool false,.bool false,.slice (some ⟨gH',0,none⟩) nH ch,.int .i64 0,.int .i64 0,.slice aO 0 cO] w'->w'.cell? ⟨q9+1,6,none⟩=some (.int .i64 0):=fun w' h=>(Bq h.2.2).2.2.2.2.2.2.1
 have y7:∀w',SR qs q9 (q9+1) #[.slice (some ⟨bH,0,none⟩) nH cH,.slice (some ⟨bR,0,none⟩) 8 cR] #[.slice ra rs.length rc,.bool false,.bool false,.bool false,.bool false,.slice ha hs.length hcp,.int .i64 0,.int .i64 0,.slice none 0 0] #[.slice (some ⟨gR',0,none⟩) 8 cr,.bool false,.bool false,.bool false,.bool false,.slice (some ⟨gH',0,none⟩) nH ch,.int .i64 0,.int .i64 0,.slice aO 0 cO] w'->w'.cell? ⟨q9+1,7,none⟩=some (.int .i64 0):=fun w' h=>(Bq h.2.2).2.2.2.2.2.2.2.1
 have y8:∀w',SR qs q9 (q9+1) #[.slice (some ⟨bH,0,none⟩) nH cH,.slice (some ⟨bR,0,none⟩) 8 cR] #[.slice ra rs.length rc,.bool false,.bool false,.bool false,.bool false,.slice ha hs.length hcp,.int .i64 0,.int .i64 0,.slice none 0 0] #[.slice (some ⟨gR',0,none⟩) 8 cr,.bool false,.bool false,.bool false,.bool false,.slice (some ⟨gH',0,none⟩) nH ch,.int .i64 0,.int .i64 0,.slice aO 0 cO] w'->w'.cell? ⟨q9+1,8,none⟩=some (.slice aO 0 cO):=fun w' h=>(Bq h.2.2).2.2.2.2.2.2.2.2
 refine wp_region_held_drew (S:=SR qs q9 (q9+1) #[.slice (some ⟨bH,0,none⟩) nH cH,.slice (some ⟨bR,0,none⟩) 8 cR] #[.slice ra rs.length rc,.bool false,.bool false,.bool false,.bool false,.slice ha hs.length hcp,.int .i64 0,.int .i64 0,.slice none 0 0] #[.slice (some ⟨gR',0,none⟩) 8 cr,.bool false,.bool false,.bool false,.bool false,.slice (some ⟨gH',0,none⟩) nH ch,.int .i64 0,.int .i64 0,.slice aO 0 cO]) (by kernel_rfl) (by rw[hwA];exact hS8) (fun _=>?_);rw[hwA];clear hu6 b6 q9h q10h hq9 hwA bA F4 F5 F6 C4 C5 G4 Q4 R4 HML Z1 B1 C1;refine AU 0 ?_;refine AU 1 ?_;refine AU 2 ?_;refine AU 3 ?_;have z0:wA.cell? ⟨r,0,none⟩=some (.slice none 0 0):=AJ E2.out 0;have z1:wA.cell? ⟨r,1,none⟩=some (.slice none 0 0):=AJ E2.out 1;have zf:=CP E2.out;have zl2:=Bp E2.out;refine AO 4 rfl (fun KK hK=>?_);go_simp;obtain⟨wB,hwB,G2,G3,G4,GS,GK⟩:∃y,(wA.setCell ⟨r,0,none⟩ (.slice (some ⟨bH,0,none⟩) nH cH)).setCell ⟨r,1,none⟩ (.slice (some ⟨bR,0,none⟩) 8 cR)=y/\Hid (y.heap[r]?=some (.cells #[.slice (some ⟨bH,0,none⟩) nH cH,.slice (some ⟨bR,0,none⟩) 8 cR] 26))/\Hid (y.heap[r+1]?=some (.cells GQ.a 32))/\Hid (y.heap[r+1+1]?=some (.cells GQ.a 32))/\SR qs q9 (q9+1) #[.slice (some ⟨bH,0,none⟩) nH cH,.slice (some ⟨bR,0,none⟩) 8 cR] #[.slice ra rs.length rc,.bool false,.bool false,.bool false,.bool false,.slice ha hs.length hcp,.int .i64 0,.int .i64 0,.slice none 0 0] #[.slice (some ⟨gR',0,none⟩) 8 cr,.bool false,.bool false,.bool false,.bool false,.slice (some ⟨gH',0,none⟩) nH ch,.int .i64 0,.int .i64 0,.slice aO 0 cO] y/\Hid (KP w bH nH S bR V0 u3.heap.size g cg xs u4.heap.size ⟨.slice ra rs.length rc,false,false,false,false,.slice ha hs.length hcp,0,0,.slice none 0 0,rs,hs,[]⟩ y):=by
  have o:∀{i:Nat}{ob:Obj},wA.heap[i]?=some ob->i≠r->((wA.setCell ⟨r,0,none⟩ (.slice (some ⟨bH,0,none⟩) nH cH)).setCell ⟨r,1,none⟩ (.slice (some ⟨bR,0,none⟩) 8 cR)).heap[i]?=some ob:=fun hx hn=>Ao (Ao hx hn _ _) hn _ _
  exact⟨_,rfl,mJ E2.out _ _,o E3.out (by omega),o E4.out (by omega),⟨o hS8.1 (by omega),o hS8.2.1 (by omega),o hS8.2.2 (by omega)⟩,(KA.out.put hrw (by omega) (by omega) (by omega) (by omega) _ _).put hrw (by omega) (by omega) (by omega) (by omega) _ _⟩
 rw[hwB];refine hK.out _ _ GS (fun _=>?_);clear hK KK z0 z1 zf zl2 hwB E2 E3 E4 hS8 KA;try go_frame
 refine AU 5 ?_;obtain⟨z0,z1,z2,z3,z4,z5,z6,z7,z8,zf,zl⟩:=z9 G3.out;refine AO 6 rfl (fun KK hK=>?_);go_simp;change KK _ (JP wB (r+1) (.slice ra rs.length rc) (.bool false) (.bool false) (.bool false) (.bool false) (.slice ha hs.length hcp) (.int .i64 0) (.int .i64 0) (.slice none 0 0));obtain⟨wD,hwD,I2,I3,I4,IS,IK⟩:∃y,JP wB (r+1) (.slice ra rs.length rc) (.bool false) (.bool false) (.bool false) (.bool false) (.slice ha hs.length hcp) (.int .i64 0) (.int .i64 0) (.slice none 0 0)=y/\Hid (y.heap[r]?=some (.cells #[.slice (some ⟨bH,0,none⟩) nH cH,.slice (some ⟨bR,0,none⟩) 8 cR] 26))/\Hid (y.heap[r+1]?=some (.cells #[.slice ra rs.length rc,.bool false,.bool false,.bool false,.bool false,.slice ha hs.length hcp,.int .i64 0,.int .i64 0,.slice none 0 0] 32))/\Hid (y.heap[r+1+1]?=some (.cells GQ.a 32))/\SR qs q9 (q9+1) #[.slice (some ⟨bH,0,none⟩) nH cH,.slice (some ⟨bR,0,none⟩) 8 cR] #[.slice ra rs.length rc,.bool false,.bool false,.bool false,.bool false,.slice ha hs.length hcp,.int .i64 0,.int .i64 0,.slice none 0 0] #[.slice (some ⟨gR',0,none⟩) 8 cr,.bool false,.bool false,.bool false,.bool false,.slice (some ⟨gH',0,none⟩) nH ch,.int .i64 0,.int .i64 0,.slice aO 0 cO] y/\Hid (KP w bH nH S bR V0 u3.heap.size g cg xs u4.heap.size ⟨.slice ra rs.length rc,false,false,false,false,.slice ha hs.length hcp,0,0,.slice none 0 0,rs,hs,[]⟩ y):=by
  exact⟨_,rfl,CY (P:=fun y=>y.heap[r]?=some (.cells #[.slice (some ⟨bH,0,none⟩) nH cH,.slice (some ⟨bR,0,none⟩) 8 cR] 26)) G2.out (fun _ j v h=>Ao h (by omega) j v) _ _ _ _ _ _ _ _ _,Lv G3.out _ _ _ _ _ _ _ _ _,CY (P:=fun y=>y.heap[r+1+1]?=some (.cells GQ.a 32)) G4.out (fun _ j v h=>Ao h (by omega) j v) _ _ _ _ _ _ _ _ _,⟨CY (P:=fun y=>y.heap[qs]?=some (.cells #[.slice (some ⟨bH,0,none⟩) nH cH,.slice (some ⟨bR,0,none⟩) 8 cR] 26)) GS.1 (fun _ j v h=>Ao h (by omega) j v) _ _ _ _ _ _ _ _ _,CY (P:=fun y=>y.heap[q9]?=some (.cells #[.slice ra rs.length rc,.bool false,.bool false,.bool false,.bool false,.slice ha hs.length hcp,.int .i64 0,.int .i64 0,.slice none 0 0] 32)) GS.2.1 (fun _ j v h=>Ao h (by omega) j v) _ _ _ _ _ _ _ _ _,CY (P:=fun y=>y.heap[q9+1]?=some (.cells #[.slice (some ⟨gR',0,none⟩) 8 cr,.bool false,.bool false,.bool false,.bool false,.slice (some ⟨gH',0,none⟩) nH ch,.int .i64 0,.int .i64 0,.slice aO 0 cO] 32)) GS.2.2 (fun _ j v h=>Ao h (by omega) j v) _ _ _ _ _ _ _ _ _⟩,CY (P:=fun y=>KP w bH nH S bR V0 u3.heap.size g cg xs u4.heap.size ⟨.slice ra rs.length rc,false,false,false,false,.slice ha hs.length hcp,0,0,.slice none 0 0,rs,hs,[]⟩ y) GK.out (fun _ j v h=>h.put (by omega) (by omega) (by omega) (by omega) (by omega) j v) _ _ _ _ _ _ _ _ _⟩
 rw[hwD];refine hK.out _ _ IS (fun _=>?_);clear hK KK z0 z1 z2 z3 z4 z5 z6 z7 z8 zf zl hwD G2 G3 G4 GS GK
 try go_frame
 obtain⟨z0,z1,z2,z3,z4,z5,z6,z7,z8,zf,zl⟩:=z9 I4.out
 refine AO 7 rfl (fun KK hK=>?_)
 go_simp
 change KK _ (JP wD (r+1+1) (.slice (some ⟨gR',0,none⟩) 8 cr) (.bool false) (.bool false) (.bool false) (.bool false) (.slice (some ⟨gH',0,none⟩) nH ch) (.int .i64 0) (.int .i64 0) (.slice aO 0 cO))
 obtain⟨wE,hwE,J2,J3,J4,JS,JK⟩:∃y,JP wD (r+1+1) (.slice (some ⟨gR',0,none⟩) 8 cr) (.bool false) (.bool false) (.bool false) (.bool false) (.slice (some ⟨gH',0,none⟩) nH ch) (.int .i64 0) (.int .i64 0) (.slice aO 0 cO)=y/\Hid (y.heap[r]?=some (.cells #[.slice (some ⟨bH,0,none⟩) nH cH,.slice (some ⟨bR,0,none⟩) 8 cR] 26))/\Hid (y.heap[r+1]?=some (.cells #[.slice ra rs.length rc,.bool false,.bool false,.bool false,.bool false,.slice ha hs.length hcp,.int .i64 0,.int .i64 0,.slice none 0 0] 32))/\Hid (y.heap[r+1+1]?=some (.cells #[.slice (some ⟨gR',0,none⟩) 8 cr,.bool false,.bool false,.bool false,.bool false,.slice (some ⟨gH',0,none⟩) nH ch,.int .i64 0,.int .i64 0,.slice aO 0 cO] 32))/\SR qs q9 (q9+1) #[.slice (some ⟨bH,0,none⟩) nH cH,.slice (some ⟨bR,0,none⟩) 8 cR] #[.slice ra rs.length rc,.bool false,.bool false,.bool false,.bool false,.slice ha hs.length hcp,.int .i64 0,.int .i64 0,.slice none 0 0] #[.slice (some ⟨gR',0,none⟩) 8 cr,.bool false,.bool false,.bool false,.bool false,.slice (some ⟨gH',0,none⟩) nH ch,.int .i64 0,.int .i64 0,.slice aO 0 cO] y/\Hid (KP w bH nH S bR V0 u3.heap.size g cg xs u4.heap.size ⟨.slice ra rs.length rc,false,false,false,false,.slice ha hs.length hcp,0,0,.slice none 0 0,rs,hs,[]⟩ y):=by
  exact⟨_,rfl,CY (P:=fun y=>y.heap[r]?=some (.cells #[.slice (some ⟨bH,0,none⟩) nH cH,.slice (some ⟨bR,0,none⟩) 8 cR] 26)) I2.out (fun _ j v h=>Ao h (by omega) j v) _ _ _ _ _ _ _ _ _,CY (P:=fun y=>y.heap[r+1]?=some (.cells #[.slice ra rs.length rc,.bool false,.bool false,.bool false,.bool false,.slice ha hs.length hcp,.int .i64 0,.int .i64 0,.slice none 0 0] 32)) I3.out (fun _ j v h=>Ao h (by omega) j v) _ _ _ _ _ _ _ _ _,Lv I4.out _ _ _ _ _ _ _ _ _,⟨CY (P:=fun y=>y.heap[qs]?=some (.cells #[.slice (some ⟨bH,0,none⟩) nH cH,.slice (some ⟨bR,0,none⟩) 8 cR] 26)) IS.1 (fun _ j v h=>Ao h (by omega) j v) _ _ _ _ _ _ _ _ _,CY (P:=fun y=>y.heap[q9]?=some (.cells #[.slice ra rs.length rc,.bool false,.bool false,.bool false,.bool false,.slice ha hs.length hcp,.int .i64 0,.int .i64 0,.slice none 0 0] 32)) IS.2.1 (fun _ j v h=>Ao h (by omega) j v) _ _ _ _ _ _ _ _ _,CY (P:=fun y=>y.heap[q9+1]?=some (.cells #[.slice (some ⟨gR',0,none⟩) 8 cr,.bool false,.bool false,.bool false,.bool false,.slice (some ⟨gH',0,none⟩) nH ch,.int .i64 0,.int .i64 0,.slice aO 0 cO] 32)) IS.2.2 (fun _ j v h=>Ao h (by omega) j v) _ _ _ _ _ _ _ _ _⟩,CY (P:=fun y=>KP w bH nH S bR V0 u3.heap.size g cg xs u4.heap.size ⟨.slice ra rs.length rc,false,false,false,false,.slice ha hs.length hcp,0,0,.slice none 0 0,rs,hs,[]⟩ y) IK.out (fun _ j v h=>h.put (by omega) (by omega) (by omega) (by omega) (by omega) j v) _ _ _ _ _ _ _ _ _⟩
 rw[hwE]
 refine hK.out _ _ JS (fun _=>?_)
 clear hK KK z0 z1 z2 z3 z4 z5 z6 z7 z8 zf zl hwE I2 I3 I4 IS IK
 try go_frame
 refine wpAnyH_done (by kernel_rfl) ?_ _
 clear s0 s1 x0 x1 x2 x3 x4 x5 x6 x7 x8 y0 y1 y2 y3 y4 y5 y6 y7 y8 JS
 have s0:=(AJ J2.out 0).trans rfl
 have s1:=(AJ J2.out 1).trans rfl
 obtain⟨x0,x1,x2,x3,x4,x5,x6,x7,x8⟩:=Bq J3.out
 obtain⟨y0,y1,y2,y3,y4,y5,y6,y7,y8⟩:=Bq J4.out
 go_wp2
 refine bodyPost_ret (v:=.tuple #[.agg #[.slice (some ⟨bH,0,none⟩) nH cH,.slice (some ⟨bR,0,none⟩) 8 cR],.slice (some ⟨g,0,none⟩) xs.length cg,.agg #[.slice ra rs.length rc,.bool false,.bool false,.bool false,.bool false,.slice ha hs.length hcp,.int .i64 0,.int .i64 0,.slice none 0 0],.agg #[.slice (some ⟨gR',0,none⟩) 8 cr,.bool false,.bool false,.bool false,.bool false,.slice (some ⟨gH',0,none⟩) nH ch,.int .i64 0,.int .i64 0,.slice aO 0 cO]]) (by simp[results,Tryz.results4,go_sem,s0,s1,x0,x1,x2,x3,x4,x5,x6,x7,x8,y0,y1,y2,y3,y4,y5,y6,y7,y8]) rfl ⟨bH,cH,nH,S,bR,cR,V0,g,cg,xs,⟨.slice ra rs.length rc,false,false,false,false,.slice ha hs.length hcp,0,0,.slice none 0 0,rs,hs,[]⟩,gR',cr,gH',ch,aO,cO,rfl,n1,n4,SOK.out,JK.out.1,hxl,Ke JK.out.2.1 (by omega),HFM.out,JK.out.2.2.1.dn (by omega),JK.out.2.2.2⟩
end Go.Proofs.YtjoppncopoampaaGreatDoor
