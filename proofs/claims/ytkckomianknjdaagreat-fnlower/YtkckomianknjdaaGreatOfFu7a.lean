import Derived.Test.YtkckomianknjdaaGreatOfCoreF
import Derived.Test.YtkckomianknjdaaGreatOfFu6f
set_option maxHeartbeats 32000000
set_option maxRecDepth 20000
namespace Go.Proofs.YtkckomianknjdaaGreat
open Go.RowKit Go.Deep
theorem Fh.putA{w:World}{p:Nat}{U:Option Addr}{n Y:Nat}{bH cH o:Nat}{S:Nat->HS}{C cR:Nat}{M:Nat->VV}{bA cA:Nat}{V:Nat->VV}{z c:Int}{I Q a:Nat}{u:World}(h:Fh w p U n Y bH cH o S C cR M bA cA V z c I Q a u){L k:Nat}{b:Nat->VV}{X B:Int}(d:BZ u L (8*6) (vF b))(E:BQ o S 8 M 8 b X B=true)(l:L≠Q)(m:L≠a)(q:L≠p):Fh w p U n Y bH cH o S C cR M L k b X B I Q a (((u.setCell (Va Q 0) (Vs L 8 k)).setCell (Va Q 1) (Vi X)).setCell (Va Q 2) (Vi B)):=by
 have s:=h.pw;have x:=h.o1;have y:=h.o2;have D:=h.o3;have e:=h.n1;have j:=h.n2;exact⟨Fg h.F AB _ _ _,Ep h.K AB _ _ _,BJ (BJ (BJ h.sg AB _ _) AB _ _) AB _ _,h.A.set _ _ _,BJ (BJ (BJ h.R AB _ _) AB _ _) AB _ _,⟨Dx h.sc.h AB _ _ _,Dx h.sc.r AB _ _ _⟩,Dx d l _ _ _,E,h.lH,s,x,y,D,e,j,m,h.p1,h.p2,q⟩
theorem jH{u:World}{g Q t:Nat}{f:Nat->Value}{x y z:Value}(a:BZ u g (8*6) f)(h:V3 u Q t x y z):g≠Q:=fun e=>by
 have q:=a.cell (i:=3) AB;rw[e,AJ h 3]at q;simp at q
theorem Rf(d:Nat)(hd:d<=3)(IH:∀d',d=d'+1->Xq d'):Xq d:=by
 intro p ao n B bH cH nH S bR cR V0 bA M V z c m ah w hm hc h1 h2 h3 p1 p2 p3;have X0:Hid (Fh w p ao n B bH cH nH S bR cR V0 bA M V z c w.heap.size (w.heap.size+1) (w.heap.size+1+1) (((w.alloc (.cells #[Vs bH nH cH,Vs bR 8 cR] 45)).alloc (.cells #[Vs bA 8 M,Vi z,Vi c] 142)).alloc (.cells #[.slice none 0 0,Vi 0,Vi 0] 142))):=QD w hc h1 h2 h3 p1 p2 p3;have LA:Hid (bA<w.heap.size/\bA≠p):=⟨h2.lt,p3⟩
 have lp:=hc.lt;have aS:=Xk hd;have aT:=NQ d;clear hc h1 h2 h3 p1 p2 p3;go_enter Tryz.func66,Tryz.ntmps66;go_upto_region 1 with fail;obtain⟨u,hu⟩:=BG (((w.alloc (.cells #[Vs bH nH cH,Vs bR 8 cR] 45)).alloc (.cells #[Vs bA 8 M,Vi z,Vi c] 142)).alloc (.cells #[.slice none 0 0,Vi 0,Vi 0] 142));rw[hu]at X0⊢;obtain⟨bs,am⟩:=BG w.heap.size;obtain⟨ba,aa⟩:=BG (w.heap.size+1);obtain⟨U,aw⟩:=BG (w.heap.size+1+1);have X0:Hid (Fh w p ao n B bH cH nH S bR cR V0 bA M V z c bs ba U u):=by rw[<-am,<-aa,<-aw];exact X0
 rw[aw,aa,am];have BO:Hid (w.heap.size=bs/\bs<ba/\ba<U):=⟨am,AB,AB⟩
 clear hu am aa aw;go_upto_region 2 with fail;obtain⟨u0,aI,b0,o0⟩:∃y,u.alloc (.cells #[] 111)=y/\Bw u y/\y.ownsRow u.heap.size 111 11 (Vs u.heap.size ([]:List SV).length 0) ([]:List SV).length (DL []):=⟨_,rfl,Ah,World.ownsRow_lit u #[] 0 BP (by unfold maxLen;omega) rfl⟩
 rw[aI];have X1:=hxy (X0.below b0);have O1:=hxy (DT o0 X0.F.size);obtain⟨an,aG⟩:=BG u.heap.size;rw[aG]at O1⊢;have aN:Hid (an≠bA):=(by have:=LA.out;have:=O1.lt an rfl;omega:an≠bA)
 clear aI b0 o0 aG X0;go_wp2_with fail;go_loopw [14,15](fun ov iv wr=>∃(k:Nat)(og oc:Nat)(xs:List SV)(E M:Nat)(V:Nat->VV)(z c:Int),ov=Vs og xs.length oc/\iv=Vi (k:Int)/\k<=m/\Hid (Wl xs/\(E=bA∨w.heap.size<=E)/\og≠E)/\xs.length<=k*gb d/\Fh w p ao n B bH cH nH S bR cR V0 E M V z c bs ba U wr/\wr.ownsRow w.heap.size 111 11 (Vs og xs.length oc) xs.length (DL xs))(fun _ iv _=>m-(intOf iv).toNat)
 case atStart=>exact⟨0,an,0,[],bA,M,V,z,c,rfl,rfl,AB,⟨.nil,Or.inl rfl,aN⟩,AY,X1,O1⟩
 case round=>
  clear X1 O1;obtain⟨k,og,oc,xs,E,M,V,z,c,rfl,rfl,hk,HW,aF,x,o⟩:=hrel;have X:=hxy x;have O:=hxy o;clear x o;by_cases a9:k<m
  rotate_left
  ·have aE:¬(k:Int)<(m:Int):=AB
   have aU:xs.length<=m*gb d:=Nat.le_trans aF (Nat.mul_le_mul_right _ hk);go_upto_region 15 with fail;have R9:=X.R;have aa:(some U:Option Nat)≠some ba:=by intro e;have e1:=Option.some.inj e;have:=BO.out;omega
   have aV:(Vs og xs.length oc).ownBlock≠some U:=Az R9 O Aa;have j0:∀w',Tn (some U) wr w'->w'.cell? (Va ba 0)=some (Vs E 8 M):=fun w' h=>(X.A.tn h aa).cells.1
   have j1:∀w',Tn (some U) wr w'->w'.cell? (Va ba 1)=some (Vi z):=fun w' h=>(X.A.tn h aa).cells.2.1
   have j2:∀w',Tn (some U) wr w'->w'.cell? (Va ba 2)=some (Vi c):=fun w' h=>(X.A.tn h aa).cells.2.2
   refine wp_region_held_drew (S:=fun w'=>Tn (some U) wr w') Ab (Tn.of Al.drew) (fun _=>?_);refine lM [0,1,2] ?_;have ag:Bw wr wr.drew:=Al.drew;generalize wr.drew=t0 at ag⊢;have R0:=R9.below ag;obtain⟨r0,r1,r2⟩:=R0.cells;have rf:=R0.free;have rl:=R0.lt;have X2:=X.below ag;have RS:Hid (VT nH S V0 bA (m*gb d) w p ao n B (.returned (.tuple #[Vs og xs.length oc,.agg #[Vs E 8 M,Vi z,Vi c]])) (((t0.setCell (Va U 0) (Vs E 8 M)).setCell (Va U 1) (Vi z)).setCell (Va U 2) (Vi c))):=⟨og,oc,xs,E,M,V,z,c,rfl,HW.1,aU,EM (Aw O ag) aV _ _ _,HW.2.1,Dx X2.G X2.n3 _ _ _,X2.ok,Fg X2.F (by have:=BO.out;omega) _ _ _,Ep X2.K (by have:=BO.out;omega) _ _ _⟩
   have TT:Hid (Tn (some U) wr t0):=Tn.of ag;clear ag R0 X2 R9 j0 j1 j2 X O;refine AO 3 rfl (fun KK hK=>?_);go_simp;refine hK.out _ _ (TT.set3 _ _ _) (fun _=>?_);clear hK KK;refine wpAnyH_done Ab ?_ _;go_wp2_with fail;refine bodyPost_ret (v:=.tuple #[Vs og xs.length oc,.agg #[Vs E 8 M,Vi z,Vi c]]) (by simp[results,Tryz.results66,go_sem, *]) rfl RS
  have aE:(k:Int)<(m:Int):=AB;go_wp2_with fail;refine(AX p ao n B 10 _ AB X.K).mono ?_;rintro e v1⟨kk,rfl,bc,a6,f,k'⟩;have X1:=hxy (X.fw f k');have O1:=hxy (EA O f lp);clear f k' X O;obtain⟨_,⟨a0,a1,a2⟩,ad,ae⟩:=X1.cells;go_upto_region 8 with fail;obtain⟨v2,az,b2⟩:∃y,v1.alloc (.cells #[] 111)=y/\Bw v1 y:=⟨_,rfl,Ah⟩
  have X2:=hxy (X1.below b2);have O2:=Aw O1 b2;have e1:v2.heap.size=v1.heap.size+1:=by rw[<-az];simp
  obtain⟨v3,aJ,b3,n3⟩:∃y,v2.alloc (.cells #[Vs E 8 M,Vi z,Vi c] 142)=y/\Bw v2 y/\V3 y v2.heap.size 142 (Vs E 8 M) (Vi z) (Vi c):=⟨_,rfl,Ah,V3.new _ _ _ _ _⟩
  try rw[az]
  try rw[aJ]
  have D:=hxy (X2.below b3);have O3:=hxy (Aw O2 b3);obtain⟨nv,ay⟩:=BG v2.heap.size
  have ar:v1.heap.size+1=nv:=AB
  try rw[ay]
  try rw[ar]
  rw[ay]at n3
  have N3:=hxy n3
  have aK:Hid (Fw p v2 v3):=.of_below b3
  have ZV:Hid (v2.heap.size<=nv/\og<v2.heap.size/\E<v2.heap.size/\p<v2.heap.size/\U<v2.heap.size/\w.heap.size<=v2.heap.size/\ba<v2.heap.size):=⟨AB,(O2.lt og rfl).2,X2.G.lt,by have:=X2.F.size;omega,X2.R.lt,X2.F.size,X2.A.lt⟩
  have aM:=hxy O2
  clear az b2 e1 aJ b3 n3 ay ar a0 a1 a2 ad ae X1 O1 O2
  go_cut [34](fun a4 wx=>∃b:Bool,a4=.bool b/\(b=true->0<d)/\wx=v3)
  case first=>
   by_cases ac:kk=0
   ·have e1:(kk==0)=true:=by simp[ac]
    clear ac
    by_cases hd0:0<d
    ·have e2:decide (0<(d:Int))=true:=by simp;omega
     go_wp2_with fail
     go_meet
     exact⟨_,rfl,fun _=>hd0,rfl⟩
    ·have e2:decide (0<(d:Int))=false:=by simp;omega
     go_wp2_with fail
     go_meet
     exact⟨_,rfl,(by intro e;cases e),rfl⟩
   ·have e1:(kk==0)=false:=by simp[ac]
    go_wp2_with fail
    go_meet
    exact⟨_,rfl,(by intro e;cases e),rfl⟩
  case rest=>
  obtain⟨aP,rfl,ai,al⟩:=hcut
  rw[al]
  clear al
  go_upto_if 34 with fail
  go_cut [17](fun a3 wx=>∃(Z Y:Nat)(s:List SV)(a j:Nat)(Q:Nat->VV)(N L:Int),a3=Vs Z s.length Y/\Wl s/\s.length<=gb d/\DR nH S V0 E v2 p ao n B Z Y s nv a j Q N L wx)
  case first=>
   obtain⟨⟨s0,s1⟩,⟨a0,a1,a2⟩,ad,ae⟩:=D.cells
   have av:Hid (∀(v4:World)(Z Y:Nat)(s:List SV)(a j:Nat)(Q:Nat->VV)(N L:Int)(mm:Nat),mm<=gb d->Wl s->s.length<=mm->v4.ownsRow v3.heap.size 111 11 (Vs Z s.length Y) s.length (DL s)->(a=E∨v3.heap.size<=a)->BZ v4 a (8*6) (vF Q)->BQ nH S 8 V0 8 Q N L=true->Fw p v3 v4->CG v4 p ao n B->Wl s/\s.length<=gb d/\DR nH S V0 E v2 p ao n B Z Y s nv a j Q N L (((v4.setCell (Va nv 0) (Vs a 8 j)).setCell (Va nv 1) (Vi N)).setCell (Va nv 2) (Vi L))/\V3 v4 nv 142 (Vs E 8 M) (Vi z) (Vi c)):=fun v4 Z Y s a j Q N L mm bb I hl l C hA J f k'=>by
    have zv:=ZV.out
    exact⟨I,AB,Jv aK AB AB N3 AB l C hA J f k',Ci N3 f AB⟩
   cases aP with
   |true=>
    obtain⟨d',ab⟩:∃d',d=d'+1:=⟨d-1,by have:=ai rfl;omega⟩
    have r:=RH d' (IH d' ab) AB p ao n B bH cH nH S bR cR V0 E M V z c ah v3 D.K D.sc D.G D.ok D.p1 D.p2 D.p3
    rw[<-ab]at r
    have HC:Hid _:=r
    clear r ab ai
    go_wp2_with fail
    refine Calls.mono HC ?_
    rintro e v4⟨Z,Y,s,a,j,Q,N,L,rfl,I,hl,l,C,hA,J,f,k'⟩
    have R:=av.out v4 Z Y s a j Q N L _ BP I hl l C hA J f k'
    have RR:Hid _:=R
    obtain⟨n0,n1,n2⟩:=R.2.2.2.cells
    have nf:=R.2.2.2.free
    have nl:=R.2.2.2.lt
    clear R I hl l C hA J f k' s0 s1 a0 a1 a2 ad ae
    go_wp2_with fail
    go_meet
    exact⟨Z,Y,s,a,j,Q,N,L,rfl,RR.1,RR.2.1,RR.2.2.1⟩
   |false=>
    clear ai
    go_upto_region 10 with fail
    go_cut [49](fun a5 wx=>∃b:Bool,a5=.bool b/\(b=true->0<d)/\wx=v3)
    case first=>
     by_cases ac:kk=1
     ·have e1:(kk==1)=true:=by simp[ac]
      clear ac
      by_cases hd0:0<d
      ·have e2:decide (0<(d:Int))=true:=by simp;omega
       go_wp2_with fail
       go_meet
       exact⟨_,rfl,fun _=>hd0,rfl⟩
      ·have e2:decide (0<(d:Int))=false:=by simp;omega
       go_wp2_with fail
       go_meet
       exact⟨_,rfl,(by intro e;cases e),rfl⟩
     ·have e1:(kk==1)=false:=by simp[ac]
      go_wp2_with fail
      go_meet
      exact⟨_,rfl,(by intro e;cases e),rfl⟩
    case rest=>
    obtain⟨aQ,rfl,aj,al⟩:=hcut
    rw[al]
    clear al
    cases aQ with
    |true=>
     obtain⟨d',ab⟩:∃d',d=d'+1:=⟨d-1,by have:=aj rfl;omega⟩
     have r:=OO d' (IH d' ab) AB p ao n B bH cH nH S bR cR V0 E M V z c ah v3 D.K D.sc D.G D.ok D.p1 D.p2 D.p3
     rw[<-ab]at r
     have HC:Hid _:=r
     clear r ab aj
     go_wp2_with fail
     refine Calls.mono HC ?_
     rintro e v4⟨Z,Y,s,a,j,Q,N,L,rfl,I,hl,l,C,hA,J,f,k'⟩
     have R:=av.out v4 Z Y s a j Q N L _ BP I hl l C hA J f k'
     have RR:Hid _:=R
     obtain⟨n0,n1,n2⟩:=R.2.2.2.cells
     have nf:=R.2.2.2.free
     have nl:=R.2.2.2.lt
     clear R I hl l C hA J f k' s0 s1 a0 a1 a2 ad ae
     go_wp2_with fail
     go_meet
     exact⟨Z,Y,s,a,j,Q,N,L,rfl,RR.1,RR.2.1,RR.2.2.1⟩
    |false=>
     clear aj
     go_wp2_with fail
     refine(Fz p ao n B bH cH nH S bR cR V0 E M V z c ah v3 D.K D.sc D.G D.ok D.p1 D.p2 D.p3).mono ?_
     rintro e v4⟨Z,Y,s,a,j,Q,N,L,rfl,I,hl,l,C,hA,J,f,k'⟩
     have R:=av.out v4 Z Y s a j Q N L 1 aT I hl l C hA J f k'
     have RR:Hid _:=R
     obtain⟨n0,n1,n2⟩:=R.2.2.2.cells
     have nf:=R.2.2.2.free
     have nl:=R.2.2.2.lt
     clear R I hl l C hA J f k' s0 s1 a0 a1 a2 ad ae
     go_wp2_with fail
     go_meet
     exact⟨Z,Y,s,a,j,Q,N,L,rfl,RR.1,RR.2.1,RR.2.2.1⟩
  case rest=>
  obtain⟨Z,Y,s,a,j,Q,N,L,rfl,aB,au,dr⟩:=hcut
  generalize wc=v4 at dr⊢
  have X4:=hxy (X2.fw dr.F dr.K)
  have O4:=hxy (EA aM dr.F lp)
  have aC:=hxy dr
  have a7:Hid (Wl s/\s.length<=gb d):=⟨aB,au⟩
  have a8:k*gb d<=30*1000:=Nat.mul_le_mul AB aS
  obtain⟨g2,c2,v5,ak,o5,hg,aR⟩:=Ir v4 w.heap.size og oc xs O4 _ Z Y s dr.row AB X4.F.size
  obtain⟨ys,aA⟩:=BG (xs++s)
  rw[aA]at ak o5
  have aH:=Fa O4 (q:=og) rfl
  have ty:∀{b t:Nat}{vs:Array Value},v4.heap[b]?=some (.cells vs t)->t≠111->og≠b:=fun hx he e=>Az hx O4 he (by rw[e];rfl)
  have zv:=ZV.out
  have C:=dr.nw
  have aD:=HW.2.2
  have ap:og≠a:=AB
  have X5:Hid (Fh w p ao n B bH cH nH S bR cR V0 E M V z c bs ba U v5):=X4.grw hg aH (ty X4.sg Aa) (ty X4.A Aa) (ty X4.R Aa) aD
  have N5:Hid (V3 v5 nv 142 (Vs a 8 j) (Vi N) (Vi L)):=Bn dr.P hg (fun e=>ty dr.P Aa (Option.some.inj e))
  have A5:Hid (BZ v5 a (8*6) (vF Q)):=dr.A.grw hg (fun e=>ap (Option.some.inj e))
  have aO:=hxy dr.ok
  have O5:=hxy o5
  have WY:Hid (Wl ys/\ys.length<=(k+1)*gb d):=(by
   rw[<-aA]
   exact⟨HW.1.app aB,by rw[Nat.add_mul,Nat.one_mul,List.length_append];omega⟩:Wl ys/\ys.length<=(k+1)*gb d)
  have aX:a≠U:=by have:=X4.n3;omega
  have aW:=jH aC.A X4.A
  have aY:a≠p:=by have:=X4.p3;omega
  have aZ:g2≠a:=by have:=dr.A.lt;omega
  have NW:Hid (a=bA∨w.heap.size<=a):=(by have:=HW.2.1;omega:a=bA∨w.heap.size<=a)
  have ax:(Vs g2 ys.length c2).ownBlock≠some ba:=Az X5.A O5 Aa
  clear hg aR aA o5 ty dr aB au zv C aD ap X4 O4 aC
  go_upto_region 14 with(first|(at_builtin;refine D8 rfl _ _ 23 rfl rfl rfl ak ?_))
  clear ak
  obtain⟨n0,n1,n2⟩:=N5.cells
  have nl:=N5.lt
  obtain⟨_,⟨a0,a1,a2⟩,ad,ae⟩:=X5.cells
  have af:=X5.A.free
  have Y5:Hid (Fh w p ao n B bH cH nH S bR cR V0 a j Q N L bs ba U (((v5.setCell (Va ba 0) (Vs a 8 j)).setCell (Va ba 1) (Vi N)).setCell (Va ba 2) (Vi L))):=X5.putA A5 aO aW aX aY
  clear X5 N5 A5
  go_wp2_with fail
  go_roundw
  case rel=>exact⟨k+1,g2,c2,ys,a,j,Q,N,L,rfl,by go_num,AB,⟨WY.1,NW,aZ⟩,WY.2,Y5,EM O5 ax _ _ _⟩
  case measure=>simp[intOf];omega
theorem Oo:∀(d:Nat),d<=3->Xq d
 |0,h=>Rf 0 h (fun a e=>by omega)
 |d+1,h=>Rf (d+1) h (fun a e=>by rw[show a=d by omega];exact Oo d AB)
def Yd(m:Nat)(w:World)(p:Nat)(ao:Option Addr)(n cap:Nat)(e:Ending)(w':World):Prop:=
 ∃(g cg:Nat)(xs:List SV),e=.returned (Vs g xs.length cg)/\xs.length<=m/\w'.ownsRow w.heap.size 111 11 (Vs g xs.length cg) xs.length (DL xs)/\Fw p w w'/\CG w' p ao n cap
theorem U0{o:Nat}{S:Nat->HS}{M:Nat->VV}(h:Ed o S 8 M=true):BQ o S 8 M 8 M 0 0=true:=by
 have a:=h;unfold Ed Dp at a;simp only[Bool.and_eq_true,decide_eq_true_eq,List.all_eq_true,List.mem_range,gv]at a;exact Dh.2 ⟨h,rfl,a.2.2,⟨AB,AB⟩,AB,AB⟩
theorem Lc(p:Nat)(D:Option Addr)(n a:Nat)(A U B:Nat)(S:Nat->HS)(c J:Nat)(l:Nat->VV)(w:World)(hc:CG w p D n a)(h1:Dl w A B S c 8 l)(h3:Ed B S 8 l=true)(p1:A≠p)(p2:c≠p):
 Calls Tryz.prog 38 #[Vq p,.agg #[Vs A B U,Vs c 8 J]] w (Yd 9330 w p D n a):=by
 have HC:=hxy hc;have HS:=hxy h1;have OK:=hxy (U0 h3);have lp:=hc.lt;have l1:=h1.h.lt;have l2:=h1.r.lt;obtain⟨iV,gV,aa,ab,ac⟩:=info_parts L8;have o:Hid (_/\_/\_/\_):=⟨gV,aa,ab,ac⟩
 go_enter Tryz.func38,Tryz.ntmps38;go_upto_region 1 with fail;obtain⟨y0,ak,b0⟩:∃y,w.alloc (.cells #[Vs A B U,Vs c 8 J] 45)=y/\Bw w y:=⟨_,rfl,Ah⟩
 have O:=Bh w (.cells #[Vs A B U,Vs c 8 J] 45);rw[ak]at O⊢;obtain⟨bs,K⟩:=BG w.heap.size;rw[K]at O⊢;have N0:=hxy O;have F0:Hid (Fw p w y0):=.of_below b0;have K0:=hxy (HC.below b0);have S0:=hxy (HS.below b0);have L:p≠bs:=AB;have ap:=hxy K;go_wp2_with fail;refine(AX p D n a 9 _ AB K0).mono ?_;rintro e y1⟨x,rfl,x0,x9,f,k⟩;have N1:=hxy (Ci N0 f L);have F1:=hxy (F0.trans f);have K1:=hxy k;have S1:Hid (Dl y1 A B S c 8 l):=⟨f.arr S0.h p1,f.arr S0.r p2⟩
 go_wp2_with fail;refine(Bv p D n a 40 _ AB K1).mono ?_;rintro e d⟨b,rfl,f,k⟩;have N2:=hxy (Ci N1 f L);have F2:=hxy (F1.trans f);have K2:=hxy k;have S2:Hid (Dl d A B S c 8 l):=⟨f.arr S1.h p1,f.arr S1.r p2⟩
 go_upto_if 13 with fail;go_cut [5](fun s5 wx=>(∃m:Nat,s5=Vi (m:Int)/\m<=30)/\wx=d)
 case first=>
  cases b with
  |true=>
   go_wp2_with fail;go_meet;exact⟨⟨30,rfl,AB⟩,rfl⟩
  |false=>
   go_wp2_with fail;go_meet;exact⟨⟨(2+x).toNat,by rw[show(((2+x).toNat:Nat):Int)=2+x by omega],AB⟩,rfl⟩
 case rest=>
 obtain⟨⟨m,rfl,hm⟩,aj⟩:=hcut;rw[aj];obtain⟨y3,av,I,o3⟩:∃y,d.alloc (.cells #[] 95)=y/\Bw d y/\y.ownsRow d.heap.size 95 6 (Vs d.heap.size 0 0) 0 []:=⟨_,rfl,Ah,World.ownsRow_lit d #[] 0 BP (by unfold maxLen;omega) rfl⟩
 have Y:=Ba N2 I;have O:=(AJ Y 0).trans rfl;have n1:=(AJ Y 1).trans rfl;have nl:=Bz Y;have ae:∀j v,(first (8*6) (vF l))[j]?=some v->y3.cell? ((⟨c,0,none⟩:Addr).add j)=some v:=fun j v hj=>by
  obtain⟨ag,rfl⟩:=Eh hj;rw[Addr.add_lit,Nat.zero_add];exact(I.cell (p:=Va c j) S2.r.lt).trans (S2.r.cell ag)
 have ad:∀u∈first (8*6) (vF l),u.oneCell'=true:=by
  intro v hv;obtain⟨j,hj,rfl⟩:=Ej hv;unfold vF;have:j%6<6:=Nat.mod_lt _ Aa;generalize j%6=q at this⊢;match q,this with
  |0,_=>rfl
  |1,_=>rfl
  |2,_=>rfl
  |3,_=>rfl
  |4,_=>rfl
  |5,_=>rfl
 obtain⟨v',F,N,o4,hg,_,_⟩:=run_append_own_at (P:=Tryz.prog) y3 d.heap.size 43 43 95 iV _ 6 48 Tryz.underlying43 o.1 o.2.1 o.2.2.1 o.2.2.2 rfl Aa _ _ _ o3 ⟨c,0,none⟩ 8 J (first (8*6) (vF l)) (CJ _ _) ae ad (by unfold maxLen;omega) AB I.size;have C:F.ownsRow d.heap.size 95 6 v' 8 (first (8*6) (vF l)):=by simpa using o4
 obtain⟨E,cA,rfl⟩:=GN C AB;have b4:Bw d F:=I.trans (Al.grown hg I.size (by intro k hk;simp[Value.ownBlock]at hk;omega));have AA:=hxy (Mw C);have ar:d.heap.size<=E:=(C.lt E rfl).1;go_upto_region 5 with(first|(at_builtin;refine D8 rfl _ _ 43 rfl rfl rfl N ?_));obtain⟨y5,am,b5⟩:∃y,F.alloc (.cells #[Vs E 8 cA,Vi 0,Vi 0] 142)=y/\Bw F y:=⟨_,rfl,Ah⟩
 have X:=V3.new F 142 (Vs E 8 cA) (Vi 0) (Vi 0);rw[am]at X⊢;have z:=b4.trans (b5.mono b4.size);have F5:Hid (Fw p w y5):=F2.trans (.of_below z);have K5:=hxy (K2.below z);have S5:=hxy (S2.below z);have A5:=hxy (AA.below b5 AA.lt);have Z:=Ba N2 z;obtain⟨na,ah⟩:=BG F.heap.size;rw[ah]at X⊢;have a0:=X.cells;have al:=X.lt;have af:E≠p:=by have:=F2.size;omega
 have ai:=F5.size;have O:=(AJ Z 0).trans rfl;have n1:=(AJ Z 1).trans rfl;have nl:=Bz Z;go_wp2_with fail;refine(Oo 3 AB p D n a A U B S c J l E cA l 0 0 m (-1) y5 hm K5 S5 A5 OK p1 p2 af).mono ?_;rintro e R⟨g,cg,Q,gB,cB,V',z',c',rfl,au,an,M,aw,hA,ax,f,k'⟩;have s:Hid (Q.length<=9330/\R.ownsRow w.heap.size 111 11 (Vs g Q.length cg) Q.length (DL Q)/\Fw p w R/\CG R p D n a):=⟨by have:m*gb 3<=30*311:=Nat.mul_le_mul hm Aa;omega,DT M ai,F5.trans f,k'⟩
 go_wp2_with fail;go_ret;have bn:Bw R (R.alloc (.cells #[Vs gB 8 cB,Vi z',Vi c'] 142)):=Ah;exact⟨g,cg,Q,rfl,s.1,Aw s.2.1 bn,s.2.2.1.trans (.of_below bn),s.2.2.2.below bn⟩
end Go.Proofs.YtkckomianknjdaaGreat
