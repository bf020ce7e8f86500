import Derived.Test.YtcjnmdgomocpgaaGreatDoorSnDraw
import Derived.Test.YtcjnmdgomocpgaaGreatDoorCkSpec
set_option maxHeartbeats 16000000
set_option maxRecDepth 20000
namespace Go.Proofs.YtcjnmdgomocpgaaGreatDoor
open Go.RowKit Go.Deep
variable {B J a b c d g n o q:Nat}{S:Nat->HS}{V:Nat->VV}{t u w:World}
structure LS(w:World)(bH cH nH:Nat)(S:Nat->HS)(bR cR nR:Nat)(V0:Nat->VV)(g N:Nat)(L:Nat->SV)(qs:Nat)(u:World):Prop where
 B:Below w.heap.size w u
 X:u.heap[qs]?=some (.cells #[Vs bH nH cH,Vs bR nR cR] 26)
 G:Ck u bH nH S bR nR V0
 A:Ak u g (N*11) (JW L)
theorem LS.below{bH M:Nat}{D cR:Nat}{O:Nat->VV}{N:Nat}{L:Nat->SV}{k:Nat}{Q:World}(h:LS w bH M o S D cR J O g N L k u)(f:Below u.heap.size u Q):LS w bH M o S D cR J O g N L k Q:=
 ⟨h.B.trans (f.mono h.B.size),Ac h.X f,h.G.below f,h.A.below f h.A.lt⟩
theorem I9.bel{U:Option Addr}(h:I9 w w.heap.size U n)(b:Below w.heap.size w u):I9 u w.heap.size U n:=by
 rcases h with h|⟨c,a,e,d,j⟩
 ·exact .inl h
 ·exact .inr ⟨c,a,e,d,fun i k=>by obtain⟨v,l,m,o⟩:=j i k;exact⟨v,l,m,(b.cell (p:=Va c (a+i)) d).trans o⟩⟩
theorem I9.up{p p':Nat}{U:Option Addr}(h:I9 w p U n)(j:p<=p'):I9 w p' U n:=by
 rcases h with h|⟨b,a,c,d,e⟩
 ·exact .inl h
 ·exact .inr ⟨b,a,c,Ey d j,e⟩
def l8(u:World)(nH:Nat)(S:Nat->HS)(V:Nat->VV)(q:Nat)(t:World):Prop:=∃(ra2:Option Addr)(rc2:Nat)(ha2:Option Addr)(hc2:Nat)(rs0:List Int)(hs0:List HD),u.heap.size<=q/\Below u.heap.size u t/\t.heap[q]?=some (.cells #[.slice ra2 8 rc2,.bool false,.bool false,.bool false,.bool false,.slice ha2 nH hc2,Vi 0,Vi 0,.slice none 0 0] 39)/\OH (E8 ra2 rc2 ha2 hc2 rs0 hs0) nH S V/\ML u.heap.size (E8 ra2 rc2 ha2 hc2 rs0 hs0) t
theorem lY(h:l8 u o S V q t):Below u.heap.size u t:=by
 obtain⟨_,_,_,_,_,_,_,h,_⟩:=h;exact h
theorem ML.putM{m:Md}{I:Array Value}(h:ML B m u)(a:u.heap[q]?=some (.cells I 39))(j:Nat)(v:Value):ML B m (u.setCell (Va q j) v):=
 ⟨CV h.R (Ar a h.R Ad) j v,CV h.H (Ar a h.H Ad) j v,CV h.O (Ar a h.O Ad) j v,fun x b=>CV (h.D x b) (Ar a (h.D x b) Ad) j v,h.rr,h.hr⟩
theorem ZW{x:Option (Value×Nat×List Value)}{o6:Option Nat}(h:Ev u x o6 (some q) t){c:Option Addr}{a:Option Addr}{rs0:List Int}{hs0:List HD}(f:OH (E8 c d a b rs0 hs0) o S V)(m:ML u.heap.size (E8 c d a b rs0 hs0) t):l8 u o S V q (JP t q (.slice c 8 d) (.bool false) (.bool false) (.bool false) (.bool false) (.slice a o b) (Vi 0) (Vi 0) (.slice none 0 0)):=by
 obtain⟨r,n⟩:=h.Z q rfl;refine⟨c,d,a,b,rs0,hs0,r,CY (P:=fun y=>Bw u y) h.B (fun _ j v k=>k.setCell (p:=Va q j) r v) _ _ _ _ _ _ _ _ _,Lv n _ _ _ _ _ _ _ _ _,f,?_⟩;exact(CY (P:=fun y=>(∃e,y.heap[q]?=some (.cells e 39))/\ML u.heap.size (E8 c d a b rs0 hs0) y) ⟨⟨_,n⟩,m⟩ (fun _ j v k=>by obtain⟨⟨e,l⟩,s⟩:=k;exact⟨⟨_,BG l j v⟩,s.putM l j v⟩) _ _ _ _ _ _ _ _ _).2
def Sq(u:World)(q gR2 rc2 gH2 hc2 nH:Nat)(t:World):Prop:=Below u.heap.size u t/\t.heap[q]?=some (.cells #[Vs gR2 8 rc2,.bool false,.bool false,.bool false,.bool false,Vs gH2 nH hc2,Vi 0,Vi 0,.slice none 0 0] 39)
theorem Sq.below{t':World}(h:Sq u q a b c d n t)(f:Below t.heap.size t t'):Sq u q a b c d n t':=⟨h.1.trans (f.mono h.1.size),Ac h.2 f⟩
theorem Sq.put(h:Sq u q a b c d n t)(e:u.heap.size<=g)(k:q≠g)(j:Nat)(v:Value):Sq u q a b c d n (t.setCell (Va g j) v):=⟨h.1.setCell (p:=Va g j) e v,Ao h.2 k j v⟩
theorem Sq.ne{c' m:Nat}{e s:Nat}{xs:List Value}(h:Sq u q a b c' d m t)(r:t.ownsRow B e s (Vs g n c) n xs)(k:39≠e):q≠g:=fun j=>Ar h.2 r k (congrArg some j.symm)
theorem ML.cellH{I:Option Addr}{F:List Int}{a:List HD}(h:ML B (E8 I n (some ⟨g,0,none⟩) J F a) u){j:Nat}(b:j<a.length*3):(∃v,u.cell? (Va g j)=some v)/\u.frozen? (Va g j)=false/\B<=g/\g<u.heap.size:=by
 have r:=h.H;have l:(a.flatMap ZU).length=a.length*3:=r.1;exact⟨⟨_,(r.cellAt j b).trans (List.getElem?_eq_getElem (show j<(a.flatMap ZU).length by omega))⟩,r.frozenAt j,r.lt g rfl⟩
theorem ML.cellR{p:Option Addr}{F:List Int}{a:List HD}(h:ML B (E8 (some ⟨g,0,none⟩) n p J F a) u){j:Nat}(b:j<F.length):(∃v,u.cell? (Va g j)=some v)/\u.frozen? (Va g j)=false/\B<=g/\g<u.heap.size:=by
 have r:=h.R;have l:(F.map (Value.int .u64 ·)).length=F.length*1:=r.1;exact⟨⟨_,(r.cellAt j (show j<F.length*1 by omega)).trans (List.getElem?_eq_getElem (show j<(F.map (Value.int .u64 ·)).length by omega))⟩,r.frozenAt j,r.lt g rfl⟩
theorem jy{nH:Nat}{n:Option (Value×Nat×List Value)}{o6:Option Nat}(h:Ev u n o6 (some q) t){ra2:Option Addr}{rc2:Nat}{ha2:Option Addr}{hc2:Nat}{rs0:List Int}{hs0:List HD}(f:OH (E8 ra2 rc2 ha2 hc2 rs0 hs0) nH S V)(m:ML u.heap.size (E8 ra2 rc2 ha2 hc2 rs0 hs0) t){x y:Operand}{R:Array Oper}{o:Oper}{a:Act}{KK:Act->World->Prop}{Q:Exit->Act->World->Prop}{E:Prop}(l:Region.wanted o (yielded R a.tmps)=true)(b:o.op=.store 39 x y)(p:o.dst=none)(d:a.eval x=Vq q)(e:a.eval y=.agg #[.slice ra2 8 rc2,.bool false,.bool false,.bool false,.bool false,.slice ha2 nH hc2,Vi 0,Vi 0,.slice none 0 0])
 (j:∀c,l8 u nH S V q c->KK a c):if Region.wanted o (yielded R a.tmps)=true then Oper.wp Tryz.prog o a t KK Q else E:=by
 have k:=j _ (ZW h f m);have r:=z9 (h.Z _ rfl).2;rw[if_pos l];unfold Oper.wp execOp;simp only[b,d,e];go_simp;exact k
theorem LG(ao:Option Addr)(n bJ:Nat)(af:Option Addr)(n' ac:Nat)(w:World)(hn:n<=1048576)(cu:n'<=1048576)(hr:I9 w w.heap.size ao n)(bX:I9 w w.heap.size af n')(hg:w.cell? (Va 0 0)=some (.iface 183 (.agg #[.pointer (some ⟨1,78,none⟩)])))(h0:0<w.heap.size):
 Ks 3 #[.slice ao n bJ,.slice af n' ac] w fun e D=>e=.returned (.bool true)/\Below w.heap.size w D:=by
 have bw:=hxy hg;have HR:=hxy hr;have bg:=hxy bX;have q1:¬(1048576:Int)<(n:Int):=AB;have q2:¬(1048576:Int)<(n':Int):=AB;clear hg hr bX;go_enter Tryz.func3,Tryz.ntmps3;go_wp2_with fail;refine(LW ao n bJ w hn HR).mono ?_;rintro e u1⟨bH,cH,E,S,bR,cR,nR,V0,g,cg,xs,rfl,n1,n4,n8,sc,ca,a9,a7⟩;have SC:=hxy sc;have aJ:=hxy a9;have B1:=hxy a7;clear sc a9 a7 HR;have bn:xs.length<=cg:=Uv aJ;obtain⟨N,hN⟩:=Au xs.length;obtain⟨L,hL⟩:=Au ((fun i=>xs.getD i sv0));have A1:Hid (Ak u1 g (N*11) (JW L)):=by rw[<-hN,<-hL];exact⟨(aJ.lt g rfl).2,fun i=>aJ.frozenAt i,fun i hi=>(aJ.cellAt i hi).trans (XF xs sv0 i hi)⟩
 rw[hN]at ca bn⊢;clear aJ hN hL;go_upto_region 4 with fail;obtain⟨u2,bZ,bu⟩:∃y,u1.alloc (.cells #[Vs bH E cH,Vs bR nR cR] 26)=y/\LS w bH cH E S bR cR nR V0 g N L u1.heap.size y:=by
  have ba:=(Below.refl u1.heap.size u1).alloc BQ (.cells #[Vs bH E cH,Vs bR nR cR] 26);exact⟨_,rfl,B1.trans (ba.mono B1.size),Az _ _,SC.below ba,A1.below ba A1.lt⟩
 rw[bZ];obtain⟨qs,bW⟩:=Au u1.heap.size;rw[bW]at bu⊢;have L2:=hxy bu;have cv:=B1.size;clear bZ bu B1 SC A1 bW;have x0:=(AJ L2.X 0).trans rfl;have x1:=(AJ L2.X 1).trans rfl;have xl:=Bp L2.X;have bA:Hid (u2.cell? (Va 0 0)=some (.iface 183 (.agg #[.pointer (some ⟨1,78,none⟩)]))):=(L2.B.cell (p:=Va 0 0) h0).trans bw;have cq:=L2.B.size;clear bw;go_wp2_with fail;refine(QH bH cH E S bR cR nR V0 g N cg L u2 AB AB AB L2.G L2.A bA AB).mono ?_;rintro e u3⟨b3,av⟩;have L3:=hxy (L2.below b3);clear x0 x1 xl L2 bA b3 cq;rcases av with⟨aN,a3,hR,rfl⟩|⟨F,r,gA,cA,hR,cn,rfl,A3⟩
 ·have cp:=uN hR
  have aA:=hxy hR;have ct:(aN !=0)=true:=by simpa using cp
  clear hR;go_upto_region 5 with fail;obtain⟨u4,aR,b4,c4⟩:∃y,u3.alloc (.cells #[Vi aN,Vi a3,.slice none 0 0,Vi 0,Vi 0] 33)=y/\Bw u3 y/\y.heap[u3.heap.size]?=some (.cells #[Vi aN,Vi a3,.slice none 0 0,Vi 0,Vi 0] 33):=⟨_,rfl,Ai,Az _ _⟩
  rw[aR];obtain⟨q7,aP⟩:=Au u3.heap.size;rw[aP]at c4⊢;have L4:=hxy (L3.below b4);have C4:=hxy c4;clear aR b4 c4 aP L3;have x0:=(AJ L4.X 0).trans rfl;have x1:=(AJ L4.X 1).trans rfl;have xl:=Bp L4.X;go_wp2_with fail;refine(KT Nn bH cH E S bR cR nR V0 g N cg L u4 AB AB AB bn L4.G L4.A).mono ?_;rintro e u5⟨b5,av⟩;have B5:=hxy ((L4.below b5).B);have C5:=hxy (Ac C4 b5);clear x0 x1 xl L4 C4 b5;rcases av with⟨bL,ck,hR,rfl⟩|⟨F,r,gA,cA,hR,_⟩;rotate_left
  ·exact absurd (aA.symm.trans hR) AX
  obtain⟨e1,e2⟩:=CR.badI (aA.symm.trans hR);subst e1 e2;go_upto_region 6 with fail;obtain⟨u6,aS,b6,c6⟩:∃y,u5.alloc (.cells #[Vi aN,Vi a3,.slice none 0 0,Vi 0,Vi 0] 33)=y/\Bw u5 y/\y.heap[u5.heap.size]?=some (.cells #[Vi aN,Vi a3,.slice none 0 0,Vi 0,Vi 0] 33):=⟨_,rfl,Ai,Az _ _⟩
  rw[aS];have C6:=hxy (Ac C5 b6);have B6:=hxy (B5.trans (b6.mono B5.size));have y0:=(AJ C6 0).trans rfl;have y1:=(AJ C6 1).trans rfl;have y2:=(AJ C6 2).trans rfl;have yl:=Bp C6;have v0:=(AJ c6 0).trans rfl;have v1:=(AJ c6 1).trans rfl;have vl:=Bp c6;clear hR aA aS c6 b6 C5 B5;go_wp2_with fail;go_ret;exact⟨rfl,B6⟩
 have a6:=fZ hR;obtain⟨h8,_,bm⟩:=Ja a6;subst h8;obtain⟨bb,bO⟩:=mV hR;have aA:=hxy hR;have aj:Hid (Hq L N/\ET ⟨E,S,V0⟩ (seg L 0 N) 0 ⟨Fe V0,0,0⟩ 0=.ok F r/\JD ⟨E,S,V0⟩ ⟨Fe V0,0,0⟩):=⟨bb,bO,bm⟩
 obtain⟨s8,bc⟩:=Qo a6;have ax:=hxy bc;have aE:Hid (∀i,i<8->GV (V0 i) E):=fun i hi=>by
  have h3:=(Co.1 bm.1).2.2.1 i hi;dsimp only[Fe]at h3;rw[if_pos hi]at h3;exact h3
 have SG:Hid (lU E S V0):=⟨n1,n4,a6,aE,ax⟩
 clear hR bb bO bm A3 bc a6 cn;go_upto_region 5 with fail;obtain⟨u4,aR,b4,c4⟩:∃y,u3.alloc (.cells #[Vi 0,Vi 0,Vs gA 8 cA,Vi F.z,Vi F.c] 33)=y/\Bw u3 y/\y.heap[u3.heap.size]?=some (.cells #[Vi 0,Vi 0,Vs gA 8 cA,Vi F.z,Vi F.c] 33):=⟨_,rfl,Ai,Az _ _⟩
 rw[aR];obtain⟨q7,aP⟩:=Au u3.heap.size;rw[aP]at c4⊢;have L4:=hxy (L3.below b4);have C4:=hxy c4;clear aR b4 c4 aP L3;have x0:=(AJ L4.X 0).trans rfl;have x1:=(AJ L4.X 1).trans rfl;have xl:=Bp L4.X;go_wp2_with fail;refine(KT Nn bH cH E S bR cR 8 V0 g N cg L u4 AB AB AB bn L4.G L4.A).mono ?_;rintro e u5⟨b5,av⟩;have L5:=hxy (L4.below b5);have C5:=hxy (Ac C4 b5);clear x0 x1 xl L4 C4 b5;rcases av with⟨bL,ck,hR,_⟩|⟨F2,r2,gB,cB,hR,_,rfl,_⟩
 ·exact absurd (aA.symm.trans hR) AX
 clear hR aA;go_upto_region 6 with fail;obtain⟨u6,aS,b6,c6⟩:∃y,u5.alloc (.cells #[Vi 0,Vi 0,Vs gB 8 cB,Vi F2.z,Vi F2.c] 33)=y/\Bw u5 y/\y.heap[u5.heap.size]?=some (.cells #[Vi 0,Vi 0,Vs gB 8 cB,Vi F2.z,Vi F2.c] 33):=⟨_,rfl,Ai,Az _ _⟩
 rw[aS];obtain⟨q9,bU⟩:=Au u5.heap.size;rw[bU]at c6⊢;have C6:=hxy (Ac C5 b6);have L6:=hxy (L5.below b6);have y0:=(AJ C6 0).trans rfl;have y1:=(AJ C6 1).trans rfl;have yl:=Bp C6;have v0:=(AJ c6 0).trans rfl;have v1:=(AJ c6 1).trans rfl;have vl:=Bp c6;have x0:=(AJ L6.X 0).trans rfl;have x1:=(AJ L6.X 1).trans rfl;have xl:=Bp L6.X;have R6:=hxy ((bg.bel L6.B).up L6.B.size);clear aS c6 b6 C5 L5 bU;go_wp2_with fail;refine(Jd af n' ac bH cH E S bR cR V0 _ AB R6 L6.G.h L6.G.r n4 ax aE).mono ?_;rintro e u7⟨ra,rc,Z,ha,hc,hs,rfl,f1,f2,b7⟩;rw[show Z.length=8 from f1.nr,show hs.length=E from f1.nh];have L7:=hxy (L6.below b7);have FM:=hxy f1;have bC:=hxy (f2.dn L6.B.size);clear y0 y1 yl v0 v1 vl x0 x1 xl R6 L6 C6 f1 f2 b7;go_upto_region 11 with fail;obtain⟨u8,b2,b8,c8⟩:∃y,u7.alloc (.cells #[.slice ra 8 rc,.bool false,.bool false,.bool false,.bool false,.slice ha E hc,Vi 0,Vi 0,.slice none 0 0] 39)=y/\Bw u7 y/\y.heap[u7.heap.size]?=some (.cells #[.slice ra 8 rc,.bool false,.bool false,.bool false,.bool false,.slice ha E hc,Vi 0,Vi 0,.slice none 0 0] 39):=⟨_,rfl,Ai,Az _ _⟩
 rw[b2];obtain⟨qm,bV⟩:=Au u7.heap.size;rw[bV]at c8⊢;have L8:=hxy (L7.below b8);have aB:=hxy (bC.below b8);have Y8:=hxy c8;clear b2 b8 c8 bV L7 bC;have j0:Cb u8 qs 0 (Vs bH E cH):=fun D h=>(AJ (L8.below h).X 0).trans rfl
 have j1:Cb u8 qs 1 (Vs bR 8 cR):=fun D h=>(AJ (L8.below h).X 1).trans rfl
 obtain⟨ys,cb,bd,be⟩:=Rt ((bg.bel L8.B).up L8.B.size);have aH:=hxy cb;have bh:Hid (∀x∈ys++[1,2,3,4,5,6,7,8],0<=x/\x<=255):=fun x hx=>by
  rcases List.mem_append.1 hx with k|k
  ·exact bd x k
  ·simp at k;omega
 have an:Hid (∀t,Bw u8 t->(n'=0∨∃b aU,af=some ⟨b,aU,none⟩/\∀j u,(IU ys)[j]?=some u->t.cell? (Va b (aU+j))=some u)):=fun t ht=>by
  rcases be with k|⟨b,aU,k1,k2,k3⟩
  ·exact Or.inl k
  ·exact Or.inr ⟨b,aU,k1,fun j u q=>(ht.cell (p:=Va b (aU+j)) k2).trans (k3 j u q)⟩
 clear cb bd be;have ae:Hid (Bw u8 u8.drew):=BJ.drew;go_cut [10](fun cr wx=>∃q,cr=Vq q/\l8 u8 E S V0 q wx)
 case first=>
  refine wp_region_held_drew (S:=fun D=>Bw u8 D) AV ae (fun _=>?_);have K:Hid (Ev u8 none none none u8.drew):=Ev.start;generalize u8.drew=t at ae K⊢;refine EX [1,5] ?_;refine wpAnyH_ready (rs:=[0,3,7]) AV AX ?_;refine AllReadyH.cons rfl (fun O o=>K.st0 AV rfl (fun b0 t k0=>have K:Hid _:=k0;o.out _ _ k0.B (fun _=>?_))) (AllReadyH.cons rfl (fun O o=>K.st3 AV rfl (fun b3 t k3=>have K:Hid _:=k3;o.out _ _ k3.B (fun _=>?_))) (AllReadyH.cons rfl (fun O o=>K.st7 AV rfl (fun b7 t U kb=>have K:Hid _:=U;o.out _ _ U.B (fun _=>?_))) AllReadyH.nil));all_goals refine Cn ?_
  all_goals first
   |(have q:=(And.intro k0 k0);clear q;refine wpAnyH_ready (rs:=[2,3,7]) AV AX ?_;refine AllReadyH.cons rfl (fun O o=>K.step (.tmp 57) (.tmp 58) af n' ac ys aH (an _ K.B) AB AV rfl rfl rfl rfl (fun v2 t k2=>have K:Hid _:=k2;o.out _ _ k2.B (fun _=>?_))) (AllReadyH.cons rfl (fun O o=>K.st3 AV rfl (fun b3 t k3=>have K:Hid _:=k3;o.out _ _ k3.B (fun _=>?_))) (AllReadyH.cons rfl (fun O o=>K.st7 AV rfl (fun b7 t U kb=>have K:Hid _:=U;o.out _ _ U.B (fun _=>?_))) AllReadyH.nil)))
   |(have q:=(And.intro k3 k3);clear q;refine wpAnyH_ready (rs:=[0,7]) AV AX ?_;refine AllReadyH.cons rfl (fun O o=>K.st0 AV rfl (fun b0 t k0=>have K:Hid _:=k0;o.out _ _ k0.B (fun _=>?_))) (AllReadyH.cons rfl (fun O o=>K.st7 AV rfl (fun b7 t U kb=>have K:Hid _:=U;o.out _ _ U.B (fun _=>?_))) AllReadyH.nil))
   |(have q:=(And.intro U U);clear q;refine wpAnyH_ready (rs:=[0,3]) AV AX ?_;refine AllReadyH.cons rfl (fun O o=>K.st0 AV rfl (fun b0 t k0=>have K:Hid _:=k0;o.out _ _ k0.B (fun _=>?_))) (AllReadyH.cons rfl (fun O o=>K.st3 AV rfl (fun b3 t k3=>have K:Hid _:=k3;o.out _ _ k3.B (fun _=>?_))) AllReadyH.nil))
  all_goals refine Cn ?_
  all_goals first
   |(have q:=(And.intro k0 k2);clear q;refine wpAnyH_ready (rs:=[3,7]) AV AX ?_;refine AllReadyH.cons rfl (fun O o=>K.st3 AV rfl (fun b3 t k3=>have K:Hid _:=k3;o.out _ _ k3.B (fun _=>?_))) (AllReadyH.cons rfl (fun O o=>K.st7 AV rfl (fun b7 t U kb=>have K:Hid _:=U;o.out _ _ U.B (fun _=>?_))) AllReadyH.nil))
   |(have q:=(And.intro k0 k3);clear q;refine wpAnyH_ready (rs:=[2,7]) AV AX ?_;refine AllReadyH.cons rfl (fun O o=>K.step (.tmp 57) (.tmp 58) af n' ac ys aH (an _ K.B) AB AV rfl rfl rfl rfl (fun v2 t k2=>have K:Hid _:=k2;o.out _ _ k2.B (fun _=>?_))) (AllReadyH.cons rfl (fun O o=>K.st7 AV rfl (fun b7 t U kb=>have K:Hid _:=U;o.out _ _ U.B (fun _=>?_))) AllReadyH.nil))
   |(have q:=(And.intro k0 U);clear q;refine wpAnyH_ready (rs:=[2,3]) AV AX ?_;refine AllReadyH.cons rfl (fun O o=>K.step (.tmp 57) (.tmp 58) af n' ac ys aH (an _ K.B) AB AV rfl rfl rfl rfl (fun v2 t k2=>have K:Hid _:=k2;o.out _ _ k2.B (fun _=>?_))) (AllReadyH.cons rfl (fun O o=>K.st3 AV rfl (fun b3 t k3=>have K:Hid _:=k3;o.out _ _ k3.B (fun _=>?_))) AllReadyH.nil))
   |(have q:=(And.intro k3 U);clear q;refine wpAnyH_ready (rs:=[0]) AV AX ?_;refine AllReadyH.cons rfl (fun O o=>K.st0 AV rfl (fun b0 t k0=>have K:Hid _:=k0;o.out _ _ k0.B (fun _=>?_))) AllReadyH.nil)
  all_goals refine Cn ?_
  all_goals first
   |(have q:=(And.intro k2 k3);clear q;refine wpAnyH_ready (rs:=[4,7]) AV AX ?_;refine AllReadyH.cons rfl (fun O o=>K.step (.tmp 59) (.tmp 60) _ 8 8 [1,2,3,4,5,6,7,8] rfl (Or.inr ⟨_,0,rfl,K.src⟩) AB AV rfl rfl rfl rfl (fun v4 t k4=>have K:Hid _:=k4;o.out _ _ k4.B (fun _=>?_))) (AllReadyH.cons rfl (fun O o=>K.st7 AV rfl (fun b7 t U kb=>have K:Hid _:=U;o.out _ _ U.B (fun _=>?_))) AllReadyH.nil))
   |(have q:=(And.intro k2 U);clear q;refine wpAnyH_ready (rs:=[3]) AV AX ?_;refine AllReadyH.cons rfl (fun O o=>K.st3 AV rfl (fun b3 t k3=>have K:Hid _:=k3;o.out _ _ k3.B (fun _=>?_))) AllReadyH.nil)
   |(have q:=(And.intro k3 U);clear q;refine wpAnyH_ready (rs:=[2]) AV AX ?_;refine AllReadyH.cons rfl (fun O o=>K.step (.tmp 57) (.tmp 58) af n' ac ys aH (an _ K.B) AB AV rfl rfl rfl rfl (fun v2 t k2=>have K:Hid _:=k2;o.out _ _ k2.B (fun _=>?_))) AllReadyH.nil)
  all_goals refine Cn ?_
  all_goals first
   |(have q:=(And.intro k4 k4);clear q;refine wpAnyH_ready (rs:=[6,7]) AV AX ?_;refine AllReadyH.cons rfl (fun O o=>K.st6 AB AB Xh bh (L8.below K.B).G.h (L8.below K.B).G.r n4 ax aE AV rfl rfl rfl (fun cc d bN a ag hs0 t f1 f2 k6=>have K:Hid _:=k6;o.out _ _ k6.B (fun _=>?_))) (AllReadyH.cons rfl (fun O o=>K.st7 AV rfl (fun b7 t U kb=>have K:Hid _:=U;o.out _ _ U.B (fun _=>?_))) AllReadyH.nil))
   |(have q:=(And.intro U U);clear q;refine wpAnyH_ready (rs:=[4]) AV AX ?_;refine AllReadyH.cons rfl (fun O o=>K.step (.tmp 59) (.tmp 60) _ 8 8 [1,2,3,4,5,6,7,8] rfl (Or.inr ⟨_,0,rfl,K.src⟩) AB AV rfl rfl rfl rfl (fun v4 t k4=>have K:Hid _:=k4;o.out _ _ k4.B (fun _=>?_))) AllReadyH.nil)
  all_goals refine Cn ?_
  all_goals first
   |(have q:=(And.intro k6 k6);clear q;refine wpAnyH_ready (rs:=[7]) AV AX ?_;refine AllReadyH.cons rfl (fun O o=>K.st7 AV rfl (fun b7 t U kb=>have K:Hid _:=U;o.out _ _ U.B (fun _=>?_))) AllReadyH.nil)
   |(have q:=(And.intro U U);clear q;refine wpAnyH_ready (rs:=[6]) AV AX ?_;refine AllReadyH.cons rfl (fun O o=>K.st6 AB AB Xh bh (L8.below K.B).G.h (L8.below K.B).G.r n4 ax aE AV rfl rfl rfl (fun cc d bN a ag hs0 t f1 f2 k6=>have K:Hid _:=k6;o.out _ _ k6.B (fun _=>?_))) AllReadyH.nil)
  all_goals refine Cn ?_
  all_goals
   refine wpAnyH_ready (rs:=[8]) AV AX ?_;refine AllReadyH.cons rfl (fun O o=>jy K f1 (by first|exact f2|exact f2.below kb) AV rfl rfl rfl rfl (fun t k=>o.out _ _ (lY k) (fun _=>?_))) AllReadyH.nil;refine wpAnyH_done AV ?_ _;go_wp2_with fail;go_meet;exact⟨b7,rfl,k⟩
 case rest=>
 obtain⟨I,rfl,cc,d,bN,a,ag,hs0,lq,b9,c9,f2,m2⟩:=hcut;generalize wc=u9 at *;clear j0 j1 aH bh an ae;obtain⟨gR,gH,rfl,rfl,ar,ch⟩:=lie SG L8.G FM aB;obtain⟨C,m,rfl,rfl,_,_⟩:=lie SG (L8.below b9).G f2 m2;have FN:=hxy f2;have M9:=hxy m2;have S9:Hid (Sq u8 I C d m a E u9):=⟨b9,c9⟩
 have AR:=hxy ar;have CH:=hxy ch;have jq:∀D,Sq u8 I C d m a E D->D.cell? (Va I 0)=some (Vs C 8 d)/\D.cell? (Va I 5)=some (Vs m E a):=fun D h=>⟨(Bq h.2).1,(Bq h.2).2.2.2.2.2.1⟩
 have jm:∀D,Sq u8 I C d m a E D->D.cell? (Va qm 0)=some (Vs gR 8 rc)/\D.cell? (Va qm 5)=some (Vs gH E hc):=fun D h=>⟨(Bq (Ac Y8 h.1)).1,(Bq (Ac Y8 h.1)).2.2.2.2.2.1⟩
 have js:∀D,Sq u8 I C d m a E D->D.cell? (Va qs 0)=some (Vs bH E cH)/\D.cell? (Va qs 1)=some (Vs bR 8 cR):=fun D h=>⟨(AJ (L8.below h.1).X 0).trans rfl,(AJ (L8.below h.1).X 1).trans rfl⟩
 have JQ:Hid _:=jq;have JM:Hid _:=jm;have JS:Hid _:=js;clear ar ch f2 m2 b9 c9 jq jm js;go_upto_block 0 with fail;go_cut [](fun wx=>∃J,Vj S hs hs0 J E/\ML u8.heap.size (E8 (some ⟨C,0,none⟩) d (some ⟨m,0,none⟩) a ag J) wx/\Sq u8 I C d m a E wx)
 case first=>
  go_wp2_with fail;go_loopw [11](fun i wr=>∃(k:Nat)(J:List HD),k<=E/\i=Vi k/\Vj S hs hs0 J k/\ML u8.heap.size (E8 (some ⟨C,0,none⟩) d (some ⟨m,0,none⟩) a ag J) wr/\Sq u8 I C d m a E wr)(fun iv _=>((E:Int)-intOf iv).toNat)
  case atStart=>exact⟨0,hs0,AB,rfl,Vj.start,M9,S9⟩
  case round=>
  obtain⟨k,J,hk,rfl,ai,aa,M⟩:=hrel;have al:=hxy ai;have ak:=hxy aa;have am:=hxy M;have c0:=(JS wr M).1;have cl:=Bp (L8.below M.1).X;clear ai aa M;by_cases bo:k<E
  rotate_left
  ·have a8:¬(k:Int)<E:=AB
   obtain rfl:k=E:=AB;go_wp2_with fail;go_meet;exact⟨J,al,ak,am⟩
  ·have a8:(k:Int)<E:=AB
   go_upto_region 15 with fail;clear c0 cl;have n5:∀D,Sq u8 I C d m a E D->D.cell? (Va I 5)=some (Vs m E a):=fun D h=>(JQ D h).2
   have m5:∀D,Sq u8 I C d m a E D->D.cell? (Va qm 5)=some (Vs gH E hc):=fun D h=>(JM D h).2
   obtain⟨bs,aO⟩:=Au ((hs.getD k hd0).base);have ah:=hxy aO;have mb:∀D,Sq u8 I C d m a E D->D.cell? (Va gH (k*3))=some (.int .u64 bs):=fun D h=>((CH.below h.1 BQ).1.cell (i:=k*3+0) AB).trans (congrArg some ((Iz _ k).trans (by rw[<-ah.out];rfl)))
   clear aO;have Y:Hid (Sq u8 I C d m a E wr.drew):=am.below BJ.drew;have ad:Hid (ML u8.heap.size (E8 (some ⟨C,0,none⟩) d (some ⟨m,0,none⟩) a ag J) wr.drew):=ak.below BJ.drew;have co:J.length=E:=al.l.trans FN.nh;obtain⟨⟨vz,zc⟩,zf,zb,zl⟩:=ad.cellH (j:=k*3) AB;refine wp_region_held_drew (S:=fun D=>Sq u8 I C d m a E D) AV Y (fun _=>?_);generalize wr.drew=t0 at Y ad zc zf zl⊢;refine EX [0,1,2,3,4,5,6,7,8,9,10] ?_;refine AO 11 rfl (fun O o=>?_);go_simp;have ab:=Y.put zb (Y.ne ad.H Ad) (k*3) (.int .u64 bs);refine o.out _ _ ab (fun _=>?_);have aw:hs.getD k hd0∈hs:=by
    have:hs.length=E:=FM.nh;rw[KJ,List.getElem?_eq_getElem AB];exact List.getElem_mem _
   have bp:=aB.hr _ aw;have m1:=ad.setBase (i:=k) AB (b:=bs) (ah▸bp.1);clear o O zc zf zl zb vz n5 m5 mb aw;obtain⟨t1,aQ⟩:=Au (t0.setCell (Va m (k*3)) (.int .u64 bs));rw[aQ]at ab m1⊢;have au:=hxy ab;have ay:Hid (ML u8.heap.size (E8 (some ⟨C,0,none⟩) d (some ⟨m,0,none⟩) a ag (J.set k {J.getD k hd0 with base:=(hs.getD k hd0).base})) t1):=by rw[ah.out];exact m1
   have aG:=hxy bp.2;clear aQ m1 bp Y ad ak am ah;refine Cn ?_;refine wpAnyH_done AV ?_ _;have c0:=(JS t1 ab).1;have cl:=Bp (L8.below ab.1).X;have c1:=((L8.below ab.1).G.h.cell (i:=k*3+1) AB).trans (congrArg some (Fb S k 1 AB));have cL:=(L8.below ab.1).G.h.lt;simp only[wm]at c1;clear ab;cases hsec:(S k).s with
   |true=>
    rw[hsec]at c1;go_wp2_with fail;go_roundw
    case rel=>exact⟨k+1,_,AB,by go_num,al.base AB hsec,ay,au⟩
    case measure=>simp[intOf];omega
   |false=>
    rw[hsec]at c1;go_upto_region 17 with fail;clear c0 cl c1 cL;obtain⟨x1,bM,bl⟩:=CH.2 k bo;obtain⟨ds,aD⟩:=Au ((hs.getD k hd0).ds);obtain⟨dc,bP⟩:=Au (cL hs k);have bv:=hxy aD;rw[aD]at aG;have cm:=aG.1;have n5:∀D,Sq u8 I C d m a E D->D.cell? (Va I 5)=some (Vs m E a):=fun D h=>(JQ D h).2
    have m5:∀D,Sq u8 I C d m a E D->D.cell? (Va qm 5)=some (Vs gH E hc):=fun D h=>(JM D h).2
    have md:∀D,Sq u8 I C d m a E D->D.cell? (Va gH (k*3+2))=some (Vs x1 ds.length dc):=fun D h=>((CH.below h.1 BQ).1.cell (i:=k*3+2) AB).trans (congrArg some ((GD _ k).trans (by show Value.slice (aL hs k) (hs.getD k hd0).ds.length (cL hs k)=_;rw[bM,bP,aD])))
    have an:Hid (∀t,Sq u8 I C d m a E t->∀j u,(IU ds)[j]?=some u->t.cell? (Va x1 (0+j))=some u):=fun t ht j u q=>by
     have hj:j<ds.length:=by
      by_cases e:j<ds.length
      ·exact e
      ·rw[List.getElem?_eq_none (by simp[IU];omega)]at q;cases q
     rw[IU,List.getElem?_map,List.getElem?_eq_getElem hj]at q;have k2:=(bl.below ht.1 bl.lt).cell (i:=j) (by show j<(hs.getD k hd0).ds.length;rw[aD];exact hj);rw[Nat.zero_add,k2,<-q];show some (Value.int .u8 ((hs.getD k hd0).ds.getD j 0))=_;rw[aD,KJ,List.getElem?_eq_getElem hj];rfl
    clear aD bP bM bl;have Y:Hid (Sq u8 I C d m a E t1.drew):=au.below BJ.drew;have K:Hid (Ev t1 none none none t1.drew):=Ev.start;refine wp_region_held_drew (S:=fun D=>Sq u8 I C d m a E D) AV Y (fun _=>?_);generalize t1.drew=t at Y K⊢;refine EX [0,1,2,4,5,6,7,8,9] ?_;refine wpAnyH_ready (rs:=[3]) AV AX ?_;refine AllReadyH.cons rfl (fun O o=>K.st0 AV rfl (fun b0 t k'=>o.out _ _ (au.below k'.B) (fun _=>?_))) AllReadyH.nil;clear K;have K:Hid _:=k';refine Cn ?_;refine wpAnyH_ready (rs:=[10]) AV AX ?_;refine AllReadyH.cons rfl (fun O o=>K.step (.tmp 92) (.tmp 98) _ ds.length dc ds rfl (Or.inr ⟨x1,0,rfl,an _ (au.below K.B)⟩) AB AV rfl rfl rfl rfl (fun cy t k'=>o.out _ _ (au.below k'.B) (fun _=>?_))) AllReadyH.nil;clear K;obtain⟨a2,a4,bK⟩:=Cf (k'.R _ rfl).1;dsimp only at bK;subst bK;have K:Hid _:=k';have bk:Hid (Sq u8 I C d m a E t):=au.below k'.B;have aY:=hxy (ay.below k'.B);clear k' an;refine Cn ?_;refine EX [11,12] ?_;obtain⟨⟨vz,zc⟩,zf,zb,zl⟩:=aY.cellH (j:=k*3+2) (by rw[List.length_set];omega);refine AO 13 rfl (fun O o=>?_);go_simp;have aV:=bk.put zb (bk.ne aY.H Ad) (k*3+2) (.slice a2 (0+ds.length) a4);have m3:=aY.setData (i:=k) (by rw[List.length_set];omega) (v:=.slice a2 (0+ds.length) a4) (ds:=ds) (by have r:=(K.R _ rfl).1;rw[List.nil_append,Nat.zero_add]at r;rw[Nat.zero_add];exact Ke r au.1.size) aG.1 aG.2;rw[Nat.zero_add]at aV m3;try rw[Nat.zero_add]
    refine o.out _ _ aV (fun _=>?_);clear o O zc zf zl zb vz n5 m5 md;obtain⟨t3,bY⟩:=Au (t.setCell (Va m (k*3+2)) (.slice a2 ds.length a4));rw[bY]at aV m3⊢;have cf:=hxy aV;rw[<-bv.out]at m3;have bS:(hs.getD k hd0).ds.length=(hs0.getD k hd0).ds.length:=by
     have e1:=(FM.h.heap k (by have:hs.length=E:=FM.nh;show k<hs.length;omega)).1;have e2:=(FN.h.heap k (by have:hs0.length=E:=FN.nh;show k<hs0.length;omega)).1;dsimp only at e1 e2;omega
    have bD:Hid (_/\_):=⟨al.both (v:=.slice a2 (hs.getD k hd0).ds.length a4) AB bS,m3⟩
    clear bY m3 aV bS Y K bk aY ay au al bv aG cm;refine Cn ?_;refine wpAnyH_done AV ?_ _;go_wp2_with fail;go_roundw
    case rel=>exact⟨k+1,_,AB,by go_num,bD.1,bD.2,cf⟩
    case measure=>simp[intOf];omega
 case rest=>
 obtain⟨J,ai,aa,M⟩:=hcut;generalize wc=u10 at *;have al:=hxy ai;have bB:=hxy aa;have bG:=hxy M;clear ai aa M M9 S9;go_upto_block 2 with fail;go_cut [](fun wx=>∃Q,Uc V0 Z ag Q 8/\ML u8.heap.size (E8 (some ⟨C,0,none⟩) d (some ⟨m,0,none⟩) a Q J) wx/\Sq u8 I C d m a E wx)
 case first=>
  go_wp2_with fail;go_loopw [12](fun i wr=>∃(k:Nat)(Q:List Int),k<=8/\i=Vi k/\Uc V0 Z ag Q k/\ML u8.heap.size (E8 (some ⟨C,0,none⟩) d (some ⟨m,0,none⟩) a Q J) wr/\Sq u8 I C d m a E wr)(fun iv _=>((8:Int)-intOf iv).toNat)
  case atStart=>exact⟨0,ag,AB,rfl,Uc.start,bB,bG⟩
  case round=>
  obtain⟨k,Q,hk,rfl,ai,aa,M⟩:=hrel;have aF:=hxy ai;have ak:=hxy aa;have am:=hxy M;by_cases bo:k<8
  rotate_left
  ·obtain rfl:k=8:=AB
   clear ai aa M;go_wp2_with fail;go_meet;exact⟨Q,aF,ak,am⟩
  ·have a8:(k:Int)<8:=AB
   have c0:=(JS wr M).2;have cl:=Bp (L8.below M.1).X;have c1:=((L8.below M.1).G.r.cell (i:=k*6+1) AB).trans (congrArg some (Bz V0 k 1 AB));have cL:=(L8.below M.1).G.r.lt;simp only[vC]at c1;clear ai aa M;cases hsec:(V0 k).s with
   |true=>
    rw[hsec]at c1;go_wp2_with fail;go_roundw
    case rel=>exact⟨k+1,Q,AB,by go_num,aF.skip hsec,ak,am⟩
    case measure=>simp[intOf];omega
   |false=>
    rw[hsec]at c1;go_upto_region 22 with fail;clear c0 cl c1 cL;obtain⟨bs,aO⟩:=Au (Z.getD k 0);have ah:=hxy aO;have n0:∀D,Sq u8 I C d m a E D->D.cell? (Va I 0)=some (Vs C 8 d):=fun D h=>(JQ D h).1
    have m0:∀D,Sq u8 I C d m a E D->D.cell? (Va qm 0)=some (Vs gR 8 rc):=fun D h=>(JM D h).1
    have mb:∀D,Sq u8 I C d m a E D->D.cell? (Va gR k)=some (.int .u64 bs):=fun D h=>((AR.below h.1 AR.lt).cell (i:=k) bo).trans (congrArg some (congrArg (Value.int .u64) ah))
    have Y:Hid (Sq u8 I C d m a E wr.drew):=am.below BJ.drew;have ad:Hid (ML u8.heap.size (E8 (some ⟨C,0,none⟩) d (some ⟨m,0,none⟩) a Q J) wr.drew):=ak.below BJ.drew;have co:=aF.l.trans FN.nr;obtain⟨⟨vz,zc⟩,zf,zb,zl⟩:=ad.cellR (j:=k) AB;clear aO;refine wp_region_held_drew (S:=fun D=>Sq u8 I C d m a E D) AV Y (fun _=>?_);generalize wr.drew=t0 at Y ad zc zf zl⊢;refine EX [0,1,2,3,4,5,6,7,8] ?_;refine AO 9 rfl (fun O o=>?_);go_simp;have ab:=Y.put zb (Y.ne ad.R Ad) k (.int .u64 bs);refine o.out _ _ ab (fun _=>?_);have aw:Z.getD k 0∈Z:=by
     have:Z.length=8:=FM.nr;rw[KJ,List.getElem?_eq_getElem AB];exact List.getElem_mem _
    have m1:=ad.setReg (i:=k) (x:=bs) (ah▸aB.rr _ aw);clear o O zc zf zl zb vz n0 m0 mb aw;obtain⟨t1,aQ⟩:=Au (t0.setCell (Va C k) (.int .u64 bs));rw[aQ]at ab m1⊢;have ay:Hid (Uc V0 Z ag (Q.set k bs) (k+1)/\ML u8.heap.size (E8 (some ⟨C,0,none⟩) d (some ⟨m,0,none⟩) a (Q.set k bs) J) t1/\Sq u8 I C d m a E t1):=⟨ah▸aF.set AB hsec,m1,ab⟩
    clear aQ m1 ab Y ad ak am ah aF;refine Cn ?_;refine wpAnyH_done AV ?_ _;go_wp2_with fail;go_roundw
    case rel=>exact⟨k+1,_,AB,by go_num,ay.1,ay.2.1,ay.2.2⟩
    case measure=>simp[intOf];omega
 case rest=>
 obtain⟨Q,bT,aa,M⟩:=hcut;generalize wc=u11 at *;obtain⟨f2,r2,p2,d2⟩:=kg aE FM FN al bT;have PB:Hid (Pb u11 bH E S bR V0 (some ⟨gR,0,none⟩) rc (some ⟨gH,0,none⟩) hc Z hs w.heap.size (some ⟨C,0,none⟩) d (some ⟨m,0,none⟩) a Q J u8.heap.size):=⟨SG,(L8.below M.1).G,FM,f2,aB.below M.1,aa,r2,p2⟩
 have TW:=hxy (lC FM f2 n4 aB.range aa.range ax r2 p2 d2);have bf:Hid (hs.length=E/\J.length=E/\∀i,i<E->(S i).s=false->(hL hs i).len=(hL J i).len):=⟨FM.nh,f2.nh,fun i hi q=>((p2 i hi).2 q).1⟩
 have aI:=hxy (L8.below M.1);have aZ:=hxy (Ac Y8 M.1);have az:=hxy M.2
 clear bT aa M f2 r2 p2 d2 L8 Y8 aB bB bG JQ JM JS AR CH al FN FM
 have x0:=(AJ aI.X 0).trans rfl
 have x1:=(AJ aI.X 1).trans rfl
 have xl:=Bp aI.X
 have z0:=Bq aZ
 have zl:=Bp aZ
 obtain⟨y0,y1,y2,y3,y4,y5,y6,y7,y8⟩:=Bq az
 have yl:=Bp az
 go_wp2_with fail
 refine(Ng bH cH E S bR cR V0 _ rc _ hc Z hs w.heap.size _ d _ a Q J u8.heap.size _ PB).mono ?_
 rintro e u12⟨rfl,aK⟩
 have bi:=hxy (aI.below aK)
 have bI:=hxy (Ac aZ aK)
 have bE:=hxy (Ac az aK)
 have bF:=hxy (PB.below aK)
 clear x0 x1 xl z0 zl y0 y1 y2 y3 y4 y5 y6 y7 y8 yl aI aZ az PB aK
 go_wp2_with fail
 refine(qd g N cg L u12 ca aj.1 bi.A).mono ?_
 rintro e u13⟨gP,cP,rfl,ap,aM⟩
 have aX:=hxy (bi.below aM)
 have cj:=hxy (Ac bI aM)
 have ce:=hxy (Ac bE aM)
 have aC:=hxy (bF.below aM)
 have AP:=hxy ap
 have bj:=hxy (bg.bel aX.B)
 clear bi bI bE bF ap aM
 go_wp2_with fail
 refine(OX af n' ac 1 _ u13 AB bj).mono ?_
 rintro e w3⟨sa,rfl,a0,a1,aT⟩
 rw[aT]
 clear aT
 go_wp2_with fail
 refine(OX af n' ac 2 _ u13 AB bj).mono ?_
 rintro e w3⟨sb,rfl,b0,b1,aT⟩
 rw[aT]
 clear aT
 go_upto_region 27 with fail
 obtain⟨kk,bQ,br⟩:∃k:Nat,(256*sa+sb)%1000=(k:Int)/\k<=1000:=⟨((256*sa+sb)%1000).toNat,AB,AB⟩
 rw[bQ]
 obtain⟨pl,a5⟩:=Au ((Bb L N).length)
 have cs:pl<=2000:=by
  obtain⟨er,hl⟩:=Ni aj.1
  rw[<-a5,er,List.length_append];show _+1<=_;omega
 have aW:Hid ((Bb L N).length=pl):=a5
 rw[a5]
 clear bQ a0 a1 b0 b1 bj a5
 have cw:Cb u13 qs 0 (Vs bH E cH):=fun D h=>(AJ (aX.below h).X 0).trans rfl
 have cx:Cb u13 qs 1 (Vs bR 8 cR):=fun D h=>(AJ (aX.below h).X 1).trans rfl
 have jm:=fun D(h:Bw u13 D)=>Bq (Ac cj h)
 have jn:=fun D(h:Bw u13 D)=>Bq (Ac ce h)
 have ae:Hid (Bw u13 u13.drew):=BJ.drew
 refine wp_region_held_drew (S:=fun D=>Bw u13 D) AV ae (fun _=>?_)
 generalize u13.drew=t0 at ae⊢
 refine EX [0,1,2] ?_
 refine AO 3 rfl (fun O o=>?_)
 go_simp
 go_simp
 refine(NA bH cH E S bR cR V0 _ rc _ hc Z hs w.heap.size _ d _ a Q J u8.heap.size t0 (aC.below ae)).mono ?_
 rintro e t1⟨rfl,bq⟩
 have B1:=hxy (ae.trans (bq.mono ae.size))
 go_wp2_with fail
 refine o.out _ _ B1 (fun _=>?_)
 clear o O bq ae
 refine Cn ?_
 refine EX [4,5] ?_
 refine AO 6 rfl (fun O o=>?_)
 go_simp
 go_simp
 refine(Ir gP 0 pl cP (MW (Bb L N)) t1 AB (aW▸(AP.below B1 AP.lt).at)).mono ?_
 rintro e t2⟨rfl,bq⟩
 rw[show EW pl (MW (Bb L N))=true from aW.out▸Uf aj.1]
 have B2:=hxy (B1.trans (bq.mono B1.size))
 go_wp2_with fail
 refine o.out _ _ B2 (fun _=>?_)
 clear o O bq B1
 refine Cn ?_
 refine EX [7,8,9,10,11,12,14,15,16] ?_
 refine AO 13 rfl (fun O o=>?_)
 go_simp
 go_simp
 refine(aW▸jO gP cP L N _ Z rc _ hs hc E w.heap.size S V0 kk br t2 aj.1 n4 ax aC.f1 (aC.below B2).l1 (AP.below B2 AP.lt)).mono ?_
 rintro e t3⟨pA,rfl,mA,bq⟩
 have MA:=hxy mA
 have B3:=hxy (B2.trans (bq.mono B2.size))
 go_wp2_with fail
 refine o.out _ _ B3 (fun _=>?_)
 clear o O bq B2 mA
 refine Cn ?_
 refine AO 17 rfl (fun O o=>?_)
 go_simp
 go_simp
 refine(aW▸jO gP cP L N _ Q d _ J a E u8.heap.size S V0 kk br t3 aj.1 n4 ax aC.f2 (aC.below B3).l2 (AP.below B3 AP.lt)).mono ?_
 rintro e t4⟨pB,rfl,mB,bq⟩
 have cd:=hxy (MA.below bq)
 have MB:=hxy mB
 have B4:=hxy (B3.trans (bq.mono B3.size))
 go_wp2_with fail
 refine o.out _ _ B4 (fun _=>?_)
 clear o O bq B3 mB MA
 refine Cn ?_
 refine AO 18 rfl (fun O o=>?_)
 go_simp
 go_simp
 refine(ku bH cH E S bR cR V0 L N F r Z Q hs J kk t2.heap.size t3.heap.size pA pB t4 n1 n4 aj.1 aj.2.1 aj.2.2 TW br bf.1 bf.2.1 bf.2.2 (aC.below B4).g.h cd MB).mono ?_
 rintro e t5⟨rfl,bq⟩
 have B5:=hxy (B4.trans (bq.mono B4.size))
 go_wp2_with fail
 refine o.out _ _ B5 (fun _=>?_)
 clear o O bq B4
 refine Cn ?_
 refine EX [19,20] ?_
 refine wpAnyH_done AV ?_ _
 go_wp2_with fail
 go_ret
 exact⟨rfl,(aX.below B5).B⟩
end Go.Proofs.YtcjnmdgomocpgaaGreatDoor
