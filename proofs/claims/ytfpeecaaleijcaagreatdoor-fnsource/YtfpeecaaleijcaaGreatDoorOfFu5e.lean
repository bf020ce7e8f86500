import Derived.Test.YtfpeecaaleijcaaGreatDoorOfCl
import Derived.Test.YtfpeecaaleijcaaGreatDoorOfFu5b
import Derived.Test.YtfpeecaaleijcaaGreatDoorOfAddBlock
set_option maxHeartbeats 16000000
set_option maxRecDepth 20000
namespace Go.Proofs.YtfpeecaaleijcaaGreatDoor
open Go.RowKit Go.Deep
variable {at' c err rounds z:Int}{xs:List SV}{B b bA cap m n nH off:Nat}{S:Nat->HS}{V0:Nat->VV}{ao:Option Addr}{s:SV}{v:Value}{u w:World}
def UY:SV:=⟨0,0,0,0,0,0,0,0,0,0,0⟩
def Gm(xs:List SV)(i:Nat):SV:=xs.getD i UY
structure iW(P:List SV->Prop):Prop where
 nil:P []
 ins:∀{s:SV}{xs:List SV},s.k=1->s.thn=0->s.els=0->P xs->P (s::xs)
 node:∀{s:SV}{x y xs:List SV},s.k≠1->s.thn=(x.length:Int)->s.els=(y.length:Int)->P x->P y->P xs->P (s::(x++y++xs))
def Wl(xs:List SV):Prop:=∀P,iW P->P xs
theorem Wl.nil:Wl []:=fun _ c=>c.nil
theorem Wl.ins(h1:s.k=1)(h2:s.thn=0)(h3:s.els=0)(h:Wl xs):Wl (s::xs):=fun P c=>c.ins h1 h2 h3 (h P c)
theorem Wl.node{x y:List SV}(h1:s.k≠1)(h2:s.thn=(x.length:Int))(h3:s.els=(y.length:Int))(a:Wl x)(b:Wl y)(h:Wl xs):Wl (s::(x++y++xs)):=fun P c=>c.node h1 h2 h3 (a P c) (b P c) (h P c)
theorem Wl.inv(h:Wl xs):xs=[]∨(∃s ys,xs=s::ys/\s.k=1/\s.thn=0/\s.els=0/\Wl ys)∨∃s x y ys,xs=s::(x++y++ys)/\s.k≠1/\s.thn=(x.length:Int)/\s.els=(y.length:Int)/\Wl x/\Wl y/\Wl ys:=
 (h (fun xs=>Wl xs/\(xs=[]∨(∃s ys,xs=s::ys/\s.k=1/\s.thn=0/\s.els=0/\Wl ys)∨∃s x y ys,xs=s::(x++y++ys)/\s.k≠1/\s.thn=(x.length:Int)/\s.els=(y.length:Int)/\Wl x/\Wl y/\Wl ys))
   ⟨⟨.nil,.inl rfl⟩,fun h1 h2 h3 h=>⟨.ins h1 h2 h3 h.1,.inr (.inl ⟨_,_,rfl,h1,h2,h3,h.1⟩)⟩,fun h1 h2 h3 a b h=>⟨.node h1 h2 h3 a.1 b.1 h.1,.inr (.inr ⟨_,_,_,_,rfl,h1,h2,h3,a.1,b.1,h.1⟩)⟩⟩).2
theorem Wl.app{ys:List SV}(h:Wl xs)(k:Wl ys):Wl (xs++ys):=(h (fun xs=>Wl xs/\Wl (xs++ys)) ⟨⟨.nil,k⟩,fun h1 h2 h3 h=>⟨.ins h1 h2 h3 h.1,.ins h1 h2 h3 h.2⟩,fun h1 h2 h3 a b h=>⟨.node h1 h2 h3 a.1 b.1 h.1,by
 rw[List.cons_append,List.append_assoc];exact .node h1 h2 h3 a.1 b.1 h.2⟩⟩).2
def SL(w:World)(v:Value)(xs:List SV):Prop:=∃ao cap,v=.slice ao xs.length cap/\xs.length<=cap/\Kn w ao (xs.length*11) (IU (Gm xs))
theorem SL.below{w':World}(h:SL w v xs)(hb:Below w.heap.size w w'):SL w' v xs:=by
 obtain⟨ao,cap,h1,h2,h3⟩:=h;exact⟨ao,cap,h1,h2,h3.below hb jG⟩
theorem SL.below_of{w':World}(h:SL w v xs)(hb:Below w.heap.size w w'):SL w' v xs:=h.below hb
theorem Zb(xs:List SV)(i m:Nat)(j:Nat)(hj:j<m*11):IU (Gm xs) (i*11+j)=IU (Gm ((xs.drop i).take m)) j:=by
 unfold IU Gm;rw[show(i*11+j)/11=i+j/11 by omega,show(i*11+j)%11=j%11 by omega];have:j/11<m:=by omega
 simp only[jJ,List.getElem?_take,List.getElem?_drop,this,if_true]
theorem At.sub(h:At w b off (xs.length*11) (IU (Gm xs)))(i m:Nat)(hm:i+m<=xs.length):At w b (off+i*11) (m*11) (IU (Gm ((xs.drop i).take m))):=
 ⟨h.lt,fun j hj=>by rw[Nat.add_assoc,h.cell (by omega),Zb xs i m j hj]⟩
def Vr(nH:Nat)(S:Nat->HS)(V0:Nat->VV)(bA:Nat)(B:Nat)(w:World)(v:Value)(z c:Int):Prop:=
 ∃(g cg:Nat)(V:Nat->VV),v=Vs g 8 cg/\(g=bA∨B<=g)/\A9 w g (8*6) (vF V)/\BA nH S 8 V0 8 V z c=true
def ZP(nH:Nat)(S:Nat->HS)(V0:Nat->VV)(bA:Nat)(w:World)(e:Ending)(w':World):Prop:=
 ∃(err at':Int)(ao:Option Addr)(m cap:Nat)(z c rounds:Int),e=.returned (DC err at' (.slice ao m cap) z c rounds)/\0<=rounds/\rounds<=1000/\(err=0->Vr nH S V0 bA w.heap.size w' (.slice ao m cap) z c)/\Below w.heap.size w w'
def BC(xs:List SV):Prop:=∀(bH cH nH:Nat)(S:Nat->HS)(bR cR:Nat)(V0:Nat->VV)(bA cA:Nat)(V:Nat->VV)(z c at' rounds:Int)(v:Value)(w:World),nH<=1048576->Bl w bH nH S bR 8 V0->A9 w bA (8*6) (vF V)->BA nH S 8 V0 8 V z c=true->SL w v xs->0<=rounds->rounds<=1000->
 Calls Tryz.prog 138 #[.agg #[Vs bH nH cH,Vs bR 8 cR],v,Vi at',.agg #[Vs bA 8 cA,Vi z,Vi c],Vi rounds] w (ZP nH S V0 bA w)
def oz:Array Value:=#[Vi 0,Vi 0,.slice none 0 0,Vi 0,Vi 0,Vi 0]
structure Gd(w:World)(bH cH nH:Nat)(S:Nat->HS)(bR cR:Nat)(V0:Nat->VV)(b0:Nat)(bs bh br bA cA:Nat)(V:Nat->VV)(z c:Int)(u:World):Prop where
 bel:Below w.heap.size w u
 sg:u.heap[bs]?=some (.cells #[Vs bH nH cH,Vs bR 8 cR] 26)
 hd:V3 u bh 136 (Vs bA 8 cA) (Vi z) (Vi c)
 R:u.heap[br]?=some (.cells oz 238)
 sc:Bl u bH nH S bR 8 V0
 A:A9 u bA (8*6) (vF V)
 ok:BA nH S 8 V0 8 V z c=true
 nw:bA=b0∨w.heap.size<=bA
 ne:bA≠br
 o1:w.heap.size=bs
 o2:bs<bh
 o3:bh<br
section
variable{w:World}{bH cH nH:Nat}{S:Nat->HS}{bR cR:Nat}{V0:Nat->VV}{b0 bs bh br bA cA:Nat}{V:Nat->VV}{z c:Int}{u u':World}
theorem Gd.below(h:Gd w bH cH nH S bR cR V0 b0 bs bh br bA cA V z c u)(f:Below u.heap.size u u'):Gd w bH cH nH S bR cR V0 b0 bs bh br bA cA V z c u':=
 ⟨h.bel.trans (f.mono h.bel.size),Aw h.sg f,h.hd.below f,Aw h.R f,h.sc.below f,h.A.below f h.A.lt,h.ok,h.nw,h.ne,h.o1,h.o2,h.o3⟩
theorem Gd.cells(h:Gd w bH cH nH S bR cR V0 b0 bs bh br bA cA V z c u):(u.cell? (Va bs 0)=some (Vs bH nH cH)/\u.cell? (Va bs 1)=some (Vs bR 8 cR))/\(u.cell? (Va bh 0)=some (Vs bA 8 cA)/\u.cell? (Va bh 1)=some (Vi z)/\u.cell? (Va bh 2)=some (Vi c))/\bs<u.heap.size/\bh<u.heap.size:=
 ⟨⟨(AY h.sg 0).trans rfl,(AY h.sg 1).trans rfl⟩,h.hd.cells,Bb h.sg,h.hd.lt⟩
theorem Gd.res(h:Gd w bH cH nH S bR cR V0 b0 bs bh br bA cA V z c u):u.cell? (Va br 0)=some (Vi 0)/\u.cell? (Va br 1)=some (Vi 0)/\u.cell? (Va br 2)=some (.slice none 0 0)/\u.cell? (Va br 3)=some (Vi 0)/\u.cell? (Va br 4)=some (Vi 0)/\u.cell? (Va br 5)=some (Vi 0)/\(∀i,u.frozen? (Va br i)=false)/\br<u.heap.size:=
 ⟨(AY h.R 0).trans rfl,(AY h.R 1).trans rfl,(AY h.R 2).trans rfl,(AY h.R 3).trans rfl,(AY h.R 4).trans rfl,(AY h.R 5).trans rfl,Cr h.R,Bb h.R⟩
theorem Gd.put(h:Gd w bH cH nH S bR cR V0 b0 bs bh br bA cA V z c u){g cg:Nat}{U:Nat->VV}{z' c':Int}(hg:A9 u g (8*6) (vF U))(ok:BA nH S 8 V0 8 U z' c'=true)(nw:g=b0∨w.heap.size<=g)(ne:g≠br)(nh:g≠bh)(n1:bH≠bh)(n2:bR≠bh):Gd w bH cH nH S bR cR V0 b0 bs bh br g cg U z' c' (((u.setCell (Va bh 0) (Vs g 8 cg)).setCell (Va bh 1) (Vi z')).setCell (Va bh 2) (Vi c')):=by
 have o1:=h.o1;have o2:=h.o2;have o3:=h.o3;refine⟨?_,Av (Av (Av h.sg (by omega) _ _) (by omega) _ _) (by omega) _ _,h.hd.set _ _ _,Av (Av (Av h.R (by omega) _ _) (by omega) _ _) (by omega) _ _,⟨((h.sc.h.other ?_ _).other ?_ _).other ?_ _,((h.sc.r.other ?_ _).other ?_ _).other ?_ _⟩,((hg.other ?_ _).other ?_ _).other ?_ _,ok,nw,ne,o1,o2,o3⟩
 ·exact((h.bel.setCell (p:=Va bh 0) (show w.heap.size<=bh by omega) _).setCell (p:=Va bh 1) (show w.heap.size<=bh by omega) _).setCell (p:=Va bh 2) (show w.heap.size<=bh by omega) _
 all_goals first|exact fun e=>n1 e.symm|exact fun e=>n2 e.symm|exact fun e=>nh e.symm
def Gn(u:World)(b:Nat)(a0 a1 a2 a3 a4 a5:Value):World:=(((((u.setCell (Va b 0) a0).setCell (Va b 1) a1).setCell (Va b 2) a2).setCell (Va b 3) a3).setCell (Va b 4) a4).setCell (Va b 5) a5
theorem Bw(h:Below B w u)(hb:B<=b)(a0 a1 a2 a3 a4 a5:Value):Below B w (Gn u b a0 a1 a2 a3 a4 a5):=
 (((((h.setCell (p:=Va b 0) hb _).setCell (p:=Va b 1) hb _).setCell (p:=Va b 2) hb _).setCell (p:=Va b 3) hb _).setCell (p:=Va b 4) hb _).setCell (p:=Va b 5) hb _
theorem GK{g:Nat}{f:Nat->Value}(h:A9 u g n f)(hn:g≠b)(a0 a1 a2 a3 a4 a5:Value):A9 (Gn u b a0 a1 a2 a3 a4 a5) g n f:=
 (((((h.other (fun e=>hn e.symm) _).other (fun e=>hn e.symm) _).other (fun e=>hn e.symm) _).other (fun e=>hn e.symm) _).other (fun e=>hn e.symm) _).other (fun e=>hn e.symm) _
end
theorem UG(w:World){bH cH:Nat}{bR cR:Nat}{cA:Nat}{V:Nat->VV}(h1:Bl w bH nH S bR 8 V0)(h2:A9 w bA (8*6) (vF V))(h3:BA nH S 8 V0 8 V z c=true):
 Gd w bH cH nH S bR cR V0 bA w.heap.size (w.heap.size+1) (w.heap.size+1+1) bA cA V z c (((w.alloc (.cells #[Vs bH nH cH,Vs bR 8 cR] 26)).alloc (.cells #[Vs bA 8 cA,Vi z,Vi c] 136)).alloc (.cells oz 238)):=by
 have n0:=Bh w (.cells #[Vs bH nH cH,Vs bR 8 cR] 26);generalize hx:w.alloc (.cells #[Vs bH nH cH,Vs bR 8 cR] 26)=x at *;have s0:x.heap.size=w.heap.size+1:=by rw[<-hx];simp
 have b0:Below w.heap.size w x:=by rw[<-hx];exact Ak
 have n1:=V3.new x 136 (Vs bA 8 cA) (Vi z) (Vi c);generalize hy:x.alloc (.cells #[Vs bA 8 cA,Vi z,Vi c] 136)=y at *;have s1:y.heap.size=w.heap.size+1+1:=by rw[<-hy];simp[s0]
 have b1:Below x.heap.size x y:=by rw[<-hy];exact Ak
 have n2:=Bh y (.cells oz 238);have b2:Below y.heap.size y (y.alloc (.cells oz 238)):=Ak;have bb:Below w.heap.size w (y.alloc (.cells oz 238)):=(b0.trans (b1.mono (by omega))).trans (b2.mono (by omega));rw[s0]at n1;rw[s1]at n2;exact⟨bb,Aw (Aw n0 b1) b2,n1.below b2,n2,h1.below bb,h2.below bb h2.lt,h3,Or.inl rfl,by have:=h2.lt;omega,rfl,by omega,by omega⟩
theorem Uj(xs:List SV)(IH:BC xs)(bH cH nH:Nat)(S:Nat->HS)(bR cR:Nat)(V0:Nat->VV)(bA cA:Nat)(V:Nat->VV)(z c cond here rounds:Int)(v:Value)(w:World)(lH:nH<=1048576)(h1:Bl w bH nH S bR 8 V0)(h2:A9 w bA (8*6) (vF V))(h3:BA nH S 8 V0 8 V z c=true)(h4:SL w v xs)(r0:0<=rounds)(r1:rounds<=1000):
 Calls Tryz.prog 191 #[.agg #[Vs bH nH cH,Vs bR 8 cR],v,Vi cond,Vi here,.agg #[Vs bA 8 cA,Vi z,Vi c],Vi rounds] w (ZP nH S V0 bA w):=by
 have N1:Hid (bH<w.heap.size/\bR<w.heap.size):=⟨h1.h.lt,h1.r.lt⟩
 have HL:=hxy h4;have LL:=hxy lH;have X0:Hid (Gd w bH cH nH S bR cR V0 bA w.heap.size (w.heap.size+1) (w.heap.size+1+1) bA cA V z c (((w.alloc (.cells #[Vs bH nH cH,Vs bR 8 cR] 26)).alloc (.cells #[Vs bA 8 cA,Vi z,Vi c] 136)).alloc (.cells oz 238))):=UG w h1 h2 h3;obtain⟨va,vc,rfl,_,_⟩:=h4;clear h1 h2 h3 lH;go_enter Tryz.func191,Tryz.ntmps191;go_upto_region 1 with fail;unfold oz at X0;obtain⟨u,hu⟩:=Ae (((w.alloc (.cells #[Vs bH nH cH,Vs bR 8 cR] 26)).alloc (.cells #[Vs bA 8 cA,Vi z,Vi c] 136)).alloc (.cells #[Vi 0,Vi 0,.slice none 0 0,Vi 0,Vi 0,Vi 0] 238));rw[hu]at X0⊢;obtain⟨bs,hbs⟩:=Ae w.heap.size;obtain⟨bh,hbh⟩:=Ae (w.heap.size+1);obtain⟨br,hbr⟩:=Ae (w.heap.size+1+1);have X0:Hid (Gd w bH cH nH S bR cR V0 bA bs bh br bA cA V z c u):=by rw[<-hbs,<-hbh,<-hbr];exact X0
 rw[hbr,hbh,hbs];have BO:Hid (w.heap.size=bs/\bs<bh/\bh<br):=⟨hbs,by omega,by omega⟩
 clear hu hbs hbh hbr;go_wp2_with fail;go_loopw [5,13](fun rv kv wr=>∃(k:Nat)(rounds:Int)(g cg:Nat)(U:Nat->VV)(z' c':Int),rv=Vi rounds/\kv=Vi k/\k<=20/\0<=rounds/\rounds<=1000/\Gd w bH cH nH S bR cR V0 bA bs bh br g cg U z' c' wr)(fun _ kv _=>20-(intOf kv).toNat)
 case atStart=>exact⟨0,rounds,bA,cA,V,z,c,rfl,rfl,by omega,r0,r1,X0.out⟩
 case round=>
  clear X0 r0 r1;obtain⟨k,rounds,g,cg,U,z',c',rfl,rfl,hk,r0,r1,x⟩:=hrel;have X:=hxy x;clear x;by_cases hlt:(k:Int)<20/\rounds<1000
  rotate_left
  ·have BAD:∀t,Below wr.heap.size wr t->Hid (Gd w bH cH nH S bR cR V0 bA bs bh br g cg U z' c' t):=fun t h=>X.out.below h
   by_cases hk20:(k:Int)<20
   ·have hr:¬rounds<1000:=fun h=>hlt ⟨hk20,h⟩
    go_wp2_with fail;refine(GH _ _ _ _).mono ?_;rintro e t⟨rfl,hb⟩;have Y:=BAD t hb;obtain⟨y0,y1,y2,y3,y4,y5,yf,yl⟩:=Y.out.res;unfold DC;go_wp2_with fail;refine bodyPost_ret (v:=DC 10 here (.slice none 0 0) 0 0 rounds) (by simp[results,Tryz.results191,go_sem,DC, *]) rfl ⟨10,here,none,0,0,0,0,rounds,rfl,r0,r1,fun e=>absurd e (by decide),?_⟩;exact Bw Y.out.bel (by have:=BO.out;omega) _ _ _ _ _ _
   ·go_wp2_with fail
    refine(GH _ _ _ _).mono ?_;rintro e t⟨rfl,hb⟩;have Y:=BAD t hb;obtain⟨y0,y1,y2,y3,y4,y5,yf,yl⟩:=Y.out.res;unfold DC;go_wp2_with fail;refine bodyPost_ret (v:=DC 10 here (.slice none 0 0) 0 0 rounds) (by simp[results,Tryz.results191,go_sem,DC, *]) rfl ⟨10,here,none,0,0,0,0,rounds,rfl,r0,r1,fun e=>absurd e (by decide),?_⟩;exact Bw Y.out.bel (by have:=BO.out;omega) _ _ _ _ _ _
  obtain⟨hk20,hr1000⟩:=hlt;obtain⟨_,⟨c0,c1,c2⟩,cl1,cl2⟩:=X.out.cells;go_wp2_with fail;refine(JC _ _ _ _ _ _ _).mono ?_;rintro e t1⟨⟨fr,rfl⟩,hb⟩;have X1:Hid (Gd w bH cH nH S bR cR V0 bA bs bh br g cg U z' c' t1):=X.out.below hb;clear hb X c0 c1 c2 cl1 cl2;by_cases hf:fr=0
  rotate_left
  ·go_wp2_with fail
   refine(GH _ _ _ _).mono ?_;rintro e t⟨rfl,hb⟩;have Y:Hid (Gd w bH cH nH S bR cR V0 bA bs bh br g cg U z' c' t):=X1.out.below hb;obtain⟨y0,y1,y2,y3,y4,y5,yf,yl⟩:=Y.out.res;unfold DC;go_wp2_with fail;refine bodyPost_ret (v:=DC fr here (.slice none 0 0) 0 0 (rounds+1)) (by simp[results,Tryz.results191,go_sem,DC, *]) rfl ⟨fr,here,none,0,0,0,0,rounds+1,rfl,by omega,by omega,fun e=>absurd e hf,?_⟩;exact Bw Y.out.bel (by have:=BO.out;omega) _ _ _ _ _ _
  subst hf;obtain⟨⟨s0,s1⟩,⟨c0,c1,c2⟩,cl1,cl2⟩:=X1.out.cells;go_wp2_with fail;refine(IH bH cH nH S bR cR V0 g cg U z' c' _ (rounds+1) _ t1 LL.out X1.out.sc X1.out.A X1.out.ok (HL.out.below_of X1.out.bel) (by omega) (by omega)).mono ?_;rintro e t2⟨err,at2,ao,m,cap,z2,c2',rr,rfl,q0,q1,hab,hb⟩;have X2:Hid (Gd w bH cH nH S bR cR V0 bA bs bh br g cg U z' c' t2):=X1.out.below hb;have T2:=hxy hb.size;have HAB:=hxy hab;clear hb hab s0 s1 c0 c1 c2 cl1 cl2;unfold DC;by_cases he:err=0
  rotate_left
  ·obtain⟨t3,ht3,b3⟩:∃y,t2.alloc (.cells #[Vi err,Vi at2,.slice ao m cap,Vi z2,Vi c2',Vi rr] 238)=y/\Below t2.heap.size t2 y:=⟨_,rfl,Ak⟩
   have n3:=Bh t2 (.cells #[Vi err,Vi at2,.slice ao m cap,Vi z2,Vi c2',Vi rr] 238);rw[ht3]at n3;have Y:Hid (Gd w bH cH nH S bR cR V0 bA bs bh br g cg U z' c' t3):=X2.out.below b3;obtain⟨y0,y1,y2,y3,y4,y5,yf,yl⟩:=Y.out.res;have v0:=(AY n3 0).trans rfl;have v1:=(AY n3 1).trans rfl;have v2:=(AY n3 2).trans rfl;have v3:=(AY n3 3).trans rfl;have v4:=(AY n3 4).trans rfl;have v5:=(AY n3 5).trans rfl;have vl:=Bb n3;go_upto_region 9 with fail;clear ht3 b3 n3;go_wp2_with fail;refine bodyPost_ret (v:=DC err at2 (.slice ao m cap) z2 c2' rr) (by simp[results,Tryz.results191,go_sem,DC, *]) rfl ⟨err,at2,ao,m,cap,z2,c2',rr,rfl,q0,q1,fun e=>absurd e he,?_⟩;exact Bw Y.out.bel (by have:=BO.out;omega) _ _ _ _ _ _
  subst he;obtain⟨g2,cq,U2,hv2,nw2,A2,ok2⟩:=HAB.out rfl;simp only[Value.slice.injEq]at hv2;obtain⟨rfl,rfl,rfl⟩:=hv2;have A2:=hxy A2;have NW2:=hxy nw2;have OK2:=hxy ok2;clear nw2 ok2 HAB;obtain⟨t3,ht3,b3⟩:∃y,t2.alloc (.cells #[Vi 0,Vi at2,Vs g2 8 cap,Vi z2,Vi c2',Vi rr] 238)=y/\Below t2.heap.size t2 y:=⟨_,rfl,Ak⟩
  have n3:=Bh t2 (.cells #[Vi 0,Vi at2,Vs g2 8 cap,Vi z2,Vi c2',Vi rr] 238);rw[ht3]at n3;have X3:Hid (Gd w bH cH nH S bR cR V0 bA bs bh br g cg U z' c' t3):=X2.out.below b3;have A3:Hid (A9 t3 g2 (8*6) (vF U2)):=A2.out.below b3 A2.out.lt;obtain⟨_,⟨c0,c1,c2⟩,cl1,cl2⟩:=X3.out.cells;have v0:=(AY n3 0).trans rfl;have v2:=(AY n3 2).trans rfl;have v3:=(AY n3 3).trans rfl;have v4:=(AY n3 4).trans rfl;have v5:=(AY n3 5).trans rfl;have vl:=Bb n3;go_upto_region 9 with fail;have B13:Hid (t1.heap.size<=t3.heap.size):=(by have:=b3.size;have:=T2.out;omega:t1.heap.size<=t3.heap.size)
  clear ht3 b3 n3 X2 A2;obtain⟨no,hno⟩:=Ae t2.heap.size;rw[hno]at v0 v2 v3 v4 v5 vl⊢;clear hno;go_wp2_with fail;refine(JE nH S V0 g cg U z' c' g2 cap U2 z2 c2' t3 X3.out.A A3.out X3.out.ok OK2.out).mono ?_;rintro e t4⟨g4,cg4,U4,z4,c4,rfl,ng4,A4,ok4,hb⟩;have X4:Hid (Gd w bH cH nH S bR cR V0 bA bs bh br g cg U z' c' t4):=X3.out.below hb;have A4:=hxy A4;have NG4:Hid (t3.heap.size<=g4/\t1.heap.size<=t3.heap.size):=⟨ng4,B13.out⟩
  have OK4:=hxy ok4;have HBR3:Hid (br<t3.heap.size):=Bb X3.out.R;clear hb ng4 ok4 X3 A3 c0 c1 c2 cl1 cl2 v0 v2 v3 v4 v5 vl;obtain⟨t5,ht5,b5⟩:∃y,t4.alloc (.cells #[Vs g4 8 cg4,Vi z4,Vi c4] 136)=y/\Below t4.heap.size t4 y:=⟨_,rfl,Ak⟩
  have n5:=V3.new t4 136 (Vs g4 8 cg4) (Vi z4) (Vi c4);rw[ht5]at n5;have X5:Hid (Gd w bH cH nH S bR cR V0 bA bs bh br g cg U z' c' t5):=X4.out.below b5;have A5:Hid (A9 t5 g4 (8*6) (vF U4)):=A4.out.below b5 A4.out.lt;obtain⟨nn,hnn⟩:=Ae t4.heap.size;have N5:Hid (V3 t5 nn 136 (Vs g4 8 cg4) (Vi z4) (Vi c4)):=(by rw[<-hnn];exact n5:V3 t5 nn 136 (Vs g4 8 cg4) (Vi z4) (Vi c4))
  obtain⟨_,⟨c0,c1,c2⟩,cl1,cl2⟩:=X5.out.cells;obtain⟨m0,m1,m2⟩:=N5.out.cells;have ml:=N5.out.lt;go_upto_region 13 with fail;try rw[hnn]
  clear ht5 b5 n5 hnn X4 A4;go_wp2_with fail;refine(UU g4 cg4 U4 z4 c4 g cg U z' c' t5 A5.out X5.out.A).mono ?_;rintro e t6⟨⟨same,rfl⟩,hb⟩;have X6:Hid (Gd w bH cH nH S bR cR V0 bA bs bh br g cg U z' c' t6):=X5.out.below hb;have A6:Hid (A9 t6 g4 (8*6) (vF U4)):=A5.out.below hb A5.out.lt;have N6:Hid (V3 t6 nn 136 (Vs g4 8 cg4) (Vi z4) (Vi c4)):=N5.out.below hb;clear hb X5 A5 N5 c0 c1 c2 cl1 cl2 m0 m1 m2 ml;obtain⟨_,⟨c0,c1,c2⟩,cl1,cl2⟩:=X6.out.cells;cases same with
  |true=>
   obtain⟨y0,y1,y2,y3,y4,y5,yf,yl⟩:=X6.out.res;have YA:Hid (A9 t6 g (8*6) (vF U)/\g≠br/\BA nH S 8 V0 8 U z' c'=true/\(g=bA∨w.heap.size<=g)/\Below w.heap.size w t6):=⟨X6.out.A,X6.out.ne,X6.out.ok,X6.out.nw,X6.out.bel⟩
   have hbr:bh≠br:=by have:=BO.out;omega
   clear X6 A6 N6;go_wp2_with fail;refine bodyPost_ret (v:=DC 0 0 (Vs g 8 cg) z' c' rr) (by simp[results,Tryz.results191,go_sem,DC, *]) rfl ⟨0,0,_,_,_,z',c',rr,rfl,q0,q1,fun _=>⟨g,cg,U,rfl,YA.out.2.2.2.1,?_,YA.out.2.2.1⟩,?_⟩
   ·exact GK YA.out.1 YA.out.2.1 _ _ _ _ _ _
   ·exact Bw YA.out.2.2.2.2 (by have:=BO.out;omega) _ _ _ _ _ _
  |false=>
   obtain⟨m0,m1,m2⟩:=N6.out.cells;have ml:=N6.out.lt;have hf:=X6.out.hd.free;have hgr:br<t3.heap.size:=HBR3.out;have Y:Hid (Gd w bH cH nH S bR cR V0 bA bs bh br g4 cg4 U4 z4 c4 (((t6.setCell (Va bh 0) (Vs g4 8 cg4)).setCell (Va bh 1) (Vi z4)).setCell (Va bh 2) (Vi c4))):=X6.out.put A6.out OK4.out (Or.inr (by have:=NG4.out;have:=BO.out;omega)) (by have:=NG4.out;omega) (by have:=NG4.out;have:=BO.out;omega) (by have:=N1.out;have:=BO.out;omega) (by have:=N1.out;have:=BO.out;omega);clear X6 A6 N6;go_wp2_with fail;go_roundw
   case rel=>exact⟨k+1,rr,g4,cg4,U4,z4,c4,rfl,by go_num,by omega,q0,q1,Y.out⟩
   case measure=>simp[intOf];omega
theorem SL.head(h:SL w v (s::xs)):∃b off cap,v=.slice (some ⟨b,off,none⟩) (xs.length+1) cap/\xs.length+1<=cap/\At w b off ((xs.length+1)*11) (IU (Gm (s::xs))):=by
 obtain⟨ao,cap,h1,h2,h3⟩:=h;rcases h3 with h3|⟨b,off,rfl,h3⟩
 ·simp at h3
 ·exact⟨b,off,cap,h1,h2,h3⟩
theorem UO{L:List SV}{i cp:Nat}(h:At w b off (L.length*11) (IU (Gm L)))(hx:(L.drop i).take xs.length=xs)(hc:L.length<=cap)(hi:i+xs.length<=L.length)(hao:ao=if cap=i then some ⟨b,off,none⟩else some ⟨b,off+i*11,none⟩)(hm:m=xs.length)(hcp:cp=cap-i):SL w (.slice ao m cp) xs:=by
 subst hm hcp;refine⟨ao,_,rfl,by omega,?_⟩;by_cases e:cap=i
 ·exact .inl (by omega)
 ·rw[if_neg e]at hao
  have:=At.sub h i xs.length hi;rw[hx]at this;exact .inr ⟨b,_,hao,this⟩
structure YB(nH:Nat)(S:Nat->HS)(V0:Nat->VV)(bA B ny:Nat)(err at':Int)(ao:Option Addr)(m cap:Nat)(z c rounds:Int)(u:World):Prop where
 Y:u.heap[ny]?=some (.cells #[Vi err,Vi at',.slice ao m cap,Vi z,Vi c,Vi rounds] 238)
 ab:err=0->∃(g cg:Nat)(V:Nat->VV),(Value.slice ao m cap)=Vs g 8 cg/\(g=bA∨B<=g)/\g≠ny/\A9 u g (8*6) (vF V)/\BA nH S 8 V0 8 V z c=true
theorem YB.below{ny:Nat}{u':World}(h:YB nH S V0 bA B ny err at' ao m cap z c rounds u)(f:Below u.heap.size u u'):YB nH S V0 bA B ny err at' ao m cap z c rounds u':=
 ⟨Aw h.Y f,fun e=>by obtain⟨g,cg,V,h1,h2,h3,h4,h5⟩:=h.ab e;exact⟨g,cg,V,h1,h2,h3,h4.below f h4.lt,h5⟩⟩
theorem YB.cells{ny:Nat}(h:YB nH S V0 bA B ny err at' ao m cap z c rounds u):u.cell? (Va ny 0)=some (Vi err)/\u.cell? (Va ny 1)=some (Vi at')/\u.cell? (Va ny 2)=some (.slice ao m cap)/\u.cell? (Va ny 3)=some (Vi z)/\u.cell? (Va ny 4)=some (Vi c)/\u.cell? (Va ny 5)=some (Vi rounds)/\(∀i,u.frozen? (Va ny i)=false)/\ny<u.heap.size:=
 ⟨(AY h.Y 0).trans rfl,(AY h.Y 1).trans rfl,(AY h.Y 2).trans rfl,(AY h.Y 3).trans rfl,(AY h.Y 4).trans rfl,(AY h.Y 5).trans rfl,Cr h.Y,Bb h.Y⟩
theorem QA(h:err=0->Vr nH S V0 bA B u (.slice ao m cap) z c):YB nH S V0 bA B u.heap.size err at' ao m cap z c rounds (u.alloc (.cells #[Vi err,Vi at',.slice ao m cap,Vi z,Vi c,Vi rounds] 238)):=
 ⟨Bh _ _,fun e=>by
   obtain⟨g,cg,V,h1,h2,h3,h4⟩:=h e;exact⟨g,cg,V,h1,h2,by have:=h3.lt;omega,h3.below Ak h3.lt,h4⟩⟩
theorem LY{t:Nat}{x0 x1 x2 x3 x4 x5:Value}(h:u.heap[b]?=some (.cells #[x0,x1,x2,x3,x4,x5] t))(a0 a1 a2 a3 a4 a5:Value):(Gn u b a0 a1 a2 a3 a4 a5).heap[b]?=some (.cells #[a0,a1,a2,a3,a4,a5] t):=
 Ci (Ci (Ci (Ci (Ci (Ci h 0 a0) 1 a1) 2 a2) 3 a3) 4 a4) 5 a5
theorem bL(h:At w b off ((n+1)*11) (IU (Gm (s::xs)))):w.cell? (Va b off)=some (Vi s.k)/\w.cell? (Va b (off+1))=some (Vi s.op)/\w.cell? (Va b (off+2))=some (Vi s.d)/\w.cell? (Va b (off+3))=some (Vi s.a)/\w.cell? (Va b (off+4))=some (Vi s.b)/\w.cell? (Va b (off+5))=some (Vi s.imm)/\w.cell? (Va b (off+6))=some (Vi s.h)/\w.cell? (Va b (off+7))=some (Vi s.cond)/\w.cell? (Va b (off+8))=some (Vi s.thn)/\w.cell? (Va b (off+9))=some (Vi s.els)/\w.cell? (Va b (off+10))=some (Vi s.proc):=
 ⟨h.cell (i:=0) (by omega),h.cell (i:=1) (by omega),h.cell (i:=2) (by omega),h.cell (i:=3) (by omega),h.cell (i:=4) (by omega),h.cell (i:=5) (by omega),h.cell (i:=6) (by omega),h.cell (i:=7) (by omega),h.cell (i:=8) (by omega),h.cell (i:=9) (by omega),h.cell (i:=10) (by omega)⟩
theorem ai{sb:Nat}(h:u.heap[sb]?=some (.cells (CV s).toArray 89)):u.cell? (Va sb 0)=some (Vi s.k)/\u.cell? (Va sb 7)=some (Vi s.cond)/\u.cell? (Va sb 8)=some (Vi s.thn)/\u.cell? (Va sb 9)=some (Vi s.els)/\sb<u.heap.size:=
 ⟨(AY h 0).trans rfl,(AY h 7).trans rfl,(AY h 8).trans rfl,(AY h 9).trans rfl,Bb h⟩
theorem NM(s:SV)(x y:List SV)(ht:s.thn=(x.length:Int))(he:s.els=(y.length:Int))(IHx:BC x)(IHy:BC y)(bH cH nH:Nat)(S:Nat->HS)(bR cR:Nat)(V0:Nat->VV)(bA cA:Nat)(V:Nat->VV)(z c here rounds:Int)(v:Value)(w:World)(lH:nH<=1048576)(h1:Bl w bH nH S bR 8 V0)(h2:A9 w bA (8*6) (vF V))(h3:BA nH S 8 V0 8 V z c=true)(h4:SL w v (s::(x++y)))(hl:x.length+y.length<=1048576)(r0:0<=rounds)(r1:rounds<=1000):
 Calls Tryz.prog 167 #[.agg #[Vs bH nH cH,Vs bR 8 cR],v,Vi here,.agg #[Vs bA 8 cA,Vi z,Vi c],Vi rounds] w (ZP nH S V0 bA w):=by
 have N1:Hid (bH<w.heap.size/\bR<w.heap.size):=⟨h1.h.lt,h1.r.lt⟩
 have LL:=hxy lH;have HT:Hid (s.thn=(x.length:Int)/\s.els=(y.length:Int)):=⟨ht,he⟩
 have X0:Hid (Gd w bH cH nH S bR cR V0 bA w.heap.size (w.heap.size+1) (w.heap.size+1+1) bA cA V z c (((w.alloc (.cells #[Vs bH nH cH,Vs bR 8 cR] 26)).alloc (.cells #[Vs bA 8 cA,Vi z,Vi c] 136)).alloc (.cells oz 238))):=UG w h1 h2 h3;obtain⟨b,off,cap,rfl,hcap,hat⟩:=h4.head;rw[List.length_append]at hcap hat⊢;have HAT:=hxy hat;clear h1 h2 h3 lH h4 hat ht he;go_enter Tryz.func167,Tryz.ntmps167;go_upto_region 1 with fail;unfold oz at X0;obtain⟨u,hu⟩:=Ae (((w.alloc (.cells #[Vs bH nH cH,Vs bR 8 cR] 26)).alloc (.cells #[Vs bA 8 cA,Vi z,Vi c] 136)).alloc (.cells #[Vi 0,Vi 0,.slice none 0 0,Vi 0,Vi 0,Vi 0] 238));rw[hu]at X0⊢;obtain⟨bs,hbs⟩:=Ae w.heap.size;obtain⟨bh,hbh⟩:=Ae (w.heap.size+1);obtain⟨br,hbr⟩:=Ae (w.heap.size+1+1);have X0:Hid (Gd w bH cH nH S bR cR V0 bA bs bh br bA cA V z c u):=by rw[<-hbs,<-hbh,<-hbr];exact X0
 rw[hbr,hbh,hbs];have BO:Hid (w.heap.size=bs/\bs<bh/\bh<br):=⟨hbs,by omega,by omega⟩
 clear hu hbs hbh hbr;have AT0:=HAT.out.below X0.out.bel HAT.out.lt;obtain⟨k0,k1,k2,k3,k4,k5,k6,k7,k8,k9,k10⟩:=bL AT0;have kl:=AT0.lt;go_upto_region 2 with fail;obtain⟨u1,hu1,bu1⟩:∃y,u.alloc (.cells (CV s).toArray 89)=y/\Below u.heap.size u y:=⟨_,rfl,Ak⟩
 have q1:=Bh u (.cells (CV s).toArray 89);rw[hu1]at q1;unfold CV at hu1 q1;rw[hu1];have X1:=hxy (X0.out.below bu1);obtain⟨sb,hsb⟩:=Ae u.heap.size;rw[hsb]at q1⊢;have Q1:=hxy q1;clear hu1 bu1 q1 hsb k0 k1 k2 k3 k4 k5 k6 k7 k8 k9 k10 kl AT0 X0;obtain⟨k0,k7,k8,k9,kl⟩:=ai Q1.out;rw[HT.out.1]at k8;rw[HT.out.2]at k9;go_upto_region 3 with fail;obtain⟨tv,htv,HS⟩:∃q,Value.slice (if cap=1 then some ⟨b,off,none⟩else some ⟨b,off+11,none⟩) (1+x.length-1) (cap-1)=q/\Hid (SL u1 q x):=⟨_,rfl,UO (L:=s::(x++y)) (i:=1) (by rw[List.length_cons,List.length_append];exact HAT.out.below X1.out.bel HAT.out.lt) (by simp) (by simp;omega) (by simp;omega) rfl (by omega) rfl⟩
 rw[htv];clear htv;by_cases hk3:s.k=3
 ·obtain⟨⟨s0,s1⟩,⟨c0,c1,c2⟩,cl1,cl2⟩:=X1.out.cells
  go_wp2_with fail;refine(Uj x IHx bH cH nH S bR cR V0 bA cA V z c s.cond here rounds tv u1 LL.out X1.out.sc X1.out.A X1.out.ok HS.out r0 r1).mono ?_;rintro e t⟨err,at2,ao,m,cap2,z2,c2',rr,rfl,q0,q1,hab,hb⟩;have Y:=hxy (X1.out.below hb);have HAB:Hid (err=0->Vr nH S V0 bA w.heap.size (Gn t br (Vi err) (Vi at2) (.slice ao m cap2) (Vi z2) (Vi c2') (Vi rr)) (.slice ao m cap2) z2 c2'):=fun e=>by
   obtain⟨g,cg,U,h1,h2,h3,h4⟩:=hab e;have:=X1.out.bel.size;have hne:g≠br:=by
    rcases h2 with h2|h2
    ·rw[h2];exact X1.out.ne
    ·have:=Bb X1.out.R;omega
   exact⟨g,cg,U,h1,by omega,GK h3 hne _ _ _ _ _ _,h4⟩
  obtain⟨y0,y1,y2,y3,y4,y5,yf,yl⟩:=Y.out.res;clear hb hab s0 s1 c0 c1 c2 cl1 cl2 k0 k7 k8 k9 kl;unfold DC;go_wp2_with fail;refine bodyPost_ret (v:=DC err at2 (.slice ao m cap2) z2 c2' rr) (by simp[results,Tryz.results167,go_sem,DC, *]) rfl ⟨err,at2,ao,m,cap2,z2,c2',rr,rfl,q0,q1,HAB.out,?_⟩;exact Bw Y.out.bel (by have:=BO.out;omega) _ _ _ _ _ _
 obtain⟨_,⟨c0,c1,c2⟩,cl1,cl2⟩:=X1.out.cells;go_wp2_with fail;refine(JC _ _ _ _ _ _ _).mono ?_;rintro e u2⟨⟨fr,rfl⟩,hb⟩;have X2:=hxy (X1.out.below hb);have Q2:=hxy (Aw Q1.out hb);have HS2:=hxy (HS.out.below hb);clear hb X1 Q1 HS c0 c1 c2 cl1 cl2 k0 k7 k8 k9 kl;by_cases hf:fr=0
 rotate_left
 ·go_wp2_with fail
  refine(GH _ _ _ _).mono ?_;rintro e t⟨rfl,hb⟩;have Y:=hxy (X2.out.below hb);obtain⟨y0,y1,y2,y3,y4,y5,yf,yl⟩:=Y.out.res;unfold DC;go_wp2_with fail;refine bodyPost_ret (v:=DC fr here (.slice none 0 0) 0 0 rounds) (by simp[results,Tryz.results167,go_sem,DC, *]) rfl ⟨fr,here,none,0,0,0,0,rounds,rfl,r0,r1,fun e=>absurd e hf,?_⟩;exact Bw Y.out.bel (by have:=BO.out;omega) _ _ _ _ _ _
 subst hf;obtain⟨⟨s0,s1⟩,⟨c0,c1,c2⟩,cl1,cl2⟩:=X2.out.cells;go_wp2_with fail;refine(IHx bH cH nH S bR cR V0 bA cA V z c _ rounds tv u2 LL.out X2.out.sc X2.out.A X2.out.ok HS2.out r0 r1).mono ?_;rintro e u3⟨err,at2,ao,m,cap2,z2,c2',rr,rfl,q0,q1,hab,hb⟩;have bn3:Below u3.heap.size u3 (u3.alloc (.cells #[Vi err,Vi at2,.slice ao m cap2,Vi z2,Vi c2',Vi rr] 238)):=Ak;have yb3:=QA (at':=at2) (rounds:=rr) hab;obtain⟨u4,hu4⟩:=Ae (u3.alloc (.cells #[Vi err,Vi at2,.slice ao m cap2,Vi z2,Vi c2',Vi rr] 238));rw[hu4]at bn3 yb3;have X4:=hxy ((X2.out.below hb).below bn3);have Q4:=hxy (Aw (Aw Q2.out hb) bn3);have YX:=hxy yb3;have LB:Hid (br<u2.heap.size/\w.heap.size<=u2.heap.size):=⟨Bb X2.out.R,X2.out.bel.size⟩
 have NX0:=hb.size;clear hb hab yb3 bn3 X2 Q2 HS2 s0 s1 c0 c1 c2 cl1 cl2;unfold DC;go_upto_region 9 with fail;obtain⟨nx,hnx⟩:=Ae u3.heap.size;rw[hnx]at YX NX0⊢;have NX:=hxy NX0;clear hu4 hnx NX0;obtain⟨v0,v1,v2,v3,v4,v5,vf,vl⟩:=YX.out.cells;by_cases hx0:err=0
 rotate_left
 ·obtain⟨y0,y1,y2,y3,y4,y5,yf,yl⟩:=X4.out.res
  go_wp2_with fail;refine bodyPost_ret (v:=DC err at2 (.slice ao m cap2) z2 c2' rr) (by simp[results,Tryz.results167,go_sem,DC, *]) rfl ⟨err,at2,ao,m,cap2,z2,c2',rr,rfl,q0,q1,fun e=>absurd e hx0,?_⟩;exact Bw X4.out.bel (by have:=BO.out;omega) _ _ _ _ _ _
 subst hx0;go_upto_region 11 with fail;clear v0 v1 v2 v3 v4 v5 vf vl;go_cut [10,14,15](fun s10 s14 s15 wx=>s10=Vq br/\s14=Vq nx/\∃(ny:Nat)(err3 at3:Int)(ao3:Option Addr)(m3 cap3:Nat)(z3 c3 r3:Int),s15=Vq ny/\nx<ny/\0<=r3/\r3<=1000/\Gd w bH cH nH S bR cR V0 bA bs bh br bA cA V z c wx/\YB nH S V0 bA u2.heap.size nx 0 at2 ao m cap2 z2 c2' rr wx/\YB nH S V0 bA u2.heap.size ny err3 at3 ao3 m3 cap3 z3 c3 r3 wx)
 case first=>
  have j0:∀w',Below u4.heap.size u4 w'->w'.cell? (Va bs 0)=some (Vs bH nH cH):=fun w' h=>(X4.out.below h).cells.1.1
  have j1:∀w',Below u4.heap.size u4 w'->w'.cell? (Va bs 1)=some (Vs bR 8 cR):=fun w' h=>(X4.out.below h).cells.1.2
  have j2:∀w',Below u4.heap.size u4 w'->w'.cell? (Va bh 0)=some (Vs bA 8 cA):=fun w' h=>(X4.out.below h).cells.2.1.1
  have j3:∀w',Below u4.heap.size u4 w'->w'.cell? (Va bh 1)=some (Vi z):=fun w' h=>(X4.out.below h).cells.2.1.2.1
  have j4:∀w',Below u4.heap.size u4 w'->w'.cell? (Va bh 2)=some (Vi c):=fun w' h=>(X4.out.below h).cells.2.1.2.2
  have j5:∀w',Below u4.heap.size u4 w'->w'.cell? (Va sb 8)=some (Vi (x.length:Int)):=fun w' h=>by rw[<-HT.out.1];exact(ai (Aw Q4.out h)).2.2.1
  have j6:∀w',Below u4.heap.size u4 w'->w'.cell? (Va nx 5)=some (Vi rr):=fun w' h=>(YX.out.below h).cells.2.2.2.2.2.1
  have hw1:IntKind.i64.wrap (1+(x.length:Int))=((1+x.length:Nat):Int):=by rw[IntKind.wrap_i64]<;>omega
  have hg1:1+x.length<=x.length+y.length+1:=by omega
  have hg2:x.length+y.length+1<=cap:=by omega
  refine wp_region_held_drew (S:=fun w'=>Below u4.heap.size u4 w') (by kernel_rfl) (Below.refl _ _).drew (fun _=>?_);refine AB 0 rfl ?_;refine AB 1 rfl ?_;refine AB 2 rfl ?_;refine AB 3 rfl ?_;refine AB 4 rfl ?_;refine Ad 5 ?kav rfl ?kay ?kar
  case kay=>(intro w hSw;(try dsimp only at hSw);go_simp;rw[if_pos (by omega)])
  try simp only[Act.put,BP,BN,BK,BQ,BS,BM]
  refine AB 6 rfl ?_;refine AB 7 rfl ?_;refine AB 8 rfl ?_;refine AB 9 rfl ?_;refine AB 10 rfl ?_;refine AB 11 rfl ?_;refine AB 12 rfl ?_;refine AB 13 rfl ?_;obtain⟨ev,hev,HE⟩:∃q,Value.slice (if cap=(1+(x.length:Int)).toNat then some ⟨b,off,none⟩else some ⟨b,off+(1+(x.length:Int)).toNat*11,none⟩) (x.length+y.length+1-(1+(x.length:Int)).toNat) (cap-(1+(x.length:Int)).toNat)=q/\Hid (SL u4 q y):=⟨_,rfl,UO (L:=s::(x++y)) (i:=1+x.length) (by rw[List.length_cons,List.length_append];exact HAT.out.below X4.out.bel HAT.out.lt) (by rw[Nat.add_comm];simp) (by simp;omega) (by simp;omega) (by rw[show(1+(x.length:Int)).toNat=1+x.length by omega]) (by omega) (by omega)⟩
  rw[hev];clear hev;have hbd:Below u4.heap.size u4 u4.drew:=(Below.refl _ _).drew;generalize u4.drew=t0 at hbd⊢;have E2:u2.heap.size<=u4.heap.size:=by have:=Bb YX.out.Y;have:=NX.out;omega
  have EN:=Bb YX.out.Y;refine wpAnyH_ready (rs:=[14,15]) (by kernel_rfl) (by simp) ?_;refine AllReadyH.cons rfl (fun KK hK=>?_) (AllReadyH.cons rfl (fun KK hK=>?_) AllReadyH.nil)
  ·go_simp
   refine(IHy bH cH nH S bR cR V0 bA cA V z c _ rr ev t0 LL.out (X4.out.below hbd).sc (X4.out.below hbd).A X4.out.ok (HE.out.below hbd) q0 q1).mono ?_;rintro e t1⟨err3,at3,ao3,m3,cap3,z3,c3,r3,rfl,p0,p1,hab,hb⟩;have hB1:=hbd.trans (hb.mono hbd.size);refine hK.out _ _ hB1 (fun _=>?_);clear hK KK
   unfold DC
   try simp only[Act.put,BP,BN,BK,BQ,BS,BM]
   refine AO 15 rfl (fun KK hK=>?_)
   go_simp
   refine hK.out _ _ (hB1.alloc hB1.size _) (fun _=>?_)
   clear hK KK
   try simp only[Act.put,BP,BN,BK,BQ,BS,BM]
   refine AO 16 rfl (fun KK hK=>?_)
   go_simp
   refine hK.out _ _ (hB1.alloc hB1.size _) (fun _=>?_)
   clear hK KK
   refine wpAnyH_done (by kernel_rfl) ?_ _
   have bn:Below t1.heap.size t1 (t1.alloc (.cells #[Vi err3,Vi at3,.slice ao3 m3 cap3,Vi z3,Vi c3,Vi r3] 238)):=Ak
   have hab':err3=0->Vr nH S V0 bA u2.heap.size t1 (.slice ao3 m3 cap3) z3 c3:=fun e=>by
    obtain⟨g,cg,U,h1,h2,h3,h4⟩:=hab e
    exact⟨g,cg,U,h1,by have:=hbd.size;omega,h3,h4⟩
   have RES:Hid (Gd w bH cH nH S bR cR V0 bA bs bh br bA cA V z c (t1.alloc (.cells #[Vi err3,Vi at3,.slice ao3 m3 cap3,Vi z3,Vi c3,Vi r3] 238))/\YB nH S V0 bA u2.heap.size nx 0 at2 ao m cap2 z2 c2' rr (t1.alloc (.cells #[Vi err3,Vi at3,.slice ao3 m3 cap3,Vi z3,Vi c3,Vi r3] 238))/\YB nH S V0 bA u2.heap.size t1.heap.size err3 at3 ao3 m3 cap3 z3 c3 r3 (t1.alloc (.cells #[Vi err3,Vi at3,.slice ao3 m3 cap3,Vi z3,Vi c3,Vi r3] 238))):=⟨(X4.out.below hB1).below bn,(YX.out.below hB1).below bn,QA hab'⟩
   have hn1:nx<t1.heap.size:=by have:=hB1.size;omega
   clear hab hab' hb hB1 bn j0 j1 j2 j3 j4 j5 j6
   go_wp2_with fail
   go_meet
   exact⟨rfl,rfl,t1.heap.size,err3,at3,ao3,m3,cap3,z3,c3,r3,rfl,hn1,p0,p1,RES.out.1,RES.out.2.1,RES.out.2.2⟩
  ·go_simp
   obtain⟨t1,ht1,bn,n1⟩:∃q,t0.alloc (.cells #[Vi 0,Vi 0,.slice none 0 0,Vi 0,Vi 0,Vi 0] 238)=q/\Below t0.heap.size t0 q/\q.heap[t0.heap.size]?=some (.cells #[Vi 0,Vi 0,.slice none 0 0,Vi 0,Vi 0,Vi 0] 238):=⟨_,rfl,Ak,Bh _ _⟩
   rw[ht1]
   have hB1:=hbd.trans (bn.mono hbd.size)
   refine hK.out _ _ hB1 (fun _=>?_)
   clear hK KK
   try simp only[Act.put,BP,BN,BK,BQ,BS,BM]
   refine AO 14 rfl (fun KK hK=>?_)
   go_simp
   refine(IHy bH cH nH S bR cR V0 bA cA V z c _ rr ev t1 LL.out (X4.out.below hB1).sc (X4.out.below hB1).A X4.out.ok (HE.out.below hB1) q0 q1).mono ?_
   rintro e t2⟨err3,at3,ao3,m3,cap3,z3,c3,r3,rfl,p0,p1,hab,hb⟩
   have hB2:=hB1.trans (hb.mono hB1.size)
   refine hK.out _ _ hB2 (fun _=>?_)
   clear hK KK
   unfold DC
   try simp only[Act.put,BP,BN,BK,BQ,BS,BM]
   have n2:=Aw n1 hb
   have f0:=(AY n2 0).trans rfl
   have f1:=(AY n2 1).trans rfl
   have f2:=(AY n2 2).trans rfl
   have f3:=(AY n2 3).trans rfl
   have f4:=(AY n2 4).trans rfl
   have f5:=(AY n2 5).trans rfl
   have ff:=Cr n2
   have fl:=Bb n2
   have hnA:bA≠t0.heap.size:=by have:=(X4.out.below hbd).A.lt;omega
   have hny:=Bb n1
   have hnx:nx<t0.heap.size:=by have:=hbd.size;omega
   have hu4:=hbd.size
   obtain⟨ny,hnye⟩:=Ae t0.heap.size
   rw[hnye]at n2 f0 f1 f2 f3 f4 f5 ff fl hnA hny hnx hu4⊢
   have hab':err3=0->Vr nH S V0 bA u2.heap.size t2 (.slice ao3 m3 cap3) z3 c3:=fun e=>by
    obtain⟨g,cg,U,h1,h2,h3,h4⟩:=hab e
    exact⟨g,cg,U,h1,by omega,h3,h4⟩
   have hYB:YB nH S V0 bA u2.heap.size ny err3 at3 ao3 m3 cap3 z3 c3 r3 (Gn t2 ny (Vi err3) (Vi at3) (.slice ao3 m3 cap3) (Vi z3) (Vi c3) (Vi r3)):=by
    refine⟨LY n2 _ _ _ _ _ _,fun e=>?_⟩
    obtain⟨g,cg,U,h1,h2,h3,h4⟩:=hab e
    have hne:g≠ny:=by omega
    exact⟨g,cg,U,h1,by omega,hne,GK h3 hne _ _ _ _ _ _,h4⟩
   have bs6:Below u4.heap.size u4 (Gn t2 ny (Vi err3) (Vi at3) (.slice ao3 m3 cap3) (Vi z3) (Vi c3) (Vi r3)):=Bw hB2 hu4 _ _ _ _ _ _
   have RES:Hid (Gd w bH cH nH S bR cR V0 bA bs bh br bA cA V z c (Gn t2 ny (Vi err3) (Vi at3) (.slice ao3 m3 cap3) (Vi z3) (Vi c3) (Vi r3))/\YB nH S V0 bA u2.heap.size nx 0 at2 ao m cap2 z2 c2' rr (Gn t2 ny (Vi err3) (Vi at3) (.slice ao3 m3 cap3) (Vi z3) (Vi c3) (Vi r3))/\YB nH S V0 bA u2.heap.size ny err3 at3 ao3 m3 cap3 z3 c3 r3 (Gn t2 ny (Vi err3) (Vi at3) (.slice ao3 m3 cap3) (Vi z3) (Vi c3) (Vi r3))):=⟨X4.out.below bs6,YX.out.below bs6,hYB⟩
   clear hab hab' hb hYB n1 n2 ht1 bn hnye
   refine AO 16 rfl (fun KK hK=>?_)
   go_simp
   refine hK.out _ _ bs6 (fun _=>?_)
   clear hK KK bs6 f0 f1 f2 f3 f4 f5 ff fl j0 j1 j2 j3 j4 j5 j6
   refine wpAnyH_done (by kernel_rfl) ?_ _
   go_wp2_with fail
   go_meet
   exact⟨rfl,rfl,ny,err3,at3,ao3,m3,cap3,z3,c3,r3,rfl,hnx,p0,p1,RES.out.1,RES.out.2.1,RES.out.2.2⟩
 case rest=>
 obtain⟨rfl,rfl,ny,err3,at3,ao3,m3,cap3,z3,c3,r3,rfl,hnxy,p0,p1,l5,y5,y6⟩:=hcut
 have X5:=hxy l5
 have Y5:=hxy y5
 have Y6:=hxy y6
 clear l5 y5 y6 X4 YX Q4
 generalize wc=u5 at X5 Y5 Y6⊢
 obtain⟨v0,v1,v2,v3,v4,v5,vf,vl⟩:=Y6.out.cells
 by_cases hy0:err3=0
 rotate_left
 ·obtain⟨y0,y1,y2,y3,y4,y5,yf,yl⟩:=X5.out.res
  go_wp2_with fail
  refine bodyPost_ret (v:=DC err3 at3 (.slice ao3 m3 cap3) z3 c3 r3) (by simp[results,Tryz.results167,go_sem,DC, *]) rfl ⟨err3,at3,ao3,m3,cap3,z3,c3,r3,rfl,p0,p1,fun e=>absurd e hy0,?_⟩
  exact Bw X5.out.bel (by have:=BO.out;omega) _ _ _ _ _ _
 subst hy0
 obtain⟨gx,cgx,Ux,hvx,nwx,_,Ax,okx⟩:=Y5.out.ab rfl
 obtain⟨gy,cgy,Uy,hvy,nwy,_,Ay,oky⟩:=Y6.out.ab rfl
 simp only[Value.slice.injEq]at hvx hvy
 obtain⟨rfl,rfl,rfl⟩:=hvx
 obtain⟨rfl,rfl,rfl⟩:=hvy
 obtain⟨x0,x1,x2,x3,x4,x5,xf,xl⟩:=Y5.out.cells
 go_wp2_with fail
 refine(JE nH S V0 _ _ Ux _ _ _ _ Uy _ _ u5 Ax Ay okx oky).mono ?_
 rintro e u6⟨g4,cg4,U4,z4,c4,rfl,ng4,A4,ok4,hb⟩
 have X6:=hxy (X5.out.below hb)
 have Y7:=Y6.out.below hb
 have A4:=hxy A4
 have OK4:=hxy ok4
 have hny5:ny<u5.heap.size:=vl
 have hbr5:=Bb X5.out.R
 have hw5:=X5.out.bel.size
 have hbrny:br≠ny:=by have:=LB.out;have:=NX.out;omega
 have hwny:w.heap.size<=ny:=by have:=LB.out;have:=NX.out;omega
 clear hb ok4 Ax Ay okx oky nwx nwy x0 x1 x2 x3 x4 x5 xf xl v0 v1 v2 v3 v4 v5 vf vl X5 Y5 Y6
 obtain⟨v0,v1,v2,v3,v4,v5,vf,vl⟩:=Y7.cells
 obtain⟨y0,y1,y2,y3,y4,y5,yf,yl⟩:=X6.out.res
 clear Y7
 go_wp2_with fail
 refine bodyPost_ret (v:=DC 0 at3 (Vs g4 8 cg4) z4 c4 r3) (by simp[results,Tryz.results167,go_sem,DC, *]) rfl ⟨0,at3,_,_,_,z4,c4,r3,rfl,p0,p1,fun _=>⟨g4,cg4,U4,rfl,Or.inr (by omega),?_,OK4.out⟩,?_⟩
 ·refine GK (((A4.out.other ?_ _).other ?_ _).other ?_ _) (by omega) _ _ _ _ _ _
  all_goals(show ny≠g4;omega)
 ·refine Bw ?_ (by have:=BO.out;omega) _ _ _ _ _ _
  exact((X6.out.bel.setCell (p:=Va ny 2) hwny _).setCell (p:=Va ny 3) hwny _).setCell (p:=Va ny 4) hwny _
theorem Gd.nh{bH cH:Nat}{bR cR:Nat}{b0 bs bh br cA:Nat}{V:Nat->VV}(h:Gd w bH cH nH S bR cR V0 b0 bs bh br bA cA V z c u):bA≠bh:=fun e=>by
 have q:=h.A.cell (i:=3) (by omega);rw[e,AY h.hd 3]at q;simp at q
theorem FB{pre rest:List SV}(j:Nat)(hj:j<11):IU (Gm (pre++s::rest)) (pre.length*11+j)=iI s j:=by
 rw[Bn _ _ _ hj];congr 1
 unfold Gm;simp
theorem ay{pre rest:List SV}(h:At w b off (n*11) (IU (Gm (pre++s::rest))))(hn:pre.length<n):w.cell? ⟨b,off+pre.length*11,none⟩=some (Vi s.k)/\w.cell? ⟨b,off+pre.length*11+1,none⟩=some (Vi s.op)/\w.cell? ⟨b,off+pre.length*11+2,none⟩=some (Vi s.d)/\w.cell? ⟨b,off+pre.length*11+3,none⟩=some (Vi s.a)/\w.cell? ⟨b,off+pre.length*11+4,none⟩=some (Vi s.b)/\w.cell? ⟨b,off+pre.length*11+5,none⟩=some (Vi s.imm)/\w.cell? ⟨b,off+pre.length*11+6,none⟩=some (Vi s.h)/\w.cell? ⟨b,off+pre.length*11+7,none⟩=some (Vi s.cond)/\w.cell? ⟨b,off+pre.length*11+8,none⟩=some (Vi s.thn)/\w.cell? ⟨b,off+pre.length*11+9,none⟩=some (Vi s.els)/\w.cell? ⟨b,off+pre.length*11+10,none⟩=some (Vi s.proc)/\b<w.heap.size:=
 ⟨(h.cell (i:=pre.length*11+0) (by omega)).trans (congrArg some (FB 0 (by omega))),(h.cell (i:=pre.length*11+1) (by omega)).trans (congrArg some (FB 1 (by omega))),(h.cell (i:=pre.length*11+2) (by omega)).trans (congrArg some (FB 2 (by omega))),(h.cell (i:=pre.length*11+3) (by omega)).trans (congrArg some (FB 3 (by omega))),(h.cell (i:=pre.length*11+4) (by omega)).trans (congrArg some (FB 4 (by omega))),(h.cell (i:=pre.length*11+5) (by omega)).trans (congrArg some (FB 5 (by omega))),(h.cell (i:=pre.length*11+6) (by omega)).trans (congrArg some (FB 6 (by omega))),(h.cell (i:=pre.length*11+7) (by omega)).trans (congrArg some (FB 7 (by omega))),(h.cell (i:=pre.length*11+8) (by omega)).trans (congrArg some (FB 8 (by omega))),(h.cell (i:=pre.length*11+9) (by omega)).trans (congrArg some (FB 9 (by omega))),(h.cell (i:=pre.length*11+10) (by omega)).trans (congrArg some (FB 10 (by omega))),h.lt⟩
theorem aN{sb:Nat}(h:u.heap[sb]?=some (.cells (CV s).toArray 89)):u.cell? (Va sb 1)=some (Vi s.op)/\u.cell? (Va sb 2)=some (Vi s.d)/\u.cell? (Va sb 3)=some (Vi s.a)/\u.cell? (Va sb 4)=some (Vi s.b)/\u.cell? (Va sb 5)=some (Vi s.imm)/\u.cell? (Va sb 6)=some (Vi s.h):=
 ⟨(AY h 1).trans rfl,(AY h 2).trans rfl,(AY h 3).trans rfl,(AY h 4).trans rfl,(AY h 5).trans rfl,(AY h 6).trans rfl⟩
theorem Ll(xs:List SV)(hl:xs.length<=1048576)(hw:Wl xs)(IH:∀ys:List SV,ys.length<xs.length->Wl ys->BC ys):BC xs:=by
 intro bH cH nH S bR cR V0 bA cA V z c at' rounds v w lH h1 h2 h3 h4 r0 r1;have N1:Hid (bH<w.heap.size/\bR<w.heap.size):=⟨h1.h.lt,h1.r.lt⟩
 have LL:=hxy lH;have X0:Hid (Gd w bH cH nH S bR cR V0 bA w.heap.size (w.heap.size+1) (w.heap.size+1+1) bA cA V z c (((w.alloc (.cells #[Vs bH nH cH,Vs bR 8 cR] 26)).alloc (.cells #[Vs bA 8 cA,Vi z,Vi c] 136)).alloc (.cells oz 238))):=UG w h1 h2 h3;have HL:=hxy h4;obtain⟨ao,cap,rfl,hcap,hrow⟩:=h4;have HROW:=hxy hrow;clear h1 h2 h3 lH hrow;go_enter Tryz.func138,Tryz.ntmps138;go_upto_region 1 with fail;unfold oz at X0;obtain⟨u,hu⟩:=Ae (((w.alloc (.cells #[Vs bH nH cH,Vs bR 8 cR] 26)).alloc (.cells #[Vs bA 8 cA,Vi z,Vi c] 136)).alloc (.cells #[Vi 0,Vi 0,.slice none 0 0,Vi 0,Vi 0,Vi 0] 238));rw[hu]at X0⊢;obtain⟨bs,hbs⟩:=Ae w.heap.size;obtain⟨bh,hbh⟩:=Ae (w.heap.size+1);obtain⟨br,hbr⟩:=Ae (w.heap.size+1+1);have X0:Hid (Gd w bH cH nH S bR cR V0 bA bs bh br bA cA V z c u):=by rw[<-hbs,<-hbh,<-hbr];exact X0
 rw[hbr,hbh,hbs];have BO:Hid (w.heap.size=bs/\bs<bh/\bh<br):=⟨hbs,by omega,by omega⟩
 clear hu hbs hbh hbr;go_wp2_with fail;go_loopw [4,11](fun rv iv wr=>∃(pre rest:List SV)(rounds:Int)(g cg:Nat)(U:Nat->VV)(z' c':Int),rv=Vi rounds/\iv=Vi (pre.length:Int)/\Hid (xs=pre++rest/\Wl rest)/\pre.length+rest.length=xs.length/\0<=rounds/\rounds<=1000/\Gd w bH cH nH S bR cR V0 bA bs bh br g cg U z' c' wr)(fun _ iv _=>xs.length-(intOf iv).toNat)
 case atStart=>exact⟨[],xs,rounds,bA,cA,V,z,c,rfl,rfl,⟨rfl,hw⟩,by simp,r0,r1,X0.out⟩
 case round=>
  clear X0 r0 r1 hw;obtain⟨pre,rest,rounds,g,cg,U,z',c',rfl,rfl,HX,hlen,r0,r1,x⟩:=hrel;have X:=hxy x;clear x;obtain⟨hxs,hwl⟩:=HX.out;have hwi:=hwl.inv;clear hwl;rcases hwi with rfl|⟨s,rest,rfl,hk,ht,he,hwr⟩|⟨s,x,y,rest,rfl,hk,ht,he,hwx,hwy,hwr⟩
  ·
   have hend:¬(pre.length:Int)<(xs.length:Int):=by simp at hlen;omega
   obtain⟨_,⟨c0,c1,c2⟩,cl1,cl2⟩:=X.out.cells;obtain⟨y0,y1,y2,y3,y4,y5,yf,yl⟩:=X.out.res;have YA:Hid (A9 wr g (8*6) (vF U)/\g≠br/\BA nH S 8 V0 8 U z' c'=true/\(g=bA∨w.heap.size<=g)/\Below w.heap.size w wr):=⟨X.out.A,X.out.ne,X.out.ok,X.out.nw,X.out.bel⟩
   have hbr:bh≠br:=by have:=BO.out;omega
   clear X HX hxs hlen;go_wp2_with fail;refine bodyPost_ret (v:=DC 0 0 (Vs g 8 cg) z' c' rounds) (by simp[results,Tryz.results138,go_sem,DC, *]) rfl ⟨0,0,_,_,_,z',c',rounds,rfl,r0,r1,fun _=>⟨g,cg,U,rfl,YA.out.2.2.2.1,?_,YA.out.2.2.1⟩,?_⟩
   ·exact GK YA.out.1 YA.out.2.1 _ _ _ _ _ _
   ·exact Bw YA.out.2.2.2.2 (by have:=BO.out;omega) _ _ _ _ _ _
  ·
   obtain⟨b,off,rfl,hat⟩:∃b off,ao=some ⟨b,off,none⟩/\At w b off (xs.length*11) (IU (Gm xs)):=by
    rcases HROW.out with h|h
    ·simp at hlen;omega
    ·exact h
   have hplt:pre.length<xs.length:=by simp at hlen;omega
   have HAT:=hxy hat;have hat':At wr b off (xs.length*11) (IU (Gm (pre++s::rest))):=by rw[<-hxs];exact hat.below X.out.bel hat.lt
   obtain⟨k0,k1,k2,k3,k4,k5,k6,k7,k8,k9,k10,kl⟩:=ay hat' hplt;have hplt':(pre.length:Int)<(xs.length:Int):=by omega
   clear hat hat' hxs;have HT:Hid (s.thn=0/\s.els=0/\s.k=1):=⟨ht,he,hk⟩
   clear ht he hk;go_upto_region 4 with fail;obtain⟨u1,hu1,bu1⟩:∃q,wr.alloc (.cells (CV s).toArray 89)=q/\Below wr.heap.size wr q:=⟨_,rfl,Ak⟩
   have q1:=Bh wr (.cells (CV s).toArray 89);rw[hu1]at q1;unfold CV at hu1 q1;rw[hu1];have X1:=hxy (X.out.below bu1);have HSB0:=X.out.hd.lt;have HBRS0:=Bb X.out.R;obtain⟨sb,hsb⟩:=Ae wr.heap.size;rw[hsb]at q1 HSB0 HBRS0⊢;have HSB:Hid (sb≠bh):=(by omega:sb≠bh)
   have HBRS:=hxy HBRS0;have Q1:=hxy q1;clear hu1 bu1 q1 hsb HSB0 HBRS0 k0 k1 k2 k3 k4 k5 k6 k7 k8 k9 k10 kl X;obtain⟨k0,k7,k8,k9,kl⟩:=ai Q1.out;rw[HT.out.1]at k8;rw[HT.out.2.1]at k9;rw[HT.out.2.2]at k0;obtain⟨i1,i2,i3,i4,i5,i6⟩:=aN Q1.out;obtain⟨⟨s0,s1⟩,⟨c0,c1,c2⟩,cl1,cl2⟩:=X1.out.cells;go_wp2_with fail;refine(Dt bH cH nH S bR cR 8 V0 g cg 8 U z' c' s.op s.d s.a s.b s.imm s.h u1 LL.out (by omega) (by omega) X1.out.sc X1.out.A).mono ?_;rintro e u2⟨err,V2,z2,c2',hans,hok,_,hb⟩;have X2:=hxy (X1.out.below hb);have Q2:=hxy (Aw Q1.out hb);have hbr1:=Bb X1.out.R;have hw1:=X1.out.bel.size;clear hb X1 Q1 s0 s1 c0 c1 c2 cl1 cl2 i1 i2 i3 i4 i5 i6 k0 k7 k8 k9 kl;rcases hans with⟨hne,rfl⟩|⟨rfl,g2,cg2,hg2,rfl,A2⟩
   ·go_wp2_with fail
    refine(GH _ _ _ _).mono ?_;rintro e t⟨rfl,hb⟩;have Y:=hxy ((X2.out.below Ak).below hb);obtain⟨y0,y1,y2,y3,y4,y5,yf,yl⟩:=Y.out.res;unfold DC;clear hok;go_wp2_with fail;refine bodyPost_ret (v:=DC err (wrap64 (at'+(pre.length:Int))) (.slice none 0 0) 0 0 rounds) (by simp[results,Tryz.results138,go_sem,DC, *]) rfl ⟨err,_,none,0,0,0,0,rounds,rfl,r0,r1,fun e=>absurd e hne,?_⟩;exact Bw Y.out.bel (by have:=BO.out;omega) _ _ _ _ _ _
   ·have OK2:Hid (BA nH S 8 V0 8 V2 z2 c2'=true):=hok rfl
    have bn:Below u2.heap.size u2 (u2.alloc (.cells #[Vi 0,Vs g2 8 cg2,Vi z2,Vi c2'] 231)):=Ak;have n3:=Bh u2 (.cells #[Vi 0,Vs g2 8 cg2,Vi z2,Vi c2'] 231);obtain⟨u3,hu3⟩:=Ae (u2.alloc (.cells #[Vi 0,Vs g2 8 cg2,Vi z2,Vi c2'] 231));rw[hu3]at bn n3;have X3:=hxy (X2.out.below bn);have Q3:=hxy (Aw Q2.out bn);have A3:=hxy (A2.below bn A2.lt);have m0:=(AY n3 0).trans rfl;have m1:=(AY n3 1).trans rfl;have m2:=(AY n3 2).trans rfl;have m3:=(AY n3 3).trans rfl;have ml:=Bb n3;go_upto_region 7 with fail;obtain⟨nt,hnt⟩:=Ae u2.heap.size;rw[hnt]at m0 m1 m2 m3 ml⊢;clear hu3 bn n3 hnt A2 hok X2 Q2;obtain⟨_,⟨c0,c1,c2⟩,cl1,cl2⟩:=X3.out.cells;have hf:=X3.out.hd.free;obtain⟨k0,k7,k8,k9,kl⟩:=ai Q3.out;rw[HT.out.1]at k8;rw[HT.out.2.1]at k9;have hsbh:=HSB.out;have Y:Hid (Gd w bH cH nH S bR cR V0 bA bs bh br g2 cg2 V2 z2 c2' (((u3.setCell (Va bh 0) (Vs g2 8 cg2)).setCell (Va bh 1) (Vi z2)).setCell (Va bh 2) (Vi c2'))):=X3.out.put A3.out OK2.out (Or.inr (by omega)) (by omega) (by have:=BO.out;omega) (by have:=N1.out;have:=BO.out;omega) (by have:=N1.out;have:=BO.out;omega);have hpl:(pre.length:Int)<1048576:=by have:=hlen;simp at this;omega
    clear X3 A3 Q3;go_wp2_with fail;go_roundw
    case rel=>exact⟨pre++[s],rest,rounds,g2,cg2,V2,z2,c2',rfl,by simp;try omega,⟨by rw[HX.out.1];simp,hwr⟩,by simp at hlen⊢;omega,r0,r1,Y.out⟩
    case measure=>simp[intOf]at hlen⊢;omega
  ·
   obtain⟨b,off,rfl,hat⟩:∃b off,ao=some ⟨b,off,none⟩/\At w b off (xs.length*11) (IU (Gm xs)):=by
    rcases HROW.out with h|h
    ·simp at hlen;omega
    ·exact h
   have hplt:pre.length<xs.length:=by simp at hlen;omega
   have HAT:=hxy hat;have hat':At wr b off (xs.length*11) (IU (Gm (pre++s::(x++y++rest)))):=by rw[<-hxs];exact hat.below X.out.bel hat.lt
   obtain⟨k0,k1,k2,k3,k4,k5,k6,k7,k8,k9,k10,kl⟩:=ay hat' hplt;have hplt':(pre.length:Int)<(xs.length:Int):=by omega
   clear hat hat' hxs;have HT:Hid (s.thn=(x.length:Int)/\s.els=(y.length:Int)):=⟨ht,he⟩
   have hsum:pre.length+1+x.length+y.length+rest.length=xs.length:=by simp at hlen;omega
   have HSUM:=hxy hsum;clear ht he;go_upto_region 4 with fail;obtain⟨u1,hu1,bu1⟩:∃q,wr.alloc (.cells (CV s).toArray 89)=q/\Below wr.heap.size wr q:=⟨_,rfl,Ak⟩
   have q1:=Bh wr (.cells (CV s).toArray 89);rw[hu1]at q1;unfold CV at hu1 q1;rw[hu1];have X1:=hxy (X.out.below bu1);have HSB0:=X.out.hd.lt;have HBRS0:=Bb X.out.R;obtain⟨sb,hsb⟩:=Ae wr.heap.size;rw[hsb]at q1 HSB0 HBRS0⊢;have HSB:Hid (sb≠bh):=(by omega:sb≠bh)
   have HBRS:=hxy HBRS0;have Q1:=hxy q1;clear hu1 bu1 q1 hsb HSB0 HBRS0 k0 k1 k2 k3 k4 k5 k6 k7 k8 k9 k10 kl X;obtain⟨k0,k7,k8,k9,kl⟩:=ai Q1.out;rw[HT.out.1]at k8;rw[HT.out.2]at k9;have hk':¬s.k=1:=hk;go_upto_region 10 with fail;clear k0 k7 k8 k9 kl;go_cut [15](fun s15 wx=>∃(ny:Nat)(err3 at3:Int)(ao3:Option Addr)(m3 cap3:Nat)(z3 c3 r3:Int),s15=Vq ny/\sb<ny/\0<=r3/\r3<=1000/\Gd w bH cH nH S bR cR V0 bA bs bh br g cg U z' c' wx/\wx.heap[sb]?=some (.cells (CV s).toArray 89)/\YB nH S V0 g sb ny err3 at3 ao3 m3 cap3 z3 c3 r3 wx)
   case first=>
    have j0:∀w',Below u1.heap.size u1 w'->w'.cell? (Va bs 0)=some (Vs bH nH cH):=fun w' h=>(X1.out.below h).cells.1.1
    have j1:∀w',Below u1.heap.size u1 w'->w'.cell? (Va bs 1)=some (Vs bR 8 cR):=fun w' h=>(X1.out.below h).cells.1.2
    have j2:∀w',Below u1.heap.size u1 w'->w'.cell? (Va bh 0)=some (Vs g 8 cg):=fun w' h=>(X1.out.below h).cells.2.1.1
    have j3:∀w',Below u1.heap.size u1 w'->w'.cell? (Va bh 1)=some (Vi z'):=fun w' h=>(X1.out.below h).cells.2.1.2.1
    have j4:∀w',Below u1.heap.size u1 w'->w'.cell? (Va bh 2)=some (Vi c'):=fun w' h=>(X1.out.below h).cells.2.1.2.2
    have j5:∀w',Below u1.heap.size u1 w'->w'.cell? (Va sb 8)=some (Vi (x.length:Int)):=fun w' h=>by rw[<-HT.out.1];exact(ai (Aw Q1.out h)).2.2.1
    have j6:∀w',Below u1.heap.size u1 w'->w'.cell? (Va sb 9)=some (Vi (y.length:Int)):=fun w' h=>by rw[<-HT.out.2];exact(ai (Aw Q1.out h)).2.2.2.1
    have hsb1:=Bb Q1.out;obtain⟨i1,hi1⟩:∃q:Nat,q=pre.length+1+x.length+y.length:=⟨_,rfl⟩
    obtain⟨pa,hpa⟩:∃q:Nat,q=pre.length+1:=⟨_,rfl⟩
    obtain⟨pb,hpb⟩:∃q:Nat,q=pre.length+1+x.length:=⟨_,rfl⟩
    have wa:IntKind.i64.wrap ((pre.length:Int)+1)=(pa:Int):=by rw[IntKind.wrap_i64]<;>omega
    have wb:IntKind.i64.wrap ((pa:Int)+(x.length:Int))=(pb:Int):=by rw[IntKind.wrap_i64]<;>omega
    have wc:IntKind.i64.wrap ((pb:Int)+(y.length:Int))=(i1:Int):=by rw[IntKind.wrap_i64]<;>omega
    have hz1:i1<=xs.length:=by omega
    have hz2:pre.length<=i1:=by omega
    have hz3:i1<=cap:=by omega
    have hz4:(i1:Int)<=(cap:Int):=by omega
    have hz5:(pre.length:Int)<=(i1:Int):=by omega
    clear hpa hpb;have HI1:=hxy hi1;clear hsum hi1;refine wp_region_held_drew (S:=fun w'=>Below u1.heap.size u1 w') (by kernel_rfl) (Below.refl _ _).drew (fun _=>?_);refine AB 0 rfl ?_;refine AB 1 rfl ?_;refine AB 2 rfl ?_;refine AB 3 rfl ?_;refine AB 4 rfl ?_;refine AB 5 rfl ?_;refine AB 6 rfl ?_;refine AB 7 rfl ?_;refine AB 8 rfl ?_;refine AB 9 rfl ?_;refine AB 10 rfl ?_;refine Ad 11 (.slice (if cap=pre.length then some ⟨b,off,none⟩else some ⟨b,off+pre.length*11,none⟩) (i1-pre.length) (cap-pre.length)) rfl ?kby ?kbr
    case kby=>(intro w hSw;(try dsimp only at hSw);go_simp;first|done|(rw[if_pos (by omega)];simp))
    try simp only[Act.put,BP,BN,BK,BQ,BS,BM]
    refine AB 12 rfl ?_;refine AB 13 rfl ?_;refine AB 14 rfl ?_;obtain⟨ev,hev,HE⟩:∃q,Value.slice (if cap=pre.length then some ⟨b,off,none⟩else some ⟨b,off+pre.length*11,none⟩) (i1-pre.length) (cap-pre.length)=q/\Hid (SL u1 q (s::(x++y))):=⟨_,rfl,UO (L:=xs) (i:=pre.length) (HAT.out.below X1.out.bel HAT.out.lt) (by rw[HX.out.1,List.drop_left,List.length_cons,List.take_succ_cons,List.take_left]) hcap (by have:=HSUM.out;simp;omega) rfl (by have:=HI1.out;simp;omega) rfl⟩
    rw[hev];clear hev;have hbd:Below u1.heap.size u1 u1.drew:=(Below.refl _ _).drew;generalize u1.drew=t0 at hbd⊢;have hxl:x.length+y.length<=1048576:=by have:=HSUM.out;omega
    have hx1:x.length<xs.length:=by have:=HSUM.out;omega
    have hy1:y.length<xs.length:=by have:=HSUM.out;omega
    have CC:Hid (∀t,Below u1.heap.size u1 t->Calls Tryz.prog 167 #[.agg #[Vs bH nH cH,Vs bR 8 cR],ev,Vi (wrap64 (at'+(pre.length:Int))),.agg #[Vs g 8 cg,Vi z',Vi c'],Vi rounds] t (ZP nH S V0 g t)):=fun t ht=>NM s x y HT.out.1 HT.out.2 (IH x hx1 hwx) (IH y hy1 hwy) bH cH nH S bR cR V0 g cg U z' c' _ rounds ev t LL.out (X1.out.below ht).sc (X1.out.below ht).A X1.out.ok (HE.out.below ht) hxl r0 r1
    refine wpAnyH_ready (rs:=[15,16]) (by kernel_rfl) (by simp) ?_;refine AllReadyH.cons rfl (fun KK hK=>?_) (AllReadyH.cons rfl (fun KK hK=>?_) AllReadyH.nil)
    ·go_simp
     refine(CC.out t0 hbd).mono ?_;rintro e t1⟨err3,at3,ao3,m3,cap3,z3,c3,r3,rfl,p0,p1,hab,hb⟩;have hB1:=hbd.trans (hb.mono hbd.size);refine hK.out _ _ hB1 (fun _=>?_);clear hK KK;unfold DC;try simp only[Act.put,BP,BN,BK,BQ,BS,BM]
     refine AO 16 rfl (fun KK hK=>?_)
     go_simp
     refine hK.out _ _ (hB1.alloc hB1.size _) (fun _=>?_)
     clear hK KK
     try simp only[Act.put,BP,BN,BK,BQ,BS,BM]
     refine AO 17 rfl (fun KK hK=>?_)
     go_simp
     refine hK.out _ _ (hB1.alloc hB1.size _) (fun _=>?_)
     clear hK KK
     refine wpAnyH_done (by kernel_rfl) ?_ _
     have bn:Below t1.heap.size t1 (t1.alloc (.cells #[Vi err3,Vi at3,.slice ao3 m3 cap3,Vi z3,Vi c3,Vi r3] 238)):=Ak
     have hab':err3=0->Vr nH S V0 g sb t1 (.slice ao3 m3 cap3) z3 c3:=fun e=>by
      obtain⟨g',cg',U',h1,h2,h3,h4⟩:=hab e
      exact⟨g',cg',U',h1,by have:=hbd.size;omega,h3,h4⟩
     have RES:Hid (Gd w bH cH nH S bR cR V0 bA bs bh br g cg U z' c' (t1.alloc (.cells #[Vi err3,Vi at3,.slice ao3 m3 cap3,Vi z3,Vi c3,Vi r3] 238))/\(t1.alloc (.cells #[Vi err3,Vi at3,.slice ao3 m3 cap3,Vi z3,Vi c3,Vi r3] 238)).heap[sb]?=some (.cells (CV s).toArray 89)/\YB nH S V0 g sb t1.heap.size err3 at3 ao3 m3 cap3 z3 c3 r3 (t1.alloc (.cells #[Vi err3,Vi at3,.slice ao3 m3 cap3,Vi z3,Vi c3,Vi r3] 238))):=⟨(X1.out.below hB1).below bn,Aw (Aw Q1.out hB1) bn,QA hab'⟩
     have hn1:sb<t1.heap.size:=by have:=hB1.size;omega
     clear hab hab' hb hB1 bn j0 j1 j2 j3 j4 j5 j6
     go_wp2_with fail
     go_meet
     exact⟨t1.heap.size,err3,at3,ao3,m3,cap3,z3,c3,r3,rfl,hn1,p0,p1,RES.out.1,RES.out.2.1,RES.out.2.2⟩
    ·go_simp
     obtain⟨t1,ht1,bn,n1⟩:∃q,t0.alloc (.cells #[Vi 0,Vi 0,.slice none 0 0,Vi 0,Vi 0,Vi 0] 238)=q/\Below t0.heap.size t0 q/\q.heap[t0.heap.size]?=some (.cells #[Vi 0,Vi 0,.slice none 0 0,Vi 0,Vi 0,Vi 0] 238):=⟨_,rfl,Ak,Bh _ _⟩
     rw[ht1]
     have hB1:=hbd.trans (bn.mono hbd.size)
     refine hK.out _ _ hB1 (fun _=>?_)
     clear hK KK
     try simp only[Act.put,BP,BN,BK,BQ,BS,BM]
     refine AO 15 rfl (fun KK hK=>?_)
     go_simp
     refine(CC.out t1 hB1).mono ?_
     rintro e t2⟨err3,at3,ao3,m3,cap3,z3,c3,r3,rfl,p0,p1,hab,hb⟩
     have hB2:=hB1.trans (hb.mono hB1.size)
     refine hK.out _ _ hB2 (fun _=>?_)
     clear hK KK
     unfold DC
     try simp only[Act.put,BP,BN,BK,BQ,BS,BM]
     have n2:=Aw n1 hb
     have f0:=(AY n2 0).trans rfl
     have f1:=(AY n2 1).trans rfl
     have f2:=(AY n2 2).trans rfl
     have f3:=(AY n2 3).trans rfl
     have f4:=(AY n2 4).trans rfl
     have f5:=(AY n2 5).trans rfl
     have ff:=Cr n2
     have fl:=Bb n2
     have hnA:g≠t0.heap.size:=by have:=(X1.out.below hbd).A.lt;omega
     have hny:=Bb n1
     have hu4:=hbd.size
     obtain⟨ny,hnye⟩:=Ae t0.heap.size
     rw[hnye]at n2 f0 f1 f2 f3 f4 f5 ff fl hnA hny hu4⊢
     have hYB:YB nH S V0 g sb ny err3 at3 ao3 m3 cap3 z3 c3 r3 (Gn t2 ny (Vi err3) (Vi at3) (.slice ao3 m3 cap3) (Vi z3) (Vi c3) (Vi r3)):=by
      refine⟨LY n2 _ _ _ _ _ _,fun e=>?_⟩
      obtain⟨g',cg',U',h1,h2,h3,h4⟩:=hab e
      have hne:g'≠ny:=by omega
      exact⟨g',cg',U',h1,by omega,hne,GK h3 hne _ _ _ _ _ _,h4⟩
     have bs6:Below u1.heap.size u1 (Gn t2 ny (Vi err3) (Vi at3) (.slice ao3 m3 cap3) (Vi z3) (Vi c3) (Vi r3)):=Bw hB2 hu4 _ _ _ _ _ _
     have RES:Hid (Gd w bH cH nH S bR cR V0 bA bs bh br g cg U z' c' (Gn t2 ny (Vi err3) (Vi at3) (.slice ao3 m3 cap3) (Vi z3) (Vi c3) (Vi r3))/\((Gn t2 ny (Vi err3) (Vi at3) (.slice ao3 m3 cap3) (Vi z3) (Vi c3) (Vi r3))).heap[sb]?=some (.cells (CV s).toArray 89)/\YB nH S V0 g sb ny err3 at3 ao3 m3 cap3 z3 c3 r3 (Gn t2 ny (Vi err3) (Vi at3) (.slice ao3 m3 cap3) (Vi z3) (Vi c3) (Vi r3))):=⟨X1.out.below bs6,Aw Q1.out bs6,hYB⟩
     have hn1:sb<ny:=by omega
     clear hab hb hYB n1 n2 ht1 bn hnye
     refine AO 17 rfl (fun KK hK=>?_)
     go_simp
     refine hK.out _ _ bs6 (fun _=>?_)
     clear hK KK bs6 f0 f1 f2 f3 f4 f5 ff fl j0 j1 j2 j3 j4 j5 j6
     refine wpAnyH_done (by kernel_rfl) ?_ _
     go_wp2_with fail
     go_meet
     exact⟨ny,err3,at3,ao3,m3,cap3,z3,c3,r3,rfl,hn1,p0,p1,RES.out.1,RES.out.2.1,RES.out.2.2⟩
   case rest=>
   obtain⟨ny,err3,at3,ao3,m3,cap3,z3,c3,r3,rfl,hsn,p0,p1,l5,q5,y5⟩:=hcut
   have X5:=hxy l5
   have Q5:=hxy q5
   have Y5:=hxy y5
   have hbr1:=HBRS.out
   have hws:w.heap.size<=sb:=by have:=BO.out;omega
   clear l5 q5 y5 X1 Q1
   generalize wc=u5 at X5 Q5 Y5⊢
   obtain⟨v0,v1,v2,v3,v4,v5,vf,vl⟩:=Y5.out.cells
   by_cases hy0:err3=0
   rotate_left
   ·obtain⟨y0,y1,y2,y3,y4,y5,yf,yl⟩:=X5.out.res
    go_wp2_with fail
    refine bodyPost_ret (v:=DC err3 at3 (.slice ao3 m3 cap3) z3 c3 r3) (by simp[results,Tryz.results138,go_sem,DC, *]) rfl ⟨err3,at3,ao3,m3,cap3,z3,c3,r3,rfl,p0,p1,fun e=>absurd e hy0,?_⟩
    exact Bw X5.out.bel (by have:=BO.out;omega) _ _ _ _ _ _
   subst hy0
   obtain⟨gy,cgy,Uy,hvy,nwy,nny,Ay,oky⟩:=Y5.out.ab rfl
   simp only[Value.slice.injEq]at hvy
   obtain⟨rfl,rfl,rfl⟩:=hvy
   obtain⟨_,⟨c0,c1,c2⟩,cl1,cl2⟩:=X5.out.cells
   have hf:=X5.out.hd.free
   obtain⟨k0,k7,k8,k9,kl⟩:=ai Q5.out
   rw[HT.out.1]at k8
   rw[HT.out.2]at k9
   have hsbh:=HSB.out
   have hnbh:ny≠bh:=by have:=BO.out;omega
   have hgbh:=X5.out.nh
   have Y:Hid (Gd w bH cH nH S bR cR V0 bA bs bh br gy cap3 Uy z3 c3 (((u5.setCell (Va bh 0) (Vs gy 8 cap3)).setCell (Va bh 1) (Vi z3)).setCell (Va bh 2) (Vi c3))):=X5.out.put Ay oky (by have:=X5.out.nw;omega) (by have:=X5.out.ne;omega) (by have:=BO.out;omega) (by have:=N1.out;have:=BO.out;omega) (by have:=N1.out;have:=BO.out;omega)
   have hpl:(pre.length:Int)+1+(x.length:Int)+(y.length:Int)<=1048576:=by have:=HSUM.out;omega
   clear X5 Y5 Q5 Ay oky nwy nny
   go_wp2_with fail
   go_roundw
   case rel=>exact⟨pre++s::(x++y),rest,r3,gy,cap3,Uy,z3,c3,rfl,by simp;try omega,⟨by rw[HX.out.1];simp,hwr⟩,by have:=HSUM.out;simp;omega,p0,p1,Y.out⟩
   case measure=>have:=HSUM.out;simp[intOf];omega
theorem Qr(xs:List SV)(hl:xs.length<=1048576)(hw:Wl xs):BC xs:=by
 have H:∀(n:Nat)(ys:List SV),ys.length<=n->ys.length<=1048576->Wl ys->BC ys:=by
  intro n;induction n with
  |zero=>intro ys h1 h2 h3;exact Ll ys h2 h3 (fun zs hz=>by omega)
  |succ n ih=>intro ys h1 h2 h3;exact Ll ys h2 h3 (fun zs hz hw=>ih zs (by omega) (by omega) hw)
 exact H _ xs jG hl hw
end Go.Proofs.YtfpeecaaleijcaaGreatDoor
