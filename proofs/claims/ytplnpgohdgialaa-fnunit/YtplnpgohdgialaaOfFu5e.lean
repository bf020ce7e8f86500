import Derived.Test.YtplnpgohdgialaaOfFu5b
import Derived.Test.YtplnpgohdgialaaOfInlSpec
set_option maxHeartbeats 16000000
set_option maxRecDepth 20000
namespace Go.Proofs.Ytplnpgohdgialaa
open Go.RowKit Go.Deep
def sv0:SV:=⟨0,0,0,0,0,0,0,0,0,0,0⟩
def lst(xs:List SV)(i:Nat):SV:=xs.getD i sv0
structure WlC(P:List SV->Prop):Prop where
 nil:P []
 ins:∀{s:SV}{xs:List SV},s.k=1->s.thn=0->s.els=0->P xs->P (s::xs)
 node:∀{s:SV}{x y xs:List SV},s.k≠1->s.thn=(x.length:Int)->s.els=(y.length:Int)->P x->P y->P xs->P (s::(x++y++xs))
def Wl(xs:List SV):Prop:=∀P,WlC P->P xs
theorem Wl.nil:Wl []:=fun _ c=>c.nil
theorem Wl.ins{s:SV}{xs:List SV}(h1:s.k=1)(h2:s.thn=0)(h3:s.els=0)(h:Wl xs):Wl (s::xs):=fun P c=>c.ins h1 h2 h3 (h P c)
theorem Wl.node{s:SV}{x y xs:List SV}(h1:s.k≠1)(h2:s.thn=(x.length:Int))(h3:s.els=(y.length:Int))(a:Wl x)(b:Wl y)(h:Wl xs):Wl (s::(x++y++xs)):=fun P c=>c.node h1 h2 h3 (a P c) (b P c) (h P c)
theorem Wl.inv{xs:List SV}(h:Wl xs):xs=[]∨(∃s ys,xs=s::ys/\s.k=1/\s.thn=0/\s.els=0/\Wl ys)∨∃s x y ys,xs=s::(x++y++ys)/\s.k≠1/\s.thn=(x.length:Int)/\s.els=(y.length:Int)/\Wl x/\Wl y/\Wl ys:=
 (h (fun xs=>Wl xs/\(xs=[]∨(∃s ys,xs=s::ys/\s.k=1/\s.thn=0/\s.els=0/\Wl ys)∨∃s x y ys,xs=s::(x++y++ys)/\s.k≠1/\s.thn=(x.length:Int)/\s.els=(y.length:Int)/\Wl x/\Wl y/\Wl ys))
   ⟨⟨.nil,.inl rfl⟩,fun h1 h2 h3 h=>⟨.ins h1 h2 h3 h.1,.inr (.inl ⟨_,_,rfl,h1,h2,h3,h.1⟩)⟩,fun h1 h2 h3 a b h=>⟨.node h1 h2 h3 a.1 b.1 h.1,.inr (.inr ⟨_,_,_,_,rfl,h1,h2,h3,a.1,b.1,h.1⟩)⟩⟩).2
theorem Wl.app{xs ys:List SV}(h:Wl xs)(k:Wl ys):Wl (xs++ys):=(h (fun xs=>Wl xs/\Wl (xs++ys)) ⟨⟨.nil,k⟩,fun h1 h2 h3 h=>⟨.ins h1 h2 h3 h.1,.ins h1 h2 h3 h.2⟩,fun h1 h2 h3 a b h=>⟨.node h1 h2 h3 a.1 b.1 h.1,by
 rw[List.cons_append,List.append_assoc];exact .node h1 h2 h3 a.1 b.1 h.2⟩⟩).2
def SL(w:World)(v:Value)(xs:List SV):Prop:=∃ao cap,v=.slice ao xs.length cap/\xs.length<=cap/\InRow w ao (xs.length*11) (stF (lst xs))
theorem SL.below{w w':World}{v:Value}{xs:List SV}(h:SL w v xs)(hb:Below w.heap.size w w'):SL w' v xs:=by
 obtain⟨ao,cap,h1,h2,h3⟩:=h;exact⟨ao,cap,h1,h2,h3.below hb (Nat.le_refl _)⟩
theorem SL.below_of{w w':World}{v:Value}{xs:List SV}(h:SL w v xs)(hb:Below w.heap.size w w'):SL w' v xs:=h.below hb
theorem lst_sub(xs:List SV)(i m:Nat)(j:Nat)(hj:j<m*11):stF (lst xs) (i*11+j)=stF (lst ((xs.drop i).take m)) j:=by
 unfold stF lst;rw[show(i*11+j)/11=i+j/11 by omega,show(i*11+j)%11=j%11 by omega];have:j/11<m:=by omega
 simp only[List.getD_eq_getElem?_getD,List.getElem?_take,List.getElem?_drop,this,if_true]
theorem At.sub{w:World}{b off:Nat}{xs:List SV}(h:At w b off (xs.length*11) (stF (lst xs)))(i m:Nat)(hm:i+m<=xs.length):At w b (off+i*11) (m*11) (stF (lst ((xs.drop i).take m))):=
 ⟨h.lt,fun j hj=>by rw[Nat.add_assoc,h.cell (by omega),lst_sub xs i m j hj]⟩
def AbIn(nH:Nat)(S:Nat->HS)(V0:Nat->VV)(bA:Nat)(B:Nat)(w:World)(v:Value)(z c:Int):Prop:=
 ∃(g cg:Nat)(V:Nat->VV),v=.slice (some ⟨g,0,none⟩) 8 cg/\(g=bA∨B<=g)/\Arr w g (8*6) (vF V)/\absOK nH S 8 V0 8 V z c=true
def BlkR(nH:Nat)(S:Nat->HS)(V0:Nat->VV)(bA:Nat)(w:World)(e:Ending)(w':World):Prop:=
 ∃(err at':Int)(ao:Option Addr)(m cap:Nat)(z c rounds:Int),e=.returned (outV err at' (.slice ao m cap) z c rounds)/\0<=rounds/\rounds<=1000/\(err=0->AbIn nH S V0 bA w.heap.size w' (.slice ao m cap) z c)/\Below w.heap.size w w'
def BC(xs:List SV):Prop:=∀(bH cH nH:Nat)(S:Nat->HS)(bR cR:Nat)(V0:Nat->VV)(bA cA:Nat)(V:Nat->VV)(z c at' rounds:Int)(v:Value)(w:World),nH<=1048576->SigCp w bH nH S bR 8 V0->Arr w bA (8*6) (vF V)->absOK nH S 8 V0 8 V z c=true->SL w v xs->0<=rounds->rounds<=1000->
 Calls Try.prog 58 #[.agg #[.slice (some ⟨bH,0,none⟩) nH cH,.slice (some ⟨bR,0,none⟩) 8 cR],v,.int .i64 at',.agg #[.slice (some ⟨bA,0,none⟩) 8 cA,.int .i64 z,.int .i64 c],.int .i64 rounds] w (BlkR nH S V0 bA w)
def oz:Array Value:=#[.int .i64 0,.int .i64 0,.slice none 0 0,.int .i64 0,.int .i64 0,.int .i64 0]
structure LX(w:World)(bH cH nH:Nat)(S:Nat->HS)(bR cR:Nat)(V0:Nat->VV)(b0:Nat)(bs bh br bA cA:Nat)(V:Nat->VV)(z c:Int)(u:World):Prop where
 bel:Below w.heap.size w u
 sg:u.heap[bs]?=some (.cells #[.slice (some ⟨bH,0,none⟩) nH cH,.slice (some ⟨bR,0,none⟩) 8 cR] 47)
 hd:V3 u bh 106 (.slice (some ⟨bA,0,none⟩) 8 cA) (.int .i64 z) (.int .i64 c)
 R:u.heap[br]?=some (.cells oz 130)
 sc:SigCp u bH nH S bR 8 V0
 A:Arr u bA (8*6) (vF V)
 ok:absOK nH S 8 V0 8 V z c=true
 nw:bA=b0∨w.heap.size<=bA
 ne:bA≠br
 o1:w.heap.size=bs
 o2:bs<bh
 o3:bh<br
section
variable{w:World}{bH cH nH:Nat}{S:Nat->HS}{bR cR:Nat}{V0:Nat->VV}{b0 bs bh br bA cA:Nat}{V:Nat->VV}{z c:Int}{u u':World}
theorem LX.below(h:LX w bH cH nH S bR cR V0 b0 bs bh br bA cA V z c u)(f:Below u.heap.size u u'):LX w bH cH nH S bR cR V0 b0 bs bh br bA cA V z c u':=
 ⟨h.bel.trans (f.mono h.bel.size),hq_below h.sg f,h.hd.below f,hq_below h.R f,h.sc.below f,h.A.below f h.A.lt,h.ok,h.nw,h.ne,h.o1,h.o2,h.o3⟩
theorem LX.cells(h:LX w bH cH nH S bR cR V0 b0 bs bh br bA cA V z c u):(u.cell? ⟨bs,0,none⟩=some (.slice (some ⟨bH,0,none⟩) nH cH)/\u.cell? ⟨bs,1,none⟩=some (.slice (some ⟨bR,0,none⟩) 8 cR))/\(u.cell? ⟨bh,0,none⟩=some (.slice (some ⟨bA,0,none⟩) 8 cA)/\u.cell? ⟨bh,1,none⟩=some (.int .i64 z)/\u.cell? ⟨bh,2,none⟩=some (.int .i64 c))/\bs<u.heap.size/\bh<u.heap.size:=
 ⟨⟨(hq_cell h.sg 0).trans rfl,(hq_cell h.sg 1).trans rfl⟩,h.hd.cells,hq_lt h.sg,h.hd.lt⟩
theorem LX.res(h:LX w bH cH nH S bR cR V0 b0 bs bh br bA cA V z c u):u.cell? ⟨br,0,none⟩=some (.int .i64 0)/\u.cell? ⟨br,1,none⟩=some (.int .i64 0)/\u.cell? ⟨br,2,none⟩=some (.slice none 0 0)/\u.cell? ⟨br,3,none⟩=some (.int .i64 0)/\u.cell? ⟨br,4,none⟩=some (.int .i64 0)/\u.cell? ⟨br,5,none⟩=some (.int .i64 0)/\(∀i,u.frozen? ⟨br,i,none⟩=false)/\br<u.heap.size:=
 ⟨(hq_cell h.R 0).trans rfl,(hq_cell h.R 1).trans rfl,(hq_cell h.R 2).trans rfl,(hq_cell h.R 3).trans rfl,(hq_cell h.R 4).trans rfl,(hq_cell h.R 5).trans rfl,hq_free h.R,hq_lt h.R⟩
theorem LX.put(h:LX w bH cH nH S bR cR V0 b0 bs bh br bA cA V z c u){g cg:Nat}{U:Nat->VV}{z' c':Int}(hg:Arr u g (8*6) (vF U))(ok:absOK nH S 8 V0 8 U z' c'=true)(nw:g=b0∨w.heap.size<=g)(ne:g≠br)(nh:g≠bh)(n1:bH≠bh)(n2:bR≠bh):LX w bH cH nH S bR cR V0 b0 bs bh br g cg U z' c' (((u.setCell ⟨bh,0,none⟩ (.slice (some ⟨g,0,none⟩) 8 cg)).setCell ⟨bh,1,none⟩ (.int .i64 z')).setCell ⟨bh,2,none⟩ (.int .i64 c')):=by
 have o1:=h.o1;have o2:=h.o2;have o3:=h.o3;refine⟨?_,hq_other (hq_other (hq_other h.sg (by omega) _ _) (by omega) _ _) (by omega) _ _,h.hd.set _ _ _,hq_other (hq_other (hq_other h.R (by omega) _ _) (by omega) _ _) (by omega) _ _,⟨((h.sc.h.other ?_ _).other ?_ _).other ?_ _,((h.sc.r.other ?_ _).other ?_ _).other ?_ _⟩,((hg.other ?_ _).other ?_ _).other ?_ _,ok,nw,ne,o1,o2,o3⟩
 ·exact((h.bel.setCell (p:=⟨bh,0,none⟩) (show w.heap.size<=bh by omega) _).setCell (p:=⟨bh,1,none⟩) (show w.heap.size<=bh by omega) _).setCell (p:=⟨bh,2,none⟩) (show w.heap.size<=bh by omega) _
 all_goals first|exact fun e=>n1 e.symm|exact fun e=>n2 e.symm|exact fun e=>nh e.symm
def set6(u:World)(b:Nat)(a0 a1 a2 a3 a4 a5:Value):World:=(((((u.setCell ⟨b,0,none⟩ a0).setCell ⟨b,1,none⟩ a1).setCell ⟨b,2,none⟩ a2).setCell ⟨b,3,none⟩ a3).setCell ⟨b,4,none⟩ a4).setCell ⟨b,5,none⟩ a5
theorem below_set6{B b:Nat}{w u:World}(h:Below B w u)(hb:B<=b)(a0 a1 a2 a3 a4 a5:Value):Below B w (set6 u b a0 a1 a2 a3 a4 a5):=
 (((((h.setCell (p:=⟨b,0,none⟩) hb _).setCell (p:=⟨b,1,none⟩) hb _).setCell (p:=⟨b,2,none⟩) hb _).setCell (p:=⟨b,3,none⟩) hb _).setCell (p:=⟨b,4,none⟩) hb _).setCell (p:=⟨b,5,none⟩) hb _
theorem arr_set6{b g n:Nat}{f:Nat->Value}{u:World}(h:Arr u g n f)(hn:g≠b)(a0 a1 a2 a3 a4 a5:Value):Arr (set6 u b a0 a1 a2 a3 a4 a5) g n f:=
 (((((h.other (fun e=>hn e.symm) _).other (fun e=>hn e.symm) _).other (fun e=>hn e.symm) _).other (fun e=>hn e.symm) _).other (fun e=>hn e.symm) _).other (fun e=>hn e.symm) _
end
theorem lx_new(w:World){bH cH nH:Nat}{S:Nat->HS}{bR cR:Nat}{V0:Nat->VV}{bA cA:Nat}{V:Nat->VV}{z c:Int}(h1:SigCp w bH nH S bR 8 V0)(h2:Arr w bA (8*6) (vF V))(h3:absOK nH S 8 V0 8 V z c=true):
 LX w bH cH nH S bR cR V0 bA w.heap.size (w.heap.size+1) (w.heap.size+1+1) bA cA V z c (((w.alloc (.cells #[.slice (some ⟨bH,0,none⟩) nH cH,.slice (some ⟨bR,0,none⟩) 8 cR] 47)).alloc (.cells #[.slice (some ⟨bA,0,none⟩) 8 cA,.int .i64 z,.int .i64 c] 106)).alloc (.cells oz 130)):=by
 have n0:=hq_new w (.cells #[.slice (some ⟨bH,0,none⟩) nH cH,.slice (some ⟨bR,0,none⟩) 8 cR] 47);generalize hx:w.alloc (.cells #[.slice (some ⟨bH,0,none⟩) nH cH,.slice (some ⟨bR,0,none⟩) 8 cR] 47)=x at *;have s0:x.heap.size=w.heap.size+1:=by rw[<-hx];simp
 have b0:Below w.heap.size w x:=by rw[<-hx];exact(Below.refl _ _).alloc (Nat.le_refl _) _
 have n1:=V3.new x 106 (.slice (some ⟨bA,0,none⟩) 8 cA) (.int .i64 z) (.int .i64 c);generalize hy:x.alloc (.cells #[.slice (some ⟨bA,0,none⟩) 8 cA,.int .i64 z,.int .i64 c] 106)=y at *;have s1:y.heap.size=w.heap.size+1+1:=by rw[<-hy];simp[s0]
 have b1:Below x.heap.size x y:=by rw[<-hy];exact(Below.refl _ _).alloc (Nat.le_refl _) _
 have n2:=hq_new y (.cells oz 130);have b2:Below y.heap.size y (y.alloc (.cells oz 130)):=(Below.refl _ _).alloc (Nat.le_refl _) _;have bb:Below w.heap.size w (y.alloc (.cells oz 130)):=(b0.trans (b1.mono (by omega))).trans (b2.mono (by omega));rw[s0]at n1;rw[s1]at n2;exact⟨bb,hq_below (hq_below n0 b1) b2,n1.below b2,n2,h1.below bb,h2.below bb h2.lt,h3,Or.inl rfl,by have:=h2.lt;omega,rfl,by omega,by omega⟩
theorem l5Loop_any(xs:List SV)(IH:BC xs)(bH cH nH:Nat)(S:Nat->HS)(bR cR:Nat)(V0:Nat->VV)(bA cA:Nat)(V:Nat->VV)(z c cond here rounds:Int)(v:Value)(w:World)(lH:nH<=1048576)(h1:SigCp w bH nH S bR 8 V0)(h2:Arr w bA (8*6) (vF V))(h3:absOK nH S 8 V0 8 V z c=true)(h4:SL w v xs)(r0:0<=rounds)(r1:rounds<=1000):
 Calls Try.prog 85 #[.agg #[.slice (some ⟨bH,0,none⟩) nH cH,.slice (some ⟨bR,0,none⟩) 8 cR],v,.int .i64 cond,.int .i64 here,.agg #[.slice (some ⟨bA,0,none⟩) 8 cA,.int .i64 z,.int .i64 c],.int .i64 rounds] w (BlkR nH S V0 bA w):=by
 have N1:Hid (bH<w.heap.size/\bR<w.heap.size):=⟨h1.h.lt,h1.r.lt⟩
 have HL:Hid (SL w v xs):=h4;have LL:Hid (nH<=1048576):=lH;have X0:Hid (LX w bH cH nH S bR cR V0 bA w.heap.size (w.heap.size+1) (w.heap.size+1+1) bA cA V z c (((w.alloc (.cells #[.slice (some ⟨bH,0,none⟩) nH cH,.slice (some ⟨bR,0,none⟩) 8 cR] 47)).alloc (.cells #[.slice (some ⟨bA,0,none⟩) 8 cA,.int .i64 z,.int .i64 c] 106)).alloc (.cells oz 130))):=lx_new w h1 h2 h3;obtain⟨va,vc,rfl,_,_⟩:=h4;clear h1 h2 h3 lH;go_enter Try.func85,Try.ntmps85;go_upto_region 1 with fail;unfold oz at X0;obtain⟨u,hu⟩:∃y,((w.alloc (.cells #[.slice (some ⟨bH,0,none⟩) nH cH,.slice (some ⟨bR,0,none⟩) 8 cR] 47)).alloc (.cells #[.slice (some ⟨bA,0,none⟩) 8 cA,.int .i64 z,.int .i64 c] 106)).alloc (.cells #[.int .i64 0,.int .i64 0,.slice none 0 0,.int .i64 0,.int .i64 0,.int .i64 0] 130)=y:=⟨_,rfl⟩
 rw[hu]at X0⊢;obtain⟨bs,hbs⟩:∃y,w.heap.size=y:=⟨_,rfl⟩
 obtain⟨bh,hbh⟩:∃y,w.heap.size+1=y:=⟨_,rfl⟩
 obtain⟨br,hbr⟩:∃y,w.heap.size+1+1=y:=⟨_,rfl⟩
 have X0:Hid (LX w bH cH nH S bR cR V0 bA bs bh br bA cA V z c u):=by rw[<-hbs,<-hbh,<-hbr];exact X0
 rw[hbr,hbh,hbs];have BO:Hid (w.heap.size=bs/\bs<bh/\bh<br):=⟨hbs,by omega,by omega⟩
 clear hu hbs hbh hbr;go_wp2_with fail;go_loopw [5,13](fun rv kv wr=>∃(k:Nat)(rounds:Int)(g cg:Nat)(U:Nat->VV)(z' c':Int),rv=.int .i64 rounds/\kv=.int .i64 k/\k<=20/\0<=rounds/\rounds<=1000/\LX w bH cH nH S bR cR V0 bA bs bh br g cg U z' c' wr)(fun _ kv _=>20-(intOf kv).toNat)
 case atStart=>exact⟨0,rounds,bA,cA,V,z,c,rfl,rfl,by omega,r0,r1,X0.out⟩
 case round=>
  clear X0 r0 r1;obtain⟨k,rounds,g,cg,U,z',c',rfl,rfl,hk,r0,r1,x⟩:=hrel;have X:Hid (LX w bH cH nH S bR cR V0 bA bs bh br g cg U z' c' wr):=x;clear x;by_cases hlt:(k:Int)<20/\rounds<1000
  rotate_left
  ·have BAD:∀t,Below wr.heap.size wr t->Hid (LX w bH cH nH S bR cR V0 bA bs bh br g cg U z' c' t):=fun t h=>X.out.below h
   by_cases hk20:(k:Int)<20
   ·have hr:¬rounds<1000:=fun h=>hlt ⟨hk20,h⟩
    go_wp2_with fail;refine(l5Bad_any _ _ _ _).mono ?_;rintro e t⟨rfl,hb⟩;have Y:=BAD t hb;obtain⟨y0,y1,y2,y3,y4,y5,yf,yl⟩:=Y.out.res;unfold outV;go_wp2_with fail;refine bodyPost_ret (v:=outV 10 here (.slice none 0 0) 0 0 rounds) (by simp[results,Try.results85,go_sem,outV, *]) rfl ⟨10,here,none,0,0,0,0,rounds,rfl,r0,r1,fun e=>absurd e (by decide),?_⟩;exact below_set6 Y.out.bel (by have:=BO.out;omega) _ _ _ _ _ _
   ·go_wp2_with fail
    refine(l5Bad_any _ _ _ _).mono ?_;rintro e t⟨rfl,hb⟩;have Y:=BAD t hb;obtain⟨y0,y1,y2,y3,y4,y5,yf,yl⟩:=Y.out.res;unfold outV;go_wp2_with fail;refine bodyPost_ret (v:=outV 10 here (.slice none 0 0) 0 0 rounds) (by simp[results,Try.results85,go_sem,outV, *]) rfl ⟨10,here,none,0,0,0,0,rounds,rfl,r0,r1,fun e=>absurd e (by decide),?_⟩;exact below_set6 Y.out.bel (by have:=BO.out;omega) _ _ _ _ _ _
  obtain⟨hk20,hr1000⟩:=hlt;obtain⟨_,⟨c0,c1,c2⟩,cl1,cl2⟩:=X.out.cells;go_wp2_with fail;refine(l5Flag_any _ _ _ _ _ _ _).mono ?_;rintro e t1⟨⟨fr,rfl⟩,hb⟩;have X1:Hid (LX w bH cH nH S bR cR V0 bA bs bh br g cg U z' c' t1):=X.out.below hb;clear hb X c0 c1 c2 cl1 cl2;by_cases hf:fr=0
  rotate_left
  ·go_wp2_with fail
   refine(l5Bad_any _ _ _ _).mono ?_;rintro e t⟨rfl,hb⟩;have Y:Hid (LX w bH cH nH S bR cR V0 bA bs bh br g cg U z' c' t):=X1.out.below hb;obtain⟨y0,y1,y2,y3,y4,y5,yf,yl⟩:=Y.out.res;unfold outV;go_wp2_with fail;refine bodyPost_ret (v:=outV fr here (.slice none 0 0) 0 0 (rounds+1)) (by simp[results,Try.results85,go_sem,outV, *]) rfl ⟨fr,here,none,0,0,0,0,rounds+1,rfl,by omega,by omega,fun e=>absurd e hf,?_⟩;exact below_set6 Y.out.bel (by have:=BO.out;omega) _ _ _ _ _ _
  subst hf;obtain⟨⟨s0,s1⟩,⟨c0,c1,c2⟩,cl1,cl2⟩:=X1.out.cells;go_wp2_with fail;refine(IH bH cH nH S bR cR V0 g cg U z' c' _ (rounds+1) _ t1 LL.out X1.out.sc X1.out.A X1.out.ok (HL.out.below_of X1.out.bel) (by omega) (by omega)).mono ?_;rintro e t2⟨err,at2,ao,m,cap,z2,c2',rr,rfl,q0,q1,hab,hb⟩;have X2:Hid (LX w bH cH nH S bR cR V0 bA bs bh br g cg U z' c' t2):=X1.out.below hb;have T2:Hid (t1.heap.size<=t2.heap.size):=hb.size;have HAB:Hid (err=0->AbIn nH S V0 g t1.heap.size t2 (.slice ao m cap) z2 c2'):=hab;clear hb hab s0 s1 c0 c1 c2 cl1 cl2;unfold outV;by_cases he:err=0
  rotate_left
  ·obtain⟨t3,ht3,b3⟩:∃y,t2.alloc (.cells #[.int .i64 err,.int .i64 at2,.slice ao m cap,.int .i64 z2,.int .i64 c2',.int .i64 rr] 130)=y/\Below t2.heap.size t2 y:=⟨_,rfl,(Below.refl _ _).alloc (Nat.le_refl _) _⟩
   have n3:=hq_new t2 (.cells #[.int .i64 err,.int .i64 at2,.slice ao m cap,.int .i64 z2,.int .i64 c2',.int .i64 rr] 130);rw[ht3]at n3;have Y:Hid (LX w bH cH nH S bR cR V0 bA bs bh br g cg U z' c' t3):=X2.out.below b3;obtain⟨y0,y1,y2,y3,y4,y5,yf,yl⟩:=Y.out.res;have v0:=(hq_cell n3 0).trans rfl;have v1:=(hq_cell n3 1).trans rfl;have v2:=(hq_cell n3 2).trans rfl;have v3:=(hq_cell n3 3).trans rfl;have v4:=(hq_cell n3 4).trans rfl;have v5:=(hq_cell n3 5).trans rfl
   have vl:=hq_lt n3
   go_upto_region 9 with fail
   clear ht3 b3 n3
   go_wp2_with fail
   refine bodyPost_ret (v:=outV err at2 (.slice ao m cap) z2 c2' rr) (by simp[results,Try.results85,go_sem,outV, *]) rfl ⟨err,at2,ao,m,cap,z2,c2',rr,rfl,q0,q1,fun e=>absurd e he,?_⟩
   exact below_set6 Y.out.bel (by have:=BO.out;omega) _ _ _ _ _ _
  subst he
  obtain⟨g2,cq,U2,hv2,nw2,A2,ok2⟩:=HAB.out rfl
  simp only[Value.slice.injEq]at hv2
  obtain⟨rfl,rfl,rfl⟩:=hv2
  have A2:Hid (Arr t2 g2 (8*6) (vF U2)):=A2
  have NW2:Hid (g2=g∨t1.heap.size<=g2):=nw2
  have OK2:Hid (absOK nH S 8 V0 8 U2 z2 c2'=true):=ok2
  clear nw2 ok2 HAB
  obtain⟨t3,ht3,b3⟩:∃y,t2.alloc (.cells #[.int .i64 0,.int .i64 at2,.slice (some ⟨g2,0,none⟩) 8 cap,.int .i64 z2,.int .i64 c2',.int .i64 rr] 130)=y/\Below t2.heap.size t2 y:=⟨_,rfl,(Below.refl _ _).alloc (Nat.le_refl _) _⟩
  have n3:=hq_new t2 (.cells #[.int .i64 0,.int .i64 at2,.slice (some ⟨g2,0,none⟩) 8 cap,.int .i64 z2,.int .i64 c2',.int .i64 rr] 130)
  rw[ht3]at n3
  have X3:Hid (LX w bH cH nH S bR cR V0 bA bs bh br g cg U z' c' t3):=X2.out.below b3
  have A3:Hid (Arr t3 g2 (8*6) (vF U2)):=A2.out.below b3 A2.out.lt
  obtain⟨_,⟨c0,c1,c2⟩,cl1,cl2⟩:=X3.out.cells
  have v0:=(hq_cell n3 0).trans rfl
  have v2:=(hq_cell n3 2).trans rfl
  have v3:=(hq_cell n3 3).trans rfl
  have v4:=(hq_cell n3 4).trans rfl
  have v5:=(hq_cell n3 5).trans rfl
  have vl:=hq_lt n3
  go_upto_region 9 with fail
  have B13:Hid (t1.heap.size<=t3.heap.size):=(by have:=b3.size;have:=T2.out;omega:t1.heap.size<=t3.heap.size)
  clear ht3 b3 n3 X2 A2
  obtain⟨no,hno⟩:∃y,t2.heap.size=y:=⟨_,rfl⟩
  rw[hno]at v0 v2 v3 v4 v5 vl⊢
  clear hno
  go_wp2_with fail
  refine(l5Join_any nH S V0 g cg U z' c' g2 cap U2 z2 c2' t3 X3.out.A A3.out X3.out.ok OK2.out).mono ?_
  rintro e t4⟨g4,cg4,U4,z4,c4,rfl,ng4,A4,ok4,hb⟩
  have X4:Hid (LX w bH cH nH S bR cR V0 bA bs bh br g cg U z' c' t4):=X3.out.below hb
  have A4:Hid (Arr t4 g4 (8*6) (vF U4)):=A4
  have NG4:Hid (t3.heap.size<=g4/\t1.heap.size<=t3.heap.size):=⟨ng4,B13.out⟩
  have OK4:Hid (absOK nH S 8 V0 8 U4 z4 c4=true):=ok4
  have HBR3:Hid (br<t3.heap.size):=hq_lt X3.out.R
  clear hb ng4 ok4 X3 A3 c0 c1 c2 cl1 cl2 v0 v2 v3 v4 v5 vl
  obtain⟨t5,ht5,b5⟩:∃y,t4.alloc (.cells #[.slice (some ⟨g4,0,none⟩) 8 cg4,.int .i64 z4,.int .i64 c4] 106)=y/\Below t4.heap.size t4 y:=⟨_,rfl,(Below.refl _ _).alloc (Nat.le_refl _) _⟩
  have n5:=V3.new t4 106 (.slice (some ⟨g4,0,none⟩) 8 cg4) (.int .i64 z4) (.int .i64 c4)
  rw[ht5]at n5
  have X5:Hid (LX w bH cH nH S bR cR V0 bA bs bh br g cg U z' c' t5):=X4.out.below b5
  have A5:Hid (Arr t5 g4 (8*6) (vF U4)):=A4.out.below b5 A4.out.lt
  obtain⟨nn,hnn⟩:∃y,t4.heap.size=y:=⟨_,rfl⟩
  have N5:Hid (V3 t5 nn 106 (.slice (some ⟨g4,0,none⟩) 8 cg4) (.int .i64 z4) (.int .i64 c4)):=(by rw[<-hnn];exact n5:V3 t5 nn 106 (.slice (some ⟨g4,0,none⟩) 8 cg4) (.int .i64 z4) (.int .i64 c4))
  obtain⟨_,⟨c0,c1,c2⟩,cl1,cl2⟩:=X5.out.cells
  obtain⟨m0,m1,m2⟩:=N5.out.cells
  have ml:=N5.out.lt
  go_upto_region 13 with fail
  try rw[hnn]
  clear ht5 b5 n5 hnn X4 A4
  go_wp2_with fail
  refine(l5Same_any g4 cg4 U4 z4 c4 g cg U z' c' t5 A5.out X5.out.A).mono ?_
  rintro e t6⟨⟨same,rfl⟩,hb⟩
  have X6:Hid (LX w bH cH nH S bR cR V0 bA bs bh br g cg U z' c' t6):=X5.out.below hb
  have A6:Hid (Arr t6 g4 (8*6) (vF U4)):=A5.out.below hb A5.out.lt
  have N6:Hid (V3 t6 nn 106 (.slice (some ⟨g4,0,none⟩) 8 cg4) (.int .i64 z4) (.int .i64 c4)):=N5.out.below hb
  clear hb X5 A5 N5 c0 c1 c2 cl1 cl2 m0 m1 m2 ml
  obtain⟨_,⟨c0,c1,c2⟩,cl1,cl2⟩:=X6.out.cells
  cases same with
  |true=>
   obtain⟨y0,y1,y2,y3,y4,y5,yf,yl⟩:=X6.out.res
   have YA:Hid (Arr t6 g (8*6) (vF U)/\g≠br/\absOK nH S 8 V0 8 U z' c'=true/\(g=bA∨w.heap.size<=g)/\Below w.heap.size w t6):=⟨X6.out.A,X6.out.ne,X6.out.ok,X6.out.nw,X6.out.bel⟩
   have hbr:bh≠br:=by have:=BO.out;omega
   clear X6 A6 N6
   go_wp2_with fail
   refine bodyPost_ret (v:=outV 0 0 (.slice (some ⟨g,0,none⟩) 8 cg) z' c' rr) (by simp[results,Try.results85,go_sem,outV, *]) rfl ⟨0,0,_,_,_,z',c',rr,rfl,q0,q1,fun _=>⟨g,cg,U,rfl,YA.out.2.2.2.1,?_,YA.out.2.2.1⟩,?_⟩
   ·exact arr_set6 YA.out.1 YA.out.2.1 _ _ _ _ _ _
   ·exact below_set6 YA.out.2.2.2.2 (by have:=BO.out;omega) _ _ _ _ _ _
  |false=>
   obtain⟨m0,m1,m2⟩:=N6.out.cells
   have ml:=N6.out.lt
   have hf:=X6.out.hd.free
   have hgr:br<t3.heap.size:=HBR3.out
   have Y:Hid (LX w bH cH nH S bR cR V0 bA bs bh br g4 cg4 U4 z4 c4 (((t6.setCell ⟨bh,0,none⟩ (.slice (some ⟨g4,0,none⟩) 8 cg4)).setCell ⟨bh,1,none⟩ (.int .i64 z4)).setCell ⟨bh,2,none⟩ (.int .i64 c4))):=X6.out.put A6.out OK4.out (Or.inr (by have:=NG4.out;have:=BO.out;omega)) (by have:=NG4.out;omega) (by have:=NG4.out;have:=BO.out;omega) (by have:=N1.out;have:=BO.out;omega) (by have:=N1.out;have:=BO.out;omega)
   clear X6 A6 N6
   go_wp2_with fail
   go_roundw
   case rel=>exact⟨k+1,rr,g4,cg4,U4,z4,c4,rfl,by go_num,by omega,q0,q1,Y.out⟩
   case measure=>simp[intOf];omega
theorem SL.head{w:World}{s:SV}{xs:List SV}{v:Value}(h:SL w v (s::xs)):∃b off cap,v=.slice (some ⟨b,off,none⟩) (xs.length+1) cap/\xs.length+1<=cap/\At w b off ((xs.length+1)*11) (stF (lst (s::xs))):=by
 obtain⟨ao,cap,h1,h2,h3⟩:=h;rcases h3 with h3|⟨b,off,rfl,h3⟩
 ·simp at h3
 ·exact⟨b,off,cap,h1,h2,h3⟩
theorem sl_cut{w:World}{b off cap:Nat}{L xs:List SV}{i m cp:Nat}{ao:Option Addr}(h:At w b off (L.length*11) (stF (lst L)))(hx:(L.drop i).take xs.length=xs)(hc:L.length<=cap)(hi:i+xs.length<=L.length)(hao:ao=if cap=i then some ⟨b,off,none⟩else some ⟨b,off+i*11,none⟩)(hm:m=xs.length)(hcp:cp=cap-i):SL w (.slice ao m cp) xs:=by
 subst hm hcp;refine⟨ao,_,rfl,by omega,?_⟩;by_cases e:cap=i
 ·exact .inl (by omega)
 ·rw[if_neg e]at hao
  have:=At.sub h i xs.length hi;rw[hx]at this;exact .inr ⟨b,_,hao,this⟩
structure YB(nH:Nat)(S:Nat->HS)(V0:Nat->VV)(bA B ny:Nat)(err at':Int)(ao:Option Addr)(m cap:Nat)(z c rounds:Int)(u:World):Prop where
 Y:u.heap[ny]?=some (.cells #[.int .i64 err,.int .i64 at',.slice ao m cap,.int .i64 z,.int .i64 c,.int .i64 rounds] 130)
 ab:err=0->∃(g cg:Nat)(V:Nat->VV),(Value.slice ao m cap)=.slice (some ⟨g,0,none⟩) 8 cg/\(g=bA∨B<=g)/\g≠ny/\Arr u g (8*6) (vF V)/\absOK nH S 8 V0 8 V z c=true
theorem YB.below{nH:Nat}{S:Nat->HS}{V0:Nat->VV}{bA B ny:Nat}{err at':Int}{ao:Option Addr}{m cap:Nat}{z c rounds:Int}{u u':World}(h:YB nH S V0 bA B ny err at' ao m cap z c rounds u)(f:Below u.heap.size u u'):YB nH S V0 bA B ny err at' ao m cap z c rounds u':=
 ⟨hq_below h.Y f,fun e=>by obtain⟨g,cg,V,h1,h2,h3,h4,h5⟩:=h.ab e;exact⟨g,cg,V,h1,h2,h3,h4.below f h4.lt,h5⟩⟩
theorem YB.cells{nH:Nat}{S:Nat->HS}{V0:Nat->VV}{bA B ny:Nat}{err at':Int}{ao:Option Addr}{m cap:Nat}{z c rounds:Int}{u:World}(h:YB nH S V0 bA B ny err at' ao m cap z c rounds u):u.cell? ⟨ny,0,none⟩=some (.int .i64 err)/\u.cell? ⟨ny,1,none⟩=some (.int .i64 at')/\u.cell? ⟨ny,2,none⟩=some (.slice ao m cap)/\u.cell? ⟨ny,3,none⟩=some (.int .i64 z)/\u.cell? ⟨ny,4,none⟩=some (.int .i64 c)/\u.cell? ⟨ny,5,none⟩=some (.int .i64 rounds)/\(∀i,u.frozen? ⟨ny,i,none⟩=false)/\ny<u.heap.size:=
 ⟨(hq_cell h.Y 0).trans rfl,(hq_cell h.Y 1).trans rfl,(hq_cell h.Y 2).trans rfl,(hq_cell h.Y 3).trans rfl,(hq_cell h.Y 4).trans rfl,(hq_cell h.Y 5).trans rfl,hq_free h.Y,hq_lt h.Y⟩
theorem yb_new{nH:Nat}{S:Nat->HS}{V0:Nat->VV}{bA B:Nat}{err at':Int}{ao:Option Addr}{m cap:Nat}{z c rounds:Int}{u:World}(h:err=0->AbIn nH S V0 bA B u (.slice ao m cap) z c):YB nH S V0 bA B u.heap.size err at' ao m cap z c rounds (u.alloc (.cells #[.int .i64 err,.int .i64 at',.slice ao m cap,.int .i64 z,.int .i64 c,.int .i64 rounds] 130)):=
 ⟨hq_new _ _,fun e=>by
   obtain⟨g,cg,V,h1,h2,h3,h4⟩:=h e;exact⟨g,cg,V,h1,h2,by have:=h3.lt;omega,h3.below ((Below.refl _ _).alloc (Nat.le_refl _) _) h3.lt,h4⟩⟩
theorem hq_set6{u:World}{b t:Nat}{x0 x1 x2 x3 x4 x5:Value}(h:u.heap[b]?=some (.cells #[x0,x1,x2,x3,x4,x5] t))(a0 a1 a2 a3 a4 a5:Value):(set6 u b a0 a1 a2 a3 a4 a5).heap[b]?=some (.cells #[a0,a1,a2,a3,a4,a5] t):=
 hq_set (hq_set (hq_set (hq_set (hq_set (hq_set h 0 a0) 1 a1) 2 a2) 3 a3) 4 a4) 5 a5
theorem st_at0{w:World}{b off n:Nat}{s:SV}{xs:List SV}(h:At w b off ((n+1)*11) (stF (lst (s::xs)))):w.cell? ⟨b,off,none⟩=some (.int .i64 s.k)/\w.cell? ⟨b,off+1,none⟩=some (.int .i64 s.op)/\w.cell? ⟨b,off+2,none⟩=some (.int .i64 s.d)/\w.cell? ⟨b,off+3,none⟩=some (.int .i64 s.a)/\w.cell? ⟨b,off+4,none⟩=some (.int .i64 s.b)/\w.cell? ⟨b,off+5,none⟩=some (.int .i64 s.imm)/\w.cell? ⟨b,off+6,none⟩=some (.int .i64 s.h)/\w.cell? ⟨b,off+7,none⟩=some (.int .i64 s.cond)/\w.cell? ⟨b,off+8,none⟩=some (.int .i64 s.thn)/\w.cell? ⟨b,off+9,none⟩=some (.int .i64 s.els)/\w.cell? ⟨b,off+10,none⟩=some (.int .i64 s.proc):=
 ⟨h.cell (i:=0) (by omega),h.cell (i:=1) (by omega),h.cell (i:=2) (by omega),h.cell (i:=3) (by omega),h.cell (i:=4) (by omega),h.cell (i:=5) (by omega),h.cell (i:=6) (by omega),h.cell (i:=7) (by omega),h.cell (i:=8) (by omega),h.cell (i:=9) (by omega),h.cell (i:=10) (by omega)⟩
theorem stb{u:World}{sb:Nat}{s:SV}(h:u.heap[sb]?=some (.cells (stL s).toArray 33)):u.cell? ⟨sb,0,none⟩=some (.int .i64 s.k)/\u.cell? ⟨sb,7,none⟩=some (.int .i64 s.cond)/\u.cell? ⟨sb,8,none⟩=some (.int .i64 s.thn)/\u.cell? ⟨sb,9,none⟩=some (.int .i64 s.els)/\sb<u.heap.size:=
 ⟨(hq_cell h 0).trans rfl,(hq_cell h 7).trans rfl,(hq_cell h 8).trans rfl,(hq_cell h 9).trans rfl,hq_lt h⟩
theorem l5Compound_any(s:SV)(x y:List SV)(ht:s.thn=(x.length:Int))(he:s.els=(y.length:Int))(IHx:BC x)(IHy:BC y)(bH cH nH:Nat)(S:Nat->HS)(bR cR:Nat)(V0:Nat->VV)(bA cA:Nat)(V:Nat->VV)(z c here rounds:Int)(v:Value)(w:World)(lH:nH<=1048576)(h1:SigCp w bH nH S bR 8 V0)(h2:Arr w bA (8*6) (vF V))(h3:absOK nH S 8 V0 8 V z c=true)(h4:SL w v (s::(x++y)))(hl:x.length+y.length<=1048576)(r0:0<=rounds)(r1:rounds<=1000):
 Calls Try.prog 70 #[.agg #[.slice (some ⟨bH,0,none⟩) nH cH,.slice (some ⟨bR,0,none⟩) 8 cR],v,.int .i64 here,.agg #[.slice (some ⟨bA,0,none⟩) 8 cA,.int .i64 z,.int .i64 c],.int .i64 rounds] w (BlkR nH S V0 bA w):=by
 have N1:Hid (bH<w.heap.size/\bR<w.heap.size):=⟨h1.h.lt,h1.r.lt⟩
 have LL:Hid (nH<=1048576):=lH
 have HT:Hid (s.thn=(x.length:Int)/\s.els=(y.length:Int)):=⟨ht,he⟩
 have X0:Hid (LX w bH cH nH S bR cR V0 bA w.heap.size (w.heap.size+1) (w.heap.size+1+1) bA cA V z c (((w.alloc (.cells #[.slice (some ⟨bH,0,none⟩) nH cH,.slice (some ⟨bR,0,none⟩) 8 cR] 47)).alloc (.cells #[.slice (some ⟨bA,0,none⟩) 8 cA,.int .i64 z,.int .i64 c] 106)).alloc (.cells oz 130))):=lx_new w h1 h2 h3
 obtain⟨b,off,cap,rfl,hcap,hat⟩:=h4.head
 rw[List.length_append]at hcap hat⊢
 have HAT:Hid (At w b off ((x.length+y.length+1)*11) (stF (lst (s::(x++y))))):=hat
 clear h1 h2 h3 lH h4 hat ht he
 go_enter Try.func70,Try.ntmps70
 go_upto_region 1 with fail
 unfold oz at X0
 obtain⟨u,hu⟩:∃y,((w.alloc (.cells #[.slice (some ⟨bH,0,none⟩) nH cH,.slice (some ⟨bR,0,none⟩) 8 cR] 47)).alloc (.cells #[.slice (some ⟨bA,0,none⟩) 8 cA,.int .i64 z,.int .i64 c] 106)).alloc (.cells #[.int .i64 0,.int .i64 0,.slice none 0 0,.int .i64 0,.int .i64 0,.int .i64 0] 130)=y:=⟨_,rfl⟩
 rw[hu]at X0⊢
 obtain⟨bs,hbs⟩:∃y,w.heap.size=y:=⟨_,rfl⟩
 obtain⟨bh,hbh⟩:∃y,w.heap.size+1=y:=⟨_,rfl⟩
 obtain⟨br,hbr⟩:∃y,w.heap.size+1+1=y:=⟨_,rfl⟩
 have X0:Hid (LX w bH cH nH S bR cR V0 bA bs bh br bA cA V z c u):=by rw[<-hbs,<-hbh,<-hbr];exact X0
 rw[hbr,hbh,hbs]
 have BO:Hid (w.heap.size=bs/\bs<bh/\bh<br):=⟨hbs,by omega,by omega⟩
 clear hu hbs hbh hbr
 have AT0:=HAT.out.below X0.out.bel HAT.out.lt
 obtain⟨k0,k1,k2,k3,k4,k5,k6,k7,k8,k9,k10⟩:=st_at0 AT0
 have kl:=AT0.lt
 go_upto_region 2 with fail
 obtain⟨u1,hu1,bu1⟩:∃y,u.alloc (.cells (stL s).toArray 33)=y/\Below u.heap.size u y:=⟨_,rfl,(Below.refl _ _).alloc (Nat.le_refl _) _⟩
 have q1:=hq_new u (.cells (stL s).toArray 33)
 rw[hu1]at q1
 unfold stL at hu1 q1
 rw[hu1]
 have X1:Hid (LX w bH cH nH S bR cR V0 bA bs bh br bA cA V z c u1):=X0.out.below bu1
 obtain⟨sb,hsb⟩:∃y,u.heap.size=y:=⟨_,rfl⟩
 rw[hsb]at q1⊢
 have Q1:Hid (u1.heap[sb]?=some (.cells (stL s).toArray 33)):=q1
 clear hu1 bu1 q1 hsb k0 k1 k2 k3 k4 k5 k6 k7 k8 k9 k10 kl AT0 X0
 obtain⟨k0,k7,k8,k9,kl⟩:=stb Q1.out
 rw[HT.out.1]at k8
 rw[HT.out.2]at k9
 go_upto_region 3 with fail
 obtain⟨tv,htv,HS⟩:∃q,Value.slice (if cap=1 then some ⟨b,off,none⟩else some ⟨b,off+11,none⟩) (1+x.length-1) (cap-1)=q/\Hid (SL u1 q x):=⟨_,rfl,sl_cut (L:=s::(x++y)) (i:=1) (by rw[List.length_cons,List.length_append];exact HAT.out.below X1.out.bel HAT.out.lt) (by simp) (by simp;omega) (by simp;omega) rfl (by omega) rfl⟩
 rw[htv]
 clear htv
 by_cases hk3:s.k=3
 ·obtain⟨⟨s0,s1⟩,⟨c0,c1,c2⟩,cl1,cl2⟩:=X1.out.cells
  go_wp2_with fail
  refine(l5Loop_any x IHx bH cH nH S bR cR V0 bA cA V z c s.cond here rounds tv u1 LL.out X1.out.sc X1.out.A X1.out.ok HS.out r0 r1).mono ?_
  rintro e t⟨err,at2,ao,m,cap2,z2,c2',rr,rfl,q0,q1,hab,hb⟩
  have Y:Hid (LX w bH cH nH S bR cR V0 bA bs bh br bA cA V z c t):=X1.out.below hb
  have HAB:Hid (err=0->AbIn nH S V0 bA w.heap.size (set6 t br (.int .i64 err) (.int .i64 at2) (.slice ao m cap2) (.int .i64 z2) (.int .i64 c2') (.int .i64 rr)) (.slice ao m cap2) z2 c2'):=fun e=>by
   obtain⟨g,cg,U,h1,h2,h3,h4⟩:=hab e
   have:=X1.out.bel.size
   have hne:g≠br:=by
    rcases h2 with h2|h2
    ·rw[h2];exact X1.out.ne
    ·have:=hq_lt X1.out.R;omega
   exact⟨g,cg,U,h1,by omega,arr_set6 h3 hne _ _ _ _ _ _,h4⟩
  obtain⟨y0,y1,y2,y3,y4,y5,yf,yl⟩:=Y.out.res
  clear hb hab s0 s1 c0 c1 c2 cl1 cl2 k0 k7 k8 k9 kl
  unfold outV
  go_wp2_with fail
  refine bodyPost_ret (v:=outV err at2 (.slice ao m cap2) z2 c2' rr) (by simp[results,Try.results70,go_sem,outV, *]) rfl ⟨err,at2,ao,m,cap2,z2,c2',rr,rfl,q0,q1,HAB.out,?_⟩
  exact below_set6 Y.out.bel (by have:=BO.out;omega) _ _ _ _ _ _
 obtain⟨_,⟨c0,c1,c2⟩,cl1,cl2⟩:=X1.out.cells
 go_wp2_with fail
 refine(l5Flag_any _ _ _ _ _ _ _).mono ?_
 rintro e u2⟨⟨fr,rfl⟩,hb⟩
 have X2:Hid (LX w bH cH nH S bR cR V0 bA bs bh br bA cA V z c u2):=X1.out.below hb
 have Q2:Hid (u2.heap[sb]?=some (.cells (stL s).toArray 33)):=hq_below Q1.out hb
 have HS2:Hid (SL u2 tv x):=HS.out.below hb
 clear hb X1 Q1 HS c0 c1 c2 cl1 cl2 k0 k7 k8 k9 kl
 by_cases hf:fr=0
 rotate_left
 ·go_wp2_with fail
  refine(l5Bad_any _ _ _ _).mono ?_
  rintro e t⟨rfl,hb⟩
  have Y:Hid (LX w bH cH nH S bR cR V0 bA bs bh br bA cA V z c t):=X2.out.below hb
  obtain⟨y0,y1,y2,y3,y4,y5,yf,yl⟩:=Y.out.res
  unfold outV
  go_wp2_with fail
  refine bodyPost_ret (v:=outV fr here (.slice none 0 0) 0 0 rounds) (by simp[results,Try.results70,go_sem,outV, *]) rfl ⟨fr,here,none,0,0,0,0,rounds,rfl,r0,r1,fun e=>absurd e hf,?_⟩
  exact below_set6 Y.out.bel (by have:=BO.out;omega) _ _ _ _ _ _
 subst hf
 obtain⟨⟨s0,s1⟩,⟨c0,c1,c2⟩,cl1,cl2⟩:=X2.out.cells
 go_wp2_with fail
 refine(IHx bH cH nH S bR cR V0 bA cA V z c _ rounds tv u2 LL.out X2.out.sc X2.out.A X2.out.ok HS2.out r0 r1).mono ?_
 rintro e u3⟨err,at2,ao,m,cap2,z2,c2',rr,rfl,q0,q1,hab,hb⟩
 have bn3:Below u3.heap.size u3 (u3.alloc (.cells #[.int .i64 err,.int .i64 at2,.slice ao m cap2,.int .i64 z2,.int .i64 c2',.int .i64 rr] 130)):=(Below.refl _ _).alloc (Nat.le_refl _) _
 have yb3:=yb_new (at':=at2) (rounds:=rr) hab
 obtain⟨u4,hu4⟩:∃q,u3.alloc (.cells #[.int .i64 err,.int .i64 at2,.slice ao m cap2,.int .i64 z2,.int .i64 c2',.int .i64 rr] 130)=q:=⟨_,rfl⟩
 rw[hu4]at bn3 yb3
 have X4:Hid (LX w bH cH nH S bR cR V0 bA bs bh br bA cA V z c u4):=(X2.out.below hb).below bn3
 have Q4:Hid (u4.heap[sb]?=some (.cells (stL s).toArray 33)):=hq_below (hq_below Q2.out hb) bn3
 have YX:Hid (YB nH S V0 bA u2.heap.size u3.heap.size err at2 ao m cap2 z2 c2' rr u4):=yb3
 have LB:Hid (br<u2.heap.size/\w.heap.size<=u2.heap.size):=⟨hq_lt X2.out.R,X2.out.bel.size⟩
 have NX0:u2.heap.size<=u3.heap.size:=hb.size
 clear hb hab yb3 bn3 X2 Q2 HS2 s0 s1 c0 c1 c2 cl1 cl2
 unfold outV
 go_upto_region 9 with fail
 obtain⟨nx,hnx⟩:∃q,u3.heap.size=q:=⟨_,rfl⟩
 rw[hnx]at YX NX0⊢
 have NX:Hid (u2.heap.size<=nx):=NX0
 clear hu4 hnx NX0
 obtain⟨v0,v1,v2,v3,v4,v5,vf,vl⟩:=YX.out.cells
 by_cases hx0:err=0
 rotate_left
 ·obtain⟨y0,y1,y2,y3,y4,y5,yf,yl⟩:=X4.out.res
  go_wp2_with fail
  refine bodyPost_ret (v:=outV err at2 (.slice ao m cap2) z2 c2' rr) (by simp[results,Try.results70,go_sem,outV, *]) rfl ⟨err,at2,ao,m,cap2,z2,c2',rr,rfl,q0,q1,fun e=>absurd e hx0,?_⟩
  exact below_set6 X4.out.bel (by have:=BO.out;omega) _ _ _ _ _ _
 subst hx0
 go_upto_region 11 with fail
 clear v0 v1 v2 v3 v4 v5 vf vl
 go_cut [10,14,15](fun s10 s14 s15 wx=>s10=.pointer (some ⟨br,0,none⟩)/\s14=.pointer (some ⟨nx,0,none⟩)/\∃(ny:Nat)(err3 at3:Int)(ao3:Option Addr)(m3 cap3:Nat)(z3 c3 r3:Int),s15=.pointer (some ⟨ny,0,none⟩)/\nx<ny/\0<=r3/\r3<=1000/\LX w bH cH nH S bR cR V0 bA bs bh br bA cA V z c wx/\YB nH S V0 bA u2.heap.size nx 0 at2 ao m cap2 z2 c2' rr wx/\YB nH S V0 bA u2.heap.size ny err3 at3 ao3 m3 cap3 z3 c3 r3 wx)
 case first=>
  have j0:∀w',Below u4.heap.size u4 w'->w'.cell? ⟨bs,0,none⟩=some (.slice (some ⟨bH,0,none⟩) nH cH):=fun w' h=>(X4.out.below h).cells.1.1
  have j1:∀w',Below u4.heap.size u4 w'->w'.cell? ⟨bs,1,none⟩=some (.slice (some ⟨bR,0,none⟩) 8 cR):=fun w' h=>(X4.out.below h).cells.1.2
  have j2:∀w',Below u4.heap.size u4 w'->w'.cell? ⟨bh,0,none⟩=some (.slice (some ⟨bA,0,none⟩) 8 cA):=fun w' h=>(X4.out.below h).cells.2.1.1
  have j3:∀w',Below u4.heap.size u4 w'->w'.cell? ⟨bh,1,none⟩=some (.int .i64 z):=fun w' h=>(X4.out.below h).cells.2.1.2.1
  have j4:∀w',Below u4.heap.size u4 w'->w'.cell? ⟨bh,2,none⟩=some (.int .i64 c):=fun w' h=>(X4.out.below h).cells.2.1.2.2
  have j5:∀w',Below u4.heap.size u4 w'->w'.cell? ⟨sb,8,none⟩=some (.int .i64 (x.length:Int)):=fun w' h=>by rw[<-HT.out.1];exact(stb (hq_below Q4.out h)).2.2.1
  have j6:∀w',Below u4.heap.size u4 w'->w'.cell? ⟨nx,5,none⟩=some (.int .i64 rr):=fun w' h=>(YX.out.below h).cells.2.2.2.2.2.1
  have hw1:IntKind.i64.wrap (1+(x.length:Int))=((1+x.length:Nat):Int):=by rw[IntKind.wrap_i64]<;>omega
  have hg1:1+x.length<=x.length+y.length+1:=by omega
  have hg2:x.length+y.length+1<=cap:=by omega
  refine wp_region_held_drew (S:=fun w'=>Below u4.heap.size u4 w') (by kernel_rfl) (Below.refl _ _).drew (fun _=>?_)
  refine wpAnyH_tk 0 ?k1v rfl ?k1y ?k1r
  case k1y=>(intro w hSw;(try dsimp only at hSw);go_simp;try with_reducible rfl)
  try simp only[Act.put,List.getElem_toArray,List.getElem_cons_zero,List.setIfInBounds_toArray,List.set_cons_zero,List.set_cons_succ]
  refine wpAnyH_tk 1 ?k2v rfl ?k2y ?k2r
  case k2y=>(intro w hSw;(try dsimp only at hSw);go_simp;try with_reducible rfl)
  try simp only[Act.put,List.getElem_toArray,List.getElem_cons_zero,List.getElem_cons_succ,List.setIfInBounds_toArray,List.set_cons_zero,List.set_cons_succ]
  refine wpAnyH_tk 2 ?k3v rfl ?k3y ?k3r
  case k3y=>(intro w hSw;(try dsimp only at hSw);go_simp;try with_reducible rfl)
  try simp only[Act.put,List.getElem_toArray,List.getElem_cons_zero,List.getElem_cons_succ,List.setIfInBounds_toArray,List.set_cons_zero,List.set_cons_succ]
  refine wpAnyH_tk 3 ?k4v rfl ?k4y ?k4r
  case k4y=>(intro w hSw;(try dsimp only at hSw);go_simp;try with_reducible rfl)
  try simp only[Act.put,List.getElem_toArray,List.getElem_cons_zero,List.getElem_cons_succ,List.setIfInBounds_toArray,List.set_cons_zero,List.set_cons_succ]
  refine wpAnyH_tk 4 ?k5v rfl ?k5y ?k5r
  case k5y=>(intro w hSw;(try dsimp only at hSw);go_simp;try with_reducible rfl)
  try simp only[Act.put,List.getElem_toArray,List.getElem_cons_zero,List.getElem_cons_succ,List.setIfInBounds_toArray,List.set_cons_zero,List.set_cons_succ]
  refine wpAnyH_tk 5 ?kav rfl ?kay ?kar
  case kay=>(intro w hSw;(try dsimp only at hSw);go_simp;rw[if_pos (by omega)])
  try simp only[Act.put,List.getElem_toArray,List.getElem_cons_zero,List.getElem_cons_succ,List.setIfInBounds_toArray,List.set_cons_zero,List.set_cons_succ]
  refine wpAnyH_tk 6 ?k6v rfl ?k6y ?k6r
  case k6y=>(intro w hSw;(try dsimp only at hSw);go_simp;try with_reducible rfl)
  try simp only[Act.put,List.getElem_toArray,List.getElem_cons_zero,List.getElem_cons_succ,List.setIfInBounds_toArray,List.set_cons_zero,List.set_cons_succ]
  refine wpAnyH_tk 7 ?k7v rfl ?k7y ?k7r
  case k7y=>(intro w hSw;(try dsimp only at hSw);go_simp;try with_reducible rfl)
  try simp only[Act.put,List.getElem_toArray,List.getElem_cons_zero,List.getElem_cons_succ,List.setIfInBounds_toArray,List.set_cons_zero,List.set_cons_succ]
  refine wpAnyH_tk 8 ?k8v rfl ?k8y ?k8r
  case k8y=>(intro w hSw;(try dsimp only at hSw);go_simp;try with_reducible rfl)
  try simp only[Act.put,List.getElem_toArray,List.getElem_cons_zero,List.getElem_cons_succ,List.setIfInBounds_toArray,List.set_cons_zero,List.set_cons_succ]
  refine wpAnyH_tk 9 ?k9v rfl ?k9y ?k9r
  case k9y=>(intro w hSw;(try dsimp only at hSw);go_simp;try with_reducible rfl)
  try simp only[Act.put,List.getElem_toArray,List.getElem_cons_zero,List.getElem_cons_succ,List.setIfInBounds_toArray,List.set_cons_zero,List.set_cons_succ]
  refine wpAnyH_tk 10 ?k10v rfl ?k10y ?k10r
  case k10y=>(intro w hSw;(try dsimp only at hSw);go_simp;try with_reducible rfl)
  try simp only[Act.put,List.getElem_toArray,List.getElem_cons_zero,List.getElem_cons_succ,List.setIfInBounds_toArray,List.set_cons_zero,List.set_cons_succ]
  refine wpAnyH_tk 11 ?k11v rfl ?k11y ?k11r
  case k11y=>(intro w hSw;(try dsimp only at hSw);go_simp;try with_reducible rfl)
  try simp only[Act.put,List.getElem_toArray,List.getElem_cons_zero,List.getElem_cons_succ,List.setIfInBounds_toArray,List.set_cons_zero,List.set_cons_succ]
  refine wpAnyH_tk 12 ?k12v rfl ?k12y ?k12r
  case k12y=>(intro w hSw;(try dsimp only at hSw);go_simp;try with_reducible rfl)
  try simp only[Act.put,List.getElem_toArray,List.getElem_cons_zero,List.getElem_cons_succ,List.setIfInBounds_toArray,List.set_cons_zero,List.set_cons_succ]
  refine wpAnyH_tk 13 ?k13v rfl ?k13y ?k13r
  case k13y=>(intro w hSw;(try dsimp only at hSw);go_simp;try with_reducible rfl)
  try simp only[Act.put,List.getElem_toArray,List.getElem_cons_zero,List.getElem_cons_succ,List.setIfInBounds_toArray,List.set_cons_zero,List.set_cons_succ]
  obtain⟨ev,hev,HE⟩:∃q,Value.slice (if cap=(1+(x.length:Int)).toNat then some ⟨b,off,none⟩else some ⟨b,off+(1+(x.length:Int)).toNat*11,none⟩) (x.length+y.length+1-(1+(x.length:Int)).toNat) (cap-(1+(x.length:Int)).toNat)=q/\Hid (SL u4 q y):=⟨_,rfl,sl_cut (L:=s::(x++y)) (i:=1+x.length) (by rw[List.length_cons,List.length_append];exact HAT.out.below X4.out.bel HAT.out.lt) (by rw[Nat.add_comm];simp) (by simp;omega) (by simp;omega) (by rw[show(1+(x.length:Int)).toNat=1+x.length by omega]) (by omega) (by omega)⟩
  rw[hev]
  clear hev
  have hbd:Below u4.heap.size u4 u4.drew:=(Below.refl _ _).drew
  generalize u4.drew=t0 at hbd⊢
  have E2:u2.heap.size<=u4.heap.size:=by have:=hq_lt YX.out.Y;have:=NX.out;omega
  have EN:nx<u4.heap.size:=hq_lt YX.out.Y
  refine wpAnyH_ready (rs:=[14,15]) (by kernel_rfl) (by simp) ?_
  refine AllReadyH.cons rfl (fun KK hK=>?_) (AllReadyH.cons rfl (fun KK hK=>?_) AllReadyH.nil)
  ·go_simp
   refine(IHy bH cH nH S bR cR V0 bA cA V z c _ rr ev t0 LL.out (X4.out.below hbd).sc (X4.out.below hbd).A X4.out.ok (HE.out.below hbd) q0 q1).mono ?_
   rintro e t1⟨err3,at3,ao3,m3,cap3,z3,c3,r3,rfl,p0,p1,hab,hb⟩
   have hB1:Below u4.heap.size u4 t1:=hbd.trans (hb.mono hbd.size)
   refine hK.out _ _ hB1 (fun _=>?_)
   clear hK KK
   unfold outV
   try simp only[Act.put,List.getElem_toArray,List.getElem_cons_zero,List.getElem_cons_succ,List.setIfInBounds_toArray,List.set_cons_zero,List.set_cons_succ]
   refine wpAnyH_ready (rs:=[15]) (by kernel_rfl) (by simp) ?_
   refine AllReadyH.cons rfl (fun KK hK=>?_) AllReadyH.nil
   go_simp
   refine hK.out _ _ (hB1.alloc hB1.size _) (fun _=>?_)
   clear hK KK
   try simp only[Act.put,List.getElem_toArray,List.getElem_cons_zero,List.getElem_cons_succ,List.setIfInBounds_toArray,List.set_cons_zero,List.set_cons_succ]
   refine wpAnyH_ready (rs:=[16]) (by kernel_rfl) (by simp) ?_
   refine AllReadyH.cons rfl (fun KK hK=>?_) AllReadyH.nil
   go_simp
   refine hK.out _ _ (hB1.alloc hB1.size _) (fun _=>?_)
   clear hK KK
   refine wpAnyH_done (by kernel_rfl) ?_ _
   have bn:Below t1.heap.size t1 (t1.alloc (.cells #[.int .i64 err3,.int .i64 at3,.slice ao3 m3 cap3,.int .i64 z3,.int .i64 c3,.int .i64 r3] 130)):=(Below.refl _ _).alloc (Nat.le_refl _) _
   have hab':err3=0->AbIn nH S V0 bA u2.heap.size t1 (.slice ao3 m3 cap3) z3 c3:=fun e=>by
    obtain⟨g,cg,U,h1,h2,h3,h4⟩:=hab e
    exact⟨g,cg,U,h1,by have:=hbd.size;omega,h3,h4⟩
   have RES:Hid (LX w bH cH nH S bR cR V0 bA bs bh br bA cA V z c (t1.alloc (.cells #[.int .i64 err3,.int .i64 at3,.slice ao3 m3 cap3,.int .i64 z3,.int .i64 c3,.int .i64 r3] 130))/\YB nH S V0 bA u2.heap.size nx 0 at2 ao m cap2 z2 c2' rr (t1.alloc (.cells #[.int .i64 err3,.int .i64 at3,.slice ao3 m3 cap3,.int .i64 z3,.int .i64 c3,.int .i64 r3] 130))/\YB nH S V0 bA u2.heap.size t1.heap.size err3 at3 ao3 m3 cap3 z3 c3 r3 (t1.alloc (.cells #[.int .i64 err3,.int .i64 at3,.slice ao3 m3 cap3,.int .i64 z3,.int .i64 c3,.int .i64 r3] 130))):=⟨(X4.out.below hB1).below bn,(YX.out.below hB1).below bn,yb_new hab'⟩
   have hn1:nx<t1.heap.size:=by have:=hB1.size;omega
   clear hab hab' hb hB1 bn j0 j1 j2 j3 j4 j5 j6
   go_wp2_with fail
   go_meet
   exact⟨rfl,rfl,t1.heap.size,err3,at3,ao3,m3,cap3,z3,c3,r3,rfl,hn1,p0,p1,RES.out.1,RES.out.2.1,RES.out.2.2⟩
  ·go_simp
   obtain⟨t1,ht1,bn,n1⟩:∃q,t0.alloc (.cells #[.int .i64 0,.int .i64 0,.slice none 0 0,.int .i64 0,.int .i64 0,.int .i64 0] 130)=q/\Below t0.heap.size t0 q/\q.heap[t0.heap.size]?=some (.cells #[.int .i64 0,.int .i64 0,.slice none 0 0,.int .i64 0,.int .i64 0,.int .i64 0] 130):=⟨_,rfl,(Below.refl _ _).alloc (Nat.le_refl _) _,hq_new _ _⟩
   rw[ht1]
   have hB1:Below u4.heap.size u4 t1:=hbd.trans (bn.mono hbd.size)
   refine hK.out _ _ hB1 (fun _=>?_)
   clear hK KK
   try simp only[Act.put,List.getElem_toArray,List.getElem_cons_zero,List.getElem_cons_succ,List.setIfInBounds_toArray,List.set_cons_zero,List.set_cons_succ]
   refine wpAnyH_ready (rs:=[14]) (by kernel_rfl) (by simp) ?_
   refine AllReadyH.cons rfl (fun KK hK=>?_) AllReadyH.nil
   go_simp
   refine(IHy bH cH nH S bR cR V0 bA cA V z c _ rr ev t1 LL.out (X4.out.below hB1).sc (X4.out.below hB1).A X4.out.ok (HE.out.below hB1) q0 q1).mono ?_
   rintro e t2⟨err3,at3,ao3,m3,cap3,z3,c3,r3,rfl,p0,p1,hab,hb⟩
   have hB2:Below u4.heap.size u4 t2:=hB1.trans (hb.mono hB1.size)
   refine hK.out _ _ hB2 (fun _=>?_)
   clear hK KK
   unfold outV
   try simp only[Act.put,List.getElem_toArray,List.getElem_cons_zero,List.getElem_cons_succ,List.setIfInBounds_toArray,List.set_cons_zero,List.set_cons_succ]
   have n2:=hq_below n1 hb
   have f0:=(hq_cell n2 0).trans rfl
   have f1:=(hq_cell n2 1).trans rfl
   have f2:=(hq_cell n2 2).trans rfl
   have f3:=(hq_cell n2 3).trans rfl
   have f4:=(hq_cell n2 4).trans rfl
   have f5:=(hq_cell n2 5).trans rfl
   have ff:=hq_free n2
   have fl:=hq_lt n2
   have hnA:bA≠t0.heap.size:=by have:=(X4.out.below hbd).A.lt;omega
   have hny:t0.heap.size<t1.heap.size:=hq_lt n1
   have hnx:nx<t0.heap.size:=by have:=hbd.size;omega
   have hu4:u4.heap.size<=t0.heap.size:=hbd.size
   obtain⟨ny,hnye⟩:∃q,t0.heap.size=q:=⟨_,rfl⟩
   rw[hnye]at n2 f0 f1 f2 f3 f4 f5 ff fl hnA hny hnx hu4⊢
   have hab':err3=0->AbIn nH S V0 bA u2.heap.size t2 (.slice ao3 m3 cap3) z3 c3:=fun e=>by
    obtain⟨g,cg,U,h1,h2,h3,h4⟩:=hab e
    exact⟨g,cg,U,h1,by omega,h3,h4⟩
   have hYB:YB nH S V0 bA u2.heap.size ny err3 at3 ao3 m3 cap3 z3 c3 r3 (set6 t2 ny (.int .i64 err3) (.int .i64 at3) (.slice ao3 m3 cap3) (.int .i64 z3) (.int .i64 c3) (.int .i64 r3)):=by
    refine⟨hq_set6 n2 _ _ _ _ _ _,fun e=>?_⟩
    obtain⟨g,cg,U,h1,h2,h3,h4⟩:=hab e
    have hne:g≠ny:=by omega
    exact⟨g,cg,U,h1,by omega,hne,arr_set6 h3 hne _ _ _ _ _ _,h4⟩
   have bs6:Below u4.heap.size u4 (set6 t2 ny (.int .i64 err3) (.int .i64 at3) (.slice ao3 m3 cap3) (.int .i64 z3) (.int .i64 c3) (.int .i64 r3)):=below_set6 hB2 hu4 _ _ _ _ _ _
   have RES:Hid (LX w bH cH nH S bR cR V0 bA bs bh br bA cA V z c (set6 t2 ny (.int .i64 err3) (.int .i64 at3) (.slice ao3 m3 cap3) (.int .i64 z3) (.int .i64 c3) (.int .i64 r3))/\YB nH S V0 bA u2.heap.size nx 0 at2 ao m cap2 z2 c2' rr (set6 t2 ny (.int .i64 err3) (.int .i64 at3) (.slice ao3 m3 cap3) (.int .i64 z3) (.int .i64 c3) (.int .i64 r3))/\YB nH S V0 bA u2.heap.size ny err3 at3 ao3 m3 cap3 z3 c3 r3 (set6 t2 ny (.int .i64 err3) (.int .i64 at3) (.slice ao3 m3 cap3) (.int .i64 z3) (.int .i64 c3) (.int .i64 r3))):=⟨X4.out.below bs6,YX.out.below bs6,hYB⟩
   clear hab hab' hb hYB n1 n2 ht1 bn hnye
   refine wpAnyH_ready (rs:=[16]) (by kernel_rfl) (by simp) ?_
   refine AllReadyH.cons rfl (fun KK hK=>?_) AllReadyH.nil
   go_simp
   refine hK.out _ _ bs6 (fun _=>?_)
   clear hK KK bs6 f0 f1 f2 f3 f4 f5 ff fl j0 j1 j2 j3 j4 j5 j6
   refine wpAnyH_done (by kernel_rfl) ?_ _
   go_wp2_with fail
   go_meet
   exact⟨rfl,rfl,ny,err3,at3,ao3,m3,cap3,z3,c3,r3,rfl,hnx,p0,p1,RES.out.1,RES.out.2.1,RES.out.2.2⟩
 case rest=>
 obtain⟨rfl,rfl,ny,err3,at3,ao3,m3,cap3,z3,c3,r3,rfl,hxy,p0,p1,l5,y5,y6⟩:=hcut
 have X5:Hid (LX w bH cH nH S bR cR V0 bA bs bh br bA cA V z c wc):=l5
 have Y5:Hid (YB nH S V0 bA u2.heap.size nx 0 at2 ao m cap2 z2 c2' rr wc):=y5
 have Y6:Hid (YB nH S V0 bA u2.heap.size ny err3 at3 ao3 m3 cap3 z3 c3 r3 wc):=y6
 clear l5 y5 y6 X4 YX Q4
 generalize wc=u5 at X5 Y5 Y6⊢
 obtain⟨v0,v1,v2,v3,v4,v5,vf,vl⟩:=Y6.out.cells
 by_cases hy0:err3=0
 rotate_left
 ·obtain⟨y0,y1,y2,y3,y4,y5,yf,yl⟩:=X5.out.res
  go_wp2_with fail
  refine bodyPost_ret (v:=outV err3 at3 (.slice ao3 m3 cap3) z3 c3 r3) (by simp[results,Try.results70,go_sem,outV, *]) rfl ⟨err3,at3,ao3,m3,cap3,z3,c3,r3,rfl,p0,p1,fun e=>absurd e hy0,?_⟩
  exact below_set6 X5.out.bel (by have:=BO.out;omega) _ _ _ _ _ _
 subst hy0
 obtain⟨gx,cgx,Ux,hvx,nwx,_,Ax,okx⟩:=Y5.out.ab rfl
 obtain⟨gy,cgy,Uy,hvy,nwy,_,Ay,oky⟩:=Y6.out.ab rfl
 simp only[Value.slice.injEq]at hvx hvy
 obtain⟨rfl,rfl,rfl⟩:=hvx
 obtain⟨rfl,rfl,rfl⟩:=hvy
 obtain⟨x0,x1,x2,x3,x4,x5,xf,xl⟩:=Y5.out.cells
 go_wp2_with fail
 refine(l5Join_any nH S V0 _ _ Ux _ _ _ _ Uy _ _ u5 Ax Ay okx oky).mono ?_
 rintro e u6⟨g4,cg4,U4,z4,c4,rfl,ng4,A4,ok4,hb⟩
 have X6:Hid (LX w bH cH nH S bR cR V0 bA bs bh br bA cA V z c u6):=X5.out.below hb
 have Y7:=Y6.out.below hb
 have A4:Hid (Arr u6 g4 (8*6) (vF U4)):=A4
 have OK4:Hid (absOK nH S 8 V0 8 U4 z4 c4=true):=ok4
 have hny5:ny<u5.heap.size:=vl
 have hbr5:br<u5.heap.size:=hq_lt X5.out.R
 have hw5:w.heap.size<=u5.heap.size:=X5.out.bel.size
 have hbrny:br≠ny:=by have:=LB.out;have:=NX.out;omega
 have hwny:w.heap.size<=ny:=by have:=LB.out;have:=NX.out;omega
 clear hb ok4 Ax Ay okx oky nwx nwy x0 x1 x2 x3 x4 x5 xf xl v0 v1 v2 v3 v4 v5 vf vl X5 Y5 Y6
 obtain⟨v0,v1,v2,v3,v4,v5,vf,vl⟩:=Y7.cells
 obtain⟨y0,y1,y2,y3,y4,y5,yf,yl⟩:=X6.out.res
 clear Y7
 go_wp2_with fail
 refine bodyPost_ret (v:=outV 0 at3 (.slice (some ⟨g4,0,none⟩) 8 cg4) z4 c4 r3) (by simp[results,Try.results70,go_sem,outV, *]) rfl ⟨0,at3,_,_,_,z4,c4,r3,rfl,p0,p1,fun _=>⟨g4,cg4,U4,rfl,Or.inr (by omega),?_,OK4.out⟩,?_⟩
 ·refine arr_set6 (((A4.out.other ?_ _).other ?_ _).other ?_ _) (by omega) _ _ _ _ _ _
  all_goals(show ny≠g4;omega)
 ·refine below_set6 ?_ (by have:=BO.out;omega) _ _ _ _ _ _
  exact((X6.out.bel.setCell (p:=⟨ny,2,none⟩) hwny _).setCell (p:=⟨ny,3,none⟩) hwny _).setCell (p:=⟨ny,4,none⟩) hwny _
theorem LX.nh{w:World}{bH cH nH:Nat}{S:Nat->HS}{bR cR:Nat}{V0:Nat->VV}{b0 bs bh br bA cA:Nat}{V:Nat->VV}{z c:Int}{u:World}(h:LX w bH cH nH S bR cR V0 b0 bs bh br bA cA V z c u):bA≠bh:=fun e=>by
 have q:=h.A.cell (i:=3) (by omega);rw[e,hq_cell h.hd 3]at q;simp at q
theorem lst_at{pre rest:List SV}{s:SV}(j:Nat)(hj:j<11):stF (lst (pre++s::rest)) (pre.length*11+j)=stC s j:=by
 rw[stF_at _ _ _ hj];congr 1
 unfold lst;simp
theorem st_in{w:World}{b off n:Nat}{pre rest:List SV}{s:SV}(h:At w b off (n*11) (stF (lst (pre++s::rest))))(hn:pre.length<n):w.cell? ⟨b,off+pre.length*11,none⟩=some (.int .i64 s.k)/\w.cell? ⟨b,off+pre.length*11+1,none⟩=some (.int .i64 s.op)/\w.cell? ⟨b,off+pre.length*11+2,none⟩=some (.int .i64 s.d)/\w.cell? ⟨b,off+pre.length*11+3,none⟩=some (.int .i64 s.a)/\w.cell? ⟨b,off+pre.length*11+4,none⟩=some (.int .i64 s.b)/\w.cell? ⟨b,off+pre.length*11+5,none⟩=some (.int .i64 s.imm)/\w.cell? ⟨b,off+pre.length*11+6,none⟩=some (.int .i64 s.h)/\w.cell? ⟨b,off+pre.length*11+7,none⟩=some (.int .i64 s.cond)/\w.cell? ⟨b,off+pre.length*11+8,none⟩=some (.int .i64 s.thn)/\w.cell? ⟨b,off+pre.length*11+9,none⟩=some (.int .i64 s.els)/\w.cell? ⟨b,off+pre.length*11+10,none⟩=some (.int .i64 s.proc)/\b<w.heap.size:=
 ⟨(h.cell (i:=pre.length*11+0) (by omega)).trans (congrArg some (lst_at 0 (by omega))),(h.cell (i:=pre.length*11+1) (by omega)).trans (congrArg some (lst_at 1 (by omega))),(h.cell (i:=pre.length*11+2) (by omega)).trans (congrArg some (lst_at 2 (by omega))),(h.cell (i:=pre.length*11+3) (by omega)).trans (congrArg some (lst_at 3 (by omega))),(h.cell (i:=pre.length*11+4) (by omega)).trans (congrArg some (lst_at 4 (by omega))),(h.cell (i:=pre.length*11+5) (by omega)).trans (congrArg some (lst_at 5 (by omega))),(h.cell (i:=pre.length*11+6) (by omega)).trans (congrArg some (lst_at 6 (by omega))),(h.cell (i:=pre.length*11+7) (by omega)).trans (congrArg some (lst_at 7 (by omega))),(h.cell (i:=pre.length*11+8) (by omega)).trans (congrArg some (lst_at 8 (by omega))),(h.cell (i:=pre.length*11+9) (by omega)).trans (congrArg some (lst_at 9 (by omega))),(h.cell (i:=pre.length*11+10) (by omega)).trans (congrArg some (lst_at 10 (by omega))),h.lt⟩
theorem stb_ins{u:World}{sb:Nat}{s:SV}(h:u.heap[sb]?=some (.cells (stL s).toArray 33)):u.cell? ⟨sb,1,none⟩=some (.int .i64 s.op)/\u.cell? ⟨sb,2,none⟩=some (.int .i64 s.d)/\u.cell? ⟨sb,3,none⟩=some (.int .i64 s.a)/\u.cell? ⟨sb,4,none⟩=some (.int .i64 s.b)/\u.cell? ⟨sb,5,none⟩=some (.int .i64 s.imm)/\u.cell? ⟨sb,6,none⟩=some (.int .i64 s.h):=
 ⟨(hq_cell h 1).trans rfl,(hq_cell h 2).trans rfl,(hq_cell h 3).trans rfl,(hq_cell h 4).trans rfl,(hq_cell h 5).trans rfl,(hq_cell h 6).trans rfl⟩
theorem l5Block_go(xs:List SV)(hl:xs.length<=1048576)(hw:Wl xs)(IH:∀ys:List SV,ys.length<xs.length->Wl ys->BC ys):BC xs:=by
 intro bH cH nH S bR cR V0 bA cA V z c at' rounds v w lH h1 h2 h3 h4 r0 r1
 have N1:Hid (bH<w.heap.size/\bR<w.heap.size):=⟨h1.h.lt,h1.r.lt⟩
 have LL:Hid (nH<=1048576):=lH
 have X0:Hid (LX w bH cH nH S bR cR V0 bA w.heap.size (w.heap.size+1) (w.heap.size+1+1) bA cA V z c (((w.alloc (.cells #[.slice (some ⟨bH,0,none⟩) nH cH,.slice (some ⟨bR,0,none⟩) 8 cR] 47)).alloc (.cells #[.slice (some ⟨bA,0,none⟩) 8 cA,.int .i64 z,.int .i64 c] 106)).alloc (.cells oz 130))):=lx_new w h1 h2 h3
 have HL:Hid (SL w v xs):=h4
 obtain⟨ao,cap,rfl,hcap,hrow⟩:=h4
 have HROW:Hid (InRow w ao (xs.length*11) (stF (lst xs))):=hrow
 clear h1 h2 h3 lH hrow
 go_enter Try.func58,Try.ntmps58
 go_upto_region 1 with fail
 unfold oz at X0
 obtain⟨u,hu⟩:∃y,((w.alloc (.cells #[.slice (some ⟨bH,0,none⟩) nH cH,.slice (some ⟨bR,0,none⟩) 8 cR] 47)).alloc (.cells #[.slice (some ⟨bA,0,none⟩) 8 cA,.int .i64 z,.int .i64 c] 106)).alloc (.cells #[.int .i64 0,.int .i64 0,.slice none 0 0,.int .i64 0,.int .i64 0,.int .i64 0] 130)=y:=⟨_,rfl⟩
 rw[hu]at X0⊢
 obtain⟨bs,hbs⟩:∃y,w.heap.size=y:=⟨_,rfl⟩
 obtain⟨bh,hbh⟩:∃y,w.heap.size+1=y:=⟨_,rfl⟩
 obtain⟨br,hbr⟩:∃y,w.heap.size+1+1=y:=⟨_,rfl⟩
 have X0:Hid (LX w bH cH nH S bR cR V0 bA bs bh br bA cA V z c u):=by rw[<-hbs,<-hbh,<-hbr];exact X0
 rw[hbr,hbh,hbs]
 have BO:Hid (w.heap.size=bs/\bs<bh/\bh<br):=⟨hbs,by omega,by omega⟩
 clear hu hbs hbh hbr
 go_wp2_with fail
 go_loopw [4,11](fun rv iv wr=>∃(pre rest:List SV)(rounds:Int)(g cg:Nat)(U:Nat->VV)(z' c':Int),rv=.int .i64 rounds/\iv=.int .i64 (pre.length:Int)/\Hid (xs=pre++rest/\Wl rest)/\pre.length+rest.length=xs.length/\0<=rounds/\rounds<=1000/\LX w bH cH nH S bR cR V0 bA bs bh br g cg U z' c' wr)(fun _ iv _=>xs.length-(intOf iv).toNat)
 case atStart=>exact⟨[],xs,rounds,bA,cA,V,z,c,rfl,rfl,⟨rfl,hw⟩,by simp,r0,r1,X0.out⟩
 case round=>
  clear X0 r0 r1 hw
  obtain⟨pre,rest,rounds,g,cg,U,z',c',rfl,rfl,HX,hlen,r0,r1,x⟩:=hrel
  have X:Hid (LX w bH cH nH S bR cR V0 bA bs bh br g cg U z' c' wr):=x
  clear x
  obtain⟨hxs,hwl⟩:=HX.out
  have hwi:=hwl.inv
  clear hwl
  rcases hwi with rfl|⟨s,rest,rfl,hk,ht,he,hwr⟩|⟨s,x,y,rest,rfl,hk,ht,he,hwx,hwy,hwr⟩
  ·
   have hend:¬(pre.length:Int)<(xs.length:Int):=by simp at hlen;omega
   obtain⟨_,⟨c0,c1,c2⟩,cl1,cl2⟩:=X.out.cells
   obtain⟨y0,y1,y2,y3,y4,y5,yf,yl⟩:=X.out.res
   have YA:Hid (Arr wr g (8*6) (vF U)/\g≠br/\absOK nH S 8 V0 8 U z' c'=true/\(g=bA∨w.heap.size<=g)/\Below w.heap.size w wr):=⟨X.out.A,X.out.ne,X.out.ok,X.out.nw,X.out.bel⟩
   have hbr:bh≠br:=by have:=BO.out;omega
   clear X HX hxs hlen
   go_wp2_with fail
   refine bodyPost_ret (v:=outV 0 0 (.slice (some ⟨g,0,none⟩) 8 cg) z' c' rounds) (by simp[results,Try.results58,go_sem,outV, *]) rfl ⟨0,0,_,_,_,z',c',rounds,rfl,r0,r1,fun _=>⟨g,cg,U,rfl,YA.out.2.2.2.1,?_,YA.out.2.2.1⟩,?_⟩
   ·exact arr_set6 YA.out.1 YA.out.2.1 _ _ _ _ _ _
   ·exact below_set6 YA.out.2.2.2.2 (by have:=BO.out;omega) _ _ _ _ _ _
  ·
   obtain⟨b,off,rfl,hat⟩:∃b off,ao=some ⟨b,off,none⟩/\At w b off (xs.length*11) (stF (lst xs)):=by
    rcases HROW.out with h|h
    ·simp at hlen;omega
    ·exact h
   have hplt:pre.length<xs.length:=by simp at hlen;omega
   have HAT:Hid (At w b off (xs.length*11) (stF (lst xs))):=hat
   have hat':At wr b off (xs.length*11) (stF (lst (pre++s::rest))):=by rw[<-hxs];exact hat.below X.out.bel hat.lt
   obtain⟨k0,k1,k2,k3,k4,k5,k6,k7,k8,k9,k10,kl⟩:=st_in hat' hplt
   have hplt':(pre.length:Int)<(xs.length:Int):=by omega
   clear hat hat' hxs
   have HT:Hid (s.thn=0/\s.els=0/\s.k=1):=⟨ht,he,hk⟩
   clear ht he hk
   go_upto_region 4 with fail
   obtain⟨u1,hu1,bu1⟩:∃q,wr.alloc (.cells (stL s).toArray 33)=q/\Below wr.heap.size wr q:=⟨_,rfl,(Below.refl _ _).alloc (Nat.le_refl _) _⟩
   have q1:=hq_new wr (.cells (stL s).toArray 33)
   rw[hu1]at q1
   unfold stL at hu1 q1
   rw[hu1]
   have X1:Hid (LX w bH cH nH S bR cR V0 bA bs bh br g cg U z' c' u1):=X.out.below bu1
   have HSB0:bh<wr.heap.size:=X.out.hd.lt
   have HBRS0:br<wr.heap.size:=hq_lt X.out.R
   obtain⟨sb,hsb⟩:∃q,wr.heap.size=q:=⟨_,rfl⟩
   rw[hsb]at q1 HSB0 HBRS0⊢
   have HSB:Hid (sb≠bh):=(by omega:sb≠bh)
   have HBRS:Hid (br<sb):=HBRS0
   have Q1:Hid (u1.heap[sb]?=some (.cells (stL s).toArray 33)):=q1
   clear hu1 bu1 q1 hsb HSB0 HBRS0 k0 k1 k2 k3 k4 k5 k6 k7 k8 k9 k10 kl X
   obtain⟨k0,k7,k8,k9,kl⟩:=stb Q1.out
   rw[HT.out.1]at k8
   rw[HT.out.2.1]at k9
   rw[HT.out.2.2]at k0
   obtain⟨i1,i2,i3,i4,i5,i6⟩:=stb_ins Q1.out
   obtain⟨⟨s0,s1⟩,⟨c0,c1,c2⟩,cl1,cl2⟩:=X1.out.cells
   go_wp2_with fail
   refine(specTr_any bH cH nH S bR cR 8 V0 g cg 8 U z' c' s.op s.d s.a s.b s.imm s.h u1 LL.out (by omega) (by omega) X1.out.sc X1.out.A).mono ?_
   rintro e u2⟨err,V2,z2,c2',hans,hok,_,hb⟩
   have X2:Hid (LX w bH cH nH S bR cR V0 bA bs bh br g cg U z' c' u2):=X1.out.below hb
   have Q2:Hid (u2.heap[sb]?=some (.cells (stL s).toArray 33)):=hq_below Q1.out hb
   have hbr1:br<u1.heap.size:=hq_lt X1.out.R
   have hw1:w.heap.size<=u1.heap.size:=X1.out.bel.size
   clear hb X1 Q1 s0 s1 c0 c1 c2 cl1 cl2 i1 i2 i3 i4 i5 i6 k0 k7 k8 k9 kl
   rcases hans with⟨hne,rfl⟩|⟨rfl,g2,cg2,hg2,rfl,A2⟩
   ·go_wp2_with fail
    refine(l5Bad_any _ _ _ _).mono ?_
    rintro e t⟨rfl,hb⟩
    have Y:Hid (LX w bH cH nH S bR cR V0 bA bs bh br g cg U z' c' t):=(X2.out.below ((Below.refl _ _).alloc (Nat.le_refl _) _)).below hb
    obtain⟨y0,y1,y2,y3,y4,y5,yf,yl⟩:=Y.out.res
    unfold outV
    clear hok
    go_wp2_with fail
    refine bodyPost_ret (v:=outV err (wrap64 (at'+(pre.length:Int))) (.slice none 0 0) 0 0 rounds) (by simp[results,Try.results58,go_sem,outV, *]) rfl ⟨err,_,none,0,0,0,0,rounds,rfl,r0,r1,fun e=>absurd e hne,?_⟩
    exact below_set6 Y.out.bel (by have:=BO.out;omega) _ _ _ _ _ _
   ·have OK2:Hid (absOK nH S 8 V0 8 V2 z2 c2'=true):=hok rfl
    have bn:Below u2.heap.size u2 (u2.alloc (.cells #[.int .i64 0,.slice (some ⟨g2,0,none⟩) 8 cg2,.int .i64 z2,.int .i64 c2'] 123)):=(Below.refl _ _).alloc (Nat.le_refl _) _
    have n3:=hq_new u2 (.cells #[.int .i64 0,.slice (some ⟨g2,0,none⟩) 8 cg2,.int .i64 z2,.int .i64 c2'] 123)
    obtain⟨u3,hu3⟩:∃q,u2.alloc (.cells #[.int .i64 0,.slice (some ⟨g2,0,none⟩) 8 cg2,.int .i64 z2,.int .i64 c2'] 123)=q:=⟨_,rfl⟩
    rw[hu3]at bn n3
    have X3:Hid (LX w bH cH nH S bR cR V0 bA bs bh br g cg U z' c' u3):=X2.out.below bn
    have Q3:Hid (u3.heap[sb]?=some (.cells (stL s).toArray 33)):=hq_below Q2.out bn
    have A3:Hid (Arr u3 g2 (8*6) (vF V2)):=A2.below bn A2.lt
    have m0:=(hq_cell n3 0).trans rfl
    have m1:=(hq_cell n3 1).trans rfl
    have m2:=(hq_cell n3 2).trans rfl
    have m3:=(hq_cell n3 3).trans rfl
    have ml:=hq_lt n3
    go_upto_region 7 with fail
    obtain⟨nt,hnt⟩:∃q,u2.heap.size=q:=⟨_,rfl⟩
    rw[hnt]at m0 m1 m2 m3 ml⊢
    clear hu3 bn n3 hnt A2 hok X2 Q2
    obtain⟨_,⟨c0,c1,c2⟩,cl1,cl2⟩:=X3.out.cells
    have hf:=X3.out.hd.free
    obtain⟨k0,k7,k8,k9,kl⟩:=stb Q3.out
    rw[HT.out.1]at k8
    rw[HT.out.2.1]at k9
    have hsbh:sb≠bh:=HSB.out
    have Y:Hid (LX w bH cH nH S bR cR V0 bA bs bh br g2 cg2 V2 z2 c2' (((u3.setCell ⟨bh,0,none⟩ (.slice (some ⟨g2,0,none⟩) 8 cg2)).setCell ⟨bh,1,none⟩ (.int .i64 z2)).setCell ⟨bh,2,none⟩ (.int .i64 c2'))):=X3.out.put A3.out OK2.out (Or.inr (by omega)) (by omega) (by have:=BO.out;omega) (by have:=N1.out;have:=BO.out;omega) (by have:=N1.out;have:=BO.out;omega)
    have hpl:(pre.length:Int)<1048576:=by have:=hlen;simp at this;omega
    clear X3 A3 Q3
    go_wp2_with fail
    go_roundw
    case rel=>exact⟨pre++[s],rest,rounds,g2,cg2,V2,z2,c2',rfl,by simp;try omega,⟨by rw[HX.out.1];simp,hwr⟩,by simp at hlen⊢;omega,r0,r1,Y.out⟩
    case measure=>simp[intOf]at hlen⊢;omega
  ·
   obtain⟨b,off,rfl,hat⟩:∃b off,ao=some ⟨b,off,none⟩/\At w b off (xs.length*11) (stF (lst xs)):=by
    rcases HROW.out with h|h
    ·simp at hlen;omega
    ·exact h
   have hplt:pre.length<xs.length:=by simp at hlen;omega
   have HAT:Hid (At w b off (xs.length*11) (stF (lst xs))):=hat
   have hat':At wr b off (xs.length*11) (stF (lst (pre++s::(x++y++rest)))):=by rw[<-hxs];exact hat.below X.out.bel hat.lt
   obtain⟨k0,k1,k2,k3,k4,k5,k6,k7,k8,k9,k10,kl⟩:=st_in hat' hplt
   have hplt':(pre.length:Int)<(xs.length:Int):=by omega
   clear hat hat' hxs
   have HT:Hid (s.thn=(x.length:Int)/\s.els=(y.length:Int)):=⟨ht,he⟩
   have hsum:pre.length+1+x.length+y.length+rest.length=xs.length:=by simp at hlen;omega
   have HSUM:Hid (pre.length+1+x.length+y.length+rest.length=xs.length):=hsum
   clear ht he
   go_upto_region 4 with fail
   obtain⟨u1,hu1,bu1⟩:∃q,wr.alloc (.cells (stL s).toArray 33)=q/\Below wr.heap.size wr q:=⟨_,rfl,(Below.refl _ _).alloc (Nat.le_refl _) _⟩
   have q1:=hq_new wr (.cells (stL s).toArray 33)
   rw[hu1]at q1
   unfold stL at hu1 q1
   rw[hu1]
   have X1:Hid (LX w bH cH nH S bR cR V0 bA bs bh br g cg U z' c' u1):=X.out.below bu1
   have HSB0:bh<wr.heap.size:=X.out.hd.lt
   have HBRS0:br<wr.heap.size:=hq_lt X.out.R
   obtain⟨sb,hsb⟩:∃q,wr.heap.size=q:=⟨_,rfl⟩
   rw[hsb]at q1 HSB0 HBRS0⊢
   have HSB:Hid (sb≠bh):=(by omega:sb≠bh)
   have HBRS:Hid (br<sb):=HBRS0
   have Q1:Hid (u1.heap[sb]?=some (.cells (stL s).toArray 33)):=q1
   clear hu1 bu1 q1 hsb HSB0 HBRS0 k0 k1 k2 k3 k4 k5 k6 k7 k8 k9 k10 kl X
   obtain⟨k0,k7,k8,k9,kl⟩:=stb Q1.out
   rw[HT.out.1]at k8
   rw[HT.out.2]at k9
   have hk':¬s.k=1:=hk
   go_upto_region 10 with fail
   clear k0 k7 k8 k9 kl
   go_cut [15](fun s15 wx=>∃(ny:Nat)(err3 at3:Int)(ao3:Option Addr)(m3 cap3:Nat)(z3 c3 r3:Int),s15=.pointer (some ⟨ny,0,none⟩)/\sb<ny/\0<=r3/\r3<=1000/\LX w bH cH nH S bR cR V0 bA bs bh br g cg U z' c' wx/\wx.heap[sb]?=some (.cells (stL s).toArray 33)/\YB nH S V0 g sb ny err3 at3 ao3 m3 cap3 z3 c3 r3 wx)
   case first=>
    have j0:∀w',Below u1.heap.size u1 w'->w'.cell? ⟨bs,0,none⟩=some (.slice (some ⟨bH,0,none⟩) nH cH):=fun w' h=>(X1.out.below h).cells.1.1
    have j1:∀w',Below u1.heap.size u1 w'->w'.cell? ⟨bs,1,none⟩=some (.slice (some ⟨bR,0,none⟩) 8 cR):=fun w' h=>(X1.out.below h).cells.1.2
    have j2:∀w',Below u1.heap.size u1 w'->w'.cell? ⟨bh,0,none⟩=some (.slice (some ⟨g,0,none⟩) 8 cg):=fun w' h=>(X1.out.below h).cells.2.1.1
    have j3:∀w',Below u1.heap.size u1 w'->w'.cell? ⟨bh,1,none⟩=some (.int .i64 z'):=fun w' h=>(X1.out.below h).cells.2.1.2.1
    have j4:∀w',Below u1.heap.size u1 w'->w'.cell? ⟨bh,2,none⟩=some (.int .i64 c'):=fun w' h=>(X1.out.below h).cells.2.1.2.2
    have j5:∀w',Below u1.heap.size u1 w'->w'.cell? ⟨sb,8,none⟩=some (.int .i64 (x.length:Int)):=fun w' h=>by rw[<-HT.out.1];exact(stb (hq_below Q1.out h)).2.2.1
    have j6:∀w',Below u1.heap.size u1 w'->w'.cell? ⟨sb,9,none⟩=some (.int .i64 (y.length:Int)):=fun w' h=>by rw[<-HT.out.2];exact(stb (hq_below Q1.out h)).2.2.2.1
    have hsb1:sb<u1.heap.size:=hq_lt Q1.out
    obtain⟨i1,hi1⟩:∃q:Nat,q=pre.length+1+x.length+y.length:=⟨_,rfl⟩
    obtain⟨pa,hpa⟩:∃q:Nat,q=pre.length+1:=⟨_,rfl⟩
    obtain⟨pb,hpb⟩:∃q:Nat,q=pre.length+1+x.length:=⟨_,rfl⟩
    have wa:IntKind.i64.wrap ((pre.length:Int)+1)=(pa:Int):=by rw[IntKind.wrap_i64]<;>omega
    have wb:IntKind.i64.wrap ((pa:Int)+(x.length:Int))=(pb:Int):=by rw[IntKind.wrap_i64]<;>omega
    have wc:IntKind.i64.wrap ((pb:Int)+(y.length:Int))=(i1:Int):=by rw[IntKind.wrap_i64]<;>omega
    have hz1:i1<=xs.length:=by omega
    have hz2:pre.length<=i1:=by omega
    have hz3:i1<=cap:=by omega
    have hz4:(i1:Int)<=(cap:Int):=by omega
    have hz5:(pre.length:Int)<=(i1:Int):=by omega
    clear hpa hpb
    have HI1:Hid (i1=pre.length+1+x.length+y.length):=hi1
    clear hsum hi1
    refine wp_region_held_drew (S:=fun w'=>Below u1.heap.size u1 w') (by kernel_rfl) (Below.refl _ _).drew (fun _=>?_)
    refine wpAnyH_tk 0 ?k1v rfl ?k1y ?k1r
    case k1y=>(intro w hSw;(try dsimp only at hSw);go_simp;try with_reducible rfl)
    try simp only[Act.put,List.getElem_toArray,List.getElem_cons_zero,List.setIfInBounds_toArray,List.set_cons_zero,List.set_cons_succ]
    refine wpAnyH_tk 1 ?k2v rfl ?k2y ?k2r
    case k2y=>(intro w hSw;(try dsimp only at hSw);go_simp;try with_reducible rfl)
    try simp only[Act.put,List.getElem_toArray,List.getElem_cons_zero,List.getElem_cons_succ,List.setIfInBounds_toArray,List.set_cons_zero,List.set_cons_succ]
    refine wpAnyH_tk 2 ?k3v rfl ?k3y ?k3r
    case k3y=>(intro w hSw;(try dsimp only at hSw);go_simp;try with_reducible rfl)
    try simp only[Act.put,List.getElem_toArray,List.getElem_cons_zero,List.getElem_cons_succ,List.setIfInBounds_toArray,List.set_cons_zero,List.set_cons_succ]
    refine wpAnyH_tk 3 ?k4v rfl ?k4y ?k4r
    case k4y=>(intro w hSw;(try dsimp only at hSw);go_simp;try with_reducible rfl)
    try simp only[Act.put,List.getElem_toArray,List.getElem_cons_zero,List.getElem_cons_succ,List.setIfInBounds_toArray,List.set_cons_zero,List.set_cons_succ]
    refine wpAnyH_tk 4 ?k5v rfl ?k5y ?k5r
    case k5y=>(intro w hSw;(try dsimp only at hSw);go_simp;try with_reducible rfl)
    try simp only[Act.put,List.getElem_toArray,List.getElem_cons_zero,List.getElem_cons_succ,List.setIfInBounds_toArray,List.set_cons_zero,List.set_cons_succ]
    refine wpAnyH_tk 5 ?k6v rfl ?k6y ?k6r
    case k6y=>(intro w hSw;(try dsimp only at hSw);go_simp;try with_reducible rfl)
    try simp only[Act.put,List.getElem_toArray,List.getElem_cons_zero,List.getElem_cons_succ,List.setIfInBounds_toArray,List.set_cons_zero,List.set_cons_succ]
    refine wpAnyH_tk 6 ?k7v rfl ?k7y ?k7r
    case k7y=>(intro w hSw;(try dsimp only at hSw);go_simp;try with_reducible rfl)
    try simp only[Act.put,List.getElem_toArray,List.getElem_cons_zero,List.getElem_cons_succ,List.setIfInBounds_toArray,List.set_cons_zero,List.set_cons_succ]
    refine wpAnyH_tk 7 ?k8v rfl ?k8y ?k8r
    case k8y=>(intro w hSw;(try dsimp only at hSw);go_simp;try with_reducible rfl)
    try simp only[Act.put,List.getElem_toArray,List.getElem_cons_zero,List.getElem_cons_succ,List.setIfInBounds_toArray,List.set_cons_zero,List.set_cons_succ]
    refine wpAnyH_tk 8 ?k9v rfl ?k9y ?k9r
    case k9y=>(intro w hSw;(try dsimp only at hSw);go_simp;try with_reducible rfl)
    try simp only[Act.put,List.getElem_toArray,List.getElem_cons_zero,List.getElem_cons_succ,List.setIfInBounds_toArray,List.set_cons_zero,List.set_cons_succ]
    refine wpAnyH_tk 9 ?k10v rfl ?k10y ?k10r
    case k10y=>(intro w hSw;(try dsimp only at hSw);go_simp;try with_reducible rfl)
    try simp only[Act.put,List.getElem_toArray,List.getElem_cons_zero,List.getElem_cons_succ,List.setIfInBounds_toArray,List.set_cons_zero,List.set_cons_succ]
    refine wpAnyH_tk 10 ?k11v rfl ?k11y ?k11r
    case k11y=>(intro w hSw;(try dsimp only at hSw);go_simp;try with_reducible rfl)
    try simp only[Act.put,List.getElem_toArray,List.getElem_cons_zero,List.getElem_cons_succ,List.setIfInBounds_toArray,List.set_cons_zero,List.set_cons_succ]
    refine wpAnyH_tk 11 (.slice (if cap=pre.length then some ⟨b,off,none⟩else some ⟨b,off+pre.length*11,none⟩) (i1-pre.length) (cap-pre.length)) rfl ?kby ?kbr
    case kby=>(intro w hSw;(try dsimp only at hSw);go_simp;first|done|(rw[if_pos (by omega)];simp))
    try simp only[Act.put,List.getElem_toArray,List.getElem_cons_zero,List.getElem_cons_succ,List.setIfInBounds_toArray,List.set_cons_zero,List.set_cons_succ]
    refine wpAnyH_tk 12 ?k12v rfl ?k12y ?k12r
    case k12y=>(intro w hSw;(try dsimp only at hSw);go_simp;try with_reducible rfl)
    try simp only[Act.put,List.getElem_toArray,List.getElem_cons_zero,List.getElem_cons_succ,List.setIfInBounds_toArray,List.set_cons_zero,List.set_cons_succ]
    refine wpAnyH_tk 13 ?k13v rfl ?k13y ?k13r
    case k13y=>(intro w hSw;(try dsimp only at hSw);go_simp;try with_reducible rfl)
    try simp only[Act.put,List.getElem_toArray,List.getElem_cons_zero,List.getElem_cons_succ,List.setIfInBounds_toArray,List.set_cons_zero,List.set_cons_succ]
    refine wpAnyH_tk 14 ?k14v rfl ?k14y ?k14r
    case k14y=>(intro w hSw;(try dsimp only at hSw);go_simp;try with_reducible rfl)
    try simp only[Act.put,List.getElem_toArray,List.getElem_cons_zero,List.getElem_cons_succ,List.setIfInBounds_toArray,List.set_cons_zero,List.set_cons_succ]
    obtain⟨ev,hev,HE⟩:∃q,Value.slice (if cap=pre.length then some ⟨b,off,none⟩else some ⟨b,off+pre.length*11,none⟩) (i1-pre.length) (cap-pre.length)=q/\Hid (SL u1 q (s::(x++y))):=⟨_,rfl,sl_cut (L:=xs) (i:=pre.length) (HAT.out.below X1.out.bel HAT.out.lt) (by rw[HX.out.1,List.drop_left,List.length_cons,List.take_succ_cons,List.take_left]) hcap (by have:=HSUM.out;simp;omega) rfl (by have:=HI1.out;simp;omega) rfl⟩
    rw[hev]
    clear hev
    have hbd:Below u1.heap.size u1 u1.drew:=(Below.refl _ _).drew
    generalize u1.drew=t0 at hbd⊢
    have hxl:x.length+y.length<=1048576:=by have:=HSUM.out;omega
    have hx1:x.length<xs.length:=by have:=HSUM.out;omega
    have hy1:y.length<xs.length:=by have:=HSUM.out;omega
    have CC:Hid (∀t,Below u1.heap.size u1 t->Calls Try.prog 70 #[.agg #[.slice (some ⟨bH,0,none⟩) nH cH,.slice (some ⟨bR,0,none⟩) 8 cR],ev,.int .i64 (wrap64 (at'+(pre.length:Int))),.agg #[.slice (some ⟨g,0,none⟩) 8 cg,.int .i64 z',.int .i64 c'],.int .i64 rounds] t (BlkR nH S V0 g t)):=fun t ht=>l5Compound_any s x y HT.out.1 HT.out.2 (IH x hx1 hwx) (IH y hy1 hwy) bH cH nH S bR cR V0 g cg U z' c' _ rounds ev t LL.out (X1.out.below ht).sc (X1.out.below ht).A X1.out.ok (HE.out.below ht) hxl r0 r1
    refine wpAnyH_ready (rs:=[15,16]) (by kernel_rfl) (by simp) ?_
    refine AllReadyH.cons rfl (fun KK hK=>?_) (AllReadyH.cons rfl (fun KK hK=>?_) AllReadyH.nil)
    ·go_simp
     refine(CC.out t0 hbd).mono ?_
     rintro e t1⟨err3,at3,ao3,m3,cap3,z3,c3,r3,rfl,p0,p1,hab,hb⟩
     have hB1:Below u1.heap.size u1 t1:=hbd.trans (hb.mono hbd.size)
     refine hK.out _ _ hB1 (fun _=>?_)
     clear hK KK
     unfold outV
     try simp only[Act.put,List.getElem_toArray,List.getElem_cons_zero,List.getElem_cons_succ,List.setIfInBounds_toArray,List.set_cons_zero,List.set_cons_succ]
     refine wpAnyH_ready (rs:=[16]) (by kernel_rfl) (by simp) ?_
     refine AllReadyH.cons rfl (fun KK hK=>?_) AllReadyH.nil
     go_simp
     refine hK.out _ _ (hB1.alloc hB1.size _) (fun _=>?_)
     clear hK KK
     try simp only[Act.put,List.getElem_toArray,List.getElem_cons_zero,List.getElem_cons_succ,List.setIfInBounds_toArray,List.set_cons_zero,List.set_cons_succ]
     refine wpAnyH_ready (rs:=[17]) (by kernel_rfl) (by simp) ?_
     refine AllReadyH.cons rfl (fun KK hK=>?_) AllReadyH.nil
     go_simp
     refine hK.out _ _ (hB1.alloc hB1.size _) (fun _=>?_)
     clear hK KK
     refine wpAnyH_done (by kernel_rfl) ?_ _
     have bn:Below t1.heap.size t1 (t1.alloc (.cells #[.int .i64 err3,.int .i64 at3,.slice ao3 m3 cap3,.int .i64 z3,.int .i64 c3,.int .i64 r3] 130)):=(Below.refl _ _).alloc (Nat.le_refl _) _
     have hab':err3=0->AbIn nH S V0 g sb t1 (.slice ao3 m3 cap3) z3 c3:=fun e=>by
      obtain⟨g',cg',U',h1,h2,h3,h4⟩:=hab e
      exact⟨g',cg',U',h1,by have:=hbd.size;omega,h3,h4⟩
     have RES:Hid (LX w bH cH nH S bR cR V0 bA bs bh br g cg U z' c' (t1.alloc (.cells #[.int .i64 err3,.int .i64 at3,.slice ao3 m3 cap3,.int .i64 z3,.int .i64 c3,.int .i64 r3] 130))/\(t1.alloc (.cells #[.int .i64 err3,.int .i64 at3,.slice ao3 m3 cap3,.int .i64 z3,.int .i64 c3,.int .i64 r3] 130)).heap[sb]?=some (.cells (stL s).toArray 33)/\YB nH S V0 g sb t1.heap.size err3 at3 ao3 m3 cap3 z3 c3 r3 (t1.alloc (.cells #[.int .i64 err3,.int .i64 at3,.slice ao3 m3 cap3,.int .i64 z3,.int .i64 c3,.int .i64 r3] 130))):=⟨(X1.out.below hB1).below bn,hq_below (hq_below Q1.out hB1) bn,yb_new hab'⟩
     have hn1:sb<t1.heap.size:=by have:=hB1.size;omega
     clear hab hab' hb hB1 bn j0 j1 j2 j3 j4 j5 j6
     go_wp2_with fail
     go_meet
     exact⟨t1.heap.size,err3,at3,ao3,m3,cap3,z3,c3,r3,rfl,hn1,p0,p1,RES.out.1,RES.out.2.1,RES.out.2.2⟩
    ·go_simp
     obtain⟨t1,ht1,bn,n1⟩:∃q,t0.alloc (.cells #[.int .i64 0,.int .i64 0,.slice none 0 0,.int .i64 0,.int .i64 0,.int .i64 0] 130)=q/\Below t0.heap.size t0 q/\q.heap[t0.heap.size]?=some (.cells #[.int .i64 0,.int .i64 0,.slice none 0 0,.int .i64 0,.int .i64 0,.int .i64 0] 130):=⟨_,rfl,(Below.refl _ _).alloc (Nat.le_refl _) _,hq_new _ _⟩
     rw[ht1]
     have hB1:Below u1.heap.size u1 t1:=hbd.trans (bn.mono hbd.size)
     refine hK.out _ _ hB1 (fun _=>?_)
     clear hK KK
     try simp only[Act.put,List.getElem_toArray,List.getElem_cons_zero,List.getElem_cons_succ,List.setIfInBounds_toArray,List.set_cons_zero,List.set_cons_succ]
     refine wpAnyH_ready (rs:=[15]) (by kernel_rfl) (by simp) ?_
     refine AllReadyH.cons rfl (fun KK hK=>?_) AllReadyH.nil
     go_simp
     refine(CC.out t1 hB1).mono ?_
     rintro e t2⟨err3,at3,ao3,m3,cap3,z3,c3,r3,rfl,p0,p1,hab,hb⟩
     have hB2:Below u1.heap.size u1 t2:=hB1.trans (hb.mono hB1.size)
     refine hK.out _ _ hB2 (fun _=>?_)
     clear hK KK
     unfold outV
     try simp only[Act.put,List.getElem_toArray,List.getElem_cons_zero,List.getElem_cons_succ,List.setIfInBounds_toArray,List.set_cons_zero,List.set_cons_succ]
     have n2:=hq_below n1 hb
     have f0:=(hq_cell n2 0).trans rfl
     have f1:=(hq_cell n2 1).trans rfl
     have f2:=(hq_cell n2 2).trans rfl
     have f3:=(hq_cell n2 3).trans rfl
     have f4:=(hq_cell n2 4).trans rfl
     have f5:=(hq_cell n2 5).trans rfl
     have ff:=hq_free n2
     have fl:=hq_lt n2
     have hnA:g≠t0.heap.size:=by have:=(X1.out.below hbd).A.lt;omega
     have hny:t0.heap.size<t1.heap.size:=hq_lt n1
     have hu4:u1.heap.size<=t0.heap.size:=hbd.size
     obtain⟨ny,hnye⟩:∃q,t0.heap.size=q:=⟨_,rfl⟩
     rw[hnye]at n2 f0 f1 f2 f3 f4 f5 ff fl hnA hny hu4⊢
     have hYB:YB nH S V0 g sb ny err3 at3 ao3 m3 cap3 z3 c3 r3 (set6 t2 ny (.int .i64 err3) (.int .i64 at3) (.slice ao3 m3 cap3) (.int .i64 z3) (.int .i64 c3) (.int .i64 r3)):=by
      refine⟨hq_set6 n2 _ _ _ _ _ _,fun e=>?_⟩
      obtain⟨g',cg',U',h1,h2,h3,h4⟩:=hab e
      have hne:g'≠ny:=by omega
      exact⟨g',cg',U',h1,by omega,hne,arr_set6 h3 hne _ _ _ _ _ _,h4⟩
     have bs6:Below u1.heap.size u1 (set6 t2 ny (.int .i64 err3) (.int .i64 at3) (.slice ao3 m3 cap3) (.int .i64 z3) (.int .i64 c3) (.int .i64 r3)):=below_set6 hB2 hu4 _ _ _ _ _ _
     have RES:Hid (LX w bH cH nH S bR cR V0 bA bs bh br g cg U z' c' (set6 t2 ny (.int .i64 err3) (.int .i64 at3) (.slice ao3 m3 cap3) (.int .i64 z3) (.int .i64 c3) (.int .i64 r3))/\((set6 t2 ny (.int .i64 err3) (.int .i64 at3) (.slice ao3 m3 cap3) (.int .i64 z3) (.int .i64 c3) (.int .i64 r3))).heap[sb]?=some (.cells (stL s).toArray 33)/\YB nH S V0 g sb ny err3 at3 ao3 m3 cap3 z3 c3 r3 (set6 t2 ny (.int .i64 err3) (.int .i64 at3) (.slice ao3 m3 cap3) (.int .i64 z3) (.int .i64 c3) (.int .i64 r3))):=⟨X1.out.below bs6,hq_below Q1.out bs6,hYB⟩
     have hn1:sb<ny:=by omega
     clear hab hb hYB n1 n2 ht1 bn hnye
     refine wpAnyH_ready (rs:=[17]) (by kernel_rfl) (by simp) ?_
     refine AllReadyH.cons rfl (fun KK hK=>?_) AllReadyH.nil
     go_simp
     refine hK.out _ _ bs6 (fun _=>?_)
     clear hK KK bs6 f0 f1 f2 f3 f4 f5 ff fl j0 j1 j2 j3 j4 j5 j6
     refine wpAnyH_done (by kernel_rfl) ?_ _
     go_wp2_with fail
     go_meet
     exact⟨ny,err3,at3,ao3,m3,cap3,z3,c3,r3,rfl,hn1,p0,p1,RES.out.1,RES.out.2.1,RES.out.2.2⟩
   case rest=>
   obtain⟨ny,err3,at3,ao3,m3,cap3,z3,c3,r3,rfl,hsn,p0,p1,l5,q5,y5⟩:=hcut
   have X5:Hid (LX w bH cH nH S bR cR V0 bA bs bh br g cg U z' c' wc):=l5
   have Q5:Hid (wc.heap[sb]?=some (.cells (stL s).toArray 33)):=q5
   have Y5:Hid (YB nH S V0 g sb ny err3 at3 ao3 m3 cap3 z3 c3 r3 wc):=y5
   have hbr1:br<sb:=HBRS.out
   have hws:w.heap.size<=sb:=by have:=BO.out;omega
   clear l5 q5 y5 X1 Q1
   generalize wc=u5 at X5 Q5 Y5⊢
   obtain⟨v0,v1,v2,v3,v4,v5,vf,vl⟩:=Y5.out.cells
   by_cases hy0:err3=0
   rotate_left
   ·obtain⟨y0,y1,y2,y3,y4,y5,yf,yl⟩:=X5.out.res
    go_wp2_with fail
    refine bodyPost_ret (v:=outV err3 at3 (.slice ao3 m3 cap3) z3 c3 r3) (by simp[results,Try.results58,go_sem,outV, *]) rfl ⟨err3,at3,ao3,m3,cap3,z3,c3,r3,rfl,p0,p1,fun e=>absurd e hy0,?_⟩
    exact below_set6 X5.out.bel (by have:=BO.out;omega) _ _ _ _ _ _
   subst hy0
   obtain⟨gy,cgy,Uy,hvy,nwy,nny,Ay,oky⟩:=Y5.out.ab rfl
   simp only[Value.slice.injEq]at hvy
   obtain⟨rfl,rfl,rfl⟩:=hvy
   obtain⟨_,⟨c0,c1,c2⟩,cl1,cl2⟩:=X5.out.cells
   have hf:=X5.out.hd.free
   obtain⟨k0,k7,k8,k9,kl⟩:=stb Q5.out
   rw[HT.out.1]at k8
   rw[HT.out.2]at k9
   have hsbh:sb≠bh:=HSB.out
   have hnbh:ny≠bh:=by have:=BO.out;omega
   have hgbh:g≠bh:=X5.out.nh
   have Y:Hid (LX w bH cH nH S bR cR V0 bA bs bh br gy cap3 Uy z3 c3 (((u5.setCell ⟨bh,0,none⟩ (.slice (some ⟨gy,0,none⟩) 8 cap3)).setCell ⟨bh,1,none⟩ (.int .i64 z3)).setCell ⟨bh,2,none⟩ (.int .i64 c3))):=X5.out.put Ay oky (by have:=X5.out.nw;omega) (by have:=X5.out.ne;omega) (by have:=BO.out;omega) (by have:=N1.out;have:=BO.out;omega) (by have:=N1.out;have:=BO.out;omega)
   have hpl:(pre.length:Int)+1+(x.length:Int)+(y.length:Int)<=1048576:=by have:=HSUM.out;omega
   clear X5 Y5 Q5 Ay oky nwy nny
   go_wp2_with fail
   go_roundw
   case rel=>exact⟨pre++s::(x++y),rest,r3,gy,cap3,Uy,z3,c3,rfl,by simp;try omega,⟨by rw[HX.out.1];simp,hwr⟩,by have:=HSUM.out;simp;omega,p0,p1,Y.out⟩
   case measure=>have:=HSUM.out;simp[intOf];omega
theorem l5Block_any(xs:List SV)(hl:xs.length<=1048576)(hw:Wl xs):BC xs:=by
 have H:∀(n:Nat)(ys:List SV),ys.length<=n->ys.length<=1048576->Wl ys->BC ys:=by
  intro n;induction n with
  |zero=>intro ys h1 h2 h3;exact l5Block_go ys h2 h3 (fun zs hz=>by omega)
  |succ n ih=>intro ys h1 h2 h3;exact l5Block_go ys h2 h3 (fun zs hz hw=>ih zs (by omega) (by omega) hw)
 exact H _ xs (Nat.le_refl _) hl hw
end Go.Proofs.Ytplnpgohdgialaa
