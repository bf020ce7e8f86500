import Derived.Test.YtkckomianknjdaaGreatOfCoreF
import Derived.Test.YtkckomianknjdaaGreatOfFu5b
import Derived.Test.YtkckomianknjdaaGreatOfUnitFlat0
set_option maxHeartbeats 16000000
set_option maxRecDepth 20000
namespace Go.Proofs.YtkckomianknjdaaGreat
open Go.RowKit Go.Deep
variable {a c z:Int}{d:List SV}{B K b m n o:Nat}{S:Nat->HS}{M:Nat->VV}{U:Option Addr}{s:SV}{v:Value}{u w:World}
def Xl:SV:=⟨0,0,0,0,0,0,0,0,0,0,0⟩
def JO(xs:List SV)(i:Nat):SV:=xs.getD i Xl
structure lJ(P:List SV->Prop):Prop where
 nil:P []
 ins:∀{s:SV}{xs:List SV},s.k=1->s.thn=0->s.els=0->P xs->P (s::xs)
 node:∀{s:SV}{x y xs:List SV},s.k≠1->s.thn=(x.length:Int)->s.els=(y.length:Int)->P x->P y->P xs->P (s::(x++y++xs))
def Wl(xs:List SV):Prop:=∀P,lJ P->P xs
theorem Wl.nil:Wl []:=fun _ c=>c.nil
theorem Wl.ins(a:s.k=1)(b:s.thn=0)(e:s.els=0)(h:Wl d):Wl (s::d):=fun P c=>c.ins a b e (h P c)
theorem Wl.node{x y xs:List SV}(d:s.k≠1)(e:s.thn=(x.length:Int))(j:s.els=(y.length:Int))(a:Wl x)(b:Wl y)(h:Wl xs):Wl (s::(x++y++xs)):=fun P c=>c.node d e j (a P c) (b P c) (h P c)
theorem Wl.inv(h:Wl d):d=[]∨(∃s c,d=s::c/\s.k=1/\s.thn=0/\s.els=0/\Wl c)∨∃s x y c,d=s::(x++y++c)/\s.k≠1/\s.thn=(x.length:Int)/\s.els=(y.length:Int)/\Wl x/\Wl y/\Wl c:=
 (h (fun d=>Wl d/\(d=[]∨(∃s c,d=s::c/\s.k=1/\s.thn=0/\s.els=0/\Wl c)∨∃s x y c,d=s::(x++y++c)/\s.k≠1/\s.thn=(x.length:Int)/\s.els=(y.length:Int)/\Wl x/\Wl y/\Wl c))
   ⟨⟨.nil,.inl rfl⟩,fun e j l h=>⟨.ins e j l h.1,.inr (.inl ⟨_,_,rfl,e,j,l,h.1⟩)⟩,fun e j l a b h=>⟨.node e j l a.1 b.1 h.1,.inr (.inr ⟨_,_,_,_,rfl,e,j,l,a.1,b.1,h.1⟩)⟩⟩).2
theorem Wl.app{R:List SV}(h:Wl d)(k:Wl R):Wl (d++R):=(h (fun d=>Wl d/\Wl (d++R)) ⟨⟨.nil,k⟩,fun c e j h=>⟨.ins c e j h.1,.ins c e j h.2⟩,fun c e j a b h=>⟨.node c e j a.1 b.1 h.1,by
 rw[List.cons_append,List.append_assoc];exact .node c e j a.1 b.1 h.2⟩⟩).2
def SL(w:World)(v:Value)(xs:List SV):Prop:=∃ao cap,v=.slice ao xs.length cap/\xs.length<=cap/\Sd w ao (xs.length*11) (I5 (JO xs))
theorem SL.below{j:World}(h:SL w v d)(l:Below w.heap.size w j):SL j v d:=by
 obtain⟨b,a,c,e,k⟩:=h;exact⟨b,a,c,e,k.below l BP⟩
theorem SL.below_of{j:World}(h:SL w v d)(a:Below w.heap.size w j):SL j v d:=h.below a
theorem Zn(a:List SV)(i m:Nat)(j:Nat)(b:j<m*11):I5 (JO a) (i*11+j)=I5 (JO ((a.drop i).take m)) j:=by
 unfold I5 JO;rw[show(i*11+j)/11=i+j/11 by omega,show(i*11+j)%11=j%11 by omega];have:j/11<m:=AB;simp only[Jw,List.getElem?_take,List.getElem?_drop,this,if_true]
theorem At.sub{k:Nat}(h:At w b k (d.length*11) (I5 (JO d)))(i m:Nat)(c:i+m<=d.length):At w b (k+i*11) (m*11) (I5 (JO ((d.drop i).take m))):=
 ⟨h.lt,fun j a=>by rw[Nat.add_assoc,h.cell AB,Zn d i m j a]⟩
def VW(nH:Nat)(S:Nat->HS)(V0:Nat->VV)(bA:Nat)(B:Nat)(w:World)(v:Value)(z c:Int):Prop:=
 ∃(g cg:Nat)(V:Nat->VV),v=Vs g 8 cg/\(g=bA∨B<=g)/\BZ w g (8*6) (vF V)/\BQ nH S 8 V0 8 V z c=true
def Zj(nH:Nat)(S:Nat->HS)(V0:Nat->VV)(bA:Nat)(w:World)(e:Ending)(w':World):Prop:=
 ∃(err at':Int)(ao:Option Addr)(m cap:Nat)(z c rounds:Int),e=.returned (Dj err at' (.slice ao m cap) z c rounds)/\0<=rounds/\rounds<=1000/\(err=0->VW nH S V0 bA w.heap.size w' (.slice ao m cap) z c)/\Below w.heap.size w w'
def BC(xs:List SV):Prop:=∀(bH cH nH:Nat)(S:Nat->HS)(bR cR:Nat)(V0:Nat->VV)(bA cA:Nat)(V:Nat->VV)(z c at' rounds:Int)(v:Value)(w:World),nH<=1048576->Dl w bH nH S bR 8 V0->BZ w bA (8*6) (vF V)->BQ nH S 8 V0 8 V z c=true->SL w v xs->0<=rounds->rounds<=1000->
 Calls Tryz.prog 145 #[.agg #[Vs bH nH cH,Vs bR 8 cR],v,Vi at',.agg #[Vs bA 8 cA,Vi z,Vi c],Vi rounds] w (Zj nH S V0 bA w)
def oz:Array Value:=#[Vi 0,Vi 0,.slice none 0 0,Vi 0,Vi 0,Vi 0]
structure IK(w:World)(bH cH nH:Nat)(S:Nat->HS)(bR cR:Nat)(V0:Nat->VV)(b0:Nat)(bs bh br bA cA:Nat)(V:Nat->VV)(z c:Int)(u:World):Prop where
 bel:Below w.heap.size w u
 sg:u.heap[bs]?=some (.cells #[Vs bH nH cH,Vs bR 8 cR] 45)
 hd:V3 u bh 142 (Vs bA 8 cA) (Vi z) (Vi c)
 R:u.heap[br]?=some (.cells oz 199)
 sc:Dl u bH nH S bR 8 V0
 A:BZ u bA (8*6) (vF V)
 ok:BQ nH S 8 V0 8 V z c=true
 nw:bA=b0∨w.heap.size<=bA
 ne:bA≠br
 o1:w.heap.size=bs
 o2:bs<bh
 o3:bh<br
section
variable{w:World}{bH cH nH:Nat}{S:Nat->HS}{bR cR:Nat}{V0:Nat->VV}{b0 bs bh br bA cA:Nat}{V:Nat->VV}{z c:Int}{u u':World}
theorem IK.below(h:IK w bH cH nH S bR cR V0 b0 bs bh br bA cA V z c u)(f:Below u.heap.size u u'):IK w bH cH nH S bR cR V0 b0 bs bh br bA cA V z c u':=
 ⟨h.bel.trans (f.mono h.bel.size),Ba h.sg f,h.hd.below f,Ba h.R f,h.sc.below f,h.A.below f h.A.lt,h.ok,h.nw,h.ne,h.o1,h.o2,h.o3⟩
theorem IK.cells(h:IK w bH cH nH S bR cR V0 b0 bs bh br bA cA V z c u):(u.cell? (Va bs 0)=some (Vs bH nH cH)/\u.cell? (Va bs 1)=some (Vs bR 8 cR))/\(u.cell? (Va bh 0)=some (Vs bA 8 cA)/\u.cell? (Va bh 1)=some (Vi z)/\u.cell? (Va bh 2)=some (Vi c))/\bs<u.heap.size/\bh<u.heap.size:=
 ⟨⟨(AJ h.sg 0).trans rfl,(AJ h.sg 1).trans rfl⟩,h.hd.cells,Bz h.sg,h.hd.lt⟩
theorem IK.res(h:IK w bH cH nH S bR cR V0 b0 bs bh br bA cA V z c u):u.cell? (Va br 0)=some (Vi 0)/\u.cell? (Va br 1)=some (Vi 0)/\u.cell? (Va br 2)=some (.slice none 0 0)/\u.cell? (Va br 3)=some (Vi 0)/\u.cell? (Va br 4)=some (Vi 0)/\u.cell? (Va br 5)=some (Vi 0)/\(∀i,u.frozen? (Va br i)=false)/\br<u.heap.size:=
 ⟨(AJ h.R 0).trans rfl,(AJ h.R 1).trans rfl,(AJ h.R 2).trans rfl,(AJ h.R 3).trans rfl,(AJ h.R 4).trans rfl,(AJ h.R 5).trans rfl,CS h.R,Bz h.R⟩
theorem IK.put(h:IK w bH cH nH S bR cR V0 b0 bs bh br bA cA V z c u){g L:Nat}{U:Nat->VV}{O:Int}(b:BZ u g (8*6) (vF U))(s:BQ nH S 8 V0 8 U O a=true)(m:g=b0∨w.heap.size<=g)(k:g≠br)(l:g≠bh)(d:bH≠bh)(j:bR≠bh):IK w bH cH nH S bR cR V0 b0 bs bh br g L U O a (((u.setCell (Va bh 0) (Vs g 8 L)).setCell (Va bh 1) (Vi O)).setCell (Va bh 2) (Vi a)):=by
 have n:=h.o1;have o:=h.o2;have q:=h.o3;refine⟨?_,BJ (BJ (BJ h.sg AB _ _) AB _ _) AB _ _,h.hd.set _ _ _,BJ (BJ (BJ h.R AB _ _) AB _ _) AB _ _,⟨((h.sc.h.other ?_ _).other ?_ _).other ?_ _,((h.sc.r.other ?_ _).other ?_ _).other ?_ _⟩,((b.other ?_ _).other ?_ _).other ?_ _,s,m,k,n,o,q⟩
 ·exact((h.bel.setCell (p:=Va bh 0) (show w.heap.size<=bh by omega) _).setCell (p:=Va bh 1) (show w.heap.size<=bh by omega) _).setCell (p:=Va bh 2) (show w.heap.size<=bh by omega) _
 all_goals first|exact fun e=>d e.symm|exact fun e=>j e.symm|exact fun e=>l e.symm
def IY(u:World)(b:Nat)(a0 a1 a2 a3 a4 a5:Value):World:=(((((u.setCell (Va b 0) a0).setCell (Va b 1) a1).setCell (Va b 2) a2).setCell (Va b 3) a3).setCell (Va b 4) a4).setCell (Va b 5) a5
theorem CV(h:Below B w u)(a:B<=b)(c d e j k l:Value):Below B w (IY u b c d e j k l):=
 (((((h.setCell (p:=Va b 0) a _).setCell (p:=Va b 1) a _).setCell (p:=Va b 2) a _).setCell (p:=Va b 3) a _).setCell (p:=Va b 4) a _).setCell (p:=Va b 5) a _
theorem Hr{g:Nat}{f:Nat->Value}(h:BZ u g n f)(a:g≠b)(c d j k l m:Value):BZ (IY u b c d j k l m) g n f:=
 (((((h.other (fun e=>a e.symm) _).other (fun e=>a e.symm) _).other (fun e=>a e.symm) _).other (fun e=>a e.symm) _).other (fun e=>a e.symm) _).other (fun e=>a e.symm) _
end
theorem UO(w:World){A Q:Nat}{C cR:Nat}{cA:Nat}{V:Nat->VV}(p:Dl w A o S C 8 M)(d:BZ w K (8*6) (vF V))(q:BQ o S 8 M 8 V z c=true):
 IK w A Q o S C cR M K w.heap.size (w.heap.size+1) (w.heap.size+1+1) K cA V z c (((w.alloc (.cells #[Vs A o Q,Vs C 8 cR] 45)).alloc (.cells #[Vs K 8 cA,Vi z,Vi c] 142)).alloc (.cells oz 199)):=by
 have r:=Bh w (.cells #[Vs A o Q,Vs C 8 cR] 45);generalize h:w.alloc (.cells #[Vs A o Q,Vs C 8 cR] 45)=x at *;have m:x.heap.size=w.heap.size+1:=by rw[<-h];simp
 have n:Bw w x:=by rw[<-h];exact Ah
 have k:=V3.new x 142 (Vs K 8 cA) (Vi z) (Vi c);generalize j:x.alloc (.cells #[Vs K 8 cA,Vi z,Vi c] 142)=y at *;have s:y.heap.size=w.heap.size+1+1:=by rw[<-j];simp[m]
 have e:Bw x y:=by rw[<-j];exact Ah
 have l:=Bh y (.cells oz 199);have a:Bw y (y.alloc (.cells oz 199)):=Ah;have b:Bw w (y.alloc (.cells oz 199)):=(n.trans (e.mono AB)).trans (a.mono AB);rw[m]at k;rw[s]at l;exact⟨b,Ba (Ba r e) a,k.below a,l,p.below b,d.below b d.lt,q,Or.inl rfl,by have:=d.lt;omega,rfl,AB,AB⟩
theorem Tq(xs:List SV)(IH:BC xs)(o E d:Nat)(S:Nat->HS)(p F:Nat)(n:Nat->VV)(j cA:Nat)(V:Nat->VV)(z c cond b a:Int)(v:Value)(w:World)(lH:d<=1048576)(h1:Dl w o d S p 8 n)(h2:BZ w j (8*6) (vF V))(h3:BQ d S 8 n 8 V z c=true)(h4:SL w v xs)(r0:0<=a)(r1:a<=1000):
 Calls Tryz.prog 169 #[.agg #[Vs o d E,Vs p 8 F],v,Vi cond,Vi b,.agg #[Vs j 8 cA,Vi z,Vi c],Vi a] w (Zj d S n j w):=by
 have N1:Hid (o<w.heap.size/\p<w.heap.size):=⟨h1.h.lt,h1.r.lt⟩
 have HL:=hxy h4;have LL:=hxy lH;have X0:Hid (IK w o E d S p F n j w.heap.size (w.heap.size+1) (w.heap.size+1+1) j cA V z c (((w.alloc (.cells #[Vs o d E,Vs p 8 F] 45)).alloc (.cells #[Vs j 8 cA,Vi z,Vi c] 142)).alloc (.cells oz 199))):=UO w h1 h2 h3;obtain⟨va,vc,rfl,_,_⟩:=h4;clear h1 h2 h3 lH;go_enter Tryz.func169,Tryz.ntmps169;go_upto_region 1 with fail;unfold oz at X0;obtain⟨u,hu⟩:=BG (((w.alloc (.cells #[Vs o d E,Vs p 8 F] 45)).alloc (.cells #[Vs j 8 cA,Vi z,Vi c] 142)).alloc (.cells #[Vi 0,Vi 0,.slice none 0 0,Vi 0,Vi 0,Vi 0] 199));rw[hu]at X0⊢;obtain⟨O,ad⟩:=BG w.heap.size;obtain⟨s,ag⟩:=BG (w.heap.size+1);obtain⟨C,ac⟩:=BG (w.heap.size+1+1);have X0:Hid (IK w o E d S p F n j O s C j cA V z c u):=by rw[<-ad,<-ag,<-ac];exact X0
 rw[ac,ag,ad];have BO:Hid (w.heap.size=O/\O<s/\s<C):=⟨ad,AB,AB⟩
 clear hu ad ag ac;go_wp2_with fail;go_loopw [5,13](fun rv kv wr=>∃(k:Nat)(a:Int)(g L:Nat)(U:Nat->VV)(K D:Int),rv=Vi a/\kv=Vi k/\k<=20/\0<=a/\a<=1000/\IK w o E d S p F n j O s C g L U K D wr)(fun _ kv _=>20-(intOf kv).toNat)
 case atStart=>exact⟨0,a,j,cA,V,z,c,rfl,rfl,AB,r0,r1,X0⟩
 case round=>
  clear X0 r0 r1;obtain⟨k,a,g,L,U,K,D,rfl,rfl,hk,r0,r1,x⟩:=hrel;have X:=hxy x;clear x;by_cases am:(k:Int)<20/\a<1000
  rotate_left
  ·have ai:∀t,Bw wr t->Hid (IK w o E d S p F n j O s C g L U K D t):=fun t h=>X.below h
   by_cases ae:(k:Int)<20
   ·have hr:¬a<1000:=fun h=>am ⟨ae,h⟩
    go_wp2_with fail;refine(Gz _ _ _ _).mono ?_;rintro e t⟨rfl,l⟩;have Y:=ai t l;obtain⟨y0,y1,y2,y3,y4,y5,yf,yl⟩:=Y.res;unfold Dj;go_wp2_with fail;refine bodyPost_ret (v:=Dj 10 b (.slice none 0 0) 0 0 a) (by simp[results,Tryz.results169,go_sem,Dj, *]) rfl ⟨10,b,none,0,0,0,0,a,rfl,r0,r1,fun e=>absurd e Aa,?_⟩;exact CV Y.bel (by have:=BO.out;omega) _ _ _ _ _ _
   ·go_wp2_with fail
    refine(Gz _ _ _ _).mono ?_;rintro e t⟨rfl,l⟩;have Y:=ai t l;obtain⟨y0,y1,y2,y3,y4,y5,yf,yl⟩:=Y.res;unfold Dj;go_wp2_with fail;refine bodyPost_ret (v:=Dj 10 b (.slice none 0 0) 0 0 a) (by simp[results,Tryz.results169,go_sem,Dj, *]) rfl ⟨10,b,none,0,0,0,0,a,rfl,r0,r1,fun e=>absurd e Aa,?_⟩;exact CV Y.bel (by have:=BO.out;omega) _ _ _ _ _ _
  obtain⟨ae,az⟩:=am;obtain⟨_,⟨c0,c1,c2⟩,I,J⟩:=X.cells;go_wp2_with fail;refine(Jq _ _ _ _ _ _ _).mono ?_;rintro e t1⟨⟨fr,rfl⟩,l⟩;have X1:Hid (IK w o E d S p F n j O s C g L U K D t1):=X.below l;clear l X c0 c1 c2 I J;by_cases hf:fr=0
  rotate_left
  ·go_wp2_with fail
   refine(Gz _ _ _ _).mono ?_;rintro e t⟨rfl,l⟩;have Y:Hid (IK w o E d S p F n j O s C g L U K D t):=X1.below l;obtain⟨y0,y1,y2,y3,y4,y5,yf,yl⟩:=Y.res;unfold Dj;go_wp2_with fail;refine bodyPost_ret (v:=Dj fr b (.slice none 0 0) 0 0 (a+1)) (by simp[results,Tryz.results169,go_sem,Dj, *]) rfl ⟨fr,b,none,0,0,0,0,a+1,rfl,AB,AB,fun e=>absurd e hf,?_⟩;exact CV Y.bel (by have:=BO.out;omega) _ _ _ _ _ _
  subst hf;obtain⟨⟨s0,s1⟩,⟨c0,c1,c2⟩,I,J⟩:=X1.cells;go_wp2_with fail;refine(IH o E d S p F n g L U K D _ (a+1) _ t1 LL X1.sc X1.A X1.ok (HL.below_of X1.bel) AB AB).mono ?_;rintro e t2⟨aa,Q,ao,m,N,z2,M,rr,rfl,q0,q1,al,l⟩;have X2:Hid (IK w o E d S p F n j O s C g L U K D t2):=X1.below l;have T2:=hxy l.size;have aj:=hxy al;clear l al s0 s1 c0 c1 c2 I J;unfold Dj;by_cases he:aa=0
  rotate_left
  ·obtain⟨t3,ab,b3⟩:∃y,t2.alloc (.cells #[Vi aa,Vi Q,.slice ao m N,Vi z2,Vi M,Vi rr] 199)=y/\Bw t2 y:=⟨_,rfl,Ah⟩
   have B:=Bh t2 (.cells #[Vi aa,Vi Q,.slice ao m N,Vi z2,Vi M,Vi rr] 199);rw[ab]at B;have Y:Hid (IK w o E d S p F n j O s C g L U K D t3):=X2.below b3;obtain⟨y0,y1,y2,y3,y4,y5,yf,yl⟩:=Y.res;have v0:=(AJ B 0).trans rfl;have v1:=(AJ B 1).trans rfl;have v2:=(AJ B 2).trans rfl;have v3:=(AJ B 3).trans rfl;have v4:=(AJ B 4).trans rfl;have v5:=(AJ B 5).trans rfl;have vl:=Bz B;go_upto_region 9 with fail;clear ab b3 B;go_wp2_with fail;refine bodyPost_ret (v:=Dj aa Q (.slice ao m N) z2 M rr) (by simp[results,Tryz.results169,go_sem,Dj, *]) rfl ⟨aa,Q,ao,m,N,z2,M,rr,rfl,q0,q1,fun e=>absurd e he,?_⟩;exact CV Y.bel (by have:=BO.out;omega) _ _ _ _ _ _
  subst he;obtain⟨g2,cq,U2,ar,av,A2,aw⟩:=aj.out rfl;simp only[Value.slice.injEq]at ar;obtain⟨rfl,rfl,rfl⟩:=ar;have A2:=hxy A2;have aD:=hxy av;have aB:=hxy aw;clear av aw aj;obtain⟨t3,ab,b3⟩:∃y,t2.alloc (.cells #[Vi 0,Vi Q,Vs g2 8 N,Vi z2,Vi M,Vi rr] 199)=y/\Bw t2 y:=⟨_,rfl,Ah⟩
  have B:=Bh t2 (.cells #[Vi 0,Vi Q,Vs g2 8 N,Vi z2,Vi M,Vi rr] 199);rw[ab]at B;have X3:Hid (IK w o E d S p F n j O s C g L U K D t3):=X2.below b3;have A3:Hid (BZ t3 g2 (8*6) (vF U2)):=A2.below b3 A2.lt;obtain⟨_,⟨c0,c1,c2⟩,I,J⟩:=X3.cells;have v0:=(AJ B 0).trans rfl;have v2:=(AJ B 2).trans rfl;have v3:=(AJ B 3).trans rfl;have v4:=(AJ B 4).trans rfl;have v5:=(AJ B 5).trans rfl;have vl:=Bz B;go_upto_region 9 with fail;have aA:Hid (t1.heap.size<=t3.heap.size):=(by have:=b3.size;have:=T2.out;omega:t1.heap.size<=t3.heap.size)
  clear ab b3 B X2 A2;obtain⟨no,an⟩:=BG t2.heap.size;rw[an]at v0 v2 v3 v4 v5 vl⊢;clear an;go_wp2_with fail;refine(Je d S n g L U K D g2 N U2 z2 M t3 X3.A A3 X3.ok aB).mono ?_;rintro e t4⟨Z,q,U4,z4,c4,rfl,au,A4,ax,l⟩;have X4:Hid (IK w o E d S p F n j O s C g L U K D t4):=X3.below l;have A4:=hxy A4;have af:Hid (t3.heap.size<=Z/\t1.heap.size<=t3.heap.size):=⟨au,aA⟩
  have aC:=hxy ax;have ak:Hid (C<t3.heap.size):=Bz X3.R;clear l au ax X3 A3 c0 c1 c2 I J v0 v2 v3 v4 v5 vl;obtain⟨t5,ap,b5⟩:∃y,t4.alloc (.cells #[Vs Z 8 q,Vi z4,Vi c4] 142)=y/\Bw t4 y:=⟨_,rfl,Ah⟩
  have n5:=V3.new t4 142 (Vs Z 8 q) (Vi z4) (Vi c4);rw[ap]at n5;have X5:Hid (IK w o E d S p F n j O s C g L U K D t5):=X4.below b5;have A5:Hid (BZ t5 Z (8*6) (vF U4)):=A4.below b5 A4.lt;obtain⟨nn,ah⟩:=BG t4.heap.size;have N5:Hid (V3 t5 nn 142 (Vs Z 8 q) (Vi z4) (Vi c4)):=(by rw[<-ah];exact n5:V3 t5 nn 142 (Vs Z 8 q) (Vi z4) (Vi c4))
  obtain⟨_,⟨c0,c1,c2⟩,I,J⟩:=X5.cells;obtain⟨m0,m1,m2⟩:=N5.cells;have ml:=N5.lt;go_upto_region 13 with fail;try rw[ah]
  clear ap b5 n5 ah X4 A4;go_wp2_with fail;refine(Tt Z q U4 z4 c4 g L U K D t5 A5 X5.A).mono ?_;rintro e t6⟨⟨ay,rfl⟩,l⟩;have X6:Hid (IK w o E d S p F n j O s C g L U K D t6):=X5.below l;have A6:Hid (BZ t6 Z (8*6) (vF U4)):=A5.below l A5.lt;have N6:Hid (V3 t6 nn 142 (Vs Z 8 q) (Vi z4) (Vi c4)):=N5.below l;clear l X5 A5 N5 c0 c1 c2 I J m0 m1 m2 ml;obtain⟨_,⟨c0,c1,c2⟩,I,J⟩:=X6.cells;cases ay with
  |true=>
   obtain⟨y0,y1,y2,y3,y4,y5,yf,yl⟩:=X6.res;have YA:Hid (BZ t6 g (8*6) (vF U)/\g≠C/\BQ d S 8 n 8 U K D=true/\(g=j∨w.heap.size<=g)/\Bw w t6):=⟨X6.A,X6.ne,X6.ok,X6.nw,X6.bel⟩
   have ac:s≠C:=by have:=BO.out;omega
   clear X6 A6 N6;go_wp2_with fail;refine bodyPost_ret (v:=Dj 0 0 (Vs g 8 L) K D rr) (by simp[results,Tryz.results169,go_sem,Dj, *]) rfl ⟨0,0,_,_,_,K,D,rr,rfl,q0,q1,fun _=>⟨g,L,U,rfl,YA.2.2.2.1,?_,YA.2.2.1⟩,?_⟩
   ·exact Hr YA.1 YA.2.1 _ _ _ _ _ _
   ·exact CV YA.2.2.2.2 (by have:=BO.out;omega) _ _ _ _ _ _
  |false=>
   obtain⟨m0,m1,m2⟩:=N6.cells;have ml:=N6.lt;have hf:=X6.hd.free;have aE:C<t3.heap.size:=ak.out;have Y:Hid (IK w o E d S p F n j O s C Z q U4 z4 c4 (((t6.setCell (Va s 0) (Vs Z 8 q)).setCell (Va s 1) (Vi z4)).setCell (Va s 2) (Vi c4))):=X6.put A6 aC (Or.inr (by have:=af.out;have:=BO.out;omega)) (by have:=af.out;omega) (by have:=af.out;have:=BO.out;omega) (by have:=N1.out;have:=BO.out;omega) (by have:=N1.out;have:=BO.out;omega);clear X6 A6 N6;go_wp2_with fail;go_roundw
   case rel=>exact⟨k+1,rr,Z,q,U4,z4,c4,rfl,by go_num,AB,q0,q1,Y⟩
   case measure=>simp[intOf];omega
theorem SL.head(h:SL w v (s::d)):∃b c a,v=.slice (some ⟨b,c,none⟩) (d.length+1) a/\d.length+1<=a/\At w b c ((d.length+1)*11) (I5 (JO (s::d))):=by
 obtain⟨l,a,j,k,e⟩:=h;rcases e with e|⟨b,c,rfl,e⟩
 ·simp at e
 ·exact⟨b,c,a,j,k,e⟩
theorem Td{k Y:Nat}{L:List SV}{i c:Nat}(h:At w b k (L.length*11) (I5 (JO L)))(o:(L.drop i).take d.length=d)(p:L.length<=Y)(l:i+d.length<=L.length)(a:U=if Y=i then some ⟨b,k,none⟩else some ⟨b,k+i*11,none⟩)(n:m=d.length)(j:c=Y-i):SL w (.slice U m c) d:=by
 subst n j;refine⟨U,_,rfl,AB,?_⟩;by_cases e:Y=i
 ·exact .inl AB
 ·rw[if_neg e]at a
  have:=At.sub h i d.length l;rw[o]at this;exact .inr ⟨b,_,a,this⟩
structure YB(nH:Nat)(S:Nat->HS)(V0:Nat->VV)(bA B ny:Nat)(err at':Int)(ao:Option Addr)(m cap:Nat)(z c rounds:Int)(u:World):Prop where
 Y:u.heap[ny]?=some (.cells #[Vi err,Vi at',.slice ao m cap,Vi z,Vi c,Vi rounds] 199)
 ab:err=0->∃(g cg:Nat)(V:Nat->VV),(Value.slice ao m cap)=Vs g 8 cg/\(g=bA∨B<=g)/\g≠ny/\BZ u g (8*6) (vF V)/\BQ nH S 8 V0 8 V z c=true
theorem YB.below{C:Int}{cap:Nat}{p:Int}{R:World}(h:YB o S M K B b a C U m cap z c p u)(f:Below u.heap.size u R):YB o S M K B b a C U m cap z c p R:=
 ⟨Ba h.Y f,fun e=>by obtain⟨g,j,V,k,l,n,d,q⟩:=h.ab e;exact⟨g,j,V,k,l,n,d.below f d.lt,q⟩⟩
theorem YB.cells{C:Int}{cap:Nat}{p:Int}(h:YB o S M K B b a C U m cap z c p u):u.cell? (Va b 0)=some (Vi a)/\u.cell? (Va b 1)=some (Vi C)/\u.cell? (Va b 2)=some (.slice U m cap)/\u.cell? (Va b 3)=some (Vi z)/\u.cell? (Va b 4)=some (Vi c)/\u.cell? (Va b 5)=some (Vi p)/\(∀i,u.frozen? (Va b i)=false)/\b<u.heap.size:=
 ⟨(AJ h.Y 0).trans rfl,(AJ h.Y 1).trans rfl,(AJ h.Y 2).trans rfl,(AJ h.Y 3).trans rfl,(AJ h.Y 4).trans rfl,(AJ h.Y 5).trans rfl,CS h.Y,Bz h.Y⟩
theorem PX{at':Int}{Y:Nat}{rounds:Int}(h:a=0->VW o S M K B u (.slice U m Y) z c):YB o S M K B u.heap.size a at' U m Y z c rounds (u.alloc (.cells #[Vi a,Vi at',.slice U m Y,Vi z,Vi c,Vi rounds] 199)):=
 ⟨Bh _ _,fun e=>by
   obtain⟨g,d,V,j,k,b,l⟩:=h e;exact⟨g,d,V,j,k,by have:=b.lt;omega,b.below Ah b.lt,l⟩⟩
theorem Ls{t:Nat}{J L M x3 x4 x5:Value}(h:u.heap[b]?=some (.cells #[J,L,M,x3,x4,x5] t))(a c d e j k:Value):(IY u b a c d e j k).heap[b]?=some (.cells #[a,c,d,e,j,k] t):=
 BK (BK (BK (BK (BK (BK h 0 a) 1 c) 2 d) 3 e) 4 j) 5 k
theorem eX{c:Nat}{xs:List SV}(h:At w b c ((n+1)*11) (I5 (JO (s::xs)))):w.cell? (Va b c)=some (Vi s.k)/\w.cell? (Va b (c+1))=some (Vi s.op)/\w.cell? (Va b (c+2))=some (Vi s.d)/\w.cell? (Va b (c+3))=some (Vi s.a)/\w.cell? (Va b (c+4))=some (Vi s.b)/\w.cell? (Va b (c+5))=some (Vi s.imm)/\w.cell? (Va b (c+6))=some (Vi s.h)/\w.cell? (Va b (c+7))=some (Vi s.cond)/\w.cell? (Va b (c+8))=some (Vi s.thn)/\w.cell? (Va b (c+9))=some (Vi s.els)/\w.cell? (Va b (c+10))=some (Vi s.proc):=
 ⟨h.cell (i:=0) AB,h.cell (i:=1) AB,h.cell (i:=2) AB,h.cell (i:=3) AB,h.cell (i:=4) AB,h.cell (i:=5) AB,h.cell (i:=6) AB,h.cell (i:=7) AB,h.cell (i:=8) AB,h.cell (i:=9) AB,h.cell (i:=10) AB⟩
theorem eT{a:Nat}(h:u.heap[a]?=some (.cells (EZ s).toArray 111)):u.cell? (Va a 0)=some (Vi s.k)/\u.cell? (Va a 7)=some (Vi s.cond)/\u.cell? (Va a 8)=some (Vi s.thn)/\u.cell? (Va a 9)=some (Vi s.els)/\a<u.heap.size:=
 ⟨(AJ h 0).trans rfl,(AJ h 7).trans rfl,(AJ h 8).trans rfl,(AJ h 9).trans rfl,Bz h⟩
theorem NP(s:SV)(x y:List SV)(ht:s.thn=(x.length:Int))(he:s.els=(y.length:Int))(aD:BC x)(aE:BC y)(bH cH D:Nat)(S:Nat->HS)(bR cR:Nat)(N:Nat->VV)(C cA:Nat)(V:Nat->VV)(z c ad n:Int)(v:Value)(w:World)(lH:D<=1048576)(h1:Dl w bH D S bR 8 N)(h2:BZ w C (8*6) (vF V))(h3:BQ D S 8 N 8 V z c=true)(h4:SL w v (s::(x++y)))(hl:x.length+y.length<=1048576)(r0:0<=n)(r1:n<=1000):
 Calls Tryz.prog 159 #[.agg #[Vs bH D cH,Vs bR 8 cR],v,Vi ad,.agg #[Vs C 8 cA,Vi z,Vi c],Vi n] w (Zj D S N C w):=by
 have N1:Hid (bH<w.heap.size/\bR<w.heap.size):=⟨h1.h.lt,h1.r.lt⟩
 have LL:=hxy lH;have HT:Hid (s.thn=(x.length:Int)/\s.els=(y.length:Int)):=⟨ht,he⟩
 have X0:Hid (IK w bH cH D S bR cR N C w.heap.size (w.heap.size+1) (w.heap.size+1+1) C cA V z c (((w.alloc (.cells #[Vs bH D cH,Vs bR 8 cR] 45)).alloc (.cells #[Vs C 8 cA,Vi z,Vi c] 142)).alloc (.cells oz 199))):=UO w h1 h2 h3;obtain⟨b,au,af,rfl,aJ,ay⟩:=h4.head;rw[List.length_append]at aJ ay⊢;have ae:=hxy ay;clear h1 h2 h3 lH h4 ay ht he;go_enter Tryz.func159,Tryz.ntmps159;go_upto_region 1 with fail;unfold oz at X0;obtain⟨u,hu⟩:=BG (((w.alloc (.cells #[Vs bH D cH,Vs bR 8 cR] 45)).alloc (.cells #[Vs C 8 cA,Vi z,Vi c] 142)).alloc (.cells #[Vi 0,Vi 0,.slice none 0 0,Vi 0,Vi 0,Vi 0] 199));rw[hu]at X0⊢;obtain⟨bs,an⟩:=BG w.heap.size;obtain⟨bh,az⟩:=BG (w.heap.size+1);obtain⟨br,aA⟩:=BG (w.heap.size+1+1);have X0:Hid (IK w bH cH D S bR cR N C bs bh br C cA V z c u):=by rw[<-an,<-az,<-aA];exact X0
 rw[aA,az,an];have BO:Hid (w.heap.size=bs/\bs<bh/\bh<br):=⟨an,AB,AB⟩
 clear hu an az aA;have aw:=ae.below X0.bel ae.lt;obtain⟨k0,k1,k2,k3,k4,k5,k6,k7,k8,k9,a3⟩:=eX aw;have kl:=aw.lt;go_upto_region 2 with fail;obtain⟨u1,ar,aF⟩:∃y,u.alloc (.cells (EZ s).toArray 111)=y/\Bw u y:=⟨_,rfl,Ah⟩
 have q1:=Bh u (.cells (EZ s).toArray 111);rw[ar]at q1;unfold EZ at ar q1;rw[ar];have X1:=hxy (X0.below aF);obtain⟨sb,aM⟩:=BG u.heap.size;rw[aM]at q1⊢;have Q1:=hxy q1;clear ar aF q1 aM k0 k1 k2 k3 k4 k5 k6 k7 k8 k9 a3 kl aw X0;obtain⟨k0,k7,k8,k9,kl⟩:=eT Q1;rw[HT.1]at k8;rw[HT.2]at k9;go_upto_region 3 with fail;obtain⟨tv,aO,HS⟩:∃q,Value.slice (if af=1 then some ⟨b,au,none⟩else some ⟨b,au+11,none⟩) (1+x.length-1) (af-1)=q/\Hid (SL u1 q x):=⟨_,rfl,Td (L:=s::(x++y)) (i:=1) (by rw[List.length_cons,List.length_append];exact ae.below X1.bel ae.lt) AY (by simp;omega) (by simp;omega) rfl AB rfl⟩
 rw[aO];clear aO;by_cases bg:s.k=3
 ·obtain⟨⟨s0,s1⟩,⟨c0,c1,c2⟩,ag,ah⟩:=X1.cells
  go_wp2_with fail;refine(Tq x aD bH cH D S bR cR N C cA V z c s.cond ad n tv u1 LL X1.sc X1.A X1.ok HS r0 r1).mono ?_;rintro e t⟨Z,E,ao,m,o,z2,F,rr,rfl,q0,q1,I,J⟩;have Y:=hxy (X1.below J);have aW:Hid (Z=0->VW D S N C w.heap.size (IY t br (Vi Z) (Vi E) (.slice ao m o) (Vi z2) (Vi F) (Vi rr)) (.slice ao m o) z2 F):=fun e=>by
   obtain⟨g,cg,U,h1,h2,h3,h4⟩:=I e;have:=X1.bel.size;have ap:g≠br:=by
    rcases h2 with h2|h2
    ·rw[h2];exact X1.ne
    ·have:=Bz X1.R;omega
   exact⟨g,cg,U,h1,AB,Hr h3 ap _ _ _ _ _ _,h4⟩
  obtain⟨y0,y1,y2,y3,y4,y5,yf,yl⟩:=Y.res;clear J I s0 s1 c0 c1 c2 ag ah k0 k7 k8 k9 kl;unfold Dj;go_wp2_with fail;refine bodyPost_ret (v:=Dj Z E (.slice ao m o) z2 F rr) (by simp[results,Tryz.results159,go_sem,Dj, *]) rfl ⟨Z,E,ao,m,o,z2,F,rr,rfl,q0,q1,aW,?_⟩;exact CV Y.bel (by have:=BO.out;omega) _ _ _ _ _ _
 obtain⟨_,⟨c0,c1,c2⟩,ag,ah⟩:=X1.cells;go_wp2_with fail;refine(Jq _ _ _ _ _ _ _).mono ?_;rintro e u2⟨⟨fr,rfl⟩,J⟩;have X2:=hxy (X1.below J);have Q2:=hxy (Ba Q1 J);have aC:=hxy (HS.below J);clear J X1 Q1 HS c0 c1 c2 ag ah k0 k7 k8 k9 kl;by_cases hf:fr=0
 rotate_left
 ·go_wp2_with fail
  refine(Gz _ _ _ _).mono ?_;rintro e t⟨rfl,J⟩;have Y:=hxy (X2.below J);obtain⟨y0,y1,y2,y3,y4,y5,yf,yl⟩:=Y.res;unfold Dj;go_wp2_with fail;refine bodyPost_ret (v:=Dj fr ad (.slice none 0 0) 0 0 n) (by simp[results,Tryz.results159,go_sem,Dj, *]) rfl ⟨fr,ad,none,0,0,0,0,n,rfl,r0,r1,fun e=>absurd e hf,?_⟩;exact CV Y.bel (by have:=BO.out;omega) _ _ _ _ _ _
 subst hf;obtain⟨⟨s0,s1⟩,⟨c0,c1,c2⟩,ag,ah⟩:=X2.cells;go_wp2_with fail;refine(aD bH cH D S bR cR N C cA V z c _ n tv u2 LL X2.sc X2.A X2.ok aC r0 r1).mono ?_;rintro e u3⟨Z,E,ao,m,o,z2,F,rr,rfl,q0,q1,I,J⟩;have al:Bw u3 (u3.alloc (.cells #[Vi Z,Vi E,.slice ao m o,Vi z2,Vi F,Vi rr] 199)):=Ah;have aB:=PX (at':=E) (rounds:=rr) I;obtain⟨u4,aj⟩:=BG (u3.alloc (.cells #[Vi Z,Vi E,.slice ao m o,Vi z2,Vi F,Vi rr] 199));rw[aj]at al aB;have X4:=hxy ((X2.below J).below al);have Q4:=hxy (Ba (Ba Q2 J) al);have YX:=hxy aB;have LB:Hid (br<u2.heap.size/\w.heap.size<=u2.heap.size):=⟨Bz X2.R,X2.bel.size⟩
 have ax:=J.size;clear J I aB al X2 Q2 aC s0 s1 c0 c1 c2 ag ah;unfold Dj;go_upto_region 9 with fail;obtain⟨nx,ai⟩:=BG u3.heap.size;rw[ai]at YX ax⊢;have NX:=hxy ax;clear aj ai ax;obtain⟨v0,v1,v2,v3,v4,v5,vf,vl⟩:=YX.cells;by_cases aR:Z=0
 rotate_left
 ·obtain⟨y0,y1,y2,y3,y4,y5,yf,yl⟩:=X4.res
  go_wp2_with fail;refine bodyPost_ret (v:=Dj Z E (.slice ao m o) z2 F rr) (by simp[results,Tryz.results159,go_sem,Dj, *]) rfl ⟨Z,E,ao,m,o,z2,F,rr,rfl,q0,q1,fun e=>absurd e aR,?_⟩;exact CV X4.bel (by have:=BO.out;omega) _ _ _ _ _ _
 subst aR;go_upto_region 11 with fail;clear v0 v1 v2 v3 v4 v5 vf vl;go_cut [10,14,15](fun a6 a7 a8 wx=>a6=Vq br/\a7=Vq nx/\∃(ny:Nat)(a l:Int)(j:Option Addr)(Q d:Nat)(X O M:Int),a8=Vq ny/\nx<ny/\0<=M/\M<=1000/\IK w bH cH D S bR cR N C bs bh br C cA V z c wx/\YB D S N C u2.heap.size nx 0 E ao m o z2 F rr wx/\YB D S N C u2.heap.size ny a l j Q d X O M wx)
 case first=>
  have j0:Cb u4 bs 0 (Vs bH D cH):=fun w' h=>(X4.below h).cells.1.1
  have j1:Cb u4 bs 1 (Vs bR 8 cR):=fun w' h=>(X4.below h).cells.1.2
  have j2:Cb u4 bh 0 (Vs C 8 cA):=fun w' h=>(X4.below h).cells.2.1.1
  have j3:Cb u4 bh 1 (Vi z):=fun w' h=>(X4.below h).cells.2.1.2.1
  have j4:Cb u4 bh 2 (Vi c):=fun w' h=>(X4.below h).cells.2.1.2.2
  have j5:Cb u4 sb 8 (Vi (x.length:Int)):=fun w' h=>by rw[<-HT.1];exact(eT (Ba Q4 h)).2.2.1
  have j6:Cb u4 nx 5 (Vi rr):=fun w' h=>(YX.below h).cells.2.2.2.2.2.1
  have bi:IntKind.i64.wrap (1+(x.length:Int))=((1+x.length:Nat):Int):=by rw[IntKind.wrap_i64]<;>omega
  have be:1+x.length<=x.length+y.length+1:=AB;have bf:x.length+y.length+1<=af:=AB;refine wp_region_held_drew (S:=fun w'=>Bw u4 w') Ab Al.drew (fun _=>?_);refine lM [0,1,2,3,4] ?_;refine Ky 5 ?kav rfl ?kay ?kar
  case kay=>(intro w aY;(try dsimp only at aY);go_simp;rw[if_pos AB])
  refine BV ?_;refine lM [6,7,8,9,10,11,12,13] ?_;obtain⟨ev,aK,HE⟩:∃q,Value.slice (if af=(1+(x.length:Int)).toNat then some ⟨b,au,none⟩else some ⟨b,au+(1+(x.length:Int)).toNat*11,none⟩) (x.length+y.length+1-(1+(x.length:Int)).toNat) (af-(1+(x.length:Int)).toNat)=q/\Hid (SL u4 q y):=⟨_,rfl,Td (L:=s::(x++y)) (i:=1+x.length) (by rw[List.length_cons,List.length_append];exact ae.below X4.bel ae.lt) (by rw[Nat.add_comm];simp) (by simp;omega) (by simp;omega) (by rw[show(1+(x.length:Int)).toNat=1+x.length by omega]) AB AB⟩
  rw[aK];clear aK;have K:Bw u4 u4.drew:=Al.drew;generalize u4.drew=t0 at K⊢;have E2:u2.heap.size<=u4.heap.size:=by have:=Bz YX.Y;have:=NX.out;omega
  have EN:=Bz YX.Y;refine wpAnyH_ready (rs:=[14,15]) Ab AY ?_;refine AllReadyH.cons rfl (fun KK hK=>?_) (AllReadyH.cons rfl (fun KK hK=>?_) AllReadyH.nil)
  ·go_simp
   refine(aE bH cH D S bR cR N C cA V z c _ rr ev t0 LL (X4.below K).sc (X4.below K).A X4.ok (HE.below K) q0 q1).mono ?_;rintro e t1⟨a,l,j,Q,d,X,O,M,rfl,p0,p1,I,J⟩;have B:=K.trans (J.mono K.size);refine hK.out _ _ B (fun _=>?_);clear hK KK;unfold Dj;refine BV ?_;refine AO 15 rfl (fun KK hK=>?_);go_simp;refine hK.out _ _ (B.alloc B.size _) (fun _=>?_);clear hK KK;refine BV ?_;refine AO 16 rfl (fun KK hK=>?_);go_simp;refine hK.out _ _ (B.alloc B.size _) (fun _=>?_);clear hK KK;refine wpAnyH_done Ab ?_ _;have bn:Bw t1 (t1.alloc (.cells #[Vi a,Vi l,.slice j Q d,Vi X,Vi O,Vi M] 199)):=Ah;have ac:a=0->VW D S N C u2.heap.size t1 (.slice j Q d) X O:=fun e=>by
    obtain⟨g,cg,U,h1,h2,h3,h4⟩:=I e;exact⟨g,cg,U,h1,by have:=K.size;omega,h3,h4⟩
   have aa:Hid (IK w bH cH D S bR cR N C bs bh br C cA V z c (t1.alloc (.cells #[Vi a,Vi l,.slice j Q d,Vi X,Vi O,Vi M] 199))/\YB D S N C u2.heap.size nx 0 E ao m o z2 F rr (t1.alloc (.cells #[Vi a,Vi l,.slice j Q d,Vi X,Vi O,Vi M] 199))/\YB D S N C u2.heap.size t1.heap.size a l j Q d X O M (t1.alloc (.cells #[Vi a,Vi l,.slice j Q d,Vi X,Vi O,Vi M] 199))):=⟨(X4.below B).below bn,(YX.below B).below bn,PX ac⟩
   have a0:nx<t1.heap.size:=by have:=B.size;omega
   clear I ac J B bn j0 j1 j2 j3 j4 j5 j6;go_wp2_with fail;go_meet;exact⟨rfl,rfl,t1.heap.size,a,l,j,Q,d,X,O,M,rfl,a0,p0,p1,aa.1,aa.2.1,aa.2.2⟩
  ·go_simp
   obtain⟨t1,aN,bn,n1⟩:∃q,t0.alloc (.cells #[Vi 0,Vi 0,.slice none 0 0,Vi 0,Vi 0,Vi 0] 199)=q/\Bw t0 q/\q.heap[t0.heap.size]?=some (.cells #[Vi 0,Vi 0,.slice none 0 0,Vi 0,Vi 0,Vi 0] 199):=⟨_,rfl,Ah,Bh _ _⟩
   rw[aN];have B:=K.trans (bn.mono K.size);refine hK.out _ _ B (fun _=>?_);clear hK KK;refine BV ?_;refine AO 14 rfl (fun KK hK=>?_);go_simp;refine(aE bH cH D S bR cR N C cA V z c _ rr ev t1 LL (X4.below B).sc (X4.below B).A X4.ok (HE.below B) q0 q1).mono ?_;rintro e t2⟨a,l,j,Q,d,X,O,M,rfl,p0,p1,I,J⟩;have aH:=B.trans (J.mono B.size);refine hK.out _ _ aH (fun _=>?_);clear hK KK;unfold Dj;refine BV ?_;have n2:=Ba n1 J;have f0:=(AJ n2 0).trans rfl;have f1:=(AJ n2 1).trans rfl;have f2:=(AJ n2 2).trans rfl;have f3:=(AJ n2 3).trans rfl;have f4:=(AJ n2 4).trans rfl;have f5:=(AJ n2 5).trans rfl;have ff:=CS n2;have fl:=Bz n2;have a1:C≠t0.heap.size:=by have:=(X4.below K).A.lt;omega
   have a2:=Bz n1;have ai:nx<t0.heap.size:=by have:=K.size;omega
   have aj:=K.size;obtain⟨ny,av⟩:=BG t0.heap.size;rw[av]at n2 f0 f1 f2 f3 f4 f5 ff fl a1 a2 ai aj⊢;have ac:a=0->VW D S N C u2.heap.size t2 (.slice j Q d) X O:=fun e=>by
    obtain⟨g,cg,U,h1,h2,h3,h4⟩:=I e;exact⟨g,cg,U,h1,AB,h3,h4⟩
   have aI:YB D S N C u2.heap.size ny a l j Q d X O M (IY t2 ny (Vi a) (Vi l) (.slice j Q d) (Vi X) (Vi O) (Vi M)):=by
    refine⟨Ls n2 _ _ _ _ _ _,fun e=>?_⟩;obtain⟨g,cg,U,h1,h2,h3,h4⟩:=I e;have ap:g≠ny:=AB;exact⟨g,cg,U,h1,AB,ap,Hr h3 ap _ _ _ _ _ _,h4⟩
   have am:Bw u4 (IY t2 ny (Vi a) (Vi l) (.slice j Q d) (Vi X) (Vi O) (Vi M)):=CV aH aj _ _ _ _ _ _;have aa:Hid (IK w bH cH D S bR cR N C bs bh br C cA V z c (IY t2 ny (Vi a) (Vi l) (.slice j Q d) (Vi X) (Vi O) (Vi M))/\YB D S N C u2.heap.size nx 0 E ao m o z2 F rr (IY t2 ny (Vi a) (Vi l) (.slice j Q d) (Vi X) (Vi O) (Vi M))/\YB D S N C u2.heap.size ny a l j Q d X O M (IY t2 ny (Vi a) (Vi l) (.slice j Q d) (Vi X) (Vi O) (Vi M))):=⟨X4.below am,YX.below am,aI⟩
   clear I ac J aI n1 n2 aN bn av;refine AO 16 rfl (fun KK hK=>?_);go_simp;refine hK.out _ _ am (fun _=>?_);clear hK KK am f0 f1 f2 f3 f4 f5 ff fl j0 j1 j2 j3 j4 j5 j6;refine wpAnyH_done Ab ?_ _;go_wp2_with fail;go_meet;exact⟨rfl,rfl,ny,a,l,j,Q,d,X,O,M,rfl,ai,p0,p1,aa.1,aa.2.1,aa.2.2⟩
 case rest=>
 obtain⟨rfl,rfl,ny,a,l,j,Q,d,X,O,M,rfl,ba,p0,p1,l5,y5,y6⟩:=hcut;have X5:=hxy l5;have Y5:=hxy y5;have Y6:=hxy y6;clear l5 y5 y6 X4 YX Q4;generalize wc=u5 at X5 Y5 Y6⊢;obtain⟨v0,v1,v2,v3,v4,v5,vf,vl⟩:=Y6.cells;by_cases aS:a=0
 rotate_left
 ·obtain⟨y0,y1,y2,y3,y4,y5,yf,yl⟩:=X5.res
  go_wp2_with fail;refine bodyPost_ret (v:=Dj a l (.slice j Q d) X O M) (by simp[results,Tryz.results159,go_sem,Dj, *]) rfl ⟨a,l,j,Q,d,X,O,M,rfl,p0,p1,fun e=>absurd e aS,?_⟩;exact CV X5.bel (by have:=BO.out;omega) _ _ _ _ _ _
 subst aS;obtain⟨gx,bc,Ux,aP,a4,_,Ax,aU⟩:=Y5.ab rfl;obtain⟨gy,bd,Uy,aQ,a5,_,Ay,aV⟩:=Y6.ab rfl;simp only[Value.slice.injEq]at aP aQ;obtain⟨rfl,rfl,rfl⟩:=aP;obtain⟨rfl,rfl,rfl⟩:=aQ;obtain⟨x0,x1,x2,x3,x4,x5,xf,xl⟩:=Y5.cells;go_wp2_with fail;refine(Je D S N _ _ Ux _ _ _ _ Uy _ _ u5 Ax Ay aU aV).mono ?_;rintro e u6⟨g4,aG,U4,z4,c4,rfl,bk,A4,aT,J⟩;have X6:=hxy (X5.below J);have Y7:=Y6.below J;have A4:=hxy A4;have aX:=hxy aT;have bb:ny<u5.heap.size:=vl;have a9:=Bz X5.R;have bj:=X5.bel.size;have aZ:br≠ny:=by have:=LB.out;have:=NX.out;omega
 have ak:w.heap.size<=ny:=by have:=LB.out;have:=NX.out;omega
 clear J aT Ax Ay aU aV a4 a5 x0 x1 x2 x3 x4 x5 xf xl v0 v1 v2 v3 v4 v5 vf vl X5 Y5 Y6;obtain⟨v0,v1,v2,v3,v4,v5,vf,vl⟩:=Y7.cells;obtain⟨y0,y1,y2,y3,y4,y5,yf,yl⟩:=X6.res;clear Y7;go_wp2_with fail;refine bodyPost_ret (v:=Dj 0 l (Vs g4 8 aG) z4 c4 M) (by simp[results,Tryz.results159,go_sem,Dj, *]) rfl ⟨0,l,_,_,_,z4,c4,M,rfl,p0,p1,fun _=>⟨g4,aG,U4,rfl,Or.inr AB,?_,aX⟩,?_⟩
 ·refine Hr (((A4.other ?_ _).other ?_ _).other ?_ _) AB _ _ _ _ _ _
  all_goals(show ny≠g4;omega)
 ·refine CV ?_ (by have:=BO.out;omega) _ _ _ _ _ _
  exact((X6.bel.setCell (p:=Va ny 2) ak _).setCell (p:=Va ny 3) ak _).setCell (p:=Va ny 4) ak _
theorem IK.nh{bH Q:Nat}{C cR:Nat}{b0 I X a cA:Nat}{V:Nat->VV}(h:IK w bH Q o S C cR M b0 I X a K cA V z c u):K≠X:=fun e=>by
 have q:=h.A.cell (i:=3) AB;rw[e,AJ h.hd 3]at q;simp at q
theorem Gd{e E:List SV}(j:Nat)(a:j<11):I5 (JO (e++s::E)) (e.length*11+j)=kD s j:=by
 rw[Fs _ _ _ a];congr 1
 unfold JO;simp
theorem Zx{c:Nat}{e E:List SV}(h:At w b c (n*11) (I5 (JO (e++s::E))))(j:e.length<n):w.cell? ⟨b,c+e.length*11,none⟩=some (Vi s.k)/\w.cell? ⟨b,c+e.length*11+1,none⟩=some (Vi s.op)/\w.cell? ⟨b,c+e.length*11+2,none⟩=some (Vi s.d)/\w.cell? ⟨b,c+e.length*11+3,none⟩=some (Vi s.a)/\w.cell? ⟨b,c+e.length*11+4,none⟩=some (Vi s.b)/\w.cell? ⟨b,c+e.length*11+5,none⟩=some (Vi s.imm)/\w.cell? ⟨b,c+e.length*11+6,none⟩=some (Vi s.h)/\w.cell? ⟨b,c+e.length*11+7,none⟩=some (Vi s.cond)/\w.cell? ⟨b,c+e.length*11+8,none⟩=some (Vi s.thn)/\w.cell? ⟨b,c+e.length*11+9,none⟩=some (Vi s.els)/\w.cell? ⟨b,c+e.length*11+10,none⟩=some (Vi s.proc)/\b<w.heap.size:=
 ⟨(h.cell (i:=e.length*11+0) AB).trans (congrArg some (Gd 0 AB)),(h.cell (i:=e.length*11+1) AB).trans (congrArg some (Gd 1 AB)),(h.cell (i:=e.length*11+2) AB).trans (congrArg some (Gd 2 AB)),(h.cell (i:=e.length*11+3) AB).trans (congrArg some (Gd 3 AB)),(h.cell (i:=e.length*11+4) AB).trans (congrArg some (Gd 4 AB)),(h.cell (i:=e.length*11+5) AB).trans (congrArg some (Gd 5 AB)),(h.cell (i:=e.length*11+6) AB).trans (congrArg some (Gd 6 AB)),(h.cell (i:=e.length*11+7) AB).trans (congrArg some (Gd 7 AB)),(h.cell (i:=e.length*11+8) AB).trans (congrArg some (Gd 8 AB)),(h.cell (i:=e.length*11+9) AB).trans (congrArg some (Gd 9 AB)),(h.cell (i:=e.length*11+10) AB).trans (congrArg some (Gd 10 AB)),h.lt⟩
theorem ZP{sb:Nat}(h:u.heap[sb]?=some (.cells (EZ s).toArray 111)):u.cell? (Va sb 1)=some (Vi s.op)/\u.cell? (Va sb 2)=some (Vi s.d)/\u.cell? (Va sb 3)=some (Vi s.a)/\u.cell? (Va sb 4)=some (Vi s.b)/\u.cell? (Va sb 5)=some (Vi s.imm)/\u.cell? (Va sb 6)=some (Vi s.h):=
 ⟨(AJ h 1).trans rfl,(AJ h 2).trans rfl,(AJ h 3).trans rfl,(AJ h 4).trans rfl,(AJ h 5).trans rfl,(AJ h 6).trans rfl⟩
theorem NZ(J:List SV)(hl:J.length<=1048576)(hw:Wl J)(IH:∀ys:List SV,ys.length<J.length->Wl ys->BC ys):BC J:=by
 intro bH cH Q S bR cR V0 bA cA V z c aP l v w lH h1 h2 h3 h4 r0 r1;have N1:Hid (bH<w.heap.size/\bR<w.heap.size):=⟨h1.h.lt,h1.r.lt⟩
 have LL:=hxy lH;have X0:Hid (IK w bH cH Q S bR cR V0 bA w.heap.size (w.heap.size+1) (w.heap.size+1+1) bA cA V z c (((w.alloc (.cells #[Vs bH Q cH,Vs bR 8 cR] 45)).alloc (.cells #[Vs bA 8 cA,Vi z,Vi c] 142)).alloc (.cells oz 199))):=UO w h1 h2 h3;have HL:=hxy h4;obtain⟨ao,ai,rfl,aV,aD⟩:=h4;have aA:=hxy aD;clear h1 h2 h3 lH aD;go_enter Tryz.func145,Tryz.ntmps145;go_upto_region 1 with fail;unfold oz at X0;obtain⟨u,hu⟩:=BG (((w.alloc (.cells #[Vs bH Q cH,Vs bR 8 cR] 45)).alloc (.cells #[Vs bA 8 cA,Vi z,Vi c] 142)).alloc (.cells #[Vi 0,Vi 0,.slice none 0 0,Vi 0,Vi 0,Vi 0] 199));rw[hu]at X0⊢;obtain⟨bs,ax⟩:=BG w.heap.size;obtain⟨F,aI⟩:=BG (w.heap.size+1);obtain⟨br,aw⟩:=BG (w.heap.size+1+1);have X0:Hid (IK w bH cH Q S bR cR V0 bA bs F br bA cA V z c u):=by rw[<-ax,<-aI,<-aw];exact X0
 rw[aw,aI,ax];have BO:Hid (w.heap.size=bs/\bs<F/\F<br):=⟨ax,AB,AB⟩
 clear hu ax aI aw;go_wp2_with fail;go_loopw [4,11](fun rv iv wr=>∃(n rest:List SV)(l:Int)(g cg:Nat)(U:Nat->VV)(z' c':Int),rv=Vi l/\iv=Vi (n.length:Int)/\Hid (J=n++rest/\Wl rest)/\n.length+rest.length=J.length/\0<=l/\l<=1000/\IK w bH cH Q S bR cR V0 bA bs F br g cg U z' c' wr)(fun _ iv _=>J.length-(intOf iv).toNat)
 case atStart=>exact⟨[],J,l,bA,cA,V,z,c,rfl,rfl,⟨rfl,hw⟩,AY,r0,r1,X0⟩
 case round=>
  clear X0 r0 r1 hw;obtain⟨n,rest,l,g,cg,U,z',c',rfl,rfl,HX,B,r0,r1,x⟩:=hrel;have X:=hxy x;clear x;obtain⟨ap,a4⟩:=HX.out;have bf:=a4.inv;clear a4;rcases bf with rfl|⟨s,rest,rfl,hk,ht,he,aN⟩|⟨s,x,y,rest,rfl,hk,ht,he,bg,bi,aN⟩
  ·
   have bq:¬(n.length:Int)<(J.length:Int):=by simp at B;omega
   obtain⟨_,⟨c0,c1,c2⟩,au,av⟩:=X.cells;obtain⟨y0,y1,y2,y3,y4,y5,yf,yl⟩:=X.res;have YA:Hid (BZ wr g (8*6) (vF U)/\g≠br/\BQ Q S 8 V0 8 U z' c'=true/\(g=bA∨w.heap.size<=g)/\Bw w wr):=⟨X.A,X.ne,X.ok,X.nw,X.bel⟩
   have aw:F≠br:=by have:=BO.out;omega
   clear X HX ap B;go_wp2_with fail;refine bodyPost_ret (v:=Dj 0 0 (Vs g 8 cg) z' c' l) (by simp[results,Tryz.results145,go_sem,Dj, *]) rfl ⟨0,0,_,_,_,z',c',l,rfl,r0,r1,fun _=>⟨g,cg,U,rfl,YA.2.2.2.1,?_,YA.2.2.1⟩,?_⟩
   ·exact Hr YA.1 YA.2.1 _ _ _ _ _ _
   ·exact CV YA.2.2.2.2 (by have:=BO.out;omega) _ _ _ _ _ _
  ·
   obtain⟨b,E,rfl,aa⟩:∃b E,ao=some ⟨b,E,none⟩/\At w b E (J.length*11) (I5 (JO J)):=by
    rcases aA.out with h|h
    ·simp at B;omega
    ·exact h
   have am:n.length<J.length:=by simp at B;omega
   have aF:=hxy aa;have af:At wr b E (J.length*11) (I5 (JO (n++s::rest))):=by rw[<-ap];exact aa.below X.bel aa.lt
   obtain⟨k0,k1,k2,k3,k4,k5,k6,k7,k8,k9,aO,kl⟩:=Zx af am;have aM:(n.length:Int)<(J.length:Int):=AB;clear aa af ap;have HT:Hid (s.thn=0/\s.els=0/\s.k=1):=⟨ht,he,hk⟩
   clear ht he hk;go_upto_region 4 with fail;obtain⟨u1,ad,ak⟩:∃q,wr.alloc (.cells (EZ s).toArray 111)=q/\Bw wr q:=⟨_,rfl,Ah⟩
   have q1:=Bh wr (.cells (EZ s).toArray 111);rw[ad]at q1;unfold EZ at ad q1;rw[ad];have Z:=hxy (X.below ak);have ae:=X.hd.lt;have C:=Bz X.R;obtain⟨sb,an⟩:=BG wr.heap.size;rw[an]at q1 ae C⊢;have aG:Hid (sb≠F):=(by omega:sb≠F)
   have az:=hxy C;have Q1:=hxy q1;clear ad ak q1 an ae C k0 k1 k2 k3 k4 k5 k6 k7 k8 k9 aO kl X;obtain⟨k0,k7,k8,k9,kl⟩:=eT Q1;rw[HT.1]at k8;rw[HT.2.1]at k9;rw[HT.2.2]at k0;obtain⟨i1,i2,i3,i4,i5,i6⟩:=ZP Q1;obtain⟨⟨s0,s1⟩,⟨c0,c1,c2⟩,au,av⟩:=Z.cells;go_wp2_with fail;refine(Eb bH cH Q S bR cR 8 V0 g cg 8 U z' c' s.op s.d s.a s.b s.imm s.h u1 LL AB AB Z.sc Z.A).mono ?_;rintro e u2⟨aQ,V2,z2,ah,aT,aK,_,hb⟩;have X2:=hxy (Z.below hb);have Q2:=hxy (Ba Q1 hb);have aU:=Bz Z.R;have bF:=Z.bel.size;clear hb Z Q1 s0 s1 c0 c1 c2 au av i1 i2 i3 i4 i5 i6 k0 k7 k8 k9 kl;rcases aT with⟨ay,rfl⟩|⟨rfl,g2,aj,bC,rfl,A2⟩
   ·go_wp2_with fail
    refine(Gz _ _ _ _).mono ?_;rintro e t⟨rfl,hb⟩;have Y:=hxy ((X2.below Ah).below hb);obtain⟨y0,y1,y2,y3,y4,y5,yf,yl⟩:=Y.res;unfold Dj;clear aK;go_wp2_with fail;refine bodyPost_ret (v:=Dj aQ (wrap64 (aP+(n.length:Int))) (.slice none 0 0) 0 0 l) (by simp[results,Tryz.results145,go_sem,Dj, *]) rfl ⟨aQ,_,none,0,0,0,0,l,rfl,r0,r1,fun e=>absurd e ay,?_⟩;exact CV Y.bel (by have:=BO.out;omega) _ _ _ _ _ _
   ·have a8:Hid (BQ Q S 8 V0 8 V2 z2 ah=true):=aK rfl
    have bn:Bw u2 (u2.alloc (.cells #[Vi 0,Vs g2 8 aj,Vi z2,Vi ah] 192)):=Ah;have n3:=Bh u2 (.cells #[Vi 0,Vs g2 8 aj,Vi z2,Vi ah] 192);obtain⟨u3,a1⟩:=BG (u2.alloc (.cells #[Vi 0,Vs g2 8 aj,Vi z2,Vi ah] 192));rw[a1]at bn n3;have X3:=hxy (X2.below bn);have Q3:=hxy (Ba Q2 bn);have A3:=hxy (A2.below bn A2.lt);have m0:=(AJ n3 0).trans rfl;have m1:=(AJ n3 1).trans rfl;have m2:=(AJ n3 2).trans rfl;have N:=(AJ n3 3).trans rfl;have ml:=Bz n3;go_upto_region 7 with fail;obtain⟨nt,aY⟩:=BG u2.heap.size;rw[aY]at m0 m1 m2 N ml⊢;clear a1 bn n3 aY A2 aK X2 Q2;obtain⟨_,⟨c0,c1,c2⟩,au,av⟩:=X3.cells;have hf:=X3.hd.free;obtain⟨k0,k7,k8,k9,kl⟩:=eT Q3;rw[HT.1]at k8;rw[HT.2.1]at k9;have aZ:=aG.out;have Y:Hid (IK w bH cH Q S bR cR V0 bA bs F br g2 aj V2 z2 ah (((u3.setCell (Va F 0) (Vs g2 8 aj)).setCell (Va F 1) (Vi z2)).setCell (Va F 2) (Vi ah))):=X3.put A3 a8 (Or.inr AB) AB (by have:=BO.out;omega) (by have:=N1.out;have:=BO.out;omega) (by have:=N1.out;have:=BO.out;omega);have be:(n.length:Int)<1048576:=by have:=B;simp at this;omega
    clear X3 A3 Q3;go_wp2_with fail;go_roundw
    case rel=>exact⟨n++[s],rest,l,g2,aj,V2,z2,ah,rfl,by simp;try omega,⟨by rw[HX.1];simp,aN⟩,by simp at B⊢;omega,r0,r1,Y⟩
    case measure=>simp[intOf]at B⊢;omega
  ·
   obtain⟨b,E,rfl,aa⟩:∃b E,ao=some ⟨b,E,none⟩/\At w b E (J.length*11) (I5 (JO J)):=by
    rcases aA.out with h|h
    ·simp at B;omega
    ·exact h
   have am:n.length<J.length:=by simp at B;omega
   have aF:=hxy aa;have af:At wr b E (J.length*11) (I5 (JO (n++s::(x++y++rest)))):=by rw[<-ap];exact aa.below X.bel aa.lt
   obtain⟨k0,k1,k2,k3,k4,k5,k6,k7,k8,k9,aO,kl⟩:=Zx af am;have aM:(n.length:Int)<(J.length:Int):=AB;clear aa af ap;have HT:Hid (s.thn=(x.length:Int)/\s.els=(y.length:Int)):=⟨ht,he⟩
   have aE:n.length+1+x.length+y.length+rest.length=J.length:=by simp at B;omega
   have M:=hxy aE;clear ht he;go_upto_region 4 with fail;obtain⟨u1,ad,ak⟩:∃q,wr.alloc (.cells (EZ s).toArray 111)=q/\Bw wr q:=⟨_,rfl,Ah⟩
   have q1:=Bh wr (.cells (EZ s).toArray 111);rw[ad]at q1;unfold EZ at ad q1;rw[ad];have Z:=hxy (X.below ak);have ae:=X.hd.lt;have C:=Bz X.R;obtain⟨sb,an⟩:=BG wr.heap.size;rw[an]at q1 ae C⊢;have aG:Hid (sb≠F):=(by omega:sb≠F)
   have az:=hxy C;have Q1:=hxy q1;clear ad ak q1 an ae C k0 k1 k2 k3 k4 k5 k6 k7 k8 k9 aO kl X;obtain⟨k0,k7,k8,k9,kl⟩:=eT Q1;rw[HT.1]at k8;rw[HT.2]at k9;have bD:¬s.k=1:=hk;go_upto_region 10 with fail;clear k0 k7 k8 k9 kl;go_cut [15](fun bp wx=>∃(ny:Nat)(m p:Int)(o:Option Addr)(N j:Nat)(K I O:Int),bp=Vq ny/\sb<ny/\0<=O/\O<=1000/\IK w bH cH Q S bR cR V0 bA bs F br g cg U z' c' wx/\wx.heap[sb]?=some (.cells (EZ s).toArray 111)/\YB Q S V0 g sb ny m p o N j K I O wx)
   case first=>
    have j0:Cb u1 bs 0 (Vs bH Q cH):=fun w' h=>(Z.below h).cells.1.1
    have j1:Cb u1 bs 1 (Vs bR 8 cR):=fun w' h=>(Z.below h).cells.1.2
    have j2:Cb u1 F 0 (Vs g 8 cg):=fun w' h=>(Z.below h).cells.2.1.1
    have j3:Cb u1 F 1 (Vi z'):=fun w' h=>(Z.below h).cells.2.1.2.1
    have j4:Cb u1 F 2 (Vi c'):=fun w' h=>(Z.below h).cells.2.1.2.2
    have j5:Cb u1 sb 8 (Vi (x.length:Int)):=fun w' h=>by rw[<-HT.1];exact(eT (Ba Q1 h)).2.2.1
    have j6:Cb u1 sb 9 (Vi (y.length:Int)):=fun w' h=>by rw[<-HT.2];exact(eT (Ba Q1 h)).2.2.2.1
    have bw:=Bz Q1;obtain⟨i1,aX⟩:∃q:Nat,q=n.length+1+x.length+y.length:=⟨_,rfl⟩
    obtain⟨pa,bc⟩:∃q:Nat,q=n.length+1:=⟨_,rfl⟩
    obtain⟨pb,bd⟩:∃q:Nat,q=n.length+1+x.length:=⟨_,rfl⟩
    have wa:IntKind.i64.wrap ((n.length:Int)+1)=(pa:Int):=by rw[IntKind.wrap_i64]<;>omega
    have wb:IntKind.i64.wrap ((pa:Int)+(x.length:Int))=(pb:Int):=by rw[IntKind.wrap_i64]<;>omega
    have wc:IntKind.i64.wrap ((pb:Int)+(y.length:Int))=(i1:Int):=by rw[IntKind.wrap_i64]<;>omega
    have bI:i1<=J.length:=AB;have bJ:n.length<=i1:=AB;have bK:i1<=ai:=AB;have bL:(i1:Int)<=(ai:Int):=AB;have bM:(n.length:Int)<=(i1:Int):=AB;clear bc bd;have a7:=hxy aX;clear aE aX;refine wp_region_held_drew (S:=fun w'=>Bw u1 w') Ab Al.drew (fun _=>?_);refine lM [0,1,2,3,4,5,6,7,8,9,10] ?_;refine Ky 11 (.slice (if ai=n.length then some ⟨b,E,none⟩else some ⟨b,E+n.length*11,none⟩) (i1-n.length) (ai-n.length)) rfl ?kby ?kbr
    case kby=>(intro w a9;(try dsimp only at a9);go_simp;first|done|(rw[if_pos AB];simp))
    refine BV ?_;refine lM [12,13,14] ?_;obtain⟨ev,aW,HE⟩:∃q,Value.slice (if ai=n.length then some ⟨b,E,none⟩else some ⟨b,E+n.length*11,none⟩) (i1-n.length) (ai-n.length)=q/\Hid (SL u1 q (s::(x++y))):=⟨_,rfl,Td (L:=J) (i:=n.length) (aF.below Z.bel aF.lt) (by rw[HX.1,List.drop_left,List.length_cons,List.take_succ_cons,List.take_left]) aV (by have:=M.out;simp;omega) rfl (by have:=a7.out;simp;omega) rfl⟩
    rw[aW];clear aW;have ac:Bw u1 u1.drew:=Al.drew;generalize u1.drew=t0 at ac⊢;have bk:x.length+y.length<=1048576:=by have:=M.out;omega
    have bj:x.length<J.length:=by have:=M.out;omega
    have bl:y.length<J.length:=by have:=M.out;omega
    have CC:Hid (∀t,Bw u1 t->Calls Tryz.prog 159 #[.agg #[Vs bH Q cH,Vs bR 8 cR],ev,Vi (wrap64 (aP+(n.length:Int))),.agg #[Vs g 8 cg,Vi z',Vi c'],Vi l] t (Zj Q S V0 g t)):=fun t ht=>NP s x y HT.1 HT.2 (IH x bj bg) (IH y bl bi) bH cH Q S bR cR V0 g cg U z' c' _ l ev t LL (Z.below ht).sc (Z.below ht).A Z.ok (HE.below ht) bk r0 r1
    refine wpAnyH_ready (rs:=[15,16]) Ab AY ?_;refine AllReadyH.cons rfl (fun KK hK=>?_) (AllReadyH.cons rfl (fun KK hK=>?_) AllReadyH.nil)
    ·go_simp
     refine(CC t0 ac).mono ?_;rintro e t1⟨m,p,o,N,j,K,I,O,rfl,p0,p1,al,hb⟩;have D:=ac.trans (hb.mono ac.size);refine hK.out _ _ D (fun _=>?_);clear hK KK;unfold Dj;refine BV ?_;refine AO 16 rfl (fun KK hK=>?_);go_simp;refine hK.out _ _ (D.alloc D.size _) (fun _=>?_);clear hK KK;refine BV ?_;refine AO 17 rfl (fun KK hK=>?_);go_simp;refine hK.out _ _ (D.alloc D.size _) (fun _=>?_);clear hK KK;refine wpAnyH_done Ab ?_ _;have bn:Bw t1 (t1.alloc (.cells #[Vi m,Vi p,.slice o N j,Vi K,Vi I,Vi O] 199)):=Ah;have aB:m=0->VW Q S V0 g sb t1 (.slice o N j) K I:=fun e=>by
      obtain⟨g',aH,U',h1,h2,h3,h4⟩:=al e;exact⟨g',aH,U',h1,by have:=ac.size;omega,h3,h4⟩
     have ag:Hid (IK w bH cH Q S bR cR V0 bA bs F br g cg U z' c' (t1.alloc (.cells #[Vi m,Vi p,.slice o N j,Vi K,Vi I,Vi O] 199))/\(t1.alloc (.cells #[Vi m,Vi p,.slice o N j,Vi K,Vi I,Vi O] 199)).heap[sb]?=some (.cells (EZ s).toArray 111)/\YB Q S V0 g sb t1.heap.size m p o N j K I O (t1.alloc (.cells #[Vi m,Vi p,.slice o N j,Vi K,Vi I,Vi O] 199))):=⟨(Z.below D).below bn,Ba (Ba Q1 D) bn,PX aB⟩
     have aJ:sb<t1.heap.size:=by have:=D.size;omega
     clear al aB hb D bn j0 j1 j2 j3 j4 j5 j6;go_wp2_with fail;go_meet;exact⟨t1.heap.size,m,p,o,N,j,K,I,O,rfl,aJ,p0,p1,ag.1,ag.2.1,ag.2.2⟩
    ·go_simp
     obtain⟨t1,a0,bn,n1⟩:∃q,t0.alloc (.cells #[Vi 0,Vi 0,.slice none 0 0,Vi 0,Vi 0,Vi 0] 199)=q/\Bw t0 q/\q.heap[t0.heap.size]?=some (.cells #[Vi 0,Vi 0,.slice none 0 0,Vi 0,Vi 0,Vi 0] 199):=⟨_,rfl,Ah,Bh _ _⟩
     rw[a0];have D:=ac.trans (bn.mono ac.size);refine hK.out _ _ D (fun _=>?_);clear hK KK;refine BV ?_;refine AO 15 rfl (fun KK hK=>?_);go_simp;refine(CC t1 D).mono ?_;rintro e t2⟨m,p,o,N,j,K,I,O,rfl,p0,p1,al,hb⟩;have aR:=D.trans (hb.mono D.size);refine hK.out _ _ aR (fun _=>?_);clear hK KK;unfold Dj;refine BV ?_;have n2:=Ba n1 hb;have f0:=(AJ n2 0).trans rfl;have f1:=(AJ n2 1).trans rfl;have f2:=(AJ n2 2).trans rfl;have f3:=(AJ n2 3).trans rfl;have f4:=(AJ n2 4).trans rfl;have f5:=(AJ n2 5).trans rfl;have ff:=CS n2;have fl:=Bz n2;have ba:g≠t0.heap.size:=by have:=(Z.below ac).A.lt;omega
     have bb:=Bz n1;have a2:=ac.size;obtain⟨ny,aC⟩:=BG t0.heap.size;rw[aC]at n2 f0 f1 f2 f3 f4 f5 ff fl ba bb a2⊢;have aS:YB Q S V0 g sb ny m p o N j K I O (IY t2 ny (Vi m) (Vi p) (.slice o N j) (Vi K) (Vi I) (Vi O)):=by
      refine⟨Ls n2 _ _ _ _ _ _,fun e=>?_⟩;obtain⟨g',aH,U',h1,h2,h3,h4⟩:=al e;have ay:g'≠ny:=AB;exact⟨g',aH,U',h1,AB,ay,Hr h3 ay _ _ _ _ _ _,h4⟩
     have ar:Bw u1 (IY t2 ny (Vi m) (Vi p) (.slice o N j) (Vi K) (Vi I) (Vi O)):=CV aR a2 _ _ _ _ _ _;have ag:Hid (IK w bH cH Q S bR cR V0 bA bs F br g cg U z' c' (IY t2 ny (Vi m) (Vi p) (.slice o N j) (Vi K) (Vi I) (Vi O))/\((IY t2 ny (Vi m) (Vi p) (.slice o N j) (Vi K) (Vi I) (Vi O))).heap[sb]?=some (.cells (EZ s).toArray 111)/\YB Q S V0 g sb ny m p o N j K I O (IY t2 ny (Vi m) (Vi p) (.slice o N j) (Vi K) (Vi I) (Vi O))):=⟨Z.below ar,Ba Q1 ar,aS⟩
     have aJ:sb<ny:=AB;clear al hb aS n1 n2 a0 bn aC;refine AO 17 rfl (fun KK hK=>?_);go_simp;refine hK.out _ _ ar (fun _=>?_);clear hK KK ar f0 f1 f2 f3 f4 f5 ff fl j0 j1 j2 j3 j4 j5 j6;refine wpAnyH_done Ab ?_ _;go_wp2_with fail;go_meet;exact⟨ny,m,p,o,N,j,K,I,O,rfl,aJ,p0,p1,ag.1,ag.2.1,ag.2.2⟩
   case rest=>
   obtain⟨ny,m,p,o,N,j,K,I,O,rfl,bE,p0,p1,l5,q5,y5⟩:=hcut;have X5:=hxy l5;have Q5:=hxy q5;have Y5:=hxy y5;have aU:=az.out;have bG:w.heap.size<=sb:=by have:=BO.out;omega
   clear l5 q5 y5 Z Q1;generalize wc=u5 at X5 Q5 Y5⊢;obtain⟨v0,v1,v2,v3,v4,v5,vf,vl⟩:=Y5.cells;by_cases a5:m=0
   rotate_left
   ·obtain⟨y0,y1,y2,y3,y4,y5,yf,yl⟩:=X5.res
    go_wp2_with fail;refine bodyPost_ret (v:=Dj m p (.slice o N j) K I O) (by simp[results,Tryz.results145,go_sem,Dj, *]) rfl ⟨m,p,o,N,j,K,I,O,rfl,p0,p1,fun e=>absurd e a5,?_⟩;exact CV X5.bel (by have:=BO.out;omega) _ _ _ _ _ _
   subst a5;obtain⟨gy,bB,Uy,a3,bo,bm,Ay,a6⟩:=Y5.ab rfl;simp only[Value.slice.injEq]at a3;obtain⟨rfl,rfl,rfl⟩:=a3;obtain⟨_,⟨c0,c1,c2⟩,au,av⟩:=X5.cells;have hf:=X5.hd.free;obtain⟨k0,k7,k8,k9,kl⟩:=eT Q5;rw[HT.1]at k8;rw[HT.2]at k9;have aZ:=aG.out;have bv:ny≠F:=by have:=BO.out;omega
   have bu:=X5.nh;have Y:Hid (IK w bH cH Q S bR cR V0 bA bs F br gy j Uy K I (((u5.setCell (Va F 0) (Vs gy 8 j)).setCell (Va F 1) (Vi K)).setCell (Va F 2) (Vi I))):=X5.put Ay a6 (by have:=X5.nw;omega) (by have:=X5.ne;omega) (by have:=BO.out;omega) (by have:=N1.out;have:=BO.out;omega) (by have:=N1.out;have:=BO.out;omega);have be:(n.length:Int)+1+(x.length:Int)+(y.length:Int)<=1048576:=by have:=M.out;omega
   clear X5 Y5 Q5 Ay a6 bo bm;go_wp2_with fail;go_roundw
   case rel=>exact⟨n++s::(x++y),rest,O,gy,j,Uy,K,I,rfl,by simp;try omega,⟨by rw[HX.1];simp,aN⟩,by have:=M.out;simp;omega,p0,p1,Y⟩
   case measure=>have:=M.out;simp[intOf];omega
theorem Qo(b:List SV)(j:b.length<=1048576)(e:Wl b):BC b:=by
 have H:∀(n:Nat)(a:List SV),a.length<=n->a.length<=1048576->Wl a->BC a:=by
  intro n;induction n with
  |zero=>intro a h c d;exact NZ a c d (fun zs k=>by omega)
  |succ n l=>intro a h c d;exact NZ a c d (fun zs k e=>l zs AB AB e)
 exact H _ b BP j e
end Go.Proofs.YtkckomianknjdaaGreat
