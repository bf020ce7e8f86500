import Derived.Test.YtkckomianknjdaaGreatOfCoreF
import Derived.Test.YtkckomianknjdaaGreatOfTransAcc
import Derived.Test.YtkckomianknjdaaGreatOfTableParts
import Derived.Test.YtkckomianknjdaaGreatOfTransRes
import Derived.Test.YtkckomianknjdaaGreatOfFlatAny
import Derived.Test.YtkckomianknjdaaGreatOfValBlock
import Derived.Deep.DeepCutAuto
set_option maxHeartbeats 32000000
set_option maxRecDepth 20000
namespace Go.Proofs.YtkckomianknjdaaGreat
open Go.RowKit
variable {B C E M Z c d h m z:Int}{F K L N cA g no:Nat}{V:Nat->VV}{a b:VV}{u w:World}
theorem L8:(Tryz.prog.info? 95).map (fun i=>(i.zero,i.size,i.bytes))=some (some (.agg #[Vi 0,.bool false,Vi 0,Vi 0,Vi 0,Vi 0]),6,48):=Ab
theorem GN{l e s n:Nat}{v:Value}{d:List Value}(h:w.ownsRow l e s v n d)(j:0<n):∃g c,v=Vs g n c:=by
 rcases h.2 with⟨_,rfl⟩|⟨g,a,b,rfl,_⟩
 ·omega
 ·exact⟨_,_,rfl⟩
theorem Mw{l e n Y:Nat}{f:Nat->Value}(h:w.ownsRow l e 6 (Vs g n Y) n (first (n*6) f)):BZ w g (n*6) f:=
 ⟨(h.lt _ rfl).2,fun i=>h.frozenAt i,fun i a=>by rw[h.cellAt i a];simp[first,a]⟩
theorem JJ(b d:Nat)(V:Nat->VV)(z c:Int)(w:World)(h:BZ w b (8*6) (vF V)):
 Calls Tryz.prog 143 #[.agg #[Vs b 8 d,Vi z,Vi c]] w fun e a=>∃g cg,w.heap.size<=g/\e=.returned (.agg #[Vs g 8 cg,Vi z,Vi c])/\Below w.heap.size w a/\BZ a g (8*6) (vF V):=by
 have L:=hxy h;go_enter Tryz.func143,Tryz.ntmps143;go_upto_region 1 with fail;obtain⟨u,hu,Z,R,ru,rf⟩:∃v,(w.alloc (.cells #[Vs b 8 d,Vi z,Vi c] 142)).alloc (.cells #[.slice none 0 0,Vi 0,Vi 0] 142)=v/\Bw w v/\Cl v w.heap.size [Vs b 8 d,Vi z,Vi c]/\Cl v (w.heap.size+1) [.slice none 0 0,Vi 0,Vi 0]/\(∀i,v.frozen? ⟨w.heap.size+1,i,none⟩=false):=by
  refine⟨_,rfl,(Ah).alloc AY _,(Cl.new).below Ah,?_,fun i=>by simp[go_sem]⟩;have h:=Cl.new (w:=w.alloc (.cells #[Vs b 8 d,Vi z,Vi c] 142)) (vs:=#[.slice none 0 0,Vi 0,Vi 0]) (t:=142);simp only[World.size_alloc]at h;exact h
 rw[hu];obtain⟨iV,gV,S,U,X⟩:=info_parts L8;have n:Hid (_/\_/\_/\_):=⟨gV,S,U,X⟩
 have s0:∀a,Bw u a->a.cell? ⟨w.heap.size,0,none⟩=some (Vs b 8 d):=fun a h=>(R.below h).2 0 AY
 have s1:∀a,Bw u a->a.cell? ⟨w.heap.size,1,none⟩=some (Vi z):=fun a h=>(R.below h).2 1 AY
 have s2:∀a,Bw u a->a.cell? ⟨w.heap.size,2,none⟩=some (Vi c):=fun a h=>(R.below h).2 2 AY
 have l:=hxy Z;have r:=hxy ru;have Q:=hxy rf;have F:=ru.1;refine Ak (T:=fun a=>Bw u a) (s:=9) Ab Al.drew (fun hHeld=>?_);refine lS [1,2,4,5,6,7] ?_;refine Ac (i:=0) rfl Ab (fun KK D=>?_);go_simp;generalize E:(u.alloc (.cells #[] 95)).drew=w6;have b6:Bw u w6:=by rw[<-E];exact(Ah).drew
 have E6:w6.ownsRow u.heap.size 95 6 (Vs u.heap.size 0 0) 0 []:=by rw[<-E];exact(World.ownsRow_lit u #[] 0 BP (by unfold maxLen;omega) rfl).drew
 have O:=hxy E6;have m:=hxy b6;refine D.out _ _ b6 (fun J=>?_);try go_frame
 refine Ac (i:=3) rfl Ab (fun KK D=>?_);refine Ey rfl (.tmp 3) (.tmp 5) 43 rfl u.heap.size 95 iV (.agg #[Vi 0,.bool false,Vi 0,Vi 0,Vi 0,Vi 0]) 6 48 Tryz.underlying43 n.1 n.2.1 n.2.2.1 n.2.2.2 rfl Aa (Vs u.heap.size 0 0) 0 [] rfl O ⟨b,0,none⟩ 8 d (first (8*6) (vF V)) rfl (CJ _ _) ?d1 ?d2 (by unfold maxLen;omega) AB m.size ?_
 case d1=>
  intro j x hj;obtain⟨hm,rfl⟩:=Eh hj;rw[Addr.add_lit,Nat.zero_add];exact(m.cell (p:=Va b j) (DY L.lt l.size)).trans ((l.cell (p:=Va b j) L.lt).trans (L.cell hm))
 case d2=>
  intro x hx;obtain⟨j,hj,rfl⟩:=Ej hx;unfold vF;have:j%6<6:=Nat.mod_lt _ Aa;generalize j%6=q at this⊢;match q,this with
  |0,_=>rfl
  |1,_=>rfl
  |2,_=>rfl
  |3,_=>rfl
  |4,_=>rfl
  |5,_=>rfl
 intro vD C B o;have Y:C.ownsRow u.heap.size 95 6 vD 8 (first (8*6) (vF V)):=by simpa using B
 obtain⟨I,cD,aa⟩:=GN Y AB;subst aa;have y:Bw u C:=m.trans (Al.grown o m.size (by intro k hk;simp[Value.ownBlock]at hk;omega));have ab:u.heap.size<=I:=(Y.lt _ rfl).1;have N:=hxy (Mw Y);have M:=hxy y;refine D.out _ _ y (fun K=>?_)
 try go_frame
 refine BR 8 ?_
 have r0:C.cell? ⟨w.heap.size+1,0,none⟩=some (.slice none 0 0):=(r.below y).2 0 AY
 have r1:C.cell? ⟨w.heap.size+1,1,none⟩=some (Vi 0):=(r.below y).2 1 AY
 have r2:C.cell? ⟨w.heap.size+1,2,none⟩=some (Vi 0):=(r.below y).2 2 AY
 have rf:∀i,C.frozen? ⟨w.heap.size+1,i,none⟩=false:=fun i=>(y.frozen (p:=⟨w.heap.size+1,i,none⟩) F).trans (Q i)
 have ac:w.heap.size+1<C.heap.size:=DY F y.size
 refine Ai rfl Ab Ab (fun KK D=>?_)
 go_simp
 refine D.out _ _ ?_
 have A:I≠w.heap.size+1:=AB
 go_wp2
 refine bodyPost_ret (v:=.agg #[Vs I 8 cD,Vi z,Vi c]) (by simp[results,Tryz.results143,go_sem, *]) rfl ⟨I,cD,?_,rfl,?_,?_⟩
 ·have:=l.size;omega
 ·(iterate 3 refine Below.setCell ?_ (show w.heap.size<=w.heap.size+1 by omega) _)
  exact l.trans (M.mono l.size)
 ·exact((N.other (fun e=>A e.symm) _).other (fun e=>A e.symm) _).other (fun e=>A e.symm) _
structure Lb(w u:World)(bA cA g cg:Nat)(z c op d ra rb imm h:Int)(no:Nat)(zo co:Int)(na nb:Nat)(a b:VV)(V:Nat->VV):Prop where
 bel:Below w.heap.size w u
 A:Cl u (w.heap.size+1) [Vs bA 8 cA,Vi z,Vi c]
 I:Cl u (w.heap.size+1+1) [Vi op,Vi d,Vi ra,Vi rb,Vi imm,Vi h]
 R:Cl u (w.heap.size+1+1+1) [Vi 0,.slice none 0 0,Vi 0,Vi 0]
 RF:∀i,u.frozen? ⟨w.heap.size+1+1+1,i,none⟩=false
 O:Cl u no [Vs g 8 cg,Vi zo,Vi co]
 OF:∀i,u.frozen? (Va no i)=false
 a:Cl u na [Vi a.k,.bool a.s,Vi a.m,Vi a.h,Vi a.lo,Vi a.hi]
 b:Cl u nb [Vi b.k,.bool b.s,Vi b.m,Vi b.h,Vi b.lo,Vi b.hi]
 G:BZ u g (8*6) (vF V)
 o1:w.heap.size+1+1+1<g
 o2:g<no
 o3:no<na
 o4:no<nb
theorem Lb.below{v:World}{na:Nat}(p:Lb w u K cA g L z c Z d E C m h N M B na F a b V)(e:Below u.heap.size u v):Lb w v K cA g L z c Z d E C m h N M B na F a b V:=
 ⟨p.bel.trans (e.mono p.bel.size),p.A.below e,p.I.below e,p.R.below e,fun i=>(e.frozen (p:=⟨w.heap.size+1+1+1,i,none⟩) p.R.1).trans (p.RF i),p.O.below e,fun i=>(e.frozen (p:=Va N i) p.O.1).trans (p.OF i),p.a.below e,p.b.below e,p.G.below e p.G.lt,p.o1,p.o2,p.o3,p.o4⟩
theorem Lb.put{bA:Nat}(p:Lb w u bA cA g L z c Z d E C m h no M B N F a b V)(e:K<8)(r:VV):Lb w (FW u g (K*6) r) bA cA g L z c Z d E C m h no M B N F a b (GJ V K r):=
 have j:=p.o1
 have k:=p.o2
 have l:=p.o3
 have n:=p.o4
 ⟨Nq p.bel AB r,ES p.A AB r,ES p.I AB r,ES p.R AB r,fun i=>(Ps r).trans (p.RF i),ES p.O AB r,fun i=>(Ps r).trans (p.OF i),ES p.a AB r,ES p.b AB r,MI p.G e r,j,k,l,n⟩
theorem C9{c:Nat}{a:Addr}{R:List Value}{v:Value}(h:Cl w c R)(b:a.block≠c):Cl (w.setCell a v) c R:=
 ⟨by simpa using h.1,fun i d=>(World.cell?_setCell_far _ _ _ _ b).trans (h.2 i d)⟩
theorem Lb.flags{v:World}{na:Nat}(p:Lb w u K cA g L z c Z d E C m h N M B na F a b V){f:Int}(n:v=(u.setCell (Va N 1) (Vi f)).setCell (Va N 2) (Vi f)):Lb w v K cA g L z c Z d E C m h N f f na F a b V:=by
 have o:=p.o1;have q:=p.o2;have r:=p.o3;have s:=p.o4;have e:=p.O.2 0 AY;have j:=p.O.2 1 AY;have k:=p.O.2 2 AY;have x:=p.O.1;have of:=p.OF;subst n;refine⟨(p.bel.setCell (p:=Va N 1) (show w.heap.size<=N by omega) _).setCell (p:=Va N 2) (show w.heap.size<=N by omega) _,C9 (C9 p.A (show N≠_ by omega)) (show N≠_ by omega),C9 (C9 p.I (show N≠_ by omega)) (show N≠_ by omega),C9 (C9 p.R (show N≠_ by omega)) (show N≠_ by omega),fun i=>by simpa using p.RF i,⟨by simpa using p.O.1,?_⟩,fun i=>by simpa using p.OF i,C9 (C9 p.a (show N≠_ by omega)) (show N≠_ by omega),C9 (C9 p.b (show N≠_ by omega)) (show N≠_ by omega),(p.G.other (show N≠_ by omega) _).other (show N≠_ by omega) _,o,q,r,s⟩;simp only[Jw,List.getElem?_cons_zero,List.getElem?_cons_succ,Option.getD_some]at e j k;intro i l;match i,l with
 |0,_=>simp[go_sem,e]
 |1,_=>simp[go_sem,j]
 |2,_=>simp[go_sem,k]
theorem Lb.aside(p:Lb w u K cA g L z c Z d E C m h no M B N F a b V){J:Nat}(e:w.heap.size+1+1+1<J)(j:g<J)(k:no<J)(l:N<J)(n:F<J)(o:Nat)(v:Value):Lb w (u.setCell (Va J o) v) K cA g L z c Z d E C m h no M B N F a b V:=
 ⟨p.bel.setCell (p:=Va J o) (show w.heap.size<=J by omega) _,C9 p.A (show J≠_ by omega),C9 p.I (show J≠_ by omega),C9 p.R (show J≠_ by omega),fun i=>by simpa using p.RF i,C9 p.O (show J≠_ by omega),fun i=>by simpa using p.OF i,C9 p.a (show J≠_ by omega),C9 p.b (show J≠_ by omega),p.G.other (show J≠_ by omega) _,p.o1,p.o2,p.o3,p.o4⟩
theorem Lb.asideV{A:Nat}(p:Lb w u K A g L z c Z d E C m h no M B N F a b V){J:Nat}(e:w.heap.size+1+1+1<J)(j:g<J)(k:no<J)(l:N<J)(n:F<J)(x:VV):Lb w (Im u J x) K A g L z c Z d E C m h no M B N F a b V:=by
 unfold Im;exact(((((p.aside e j k l n _ _).aside e j k l n _ _).aside e j k l n _ _).aside e j k l n _ _).aside e j k l n _ _).aside e j k l n _ _
theorem OX{q:Nat}{S a I:Value}(h:Cl u q [S,a,I]):u.cell? (Va q 0)=some S/\u.cell? (Va q 1)=some a/\u.cell? (Va q 2)=some I:=⟨h.2 0 AY,h.2 1 AY,h.2 2 AY⟩
theorem OP{q:Nat}{S a I k:Value}(h:Cl u q [S,a,I,k]):u.cell? (Va q 0)=some S/\u.cell? (Va q 1)=some a/\u.cell? (Va q 2)=some I/\u.cell? (Va q 3)=some k:=⟨h.2 0 AY,h.2 1 AY,h.2 2 AY,h.2 3 AY⟩
end Go.Proofs.YtkckomianknjdaaGreat
namespace Go.Proofs.YtkckomianknjdaaGreat
open Go.RowKit Go.Deep
variable {c n z:Int}{J o:Nat}{S:Nat->HS}{M V:Nat->VV}{a b v:VV}
def GV(v:VV)(n:Int):Prop:=(v.k=0/\ -1<=v.m/\v.m<=1099511627776/\v.h=0/\v.lo=0/\v.hi=0)∨(v.k=1/\v.s=false/\v.m=0/\0<=v.h/\v.h<n/\ -1099511627776<=v.lo/\v.lo<=v.hi/\v.hi<=1099511627776)
theorem gv:Er v n=true↔GV v n:=by
 unfold Er GV;by_cases h:v.k=0
 ·rw[if_pos h]
  simp only[decide_eq_true_eq];constructor
  ·intro q;exact Or.inl ⟨h,q⟩
  ·rintro(q|q)
   ·exact q.2
   ·omega
 ·rw[if_neg h]
  simp only[decide_eq_true_eq];constructor
  ·intro q;exact Or.inr q
  ·rintro(q|q)
   ·omega
   ·exact q
theorem Jh(s:Bool)(m n:Int):GV (BH s m) n:=by
 refine Or.inl ⟨rfl,?_,?_,rfl,rfl,rfl⟩<;>(show _<=_;unfold BH;dsimp only;split<;>omega)
theorem Uq(c:GV a n)(d:GV b n):GV (JS a b) n:=by
 unfold JS;rcases c with c|c<;>rcases d with d|d
 ·rw[if_neg AB];split
  ·exact Or.inl ⟨rfl,by dsimp only;split<;>omega,by dsimp only;split<;>omega,rfl,rfl,rfl⟩
  ·exact Or.inl ⟨rfl,by dsimp only;omega,by dsimp only;omega,rfl,rfl,rfl⟩
 ·rw[if_neg AB,if_neg AB];exact Or.inl ⟨rfl,by dsimp only;omega,by dsimp only;omega,rfl,rfl,rfl⟩
 ·rw[if_neg AB,if_neg AB];exact Or.inl ⟨rfl,by dsimp only;omega,by dsimp only;omega,rfl,rfl,rfl⟩
 ·split
  ·exact Or.inr ⟨rfl,rfl,rfl,by dsimp only;omega,by dsimp only;omega,by dsimp only;split<;>omega,by dsimp only;split<;>split<;>omega,by dsimp only;split<;>omega⟩
  ·rw[if_neg AB];exact Or.inl ⟨rfl,by dsimp only;omega,by dsimp only;omega,rfl,rfl,rfl⟩
theorem UW{p q:VV}(a:GV p n):GV (Xp p q) n:=by
 unfold Xp;split
 ·rename_i h
  rcases a with a|a
  ·omega
  ·have:0<=q.m:=by
    have b:=h.2.1;unfold Au at b;by_cases e:q.k=1
    ·rw[if_pos e]at b;omega
    ·rw[if_neg e]at b;exact b
   exact Or.inr ⟨a.1,a.2.1,a.2.2.1,a.2.2.2.1,a.2.2.2.2.1,a.2.2.2.2.2.1,by show p.lo<=p.hi+q.m;omega,h.2.2.2⟩
 ·split<;>exact Jh _ _ _
theorem eY(c:GV a n)(d:GV b n):GV (QH a b) n:=by
 unfold QH;split
 ·exact UW d
 ·exact UW c
theorem gK{Z m:Int}{s:Bool}(d:GV a n)(l:GV b n):GV (Cr Z m a b s) n:=by
 unfold Cr;by_cases e:Z=1
 ·rw[if_pos e];exact d
 rw[if_neg e];by_cases j:Z=2
 ·rw[if_pos j];exact Jh _ _ _
 rw[if_neg j];by_cases k:Z=3∨Z=14
 ·rw[if_pos k];exact eY d l
 rw[if_neg k];by_cases c:Z=10
 ·rw[if_neg AB,if_neg AB,if_neg AB,if_neg AB,if_pos c]
  split
  ·rename_i h
   rcases d with q|q
   ·omega
   ·exact Or.inr ⟨q.1,q.2.1,q.2.2.1,q.2.2.2.1,q.2.2.2.2.1,h.2.1,by show a.lo+m<=a.hi+m;omega,h.2.2⟩
  ·split<;>exact Jh _ _ _
 ·(repeat' split)<;>first|exact Jh _ _ _|omega
theorem Dh{K:Nat}:BQ o S J M K V z c=true↔Ed o S J M=true/\K=8/\(∀i,i<8->GV (V i) o)/\(0<=z/\z<=2)/\0<=c/\c<=2:=by
 unfold BQ Dp Js;simp only[Bool.and_eq_true,decide_eq_true_eq,List.all_eq_true,List.mem_range,gv];constructor
 ·rintro⟨⟨⟨b,d,e⟩,h⟩,j⟩
  subst d;exact⟨b,rfl,e,h,j⟩
 ·rintro⟨b,d,e,h,j⟩
  subst d;exact⟨⟨⟨b,rfl,e⟩,h⟩,j⟩
theorem Ul{O a:Int}{d:Nat}{r:VV}(h:BQ o S J M 8 V z c=true)(l:GV r o)(m:0<=O/\O<=2)(j:0<=a/\a<=2):BQ o S J M 8 (GJ V d r) O a=true:=by
 obtain⟨b,_,e,_,_⟩:=Dh.1 h;refine Dh.2 ⟨b,rfl,fun i k=>?_,m,j⟩;unfold GJ;split
 ·exact l
 ·exact e i k
def jg(nH:Nat)(S:Nat->HS)(nR:Nat)(V0:Nat->VV)(op:Int)(w:World)(e:Ending)(w':World):Prop:=
 ∃(err:Int)(V':Nat->VV)(z' c':Int),eU w w' e err V' z' c'/\(err=0->BQ nH S nR V0 8 V' z' c'=true)/\(op=2∨op=11∨op=18->err=0)/\Below w.heap.size w w'
theorem Uh{V':Nat->VV}{O a:Int}(h:BQ o S J M 8 V z c=true)(d:∀i,i<8->GV (V' i) o)(e:0<=O/\O<=2)(b:0<=a/\a<=2):BQ o S J M 8 V' O a=true:=
 Dh.2 ⟨(Dh.1 h).1,rfl,d,e,b⟩
theorem Xf{d:Nat}{r:VV}(h:∀i,i<8->GV (V i) n)(b:GV r n):∀i,i<8->GV (GJ V d r i) n:=fun i a=>by
 unfold GJ;split
 ·exact b
 ·exact h i a
theorem fZ{t:Bool}(h:GV v n)(a:v.k=1->t=false):GV {v with s:=t} n:=by
 rcases h with h|h
 ·exact Or.inl h
 ·exact Or.inr ⟨h.1,a h.1,h.2.2⟩
theorem iw(h:GV v n)(k:v.k=1):v.s=false:=by
 rcases h with h|h
 ·omega
 ·exact h.2.1
theorem gQ{w:World}{b:Nat}{y:VV}(h:Vb w b y)(t:Bool):Vb (w.setCell (Va b 1) (.bool t)) b {y with s:=t}:=
 (BZ.set1 h 1 AB _).congr (Kc rfl rfl rfl rfl rfl rfl)
theorem jO{Z:Int}(o:Z<=18)(h:BN (Ag Z) 68=true):Z<=16:=by
 by_cases a:Z=17
 ·subst a;exact absurd h (by rw[show BN (Ag 17) 68=false from by kernel_rfl];decide)
 by_cases b:Z=18
 ·subst b;exact absurd h (by rw[show BN (Ag 18) 68=false from by kernel_rfl];decide)
 omega
theorem Xm(bH cH nH:Nat)(S:Nat->HS)(bR cR nR:Nat)(V0:Nat->VV)(bA cA:Nat)(V:Nat->VV)(z c r x:Int)(L l n q:Nat)(hd:L<8)(ha:l<8)(hb:n<8)(w:World)(lH:nH<=1048576)(lR:nR<=1048576)(h1:Dl w bH nH S bR nR V0)(h2:BZ w bA (8*6) (vF V))(ah:BQ nH S nR V0 8 V z c=true)(aB:Ar r (L:Int) (l:Int) (n:Int) x (q:Int)=true)(o1:r=19∨r=20):
 Calls Tryz.prog 142 #[.agg #[Vs bH nH cH,Vs bR nR cR],.agg #[Vs bA 8 cA,Vi z,Vi c],.agg #[Vi r,Vi (L:Int),Vi (l:Int),Vi (n:Int),Vi x,Vi (q:Int)]] w (jg nH S nR V0 r w):=by
 have H1:=hxy h1;have H2:=hxy h2;have az:=hxy ah;have aJ:=hxy aB;have HG:Hid (∀i,i<8->GV (V i) nH):=(Dh.1 ah).2.2.1;have HF:Hid ((0<=z/\z<=2)/\0<=c/\c<=2):=(Dh.1 ah).2.2.2;have aV:decide (21<=r)=false:=by simp;omega
 have aW:decide (29<=r)=false:=by simp;omega
 have ar:=hxy o1;clear h1 h2 ah aB o1;have aX:(l:Int)<8:=AB;have aY:(n:Int)<8:=AB;have aZ:(L:Int)<8:=AB;go_enter Tryz.func142,Tryz.ntmps142;go_upto_region 1 with fail;obtain⟨u,hu,pu⟩:=MN w bH nH cH bR nR cR bA 8 cA (z:=z) (c:=c) (op:=r) (d:=(L:Int)) (ra:=(l:Int)) (rb:=(n:Int)) (imm:=x) (h:=(q:Int));rw[hu];have P0:=hxy pu;clear hu pu;obtain⟨⟨s0,s1⟩,⟨F,J,K⟩,N,Q,U,X⟩:=CP P0;have M:=Aq P0.I;have Y:=P0.R.1;go_wp2_with fail;refine(Gp bH cH nH S bR cR nR V0 bA cA 8 V z c u lH lR AB (H1.below P0.bel) (H2.below P0.bel H2.lt)).mono ?_;rintro e u1⟨rfl,B⟩;have P1:Hid (ZO w u1 bH nH cH bR nR cR bA 8 cA z c r (L:Int) (l:Int) (n:Int) x (q:Int)):=P0.below B;clear B P0;clear s0 s1 F J K N Q U X M Y;rw[az.out];obtain⟨⟨s0,s1⟩,⟨F,J,K⟩,N,Q,U,X⟩:=CP P1;have M:=Aq P1.I;have Y:=P1.R.1;go_wp2_with fail;refine(FH r (L:Int) (l:Int) (n:Int) x (q:Int) _).mono ?_;rintro e u2⟨rfl,B⟩;have P2:Hid (ZO w u2 bH nH cH bR nR cR bA 8 cA z c r (L:Int) (l:Int) (n:Int) x (q:Int)):=P1.below B;clear B P1;clear s0 s1 F J K N Q U X M Y;rw[aJ.out];obtain⟨⟨s0,s1⟩,⟨F,J,K⟩,N,Q,U,X⟩:=CP P2;have M:=Aq P2.I;have Y:=P2.R.1;go_wp2_with fail;refine(JJ bA cA V z c u2 (H2.below P2.bel H2.lt)).mono ?_;rintro e u3⟨g,cg,hg,rfl,B,hG⟩;have P3:Hid (ZO w u3 bH nH cH bR nR cR bA 8 cA z c r (L:Int) (l:Int) (n:Int) x (q:Int)):=P2.below B;have ab:=hxy hG;have og:w.heap.size+1+1+1<g:=DY P2.R.1 hg;clear B hG hg P2;clear s0 s1 F J K N Q U X M Y;obtain⟨⟨s0,s1⟩,⟨F,J,K⟩,N,Q,U,X⟩:=CP P3;have M:=Aq P3.I;have Y:=P3.R.1;have lg:=ab.lt;go_upto_region 4 with fail;clear s0 s1 F J K N Q U X M Y;clear lg;obtain⟨u4,aE,b4,e4,f4⟩:∃v,u3.alloc (.cells #[Vs g 8 cg,Vi z,Vi c] 142)=v/\Bw u3 v/\Cl v u3.heap.size [Vs g 8 cg,Vi z,Vi c]/\(∀i,v.frozen? ⟨u3.heap.size,i,none⟩=false):=⟨_,rfl,Ah,Cl.new,fun i=>by simp[go_sem]⟩
 rw[aE];clear aE;have P4:Hid (ZO w u4 bH nH cH bR nR cR bA 8 cA z c r (L:Int) (l:Int) (n:Int) x (q:Int)):=P3.below b4;have ao:Hid (BZ u4 g (8*6) (vF V)):=ab.below b4 ab.lt;have on:g<u3.heap.size:=ab.lt;have ap:=hxy e4;have aw:=hxy f4;clear b4 e4 f4 P3 ab;generalize u3.heap.size=no at *;obtain⟨⟨s0,s1⟩,⟨F,J,K⟩,N,Q,U,X⟩:=CP P4;have M:=Aq P4.I;have Y:=P4.R.1;have aT:=P4.I.1;go_wp2_with fail;refine(DJ r _).mono ?_;rintro e w'⟨rfl,E⟩;rw[E];clear E;have HX:Hid (BZ u4 bA (8*6) (vF V)):=H2.below P4.bel H2.lt;obtain⟨x0,x1,x2,x3,x4,x5⟩:=CY HX l ha;have y0:=CY HX n hb;have aS:=P4.A.1;have aU:=HX.lt;go_upto_region 9 with fail;clear s0 s1 F J K N Q U X M Y;clear aS aT aU x0 x1 x2 x3 x4 x5 y0 HX;obtain⟨u5,aF,p5⟩:∃v,(u4.alloc (.cells #[Vi (V l).k,.bool (V l).s,Vi (V l).m,Vi (V l).h,Vi (V l).lo,Vi (V l).hi] 95)).alloc (.cells #[Vi (V n).k,.bool (V n).s,Vi (V n).m,Vi (V n).h,Vi (V n).lo,Vi (V n).hi] 95)=v/\Lb w v bA cA g cg z c r (L:Int) (l:Int) (n:Int) x (q:Int) no z c u4.heap.size (u4.heap.size+1) (V l) (V n) V:=by
  have b1:=(Below.refl u4.heap.size u4).alloc BP (.cells #[Vi (V l).k,.bool (V l).s,Vi (V l).m,Vi (V l).h,Vi (V l).lo,Vi (V l).hi] 95);have e1:=Cl.new (w:=u4) (vs:=#[Vi (V l).k,.bool (V l).s,Vi (V l).m,Vi (V l).h,Vi (V l).lo,Vi (V l).hi]) (t:=95);generalize hy:u4.alloc (.cells #[Vi (V l).k,.bool (V l).s,Vi (V l).m,Vi (V l).h,Vi (V l).lo,Vi (V l).hi] 95)=y at *;have s1:y.heap.size=u4.heap.size+1:=by rw[<-hy];simp
  clear hy;have b2:=(Below.refl y.heap.size y).alloc BP (.cells #[Vi (V n).k,.bool (V n).s,Vi (V n).m,Vi (V n).h,Vi (V n).lo,Vi (V n).hi] 95);have e2:=Cl.new (w:=y) (vs:=#[Vi (V n).k,.bool (V n).s,Vi (V n).m,Vi (V n).h,Vi (V n).lo,Vi (V n).hi]) (t:=95);rw[s1]at e2;have bb:=b1.trans (b2.mono b1.size);have p:=P4.below bb;have aH:=ap.1;exact⟨_,rfl,p.bel,p.A,p.I,p.R,p.RF,ap.below bb,fun i=>(bb.frozen (p:=Va no i) aH).trans (aw i),e1.below b2,e2,ao.below bb ao.lt,og,on,aH,AB⟩
 rw[aF];clear aF P4 ao ap aw;obtain⟨na,aC⟩:=BG u4.heap.size;obtain⟨nb,aD⟩:=BG (u4.heap.size+1);rw[aD]at p5⊢;rw[aC]at p5⊢;clear aC aD;have P5:=hxy p5;clear p5;obtain⟨F,J,K⟩:=OX P5.A;have M:=Aq P5.I;obtain⟨x0,x1,x2,x3,x4,x5⟩:=JN P5.a;have y0:=JN P5.b;have q0:=OX P5.O;obtain⟨N,Q,U,X⟩:=OP P5.R;have rf:=P5.RF;have Y:=P5.R.1;have of:=P5.OF;have ol:=P5.O.1;go_cut [11](fun aO wx=>(∃t:Bool,aO=.bool t)/\wx=u5)
 case first=>
  go_wp2_with fail;refine(Dy (Ag r) 65 _ (Cf r) Aa Aa).mono ?_;rintro e w'⟨rfl,E⟩;rw[E];clear E;obtain⟨aN,am⟩:=BG (BN (Ag r) 65);rw[am];clear am;cases has_:(V l).s<;>rw[has_]at x1<;>cases aN
  ·
   go_wp2_with fail;refine(Dy (Ag r) 66 _ (Cf r) Aa Aa).mono ?_;rintro e w'⟨rfl,E⟩;rw[E];clear E;obtain⟨ad,D⟩:=BG (BN (Ag r) 66);rw[D];clear D;cases ad
   ·go_wp2
    go_meet;exact⟨⟨_,rfl⟩,rfl⟩
   ·go_wp2
    go_meet;exact⟨⟨_,rfl⟩,rfl⟩
  ·
   go_wp2_with fail;refine(Dy (Ag r) 66 _ (Cf r) Aa Aa).mono ?_;rintro e w'⟨rfl,E⟩;rw[E];clear E;obtain⟨ad,D⟩:=BG (BN (Ag r) 66);rw[D];clear D;cases ad
   ·go_wp2
    go_meet;exact⟨⟨_,rfl⟩,rfl⟩
   ·go_wp2
    go_meet;exact⟨⟨_,rfl⟩,rfl⟩
  ·
   go_wp2_with fail;refine(Dy (Ag r) 66 _ (Cf r) Aa Aa).mono ?_;rintro e w'⟨rfl,E⟩;rw[E];clear E;obtain⟨ad,D⟩:=BG (BN (Ag r) 66);rw[D];clear D;cases ad
   ·go_wp2
    go_meet;exact⟨⟨_,rfl⟩,rfl⟩
   ·go_wp2
    go_meet;exact⟨⟨_,rfl⟩,rfl⟩
  ·go_wp2
   go_meet;exact⟨⟨_,rfl⟩,rfl⟩
 case rest=>
 obtain⟨⟨t,rfl⟩,E⟩:=hcut;rw[E];clear E;go_upto_region 10 with fail;go_cut [74](fun aQ wx=>aQ=.bool true/\wx=u5)
 case first=>
  rcases ar.out with rfl|rfl
  ·go_wp2
   go_meet;exact⟨rfl,rfl⟩
  ·go_wp2
   go_meet;exact⟨rfl,rfl⟩
 case rest=>
 obtain⟨rfl,E⟩:=hcut;rw[E];clear E;go_upto_if 79 with fail;go_cut [12](fun aP wx=>(∃f:Int,aP=Vi f/\0<=f/\f<=2)/\wx=u5)
 case first=>
  rcases ar.out with rfl|rfl
  ·go_wp2
   go_meet;exact⟨⟨_,rfl,HF.1⟩,rfl⟩
  ·go_wp2
   go_meet;exact⟨⟨_,rfl,HF.2⟩,rfl⟩
 case rest=>
 obtain⟨⟨f,rfl,fl,fh⟩,E⟩:=hcut;rw[E];clear E;by_cases f0:f=0
 ·have e0:(f==0)=true:=by simp[f0]
  go_wp2;refine bodyPost_ret (v:=.agg #[Vi 1,.slice none 0 0,Vi 0,Vi 0]) (by simp[results,Tryz.results142,go_sem, *]) rfl ⟨1,V,z,c,Or.inl ⟨Aa,rfl⟩,fun e=>absurd e Aa,fun o=>absurd o (by have:=ar.out;omega),?_⟩
  (iterate 4 refine Below.setCell ?_ (show w.heap.size<=w.heap.size+1+1+1 by omega) _)
  exact P5.bel
 have e0:(f==0)=false:=by simp[f0]
 clear f0;go_wp2_with fail;refine(Kg (V l).k (V l).s (V l).m (V l).h (V l).lo (V l).hi (V n).k (V n).s (V n).m (V n).h (V n).lo (V n).hi _).mono ?_;rintro e u6⟨rfl,B⟩;obtain⟨j,hj⟩:=BG (JS (V l) (V n));rw[show JS ⟨(V l).k,(V l).s,(V l).m,(V l).h,(V l).lo,(V l).hi⟩ ⟨(V n).k,(V n).s,(V n).m,(V n).h,(V n).lo,(V n).hi⟩=j from hj];have ax:Hid (GV j nH):=by rw[<-hj];exact Uq (HG l ha) (HG n hb)
 clear hj;have P6:Hid (Lb w u6 bA cA g cg z c r (L:Int) (l:Int) (n:Int) x (q:Int) no z c na nb (V l) (V n) V):=P5.below B;clear B P5;clear F J K M x0 x1 x2 x3 x4 x5 y0 q0 N Q U X rf Y of ol;simp only[VV.v];clear e0;obtain⟨F,J,K⟩:=OX P6.A;have M:=Aq P6.I;obtain⟨x0,x1,x2,x3,x4,x5⟩:=JN P6.a;have y0:=JN P6.b;have q0:=OX P6.O;obtain⟨N,Q,U,X⟩:=OP P6.R;have rf:=P6.RF;have Y:=P6.R.1;have of:=P6.OF;have ol:=P6.O.1;go_upto_region 17 with fail;clear F J K M x0 x1 x2 x3 x4 x5 y0 q0 N Q U X rf Y of ol;obtain⟨u7,aG,b7,v7⟩:∃v,u6.alloc (.cells #[Vi j.k,.bool j.s,Vi j.m,Vi j.h,Vi j.lo,Vi j.hi] 95)=v/\Bw u6 v/\Vb v u6.heap.size j:=⟨_,rfl,Ah,Vb.new u6 j⟩
 rw[aG];clear aG;have P7:Hid (Lb w u7 bA cA g cg z c r (L:Int) (l:Int) (n:Int) x (q:Int) no z c na nb (V l) (V n) V):=P6.below b7;have Z:=hxy v7;have ov:nb<u6.heap.size:=P6.b.1;have ai:=P6.R.1;have aj:=P6.O.1;have ak:=P6.G.lt;have al:=P6.a.1;clear b7 v7 P6;generalize u6.heap.size=nj at *;obtain⟨F,J,K⟩:=OX P7.A;have M:=Aq P7.I;obtain⟨x0,x1,x2,x3,x4,x5⟩:=JN P7.a;have y0:=JN P7.b;have q0:=OX P7.O;obtain⟨N,Q,U,X⟩:=OP P7.R;have rf:=P7.RF;have Y:=P7.R.1;have of:=P7.OF;have ol:=P7.O.1;obtain⟨t0,t1,t2,t3,t4,t5⟩:=Z.cells;have tf:=Z.free;have tl:=Z.lt;go_cut [94](fun aR wx=>(∃b:Bool,aR=.bool b/\(b=false->f=2->j.k≠1))/\wx=u7)
 case first=>
  by_cases f2:f=2
  ·have e2:(f==2)=true:=by simp[f2]
   clear f2;by_cases jk:j.k=1
   ·have ek:(j.k==1)=true:=by simp[jk]
    clear jk;go_wp2;go_meet;exact⟨⟨_,rfl,fun e=>absurd e AY⟩,rfl⟩
   ·have ek:(j.k==1)=false:=by simp[jk]
    have aK:=hxy jk;clear jk;go_wp2;go_meet;exact⟨⟨_,rfl,fun _ _=>aK.out⟩,rfl⟩
  ·have e2:(f==2)=false:=by simp[f2]
   have an:=hxy f2;clear f2;go_wp2;go_meet;exact⟨⟨_,rfl,fun _ e=>absurd e an⟩,rfl⟩
 case rest=>
 obtain⟨⟨b,rfl,aA⟩,E⟩:=hcut;rw[E];clear E;have av:=hxy aA;clear aA;go_upto_if 94 with fail;go_cut [](fun wx=>∃jv,Lb w wx bA cA g cg z c r (L:Int) (l:Int) (n:Int) x (q:Int) no z c na nb (V l) (V n) V/\Vb wx nj jv/\GV jv nH/\(f=2->jv.k≠1))
 case first=>
  cases b
  ·go_wp2
   go_meet;exact⟨j,P7,Z,ax,av AY⟩
  ·go_wp2_with fail
   refine(Av true (-1) _).mono ?_;rintro e v7⟨rfl,B⟩;have Q7:Hid (Lb w v7 bA cA g cg z c r (L:Int) (l:Int) (n:Int) x (q:Int) no z c na nb (V l) (V n) V):=P7.below B;have ag:Hid (Vb v7 nj j):=Z.below B Z.lt;clear B P7 Z t0 t1 t2 t3 t4 t5 tf tl;clear F J K M x0 x1 x2 x3 x4 x5 y0 q0 N Q U X rf Y of ol;obtain⟨nv,au⟩:=BG (BH true (-1));rw[au];have ay:Hid (GV nv nH/\nv.k=0):=by rw[<-au];exact⟨Jh _ _ _,rfl⟩
   clear au;simp only[VV.v];obtain⟨t0,t1,t2,t3,t4,t5⟩:=ag.cells;have tf:=ag.free;have tl:=ag.lt;obtain⟨F,J,K⟩:=OX Q7.A;have M:=Aq Q7.I;obtain⟨x0,x1,x2,x3,x4,x5⟩:=JN Q7.a;have y0:=JN Q7.b;have q0:=OX Q7.O;obtain⟨N,Q,U,X⟩:=OP Q7.R;have rf:=Q7.RF;have Y:=Q7.R.1;have of:=Q7.OF;have ol:=Q7.O.1;go_wp2_with fail;go_meet;exact⟨nv,Q7.asideV ai ak aj al ov nv,Mh ag nv,ay.1,fun _=>by have:=ay.2;omega⟩
 case rest=>
 obtain⟨jv,p8,v8,gj,hk⟩:=hcut;generalize wc=u8 at *;have P8:=hxy p8;have aa:=hxy v8;have ac:=hxy gj;have HK:=hxy hk;clear p8 v8 gj hk P7 Z ax av t0 t1 t2 t3 t4 t5 tf tl;clear F J K M x0 x1 x2 x3 x4 x5 y0 q0 N Q U X rf Y of ol;obtain⟨F,J,K⟩:=OX P8.A;have M:=Aq P8.I;obtain⟨x0,x1,x2,x3,x4,x5⟩:=JN P8.a;have y0:=JN P8.b;have q0:=OX P8.O;obtain⟨N,Q,U,X⟩:=OP P8.R;have rf:=P8.RF;have Y:=P8.R.1;have of:=P8.OF;have ol:=P8.O.1;obtain⟨t0,t1,t2,t3,t4,t5⟩:=aa.cells;have tf:=aa.free;have tl:=aa.lt;go_upto_region 19 with fail;go_cut [](fun wx=>∃pv,Lb w wx bA cA g cg z c r (L:Int) (l:Int) (n:Int) x (q:Int) no z c na nb (V l) (V n) V/\Vb wx nj pv/\GV pv nH)
 case first=>
  cases hjs:jv.s<;>rw[hjs]at t1
  ·clear hjs
   by_cases f2:f=2
   ·have e2:(f==2)=true:=by simp[f2]
    have an:=hxy f2;clear f2;go_wp2;go_meet;exact⟨{jv with s:=true},P8.aside ai ak aj al ov _ _,gQ aa true,fZ ac (fun k=>absurd k (HK an))⟩
   ·have e2:(f==2)=false:=by simp[f2]
    clear f2;go_wp2;go_meet;exact⟨{jv with s:=false},P8.aside ai ak aj al ov _ _,gQ aa false,fZ ac (fun _=>rfl)⟩
  ·have aM:=hxy hjs
   clear hjs;go_wp2;go_meet;exact⟨{jv with s:=true},P8.aside ai ak aj al ov _ _,gQ aa true,fZ ac (fun k=>aM.symm.trans (iw ac k))⟩
 case rest=>
 obtain⟨pv,p9,v9,gp⟩:=hcut;generalize wc=u9 at *;have P9:=hxy p9;have af:=hxy v9;have aI:=hxy gp;clear p9 v9 gp P8 aa ac HK t0 t1 t2 t3 t4 t5 tf tl;clear F J K M x0 x1 x2 x3 x4 x5 y0 q0 N Q U X rf Y of ol;obtain⟨F,J,K⟩:=OX P9.A;have M:=Aq P9.I;obtain⟨x0,x1,x2,x3,x4,x5⟩:=JN P9.a;have y0:=JN P9.b;have q0:=OX P9.O;obtain⟨N,Q,U,X⟩:=OP P9.R;have rf:=P9.RF;have Y:=P9.R.1;have of:=P9.OF;have ol:=P9.O.1;obtain⟨t0,t1,t2,t3,t4,t5⟩:=af.cells;have tf:=af.free;have tl:=af.lt;have d0:=CY P9.G L hd;have gf:=P9.G.free;have gl:=P9.G.lt;have a3:=P9.o2;go_upto_region 21 with fail;clear F J K M x0 x1 x2 x3 x4 x5 y0 q0 N Q U X rf Y of ol;clear t0 t1 t2 t3 t4 t5 tf tl d0 gf gl;change Code.wp _ _ _ _ (FW u9 g (L*6) pv);obtain⟨u10,ae⟩:=BG (FW u9 g (L*6) pv);rw[ae];have C:Hid (Lb w u10 bA cA g cg z c r (L:Int) (l:Int) (n:Int) x (q:Int) no z c na nb (V l) (V n) (GJ V L pv)):=by rw[<-ae];exact P9.put hd pv
 clear ae P9 af;obtain⟨F,J,K⟩:=OX C.A;have M:=Aq C.I;obtain⟨x0,x1,x2,x3,x4,x5⟩:=JN C.a;have y0:=JN C.b;have q0:=OX C.O;obtain⟨N,Q,U,X⟩:=OP C.R;have rf:=C.RF;have Y:=C.R.1;have of:=C.OF;have ol:=C.O.1;have og:=C.o1;go_wp2;refine bodyPost_ret (v:=.agg #[Vi 0,Vs g 8 cg,Vi z,Vi c]) (by simp[results,Tryz.results142,go_sem, *]) rfl ⟨0,GJ V L pv,z,c,Or.inr ⟨rfl,g,cg,AB,rfl,?_⟩,fun _=>Ul az aI HF.1 HF.2,fun _=>rfl,?_⟩
 ·(iterate 4 refine BZ.other ?_ (show w.heap.size+1+1+1≠g by omega) _)
  exact C.G
 ·(iterate 4 refine Below.setCell ?_ (show w.heap.size<=w.heap.size+1+1+1 by omega) _)
  exact C.bel
end Go.Proofs.YtkckomianknjdaaGreat
namespace Go.Proofs.YtkckomianknjdaaGreat
open Go.RowKit
theorem Lf(y K o:Nat)(S:Nat->HS)(A L p:Nat)(s:Nat->VV)(x J n:Nat)(V:Nat->VV)(z c k d q r a h:Int)(w:World)(lH:o<=1048576)(lR:p<=1048576)(lA:n<=1048576)(Z:Dl w y o S A p s)(h2:BZ w x (n*6) (vF V))(M:¬(BQ o S p s n V z c=true/\Ar k d q r a h=true/\k<=28)):
 Calls Tryz.prog 142 #[.agg #[Vs y o K,Vs A p L],.agg #[Vs x n J,Vi z,Vi c],.agg #[Vi k,Vi d,Vi q,Vi r,Vi a,Vi h]] w fun e w'=>e=.returned (.agg #[Vi 11,.slice none 0 0,Vi 0,Vi 0])/\Below w.heap.size w w':=by
 have Q:=hxy Z;have N:=hxy h2;have U:=hxy M;go_enter Tryz.func142,Tryz.ntmps142;go_upto_region 1 with fail;obtain⟨u,hu,pu⟩:=MN w y o K A p L x n J (z:=z) (c:=c) (op:=k) (d:=d) (ra:=q) (rb:=r) (imm:=a) (h:=h);rw[hu];have l:=hxy pu;have E:=CP l;have B:=Aq l.I;have D:=l.R.1;have C:=l.RF;go_wp2_with fail;refine(Gp y K o S A L p s x J n V z c u lH lR lA (Q.below l.bel) (N.below l.bel N.lt)).mono ?_;rintro e u1⟨rfl,m⟩;have b:=hxy (l.below m);cases hok:BQ o S p s n V z c with
 |false=>
  have E:=CP b;have B:=Aq b.I;have D:=b.R.1;have C:=b.RF;go_wp2;refine bodyPost_ret (v:=.agg #[Vi 11,.slice none 0 0,Vi 0,Vi 0]) (by simp[results,Tryz.results142,go_sem, *]) rfl ⟨rfl,?_⟩
  (iterate 4 refine Below.setCell ?_ (show w.heap.size<=w.heap.size+1+1+1 by omega) _)
  exact b.bel
 |true=>
 have F:=hxy hok;have E:=CP b;have B:=Aq b.I;have D:=b.R.1;have C:=b.RF;go_wp2_with fail;refine(FH k d q r a h _).mono ?_;rintro e u2⟨rfl,m⟩;have j:=hxy (b.below m);cases hik:Ar k d q r a h with
 |false=>
  have E:=CP j;have B:=Aq j.I;have D:=j.R.1;have C:=j.RF;go_wp2;refine bodyPost_ret (v:=.agg #[Vi 11,.slice none 0 0,Vi 0,Vi 0]) (by simp[results,Tryz.results142,go_sem, *]) rfl ⟨rfl,?_⟩
  (iterate 4 refine Below.setCell ?_ (show w.heap.size<=w.heap.size+1+1+1 by omega) _)
  exact j.bel
 |true=>
 have X:28<k:=by have:=U.out;rw[F.out,hik]at this;simp at this;omega
 have Y:decide (k>=29)=true:=by simp;omega
 have O:decide (29<=k)=true:=by simp;omega
 have E:=CP j;have B:=Aq j.I;have D:=j.R.1;have C:=j.RF;go_wp2;refine bodyPost_ret (v:=.agg #[Vi 11,.slice none 0 0,Vi 0,Vi 0]) (by simp[results,Tryz.results142,go_sem, *]) rfl ⟨rfl,?_⟩
 (iterate 4 refine Below.setCell ?_ (show w.heap.size<=w.heap.size+1+1+1 by omega) _)
 exact j.bel
end Go.Proofs.YtkckomianknjdaaGreat
