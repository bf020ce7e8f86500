import Derived.Test.YtcjnmdgomocpgaaGreatDoorOfTransAcc
import Derived.Test.YtcjnmdgomocpgaaGreatDoorOfTransRes
import Derived.Test.YtcjnmdgomocpgaaGreatDoorOfEvRun
set_option maxHeartbeats 16000000
set_option maxRecDepth 20000
namespace Go.Proofs.YtcjnmdgomocpgaaGreatDoor
section
open Go.RowKit
variable {C E Z c co d h m ra z:Int}{F J K L e g na:Nat}{V:Nat->VV}{a b:VV}{u w:World}
structure Ph(w u:World)(bA cA g cg:Nat)(z c op d ra rb imm h:Int)(no:Nat)(zo co:Int)(na nb:Nat)(a b:VV)(V:Nat->VV):Prop where
 bel:Below w.heap.size w u
 A:Cl u (w.heap.size+1) [Vs bA 8 cA,Vi z,Vi c]
 I:Cl u (w.heap.size+1+1) [Vi op,Vi d,Vi ra,Vi rb,Vi imm,Vi h]
 R:Cl u (w.heap.size+1+1+1) [Vi 0,.slice none 0 0,Vi 0,Vi 0]
 RF:∀i,u.frozen? ⟨w.heap.size+1+1+1,i,none⟩=false
 O:Cl u no [Vs g 8 cg,Vi zo,Vi co]
 OF:∀i,u.frozen? (Va no i)=false
 a:Cl u na [Vi a.k,.bool a.s,Vi a.m,Vi a.h,Vi a.lo,Vi a.hi]
 b:Cl u nb [Vi b.k,.bool b.s,Vi b.m,Vi b.h,Vi b.lo,Vi b.hi]
 G:Ak u g (8*6) (vF V)
 o1:w.heap.size+1+1+1<g
 o2:g<no
 o3:no<na
 o4:no<nb
theorem Ph.below{v:World}(p:Ph w u K F g L z c Z d ra C m h e E co na J a b V)(j:Below u.heap.size u v):Ph w v K F g L z c Z d ra C m h e E co na J a b V:=
 ⟨p.bel.trans (j.mono p.bel.size),p.A.below j,p.I.below j,p.R.below j,fun i=>(j.frozen (p:=⟨w.heap.size+1+1+1,i,none⟩) p.R.1).trans (p.RF i),p.O.below j,fun i=>(j.frozen (p:=Va e i) p.O.1).trans (p.OF i),p.a.below j,p.b.below j,p.G.below j p.G.lt,p.o1,p.o2,p.o3,p.o4⟩
theorem Ph.put(p:Ph w u K F g L z c Z d ra C m h e E co na J a b V){B:Nat}(j:B<8)(r:VV):Ph w (Ff u g (B*6) r) K F g L z c Z d ra C m h e E co na J a b (Df V B r):=
 have k:=p.o1
 have l:=p.o2
 have n:=p.o3
 have o:=p.o4
 ⟨PY p.bel AB r,EY p.A AB r,EY p.I AB r,EY p.R AB r,fun i=>(RI r).trans (p.RF i),EY p.O AB r,fun i=>(RI r).trans (p.OF i),EY p.a AB r,EY p.b AB r,OM p.G j r,k,l,n,o⟩
theorem DN{c:Nat}{a:Addr}{N:List Value}{v:Value}(h:Cl w c N)(b:a.block≠c):Cl (w.setCell a v) c N:=
 ⟨by simpa using h.1,fun i d=>(World.cell?_setCell_far _ _ _ _ b).trans (h.2 i d)⟩
theorem Ph.flags{v:World}(p:Ph w u K F g L z c Z d ra C m h e E co na J a b V){f:Int}(o:v=(u.setCell (Va e 1) (Vi f)).setCell (Va e 2) (Vi f)):Ph w v K F g L z c Z d ra C m h e f f na J a b V:=by
 have q:=p.o1;have r:=p.o2;have s:=p.o3;have x:=p.o4;have j:=p.O.2 0 AX;have k:=p.O.2 1 AX;have l:=p.O.2 2 AX;have y:=p.O.1;have of:=p.OF;subst o;refine⟨(p.bel.setCell (p:=Va e 1) (show w.heap.size<=e by omega) _).setCell (p:=Va e 2) (show w.heap.size<=e by omega) _,DN (DN p.A (show e≠_ by omega)) (show e≠_ by omega),DN (DN p.I (show e≠_ by omega)) (show e≠_ by omega),DN (DN p.R (show e≠_ by omega)) (show e≠_ by omega),fun i=>by simpa using p.RF i,⟨by simpa using p.O.1,?_⟩,fun i=>by simpa using p.OF i,DN (DN p.a (show e≠_ by omega)) (show e≠_ by omega),DN (DN p.b (show e≠_ by omega)) (show e≠_ by omega),(p.G.other (show e≠_ by omega) _).other (show e≠_ by omega) _,q,r,s,x⟩;simp only[KJ,List.getElem?_cons_zero,List.getElem?_cons_succ,Option.getD_some]at j k l;intro i n;match i,n with
 |0,_=>simp[go_sem,j]
 |1,_=>simp[go_sem,k]
 |2,_=>simp[go_sem,l]
theorem Ph.aside{cA:Nat}{zo:Int}(p:Ph w u K cA g L z c Z d ra C m h e zo co F J a b V){E:Nat}(j:w.heap.size+1+1+1<E)(k:g<E)(l:e<E)(n:F<E)(q:J<E)(o:Nat)(v:Value):Ph w (u.setCell (Va E o) v) K cA g L z c Z d ra C m h e zo co F J a b V:=
 ⟨p.bel.setCell (p:=Va E o) (show w.heap.size<=E by omega) _,DN p.A (show E≠_ by omega),DN p.I (show E≠_ by omega),DN p.R (show E≠_ by omega),fun i=>by simpa using p.RF i,DN p.O (show E≠_ by omega),fun i=>by simpa using p.OF i,DN p.a (show E≠_ by omega),DN p.b (show E≠_ by omega),p.G.other (show E≠_ by omega) _,p.o1,p.o2,p.o3,p.o4⟩
theorem Ph.asideV{cA:Nat}{I:Int}{zo:Int}(p:Ph w u K cA g L z c Z d I C m h e zo co F J a b V){E:Nat}(j:w.heap.size+1+1+1<E)(k:g<E)(l:e<E)(n:F<E)(o:J<E)(x:VV):Ph w (Iy u E x) K cA g L z c Z d I C m h e zo co F J a b V:=by
 unfold Iy;exact(((((p.aside j k l n o _ _).aside j k l n o _ _).aside j k l n o _ _).aside j k l n o _ _).aside j k l n o _ _).aside j k l n o _ _
theorem QN{q:Nat}{k a M:Value}(h:Cl u q [k,a,M]):u.cell? (Va q 0)=some k/\u.cell? (Va q 1)=some a/\u.cell? (Va q 2)=some M:=⟨h.2 0 AX,h.2 1 AX,h.2 2 AX⟩
theorem QO{q:Nat}{k a M D:Value}(h:Cl u q [k,a,M,D]):u.cell? (Va q 0)=some k/\u.cell? (Va q 1)=some a/\u.cell? (Va q 2)=some M/\u.cell? (Va q 3)=some D:=⟨h.2 0 AX,h.2 1 AX,h.2 2 AX,h.2 3 AX⟩
end
section
open Go.RowKit Go.Deep
variable {c n z:Int}{J o:Nat}{S:Nat->HS}{O V:Nat->VV}{a b:VV}
def GV(v:VV)(n:Int):Prop:=(v.k=0/\ -1<=v.m/\v.m<=1099511627776/\v.h=0/\v.lo=0/\v.hi=0)∨(v.k=1/\v.s=false/\v.m=0/\0<=v.h/\v.h<n/\ -1099511627776<=v.lo/\v.lo<=v.hi/\v.hi<=1099511627776)
theorem gv{v:VV}:Cy v n=true↔GV v n:=by
 unfold Cy GV;by_cases h:v.k=0
 ·rw[if_pos h]
  simp only[decide_eq_true_eq];constructor
  ·intro q;exact Or.inl ⟨h,q⟩
  ·rintro(q|q)
   ·exact q.2
   ·omega
 ·rw[if_neg h]
  simp only[decide_eq_true_eq];constructor
  ·intro q;exact Or.inr q
  ·rintro(q|q)
   ·omega
   ·exact q
theorem Jg(s:Bool)(m n:Int):GV (Al s m) n:=by
 refine Or.inl ⟨rfl,?_,?_,rfl,rfl,rfl⟩<;>(show _<=_;unfold Al;dsimp only;split<;>omega)
theorem XC(c:GV a n)(d:GV b n):GV (Cg a b) n:=by
 unfold Cg;rcases c with c|c<;>rcases d with d|d
 ·rw[if_neg AB];split
  ·exact Or.inl ⟨rfl,by dsimp only;split<;>omega,by dsimp only;split<;>omega,rfl,rfl,rfl⟩
  ·exact Or.inl ⟨rfl,by dsimp only;omega,by dsimp only;omega,rfl,rfl,rfl⟩
 ·rw[if_neg AB,if_neg AB];exact Or.inl ⟨rfl,by dsimp only;omega,by dsimp only;omega,rfl,rfl,rfl⟩
 ·rw[if_neg AB,if_neg AB];exact Or.inl ⟨rfl,by dsimp only;omega,by dsimp only;omega,rfl,rfl,rfl⟩
 ·split
  ·exact Or.inr ⟨rfl,rfl,rfl,by dsimp only;omega,by dsimp only;omega,by dsimp only;split<;>omega,by dsimp only;split<;>split<;>omega,by dsimp only;split<;>omega⟩
  ·rw[if_neg AB];exact Or.inl ⟨rfl,by dsimp only;omega,by dsimp only;omega,rfl,rfl,rfl⟩
theorem nD{f:Int}(c:GV a n)(d:GV b n):GV (KW a b f) n:=by
 unfold KW;have j:=XC c d;by_cases h:f=2/\(Cg a b).k=1
 ·rw[if_pos h]
  rcases Jg true (-1) n with q|q
  ·exact Or.inl q
  ·exact absurd q.1 Ad
 ·rw[if_neg h]
  rcases j with q|q
  ·exact Or.inl q
  ·refine Or.inr ⟨q.1,?_,q.2.2⟩
   show((Cg a b).s||decide (f=2))=false;rw[q.2.1,Bool.false_or];exact decide_eq_false (fun e=>h ⟨e,q.1⟩)
theorem XW{p q:VV}(a:GV p n):GV (Tv p q) n:=by
 unfold Tv;split
 ·rename_i h
  rcases a with a|a
  ·omega
  ·have:0<=q.m:=by
    have b:=h.2.1;unfold AZ at b;by_cases e:q.k=1
    ·rw[if_pos e]at b;omega
    ·rw[if_neg e]at b;exact b
   exact Or.inr ⟨a.1,a.2.1,a.2.2.1,a.2.2.2.1,a.2.2.2.2.1,a.2.2.2.2.2.1,by show p.lo<=p.hi+q.m;omega,h.2.2.2⟩
 ·split<;>exact Jg _ _ _
theorem uh(c:GV a n)(d:GV b n):GV (Mg a b) n:=by
 unfold Mg;split
 ·exact XW d
 ·exact XW c
theorem sH{Z m:Int}{s:Bool}(d:GV a n)(l:GV b n):GV (CQ Z m a b s) n:=by
 unfold CQ;by_cases e:Z=1
 ·rw[if_pos e];exact d
 rw[if_neg e];by_cases j:Z=2
 ·rw[if_pos j];exact Jg _ _ _
 rw[if_neg j];by_cases k:Z=3∨Z=14
 ·rw[if_pos k];exact uh d l
 rw[if_neg k];by_cases c:Z=10
 ·rw[if_neg AB,if_neg AB,if_neg AB,if_neg AB,if_pos c]
  split
  ·rename_i h
   rcases d with q|q
   ·omega
   ·exact Or.inr ⟨q.1,q.2.1,q.2.2.1,q.2.2.2.1,q.2.2.2.2.1,h.2.1,by show a.lo+m<=a.hi+m;omega,h.2.2⟩
  ·split<;>exact Jg _ _ _
 ·(repeat' split)<;>first|exact Jg _ _ _|omega
theorem Co{N:Nat}:BK o S J O N V z c=true↔Db o S J O=true/\N=8/\(∀i,i<8->GV (V i) o)/\(0<=z/\z<=2)/\0<=c/\c<=2:=by
 unfold BK Dq Kl;simp only[Bool.and_eq_true,decide_eq_true_eq,List.all_eq_true,List.mem_range,gv];constructor
 ·rintro⟨⟨⟨b,d,e⟩,h⟩,j⟩
  subst d;exact⟨b,rfl,e,h,j⟩
 ·rintro⟨b,d,e,h,j⟩
  subst d;exact⟨⟨⟨b,rfl,e⟩,h⟩,j⟩
theorem Zb{I B:Int}{d:Nat}{r:VV}(h:BK o S J O 8 V z c=true)(k:GV r o)(l:0<=I/\I<=2)(e:0<=B/\B<=2):BK o S J O 8 (Df V d r) I B=true:=by
 obtain⟨a,_,b,_,_⟩:=Co.1 h;refine Co.2 ⟨a,rfl,fun i j=>?_,l,e⟩;unfold Df;split
 ·exact k
 ·exact b i j
theorem mW{b:Nat->VV}{I B:Int}(h:BK o S J O 8 V z c=true)(d:∀i,i<8->GV (b i) o)(e:0<=I/\I<=2)(a:0<=B/\B<=2):BK o S J O 8 b I B=true:=
 Co.2 ⟨(Co.1 h).1,rfl,d,e,a⟩
theorem rW{d:Nat}{r:VV}(h:∀i,i<8->GV (V i) n)(b:GV r n):∀i,i<8->GV (Df V d r i) n:=fun i a=>by
 unfold Df;split
 ·exact b
 ·exact h i a
theorem sU{w:World}{b:Nat}{y:VV}(h:Vb w b y)(t:Bool):Vb (w.setCell (Va b 1) (.bool t)) b {y with s:=t}:=
 (Ak.set1 h 1 AB _).congr (Ll rfl rfl rfl rfl rfl rfl)
theorem wF{Z:Int}(o:Z<=18)(h:BV (Ab Z) 68=true):Z<=16:=by
 by_cases a:Z=17
 ·subst a;exact absurd h (by rw[show BV (Ab 17) 68=false from by kernel_rfl];decide)
 by_cases b:Z=18
 ·subst b;exact absurd h (by rw[show BV (Ab 18) 68=false from by kernel_rfl];decide)
 omega
end
section
open Go.RowKit
variable {N:Bool}{C I K Z c d m n r z:Int}{B h i ib q:Nat}{S:Nat->HS}{L:Nat->SV}{V:Nat->VV}{s:SV}
section
variable{nH nR:Nat}{S:Nat->HS}{V0 V:Nat->VV}{z c op d ra rb imm h:Int}
theorem qg:GV zV n:=Or.inl ⟨rfl,Ad,Ad,rfl,rfl,rfl⟩
theorem uz(g:GV (V i) n):GV (Gl V op i) n:=by
 unfold Gl;split
 ·exact g
 ·exact qg
theorem rO(g:GV (V i) n):GV (Gb V op i) n:=by
 unfold Gb;split
 ·exact g
 ·exact qg
theorem tJ{a b:VV}{g:HS}(c:GV a n)(d:GV b n):GV (kS op imm a b N K g) n:=by
 unfold kS;split
 ·exact nD c d
 ·split
  ·exact Jg _ _ _
  ·split
   ·exact Jg _ _ _
   ·exact sH c d
theorem fI(x:Int)(a:0<=x/\x<=2):0<=Mc V z c op ra rb x/\Mc V z c op ra rb x<=2:=by
 unfold Mc;split
 ·split<;>omega
 ·exact a
theorem Yk(a:BK nH S nR V0 8 V z c=true)(b:BF op d ra rb imm h=true)(e:op<=28):BK nH S nR V0 8 (Pj S V z c op d ra rb imm h) (Mc V z c op ra rb z) (Mc V z c op ra rb c)=true:=by
 obtain⟨_,_,G,k,j⟩:=Co.1 a;have l:=Gx b e;refine mW a ?_ (fI z k) (fI c j);unfold Pj;split
 ·exact rW G (tJ (uz (G _ AB)) (rO (G _ AB)))
 ·exact G
end
structure FS where
 V:Nat->VV
 z:Int
 c:Int
def MF(a b:Int):Int:=if a=0∨b=0 then 0 else if a=2∨b=2 then 2 else 1
theorem Zv(a b:Int):0<=MF a b/\MF a b<=2:=by unfold MF;split<;>(try split)<;>omega
def jF(F G:FS):FS:=⟨fun i=>Cg (F.V i) (G.V i),MF F.z G.z,MF F.c G.c⟩
def He(F:FS)(cond:Int):Int:=if(if 3<=cond then F.c else F.z)=0 then 1 else if(if 3<=cond then F.c else F.z)=2 then 2 else 0
def JI(F G:FS):Prop:=F.z=G.z/\F.c=G.c/\∀i,i<8->F.V i=G.V i
def xY(a b:VV):Bool:=decide (a.k=b.k/\a.s=b.s/\a.m=b.m/\a.h=b.h/\a.lo=b.lo/\a.hi=b.hi)
theorem pI{a b:VV}:xY a b=true↔a=b:=by
 obtain⟨a1,a2,a3,a4,a5,a6⟩:=a;obtain⟨b1,b2,b3,b4,b5,b6⟩:=b;simp[xY]
def Qh(F G:FS):Bool:=decide (F.z=G.z)&&decide (F.c=G.c)&&(List.range 8).all fun i=>xY (F.V i) (G.V i)
theorem IZ{F G:FS}:Qh F G=true↔JI F G:=by
 simp[Qh,JI,pI,and_assoc]
abbrev CR:=Sum (Int×Int) (FS×Int)
abbrev CR.bad(err at':Int):CR:=.inl (err,at')
abbrev CR.ok(F:FS)(r:Int):CR:=.inr (F,r)
theorem CR.badI{a b:Int}(h:CR.bad a b=CR.bad c d):a=c/\b=d:=Prod.mk.inj (Sum.inl.inj h)
theorem CR.okI{F B:FS}{q:Int}(h:CR.ok F r=CR.ok B q):F=B/\r=q:=Prod.mk.inj (Sum.inr.inj h)
structure SG where
 nH:Nat
 S:Nat->HS
 V0:Nat->VV
def GU(G:SG)(s:SV)(F:FS):Int:=TN G.nH G.S 8 G.V0 8 F.V F.z F.c s.op s.d s.a s.b s.imm s.h
def Km(G:SG)(s:SV)(F:FS):FS:=⟨Pj G.S F.V F.z F.c s.op s.d s.a s.b s.imm s.h,Mc F.V F.z F.c s.op s.a s.b F.z,Mc F.V F.z F.c s.op s.a s.b F.c⟩
def Ri(G:SG)(F:FS):Prop:=BK G.nH G.S 8 G.V0 8 F.V F.z F.c=true
def Cq(body:FS->Int->CR)(cond here:Int):Nat->FS->Int->CR
 |0,_,_=>.bad 10 here
 |n+1,F,r=>if 1000<=r then .bad 10 here else if He F cond≠0 then .bad (He F cond) here else
  match body F (r+1)with
  |.inl (e,a)=>.bad e a
  |.inr (B,r')=>if Qh (jF F B) F then .ok F r' else Cq body cond here n (jF F B) r'
def xk(s:SV)(x y:FS->Int->CR)(at':Int)(F:FS)(r:Int):CR:=
 if s.k=3 then Cq (fun B q=>x B q) s.cond at' 20 F r
 else if He F s.cond≠0 then .bad (He F s.cond) at' else
  match x F r with
  |.inl (e,a)=>.bad e a
  |.inr (B,r1)=>match y F r1 with
   |.inl (e,a)=>.bad e a
   |.inr (C,r2)=>.ok (jF B C) r2
def Xn(G:SG):Nat->List SV->Int->FS->Int->CR
 |0,_,_,F,r=>.ok F r
 |_+1,[],_,F,r=>.ok F r
 |n+1,s::xs,at',F,r=>
  if s.k=1 then(if GU G s F≠0 then .bad (GU G s F) at' else Xn G n xs (at'+1) (Km G s F) r)
  else
   match xk s (Xn G n (xs.take s.thn.toNat) (at'+1)) (Xn G n ((xs.drop s.thn.toNat).take s.els.toNat) (at'+1+s.thn)) at' F r with
   |.inl (e,a)=>.bad e a
   |.inr (B,r')=>Xn G n (xs.drop (s.thn.toNat+s.els.toNat)) (at'+1+s.thn+s.els) B r'
def ET(G:SG)(xs:List SV)(at':Int)(F:FS)(r:Int):CR:=Xn G (xs.length+1) xs at' F r
theorem W9(G:SG):∀(n m:Nat)(b:List SV)(c:Int),b.length<n->b.length<m->Xn G n b c=Xn G m b c
 |0,_,_,_,h,_=>absurd h (Nat.not_lt_zero _)
 |_+1,0,_,_,_,h=>absurd h (Nat.not_lt_zero _)
 |_+1,_+1,[],_,_,_=>rfl
 |n+1,m+1,s::b,c,hn,hm=>by
  simp only[List.length_cons]at hn hm;have e:∀(d:List SV)(a:Int),d.length<=b.length->Xn G n d a=Xn G m d a:=fun d a h=>W9 G n m d a AB AB
  have j:(b.take s.thn.toNat).length<=b.length:=by rw[List.length_take];omega
  have k:((b.drop s.thn.toNat).take s.els.toNat).length<=b.length:=by rw[List.length_take,List.length_drop];omega
  have l:(b.drop (s.thn.toNat+s.els.toNat)).length<=b.length:=by rw[List.length_drop];omega
  funext F r
  rw[Xn,Xn,e b _ BQ,e _ _ j,e _ _ k,e _ _ l]
theorem XP{G:SG}{n:Nat}{d:List SV}(h:d.length<n)(a:Int):Xn G n d a=ET G d a:=W9 G n (d.length+1) d a h (Nat.lt_succ_self _)
def cmpL(G:SG)(s:SV)(x y:List SV)(at':Int)(F:FS)(r:Int):CR:=
 if s.k=3 then Cq (fun B q=>ET G x (at'+1) B q) s.cond at' 20 F r
 else if He F s.cond≠0 then .bad (He F s.cond) at' else
  match ET G x (at'+1) F r with
  |.inl (e,a)=>.bad e a
  |.inr (B,r1)=>match ET G y (at'+1+s.thn) F r1 with
   |.inl (e,a)=>.bad e a
   |.inr (C,r2)=>.ok (jF B C) r2
theorem Fx(G:SG)(a:Int)(F:FS)(r:Int):ET G [] a F r=.ok F r:=rfl
theorem Fs(G:SG)(s:SV)(c:List SV)(b:Int)(F:FS)(r:Int):ET G (s::c) b F r=if s.k=1 then(if GU G s F≠0 then .bad (GU G s F) b else ET G c (b+1) (Km G s F) r)
 else match cmpL G s (c.take s.thn.toNat) ((c.drop s.thn.toNat).take s.els.toNat) b F r with
  |.inl (e,a)=>.bad e a
  |.inr (B,r')=>ET G (c.drop (s.thn.toNat+s.els.toNat)) (b+1+s.thn+s.els) B r':=by
 have d:(c.take s.thn.toNat).length<c.length+1:=by rw[List.length_take];omega
 have h:((c.drop s.thn.toNat).take s.els.toNat).length<c.length+1:=by rw[List.length_take,List.length_drop];omega
 have j:(c.drop (s.thn.toNat+s.els.toNat)).length<c.length+1:=by rw[List.length_drop];omega
 show Xn G (c.length+1+1) (s::c) b F r=_;rw[Xn,XP (Nat.lt_succ_self _),XP d,XP h,XP j];rfl
theorem Sb{G:SG}(h:s.k=1)(b:List SV)(a:Int)(F:FS)(r:Int):ET G (s::b) a F r=if GU G s F≠0 then .bad (GU G s F) a else ET G b (a+1) (Km G s F) r:=by
 rw[Fs,if_pos h]
theorem Nz{G:SG}(h:s.k≠1){x y d:List SV}(c:s.thn=(x.length:Int))(j:s.els=(y.length:Int))(b:Int)(F:FS)(r:Int):
 ET G (s::(x++y++d)) b F r=match cmpL G s x y b F r with
  |.inl (e,a)=>.bad e a
  |.inr (B,r')=>ET G d (b+1+s.thn+s.els) B r':=by
 have l:(x++y++d).take s.thn.toNat=x:=by rw[c,Int.toNat_natCast,List.append_assoc,List.take_left]
 have m:((x++y++d).drop s.thn.toNat).take s.els.toNat=y:=by rw[c,j,Int.toNat_natCast,Int.toNat_natCast,List.append_assoc,List.drop_left,List.take_left]
 have n:(x++y++d).drop (s.thn.toNat+s.els.toNat)=d:=by rw[c,j,Int.toNat_natCast,Int.toNat_natCast,<-List.length_append,List.drop_left]
 rw[Fs,if_neg h,l,m,n]
section
variable{G:SG}
theorem Ri.join{F B:FS}(h:Ri G F)(k:Ri G B):Ri G (jF F B):=by
 obtain⟨b,_,c,_,_⟩:=Co.1 h;obtain⟨_,_,d,_,_⟩:=Co.1 k;exact Co.2 ⟨b,rfl,fun i a=>XC (c i a) (d i a),Zv _ _,Zv _ _⟩
theorem Om{o J:Nat}{O:Nat->VV}{h:Int}(e:TN o S J O 8 V z c Z d I C m h=0):BK o S J O 8 V z c=true/\BF Z d I C m h=true/\Z<=28:=by
 unfold TN at e;by_cases q:BK o S J O 8 V z c=true/\BF Z d I C m h=true/\Z<=28
 ·exact q
 ·rw[if_neg q]at e;omega
theorem Ri.tr{F:FS}(e:GU G s F=0):Ri G (Km G s F):=by
 obtain⟨a,b,c⟩:=Om e;exact Yk a b c
end
def seg(L:Nat->SV)(i te:Nat):List SV:=(List.range (te-i)).map fun j=>L (i+j)
theorem FH(L:Nat->SV)(i a:Nat):(seg L i a).length=a-i:=by simp[seg]
theorem J7{te:Nat}(h:¬i<te):seg L i te=[]:=by
 unfold seg;rw[show te-i=0 by omega];rfl
theorem IG{u:Nat}(h:i<u):seg L i u=L i::seg L (i+1) u:=by
 unfold seg;rw[show u-i=(u-(i+1))+1 by omega,List.range_succ_eq_map,List.map_cons,List.map_map];simp only[Nat.add_zero,List.cons.injEq,true_and];apply List.map_congr_left;intro j _;simp only[Function.comp_apply];congr 1
 omega
theorem NZ{m u:Nat}(h:i<=m)(k:m<=u):seg L i u=seg L i m++seg L m u:=by
 have H:∀n i,m-i=n->i<=m->seg L i u=seg L i m++seg L m u:=by
  intro n;induction n with
  |zero=>intro i a b;rw[J7 (L:=L) (i:=i) (te:=m) AB,show i=m by omega];rfl
  |succ n c=>intro i a b;rw[IG (show i<u by omega),IG (show i<m by omega),c (i+1) AB AB];rfl
 exact H _ i rfl h
def xQ(er:Int)(W:Nat->VV)(zz cc:Int)(w:World)(e:Ending)(w':World):Prop:=Wx w w' e er W zz cc/\Below w.heap.size w w'
theorem Sc{o J:Nat}{O:Nat->VV}(b:BK o S J O 8 V z c=true)(a:BF Z (B:Int) (h:Int) (ib:Int) m (q:Int)=true)(d:Z<=28):(TN o S J O 8 V z c Z (B:Int) (h:Int) (ib:Int) m (q:Int))=FL Z (Jw Z z c) (Gi V Z z c h ib) (A8 Z m (q:Int) (Gl V Z h) (Gb V Z ib) (V B) (S q)):=by
 unfold TN;rw[if_pos ⟨b,a,d⟩];rfl
theorem Jk{h:Int}(e:BF Z d I C m h=true)(o:Ap Z 8=false):m=0:=by
 unfold BF at e;simp only[Bool.and_eq_true]at e;have:=e.1.2;rw[o]at this;simpa[Dc]using this
def TF(S:Nat->HS)(V:Nat->VV)(op:Int)(di q:Nat):Nat->VV:=if oN op=true then V else if Vu op=1 then Df V di (Al (S q).s 255)else Df V di (Al (S q).s (-1))
theorem pY(V:Nat->VV)(d:Nat)(a b:VV):Df (Df V d a) d b=Df V d b:=by
 funext i;simp only[Df];split<;>rfl
theorem wY(d:21<=Z)(b:Z<=28):Pj S V z c Z (B:Int) (h:Int) (ib:Int) m (q:Int)=TF S V Z B q:=by
 have a:Z=21∨Z=22∨Z=23∨Z=24∨Z=25∨Z=26∨Z=27∨Z=28:=AB;unfold Pj;rcases a with rfl|rfl|rfl|rfl|rfl|rfl|rfl|rfl;all_goals first|rw[show Ik _=true from by kernel_rfl,if_pos rfl];rfl|rw[show Ik _=false from by kernel_rfl,if_neg Ad];rfl
theorem Rq{x:Int}(h:Z<14∨18<Z):Mc V z c Z I C x=x:=by
 unfold Mc;rw[if_neg (by simp only[Fj,decide_eq_true_eq];omega)]
theorem xA(o:Z=19∨Z=20):Pj S V z c Z (B:Int) (h:Int) (ib:Int) m (q:Int)=Df V B (KW (V h) (V ib) (Jw Z z c)):=by
 unfold Pj;rcases o with rfl|rfl;all_goals rw[show Ik _=true from by kernel_rfl,if_pos rfl,kS,if_pos Ad,Gl,Gb,if_pos AV,if_pos AV];rfl
theorem Zj(b:1<=Z)(a:Z<=18):Z=1∨Z=2∨Z=3∨Z=4∨Z=5∨Z=6∨Z=7∨Z=8∨Z=9∨Z=10∨Z=11∨Z=12∨Z=13∨Z=14∨Z=15∨Z=16∨Z=17∨Z=18:=AB
theorem Ug(b:1<=Z)(a:Z<=18):BV (Ab Z) 65=Ap Z 2/\BV (Ab Z) 66=Ap Z 4/\BV (Ab Z) 68=Ik Z:=by
 rcases Zj b a with rfl|rfl|rfl|rfl|rfl|rfl|rfl|rfl|rfl|rfl|rfl|rfl|rfl|rfl|rfl|rfl|rfl|rfl;all_goals exact⟨AV,AV,AV⟩
theorem Vh{ia:Nat}(b:1<=Z)(a:Z<=18):Gi V Z z c ia ib=((BV (Ab Z) 65&&(V ia).s||BV (Ab Z) 66&&(V ib).s)||decide (Jw Z z c=2)):=by
 have h:=Ug b a;rw[Gi,h.1,h.2.1];congr 2
 ·unfold Gl;cases Ap Z 2<;>rfl
 ·unfold Gb;cases Ap Z 4<;>rfl
theorem wL(j:1<=Z)(k:Z<=16):Pj S V z c Z (B:Int) (h:Int) (ib:Int) m (q:Int)=Df V B (CQ Z m (V h) (V ib) (Gi V Z z c h ib)):=by
 unfold Pj;rw[Int.toNat_natCast,Int.toNat_natCast,Int.toNat_natCast,Int.toNat_natCast];generalize Gi V Z z c h ib=d;generalize Jw Z z c=e;have H:kS Z m (Gl V Z h) (Gb V Z ib) d e (S q)=CQ Z m (V h) (V ib) d/\Ik Z=true:=by
  rcases Zj j AB with rfl|rfl|rfl|rfl|rfl|rfl|rfl|rfl|rfl|rfl|rfl|rfl|rfl|rfl|rfl|rfl|rfl|rfl
  ·refine⟨?_,AV⟩
   have a:Ap 1 2=true:=AV;have b:Ap 1 4=false:=AV;rw[Gl,Gb,a,b];rfl
  ·refine⟨?_,AV⟩
   have a:Ap 2 2=false:=AV;have b:Ap 2 4=false:=AV;rw[Gl,Gb,a,b];rfl
  ·refine⟨?_,AV⟩
   have a:Ap 3 2=true:=AV;have b:Ap 3 4=true:=AV;rw[Gl,Gb,a,b];rfl
  ·refine⟨?_,AV⟩
   have a:Ap 4 2=true:=AV;have b:Ap 4 4=true:=AV;rw[Gl,Gb,a,b];rfl
  ·refine⟨?_,AV⟩
   have a:Ap 5 2=true:=AV;have b:Ap 5 4=true:=AV;rw[Gl,Gb,a,b];rfl
  ·refine⟨?_,AV⟩
   have a:Ap 6 2=true:=AV;have b:Ap 6 4=true:=AV;rw[Gl,Gb,a,b];rfl
  ·refine⟨?_,AV⟩
   have a:Ap 7 2=true:=AV;have b:Ap 7 4=true:=AV;rw[Gl,Gb,a,b];rfl
  ·refine⟨?_,AV⟩
   have a:Ap 8 2=true:=AV;have b:Ap 8 4=true:=AV;rw[Gl,Gb,a,b];rfl
  ·refine⟨?_,AV⟩
   have a:Ap 9 2=true:=AV;have b:Ap 9 4=true:=AV;rw[Gl,Gb,a,b];rfl
  ·refine⟨?_,AV⟩
   have a:Ap 10 2=true:=AV;have b:Ap 10 4=false:=AV;rw[Gl,Gb,a,b];rfl
  ·refine⟨?_,AV⟩
   have a:Ap 11 2=true:=AV;have b:Ap 11 4=false:=AV;rw[Gl,Gb,a,b];rfl
  ·refine⟨?_,AV⟩
   have a:Ap 12 2=true:=AV;have b:Ap 12 4=false:=AV;rw[Gl,Gb,a,b];rfl
  ·refine⟨?_,AV⟩
   have a:Ap 13 2=true:=AV;have b:Ap 13 4=false:=AV;rw[Gl,Gb,a,b];rfl
  ·refine⟨?_,AV⟩
   have a:Ap 14 2=true:=AV;have b:Ap 14 4=true:=AV;rw[Gl,Gb,a,b];rfl
  ·refine⟨?_,AV⟩
   have a:Ap 15 2=true:=AV;have b:Ap 15 4=true:=AV;rw[Gl,Gb,a,b];rfl
  ·refine⟨?_,AV⟩
   have a:Ap 16 2=true:=AV;have b:Ap 16 4=true:=AV;rw[Gl,Gb,a,b];rfl
  ·omega
  ·omega
 rw[H.1,H.2,if_pos rfl]
theorem jZ(a:¬K=0)(b:¬(Z=9/\N=true))(c:Z<=20):FL Z K N r=0:=by rw[FL,if_neg a,if_neg b,if_neg AB]
theorem wT(a:¬K=0)(b:¬Z=9)(c:21<=Z)(d:Z<=28):FL Z K N r=r:=by rw[FL,if_neg a,if_neg (fun x=>b x.1),if_pos ⟨c,d⟩]
theorem QX(a:Z≠19)(b:Z≠15)(d:Z≠20):Jw Z z c=1:=by rw[Jw,if_neg a,if_neg AB]
def JD(G:SG)(F:FS):Prop:=Ri G F/\∀i,8<=i->F.V i=zV
section
variable{G:SG}
theorem JD.join{F B:FS}(h:JD G F)(k:JD G B):JD G (jF F B):=⟨h.1.join k.1,fun i a=>by show Cg (F.V i) (B.V i)=zV;rw[h.2 i a,k.2 i a];rfl⟩
theorem JD.tr{F:FS}(h:JD G F)(e:GU G s F=0):JD G (Km G s F):=by
 refine⟨Ri.tr e,fun i j=>?_⟩;obtain⟨m,k,l⟩:=Om e;have n:=Gx k l;show Pj G.S F.V F.z F.c s.op s.d s.a s.b s.imm s.h i=zV;unfold Pj;split
 ·unfold Df
  rw[if_neg AB];exact h.2 i j
 ·exact h.2 i j
theorem JD.eq{F B:FS}(h:JD G F)(k:JD G B)(e:JI F B):F=B:=by
 obtain⟨V,z,c⟩:=F;obtain⟨U,m,d⟩:=B;obtain⟨j,l,a⟩:=e;have:V=U:=by
  funext i
  by_cases b:i<8
  ·exact a i b
  ·exact(h.2 i AB).trans (k.2 i AB).symm
 simp_all
def VW(G:SG)(f:FS->Int->CR):Prop:=∀F r B r',JD G F->f F r=.ok B r'->JD G B/\r<=r'/\(r<=1000->r'<=1000)/\∀q,q+(r'-r)<=1000->f F q=.ok B (q+(r'-r))
theorem VE{body:FS->Int->CR}(p:VW G body)(cond a:Int):∀n,VW G (Cq body cond a n):=by
 intro n;induction n with
 |zero=>intro F r B y _ e;simp[Cq]at e
 |succ n u=>
  intro F r B y hF e;unfold Cq at e;by_cases h:1000<=r
  ·rw[if_pos h]at e;cases e
  rw[if_neg h]at e;by_cases b:He F cond≠0
  ·rw[if_pos b]at e;cases e
  rw[if_neg b]at e;cases h3:body F (r+1)with
  |inl q=>obtain⟨d,D⟩:=q;rw[h3]at e;cases e
  |inr q=>
   obtain⟨C,z⟩:=q;rw[h3]at e;obtain⟨o,E,j,k⟩:=p F (r+1) C z hF h3;dsimp only at e;by_cases c:Qh (jF F C) F=true
   ·rw[if_pos c]at e
    obtain⟨d,l⟩:=CR.okI e;subst d l;refine⟨hF,AB,fun _=>j AB,fun q s=>?_⟩;have:=k (q+1) AB;unfold Cq;rw[if_neg AB,if_neg b,this];dsimp only;rw[if_pos c];congr 1
    omega
   ·rw[if_neg c]at e
    obtain⟨m,I,x,A⟩:=u _ _ _ _ (hF.join o) e;refine⟨m,AB,fun _=>x (j AB),fun q s=>?_⟩;have:=k (q+1) AB;unfold Cq;rw[if_neg AB,if_neg b,this];dsimp only;rw[if_neg c,A _ AB];congr 1
    omega
theorem Yu(s:SV)(x y:List SV)(a:Int)(m:VW G (ET G x (a+1)))(J:VW G (ET G y (a+1+s.thn))):VW G (cmpL G s x y a):=by
 intro F r B M hF e;unfold cmpL at e;by_cases b:s.k=3
 ·rw[if_pos b]at e
  obtain⟨p,u,z,A⟩:=VE (body:=fun B q=>ET G x (a+1) B q) m s.cond a 20 F r B M hF e;refine⟨p,u,z,fun q l=>?_⟩;unfold cmpL;rw[if_pos b];exact A q l
 rw[if_neg b]at e;by_cases d:He F s.cond≠0
 ·rw[if_pos d]at e;cases e
 rw[if_neg d]at e;cases h4:ET G x (a+1) F r with
 |inl q=>obtain⟨c,n⟩:=q;rw[h4]at e;cases e
 |inr q=>
  obtain⟨C,j⟩:=q;rw[h4]at e;obtain⟨E,R,K,O⟩:=m F r C j hF h4;dsimp only at e;cases h5:ET G y (a+1+s.thn) F j with
  |inl q=>obtain⟨c,n⟩:=q;rw[h5]at e;cases e
  |inr q=>
   obtain⟨D,N⟩:=q;rw[h5]at e;obtain⟨I,S,L,Q⟩:=J F j D N hF h5;dsimp only at e;obtain⟨c,o⟩:=CR.okI e;subst c o;refine⟨E.join I,AB,fun h=>L (K h),fun q l=>?_⟩;unfold cmpL;rw[if_neg b,if_neg d,O q AB];dsimp only;rw[Q _ AB];dsimp only;congr 1
   omega
theorem Jv(G:SG):∀(n:Nat)(b:List SV)(a:Int),b.length<=n->VW G (ET G b a):=by
 intro n;induction n with
 |zero=>
  intro b a u F r B p hF e;obtain rfl:b=[]:=List.length_eq_zero_iff.1 AB;rw[Fx]at e;obtain⟨c,m⟩:=CR.okI e;subst c m;exact⟨hF,Int.le_refl _,fun h=>h,fun q _=>by rw[Fx];congr 1;omega⟩
 |succ n l=>
  intro b a u F r B p hF e;cases b with
  |nil=>
   rw[Fx]at e;obtain⟨c,m⟩:=CR.okI e;subst c m;exact⟨hF,Int.le_refl _,fun h=>h,fun q _=>by rw[Fx];congr 1;omega⟩
  |cons s b=>
   have o:b.length<=n:=by simpa using u
   rw[Fs]at e;by_cases d:s.k=1
   ·rw[if_pos d]at e
    by_cases j:GU G s F≠0
    ·rw[if_pos j]at e;cases e
    rw[if_neg j]at e;obtain⟨z,A,D,E⟩:=l b (a+1) o _ r B p (hF.tr (by simpa using j)) e;refine⟨z,A,D,fun q x=>?_⟩;rw[Fs,if_pos d,if_neg j];exact E q x
   ·rw[if_neg d]at e
    have O:=l (b.take s.thn.toNat) (a+1) (by rw[List.length_take];omega);have Q:=l ((b.drop s.thn.toNat).take s.els.toNat) (a+1+s.thn) (by rw[List.length_take,List.length_drop];omega);have R:=l (b.drop (s.thn.toNat+s.els.toNat)) (a+1+s.thn+s.els) (by rw[List.length_drop];omega);have S:=Yu s _ _ a O Q;cases h5:cmpL G s (b.take s.thn.toNat) ((b.drop s.thn.toNat).take s.els.toNat) a F r with
    |inl q=>obtain⟨c,U⟩:=q;rw[h5]at e;cases e
    |inr q=>
     obtain⟨C,y⟩:=q;rw[h5]at e;dsimp only at e;obtain⟨J,X,K,M⟩:=S F r C y hF h5;obtain⟨I,Y,L,N⟩:=R C y B p J e;refine⟨I,AB,fun h=>L (K h),fun q x=>?_⟩;rw[Fs,if_neg d,M q AB];dsimp only;rw[N _ AB];congr 1
     omega
def rG(f:FS->Int->CR):Prop:=∀F r e a,f F r=.bad e a->e≠0
theorem VA{body:FS->Int->CR}(d:rG body)(cond b:Int):∀n,rG (Cq body cond b n):=by
 intro n;induction n with
 |zero=>intro F r e a h;have:=(CR.badI h).1;omega
 |succ n j=>
  intro F r e a h;unfold Cq at h;split at h
  ·have:=(CR.badI h).1;omega
  split at h
  ·rename_i o;have:=(CR.badI h).1;omega
  split at h
  ·rename_i l k c;have m:=(CR.badI h).1;have:=d _ _ _ _ c;omega
  ·split at h
   ·cases h
   ·exact j _ _ _ _ h
theorem kP(G:SG):∀(n:Nat)(c:List SV)(b:Int),c.length<=n->rG (ET G c b):=by
 intro n;induction n with
 |zero=>
  intro c b p F r e a h;obtain rfl:c=[]:=List.length_eq_zero_iff.1 AB;rw[Fx]at h;cases h
 |succ n j=>
  intro c b p F r e a h;cases c with
  |nil=>rw[Fx]at h;cases h
  |cons s c=>
   have o:c.length<=n:=by simpa using p
   rw[Fs]at h;split at h
   ·split at h
    ·rename_i z;have:=(CR.badI h).1;omega
    ·exact j _ _ o _ _ _ _ h
   ·have u:=j (c.take s.thn.toNat) (b+1) (by rw[List.length_take];omega)
    have A:=j ((c.drop s.thn.toNat).take s.els.toNat) (b+1+s.thn) (by rw[List.length_take,List.length_drop];omega);split at h
    ·rename_i D C d
     obtain⟨k,l⟩:=CR.badI h;subst k l;unfold cmpL at d;split at d
     ·exact VA (body:=fun B q=>ET G (c.take s.thn.toNat) (b+1) B q) u _ _ _ _ _ _ _ d
     split at d
     ·rename_i z;have:=(CR.badI d).1;omega
     split at d
     ·rename_i y x m;have k:=(CR.badI d).1;have:=u _ _ _ _ m;omega
     split at d
     ·rename_i y x m;have k:=(CR.badI d).1;have:=A _ _ _ _ m;omega
     ·cases d
    ·exact j _ _ (by rw[List.length_drop];omega) _ _ _ _ h
def JO(G:SG)(L:Nat->SV)(p:Nat)(F:FS)(r:Int):CR:=
 if 1000<=r then .bad 10 (p:Int)else if He F (L p).cond≠0 then .bad (He F (L p).cond) (p:Int)else ET G (seg L (p+1) (p+1+(L p).thn.toNat)) ((p:Int)+1) F (r+1)
def Zl(G:SG)(L:Nat->SV)(p:Nat)(F B:FS)(k:Int):Prop:=JD G F/\JD G B/\1<=k/\k<=100000/\∀q,0<=q->q+k<=1000->JO G L p F q=.ok B (q+k)
theorem oD{p:Nat}{F B:FS}{e:Int}(hF:JD G F)(n:0<=r)(h:JO G L p F r=.ok B e):Zl G L p F B (e-r)/\(e<=1000):=by
 unfold JO at h;split at h
 ·cases h
 split at h
 ·cases h
 ·rename_i l j
  obtain⟨a,k,b,c⟩:=Jv G _ _ _ BQ F (r+1) B e hF h;have d:=b AB;refine⟨⟨hF,a,AB,AB,fun q _ m=>?_⟩,d⟩;unfold JO;rw[if_neg AB,if_neg j,c _ AB];congr 1
  omega
theorem Mh(G:SG)(L:Nat->SV)(p n:Nat)(F:FS)(r:Int):Cq (fun B q=>ET G (seg L (p+1) (p+1+(L p).thn.toNat)) ((p:Int)+1) B q) (L p).cond (p:Int) (n+1) F r=match JO G L p F r with
 |.inl (e,a)=>.bad e a
 |.inr (B,r')=>if Qh (jF F B) F then .ok F r' else Cq (fun B q=>ET G (seg L (p+1) (p+1+(L p).thn.toNat)) ((p:Int)+1) B q) (L p).cond (p:Int) n (jF F B) r':=by
 rw[Cq];unfold JO;split
 ·rfl
 split
 ·rfl
 ·rfl
end
end
section
open Go.RowKit Go.Deep
def yE(w:World)(g cg:Nat)(er:Int)(W:Nat->VV)(z c:Int)(e:Ending)(w':World):Prop:=vG w' g cg e er W z c/\Below g w w'
theorem Wp(bH nH cH bR nR cR g cg:Nat)(S:Nat->HS)(V:Nat->VV)(z c n r:Int)(b:VV)(C j l q:Nat)(hd:C<8)(ha:j<8)(hb:l<8)(w:World)(_lH:nH<=1048576)(aB:(V j).k=1->(V j).h=(q:Int)->q<nH)(hh:Ak w bH (nH*3) (Ur S))(hg:Ak w g (8*6) (vF V))(hA:Bd (V j))(hB:Bd (V l))(n0: -1000000<=r)(n1:r<=1000000)(aH:21<=n)(aI:n<=28)(ay:25<=n->b=V l/\r=0)(ax:n<25->b=zV):
 Ks 102 #[.agg #[Vs bH nH cH,Vs bR nR cR],.agg #[Vs g 8 cg,Vi z,Vi c],.agg #[Vi n,Vi (C:Int),Vi (j:Int),Vi (l:Int),Vi r,Vi (q:Int)]] w (yE w g cg (A8 n r (q:Int) (V j) b (V C) (S q)) (TF S V n C q) z c):=by
 obtain⟨er,ar⟩:=Au (A8 n r (q:Int) (V j) b (V C) (S q));rw[ar];obtain⟨W,hW⟩:=Au (TF S V n C q);rw[hW];have ah:=hxy hW;clear hW;have K:=hxy ar;have HX:=hxy ay;have HN:=hxy ax;have HP:Hid (21<=n/\n<=28):=⟨aH,aI⟩
 clear ar ay ax aH aI;have HH:=hxy hh;have aw:=hxy aB;have HG:=hxy hg;have lg:=hg.lt;have a8:=hA.l0;have a9:=hA.l1;have a4:=hA.h0;have a5:=hA.h1;have aW:=hB.m0;have aX:=hB.m1;clear hh aB hg hA hB;have aY:(j:Int)<8:=AB;have aZ:(l:Int)<8:=AB;have a3:(C:Int)<8:=AB;go_enter Tryz.func102,Tryz.ntmps102;go_upto_region 1 with fail;obtain⟨u,hu,pu⟩:=Ny w bH nH cH bR nR cR g 8 cg (z:=z) (c:=c) (op:=n) (d:=(C:Int)) (ra:=(j:Int)) (rb:=(l:Int)) (imm:=r) (h:=(q:Int));rw[hu];have P0:=hxy pu;clear hu pu;have ag:=hxy (HG.below P0.bel lg);obtain⟨_,⟨N,_,_⟩,_⟩:=Cc P0;obtain⟨i0,i1,i2,i3,i4,i5⟩:=Aa P0.I;obtain⟨x0,x1,x2,x3,x4,x5⟩:=Bh ag j ha;obtain⟨y0,y1,y2,y3,y4,y5⟩:=Bh ag l hb;have aT:=P0.A.1;have aU:=P0.I.1;have aV:=ag.lt;go_upto_region 3 with fail;clear aT aU aV N i0 i1 i2 i3 i4 i5 x0 x1 x2 x3 x4 x5 y0 y1 y2 y3 y4 y5;obtain⟨u1,au,p1⟩:∃v,(u.alloc (.cells #[Vi (V j).k,.bool (V j).s,Vi (V j).m,Vi (V j).h,Vi (V j).lo,Vi (V j).hi] 47)).alloc (.cells #[Vi (V l).k,.bool (V l).s,Vi (V l).m,Vi (V l).h,Vi (V l).lo,Vi (V l).hi] 47)=v/\nQ w v bH nH cH bR nR cR g cg z c n (C:Int) (j:Int) (l:Int) r (q:Int) u.heap.size (u.heap.size+1) (V j) (V l) V:=by
  have b1:=(Below.refl u.heap.size u).alloc BQ (.cells #[Vi (V j).k,.bool (V j).s,Vi (V j).m,Vi (V j).h,Vi (V j).lo,Vi (V j).hi] 47);have e1:=Cl.new (w:=u) (vs:=#[Vi (V j).k,.bool (V j).s,Vi (V j).m,Vi (V j).h,Vi (V j).lo,Vi (V j).hi]) (t:=47);generalize hy:u.alloc (.cells #[Vi (V j).k,.bool (V j).s,Vi (V j).m,Vi (V j).h,Vi (V j).lo,Vi (V j).hi] 47)=y at *;have s1:y.heap.size=u.heap.size+1:=by rw[<-hy];simp
  clear hy;have b2:=(Below.refl y.heap.size y).alloc BQ (.cells #[Vi (V l).k,.bool (V l).s,Vi (V l).m,Vi (V l).h,Vi (V l).lo,Vi (V l).hi] 47);have e2:=Cl.new (w:=y) (vs:=#[Vi (V l).k,.bool (V l).s,Vi (V l).m,Vi (V l).h,Vi (V l).lo,Vi (V l).hi]) (t:=47);rw[s1]at e2;have p:=P0.below (b1.trans (b2.mono b1.size));exact⟨_,rfl,p.bel.mono (Nat.le_of_lt lg),p.S,p.A,p.I,p.R,p.RF,e1.below b2,e2,HG.below p.bel lg⟩
 rw[au];have ga:=P0.bel.size;have gb:w.heap.size<=u.heap.size+1:=AB;have aO:=HH.lt;have av:Hid (Ak u1 bH (nH*3) (Ur S)):=HH.below (by rw[<-au];exact(P0.bel.alloc (by have:=P0.bel.size;omega) _).alloc (by simp;have:=P0.bel.size;omega) _) aO;clear au;obtain⟨na,az⟩:=Au u.heap.size;obtain⟨nb,aA⟩:=Au (u.heap.size+1);rw[aA]at p1 gb⊢;rw[az]at p1 ga⊢;clear az aA P0 ag HG HH;have U:=hxy p1;clear p1;have s0:=U.S.2 0 AX;have N:=U.A.2 0 AX;have a1:=U.A.2 1 AX;have a2:=U.A.2 2 AX;simp only[KJ,List.getElem?_cons_zero,List.getElem?_cons_succ,Option.getD_some]at s0 N a1 a2;obtain⟨i0,i1,i2,i3,i4,i5⟩:=Aa U.I;obtain⟨x0,x1,x2,x3,x4,x5⟩:=KL U.a;obtain⟨y0,y1,y2,y3,y4,y5⟩:=KL U.b;have r0:=U.R.2 0 AX;have r1:=U.R.2 1 AX;have r2:=U.R.2 2 AX;have r3:=U.R.2 3 AX;simp only[KJ,List.getElem?_cons_zero,List.getElem?_cons_succ,Option.getD_some]at r0 r1 r2 r3;have rf:=U.RF;have rl:=U.R.1;go_upto_region 6 with fail;go_cut [53](fun aS wx=>(∃b:Bool,aS=.bool b/\(Vu n=if b=true then 8 else 1))/\wx=u1)
 case first=>
  by_cases o1:n=22
  ·subst o1
   go_wp2;go_meet;exact⟨⟨_,rfl,Ad⟩,rfl⟩
  have f1:(n==22)=false:=by simpa using o1
  by_cases o2:n=24
  ·subst o2
   go_wp2;go_meet;exact⟨⟨_,rfl,Ad⟩,rfl⟩
  have f2:(n==24)=false:=by simpa using o2
  by_cases o3:n=26
  ·subst o3
   go_wp2;go_meet;exact⟨⟨_,rfl,Ad⟩,rfl⟩
  have f3:(n==26)=false:=by simpa using o3
  go_wp2;go_meet;exact⟨⟨_,rfl,by have hp:=HP.out;unfold Vu;by_cases q:n=28<;>simp[q]<;>omega⟩,rfl⟩
 case rest=>
 obtain⟨⟨aN,rfl,ak⟩,rfl⟩:=hcut;have ae:=hxy ak;clear ak;go_upto_if 53 with fail;go_cut [11](fun aQ wx=>(∃wd:Int,aQ=Vi wd/\1<=wd/\wd<=8/\Vu n=wd)/\wx=wc)
 case first=>
  cases aN
  ·go_wp2
   go_meet;exact⟨⟨1,rfl,AB,AB,ae⟩,rfl⟩
  ·go_wp2
   go_meet;exact⟨⟨8,rfl,AB,AB,ae⟩,rfl⟩
 case rest=>
 obtain⟨⟨wd,rfl,ba,bb,aE⟩,rfl⟩:=hcut;have af:=hxy aE;clear aE ae;go_upto_region 8 with fail;go_cut [12](fun aR wx=>(∃st:Bool,aR=.bool st/\oN n=st)/\wx=wc)
 case first=>
  by_cases o1:n=23
  ·subst o1
   go_wp2;go_meet;exact⟨⟨_,rfl,Ad⟩,rfl⟩
  by_cases o2:n=24
  ·subst o2
   go_wp2;go_meet;exact⟨⟨_,rfl,Ad⟩,rfl⟩
  by_cases o3:n=27
  ·subst o3
   go_wp2;go_meet;exact⟨⟨_,rfl,Ad⟩,rfl⟩
  have f1:(n==23)=false:=by simpa using o1
  have f2:(n==24)=false:=by simpa using o2
  have f3:(n==27)=false:=by simpa using o3
  have aM:Hid (¬n=23/\¬n=24/\¬n=27):=⟨o1,o2,o3⟩
  clear o1 o2 o3;go_wp2;go_meet;exact⟨⟨_,rfl,by have hs:=aM.out;unfold oN;by_cases q:n=28<;>simp[q,hs]⟩,rfl⟩
 case rest=>
 obtain⟨⟨st,rfl,aC⟩,rfl⟩:=hcut;have E:=hxy aC;clear aC;generalize wc=u1 at *;by_cases c1:(V j).k=1
 rotate_left
 ·have e1:((V j).k !=1)=true:=by simp[c1]
  go_wp2;refine mY (.agg #[Vi 3,.slice none 0 0,Vi 0,Vi 0]) (by simp[results,Tryz.results102,go_sem, *]) ⟨Or.inl ⟨by rw[<-K.out,A8,if_pos c1];decide,by rw[<-K.out,A8,if_pos c1]⟩,?_⟩
  (iterate 4 refine Below.setCell ?_ (show g<=w.heap.size+1+1+1 by omega) _)
  exact U.bel
 have e1:((V j).k !=1)=false:=by simp[c1]
 have L:=hxy c1;clear c1;by_cases c2:(V j).h=(q:Int)
 rotate_left
 ·have e2:((V j).h !=(q:Int))=true:=by simp[c2]
  go_wp2;refine mY (.agg #[Vi 4,.slice none 0 0,Vi 0,Vi 0]) (by simp[results,Tryz.results102,go_sem, *]) ⟨Or.inl ⟨by rw[<-K.out,A8,if_neg (by simp[L.out]),if_pos c2];decide,by rw[<-K.out,A8,if_neg (by simp[L.out]),if_pos c2]⟩,?_⟩
  (iterate 4 refine Below.setCell ?_ (show g<=w.heap.size+1+1+1 by omega) _)
  exact U.bel
 have hq:=aw.out L c2;have a7:(q:Int)<nH:=AB;have Z:=hxy c2;rw[c2]at x3;have e2:((q:Int) !=(q:Int))=false:=AX;clear c2 aw;obtain⟨h0,h1,h2⟩:=Sw av hq;go_upto_region 14 with fail;clear s0 N a1 a2 i0 i1 i2 i3 i4 i5 x0 x1 x2 x3 x4 x5 y0 y1 y2 y3 y4 y5 r0 r1 r2 r3 rf rl;clear h0 h1 h2 e1 e2;obtain⟨u2,aD,b2,g2⟩:∃v,u1.alloc (.cells #[Vi (S q).size,.bool (S q).s,.bool (S q).w] 45)=v/\Bw u1 v/\Cl v u1.heap.size [Vi (S q).size,.bool (S q).s,.bool (S q).w]:=⟨_,rfl,Ai,Cl.new⟩
 rw[aD];have P2:=hxy (U.below b2);have G2:=hxy g2;have a6:w.heap.size<=u1.heap.size:=by have:=U.R.1;omega
 clear aD b2 g2 U av;generalize u1.heap.size=nh at *;have s0:=P2.S.2 0 AX;have N:=P2.A.2 0 AX;have a1:=P2.A.2 1 AX;have a2:=P2.A.2 2 AX;simp only[KJ,List.getElem?_cons_zero,List.getElem?_cons_succ,Option.getD_some]at s0 N a1 a2;obtain⟨i0,i1,i2,i3,i4,i5⟩:=Aa P2.I;obtain⟨x0,x1,x2,x3,x4,x5⟩:=KL P2.a;obtain⟨y0,y1,y2,y3,y4,y5⟩:=KL P2.b;have r0:=P2.R.2 0 AX;have r1:=P2.R.2 1 AX;have r2:=P2.R.2 2 AX;have r3:=P2.R.2 3 AX;simp only[KJ,List.getElem?_cons_zero,List.getElem?_cons_succ,Option.getD_some]at r0 r1 r2 r3;have rf:=P2.RF;have rl:=P2.R.1;have h0:=G2.2 0 AX;have h1:=G2.2 1 AX;have h2:=G2.2 2 AX;simp only[KJ,List.getElem?_cons_zero,List.getElem?_cons_succ,Option.getD_some]at h0 h1 h2;go_upto_if 90 with fail;go_cut [10](fun aP wx=>(∃x:Int,aP=Vi x/\(-4000000000000<=x/\x<=4000000000000)/\x=(V j).hi+r+b.m/\¬(b.s=true∨AZ b<0))/\Bw u2 wx)
 case first=>
  by_cases o1:25<=n
  rotate_left
  ·have f1:decide (25<=n)=false:=by simp;omega
   go_wp2;go_meet;exact⟨⟨_,rfl,AB,by rw[HN.out AB];simp[zV],by rw[HN.out AB];simp[zV,AZ]⟩,Below.refl _ _⟩
  have f1:decide (25<=n)=true:=by simp;omega
  go_wp2_with fail;refine(DI (V l).k (V l).s (V l).m (V l).h (V l).lo (V l).hi _).mono ?_;rintro e u3⟨rfl,Q⟩;obtain⟨mb,hm⟩:=Au (AZ ⟨(V l).k,(V l).s,(V l).m,(V l).h,(V l).lo,(V l).hi⟩);rw[hm];have HM:Hid (AZ b=mb):=(by rw[(HX.out o1).1];exact hm:AZ b=mb)
  have ad:=hxy (HX o1);have o:=hxy (P2.below Q);have B3:=hxy Q;clear s0 N a1 a2 i0 i1 i2 i3 i4 i5 x0 x1 x2 x3 x4 x5 y0 y1 y2 y3 y4 y5 r0 r1 r2 r3 rf rl;clear h0 h1 h2 hm Q;obtain⟨x0,x1,x2,x3,x4,x5⟩:=KL o.a;obtain⟨y0,y1,y2,y3,y4,y5⟩:=KL o.b;have r0:=o.R.2 0 AX;have r1:=o.R.2 1 AX;have r2:=o.R.2 2 AX;have r3:=o.R.2 3 AX;simp only[KJ,List.getElem?_cons_zero,List.getElem?_cons_succ,Option.getD_some]at r0 r1 r2 r3;have rf:=o.RF;have rl:=o.R.1;have al:=o.a.1;have bl:=o.b.1;by_cases c3:mb<0
  ·have e3:decide (mb<0)=true:=by simp[c3]
   go_wp2;refine mY (.agg #[Vi 5,.slice none 0 0,Vi 0,Vi 0]) (by simp[results,Tryz.results102,go_sem, *]) ⟨Or.inl ⟨by rw[<-K.out,A8,if_neg (by simp[L.out]),if_neg (by simp[Z.out]),if_pos (Or.inr (by rw[HM.out];exact c3))];decide,by rw[<-K.out,A8,if_neg (by simp[L.out]),if_neg (by simp[Z.out]),if_pos (Or.inr (by rw[HM.out];exact c3))]⟩,?_⟩
   (iterate 4 refine Below.setCell ?_ (show g<=w.heap.size+1+1+1 by omega) _)
   exact o.bel
  have e3:decide (mb<0)=false:=by simp;omega
  cases c4:(V l).s with
  |true=>
   rw[c4]at y1;go_wp2;refine mY (.agg #[Vi 5,.slice none 0 0,Vi 0,Vi 0]) (by simp[results,Tryz.results102,go_sem, *]) ⟨Or.inl ⟨by rw[<-K.out,A8,if_neg (by simp[L.out]),if_neg (by simp[Z.out]),if_pos (Or.inl (by rw[ad.1];exact c4))];decide,by rw[<-K.out,A8,if_neg (by simp[L.out]),if_neg (by simp[Z.out]),if_pos (Or.inl (by rw[ad.1];exact c4))]⟩,?_⟩
   (iterate 4 refine Below.setCell ?_ (show g<=w.heap.size+1+1+1 by omega) _)
   exact o.bel
  |false=>
   rw[c4]at y1;go_wp2;go_meet;exact⟨⟨_,rfl,AB,by rw[ad.1,ad.2];omega,by rw[HM.out,ad.1,c4];simp;omega⟩,B3⟩
 case rest=>
 obtain⟨⟨x,rfl,⟨xl,xh⟩,aF,aG⟩,ap⟩:=hcut;have ao:=hxy aF;have F:=hxy aG;clear aF aG;generalize wc=u3 at *;have o:=hxy (P2.below ap);have G3:=hxy (G2.below ap);clear s0 N a1 a2 i0 i1 i2 i3 i4 i5 x0 x1 x2 x3 x4 x5 y0 y1 y2 y3 y4 y5 r0 r1 r2 r3 rf rl;clear h0 h1 h2 ap P2 G2;have s0:=o.S.2 0 AX;have N:=o.A.2 0 AX;have a1:=o.A.2 1 AX;have a2:=o.A.2 2 AX;simp only[KJ,List.getElem?_cons_zero,List.getElem?_cons_succ,Option.getD_some]at s0 N a1 a2;obtain⟨i0,i1,i2,i3,i4,i5⟩:=Aa o.I;obtain⟨x0,x1,x2,x3,x4,x5⟩:=KL o.a;obtain⟨y0,y1,y2,y3,y4,y5⟩:=KL o.b;have r0:=o.R.2 0 AX;have r1:=o.R.2 1 AX;have r2:=o.R.2 2 AX;have r3:=o.R.2 3 AX;simp only[KJ,List.getElem?_cons_zero,List.getElem?_cons_succ,Option.getD_some]at r0 r1 r2 r3;have rf:=o.RF;have rl:=o.R.1;have h0:=G3.2 0 AX;have h1:=G3.2 1 AX;have h2:=G3.2 2 AX;simp only[KJ,List.getElem?_cons_zero,List.getElem?_cons_succ,Option.getD_some]at h0 h1 h2;by_cases c5:(V j).lo+r<0
 ·have e5:decide ((V j).lo+r<0)=true:=by simp;omega
  go_wp2;refine mY (.agg #[Vi 6,.slice none 0 0,Vi 0,Vi 0]) (by simp[results,Tryz.results102,go_sem, *]) ⟨Or.inl ⟨by rw[<-K.out,A8,if_neg (by simp[L.out]),if_neg (by simp[Z.out]),if_neg F.out,if_pos (Or.inl c5)];decide,by rw[<-K.out,A8,if_neg (by simp[L.out]),if_neg (by simp[Z.out]),if_neg F.out,if_pos (Or.inl c5)]⟩,?_⟩
  (iterate 4 refine Below.setCell ?_ (show g<=w.heap.size+1+1+1 by omega) _)
  exact o.bel
 have e5:decide ((V j).lo+r<0)=false:=by simp;omega
 by_cases c6:(S q).size<x+wd
 ·have e6:decide ((S q).size<x+wd)=true:=by simp;omega
  go_wp2;refine mY (.agg #[Vi 6,.slice none 0 0,Vi 0,Vi 0]) (by simp[results,Tryz.results102,go_sem, *]) ⟨Or.inl ⟨by rw[<-K.out,A8,if_neg (by simp[L.out]),if_neg (by simp[Z.out]),if_neg F.out,if_pos (Or.inr (by rw[af.out,<-ao.out];exact c6))];decide,by rw[<-K.out,A8,if_neg (by simp[L.out]),if_neg (by simp[Z.out]),if_neg F.out,if_pos (Or.inr (by rw[af.out,<-ao.out];exact c6))]⟩,?_⟩
  (iterate 4 refine Below.setCell ?_ (show g<=w.heap.size+1+1+1 by omega) _)
  exact o.bel
 have e6:decide ((S q).size<x+wd)=false:=by simp;omega
 have C6:Hid (¬((V j).lo+r<0∨(S q).size<(V j).hi+r+b.m+Vu n)):=(by rw[af.out,<-ao.out];omega:¬((V j).lo+r<0∨(S q).size<(V j).hi+r+b.m+Vu n))
 clear c5 c6;cases st with
 |true=>
  obtain⟨_,d1,_⟩:=Bh o.G C hd;cases c7:(S q).w with
  |false=>
   rw[c7]at h2;go_wp2;refine mY (.agg #[Vi 7,.slice none 0 0,Vi 0,Vi 0]) (by simp[results,Tryz.results102,go_sem, *]) ⟨Or.inl ⟨by rw[<-K.out,A8,if_neg (by simp[L.out]),if_neg (by simp[Z.out]),if_neg F.out,if_neg C6.out,if_neg (by rw[E.out];decide),if_pos c7];decide,by rw[<-K.out,A8,if_neg (by simp[L.out]),if_neg (by simp[Z.out]),if_neg F.out,if_neg C6.out,if_neg (by rw[E.out];decide),if_pos c7]⟩,?_⟩
   (iterate 4 refine Below.setCell ?_ (show g<=w.heap.size+1+1+1 by omega) _)
   exact o.bel
  |true=>
  rw[c7]at h2;have C7:Hid (¬(S q).w=false):=(by simp[c7]:¬(S q).w=false)
  clear c7;cases c8:(V C).s with
  |false=>
   rw[c8]at d1;go_wp2;refine mY (.agg #[Vi 0,Vs g 8 cg,Vi z,Vi c]) (by simp[results,Tryz.results102,go_sem, *]) ⟨Or.inr ⟨by rw[<-K.out,A8,if_neg (by simp[L.out]),if_neg (by simp[Z.out]),if_neg F.out,if_neg C6.out,if_neg (by rw[E.out];decide),if_neg C7.out,if_neg (by simp[c8])],rfl,?_⟩,?_⟩
   ·rw[show W=V from by rw[<-ah.out,TF,if_pos E.out]]
    iterate 4 refine Ak.other ?_ (show w.heap.size+1+1+1≠g by omega) _
    exact o.G
   ·(iterate 4 refine Below.setCell ?_ (show g<=w.heap.size+1+1+1 by omega) _)
    exact o.bel
  |true=>
  rw[c8]at d1;cases c9:(S q).s with
  |false=>
   rw[c9]at h1;go_wp2;refine mY (.agg #[Vi 8,.slice none 0 0,Vi 0,Vi 0]) (by simp[results,Tryz.results102,go_sem, *]) ⟨Or.inl ⟨by rw[<-K.out,A8,if_neg (by simp[L.out]),if_neg (by simp[Z.out]),if_neg F.out,if_neg C6.out,if_neg (by rw[E.out];decide),if_neg C7.out,if_pos ⟨c8,c9⟩];decide,by rw[<-K.out,A8,if_neg (by simp[L.out]),if_neg (by simp[Z.out]),if_neg F.out,if_neg C6.out,if_neg (by rw[E.out];decide),if_neg C7.out,if_pos ⟨c8,c9⟩]⟩,?_⟩
   (iterate 4 refine Below.setCell ?_ (show g<=w.heap.size+1+1+1 by omega) _)
   exact o.bel
  |true=>
   rw[c9]at h1;go_wp2;refine mY (.agg #[Vi 0,Vs g 8 cg,Vi z,Vi c]) (by simp[results,Tryz.results102,go_sem, *]) ⟨Or.inr ⟨by rw[<-K.out,A8,if_neg (by simp[L.out]),if_neg (by simp[Z.out]),if_neg F.out,if_neg C6.out,if_neg (by rw[E.out];decide),if_neg C7.out,if_neg (by simp[c9])],rfl,?_⟩,?_⟩
   ·rw[show W=V from by rw[<-ah.out,TF,if_pos E.out]]
    iterate 4 refine Ak.other ?_ (show w.heap.size+1+1+1≠g by omega) _
    exact o.G
   ·(iterate 4 refine Below.setCell ?_ (show g<=w.heap.size+1+1+1 by omega) _)
    exact o.bel
 |false=>
 go_upto_region 25 with fail;clear s0 N a1 a2 i0 i1 i2 i3 i4 i5 x0 x1 x2 x3 x4 x5 y0 y1 y2 y3 y4 y5 r0 r1 r2 r3 rf rl;clear h0 h1 h2 e5 e6;have N:∀J,Bw u3 J->J.cell? ⟨w.heap.size+1,0,none⟩=some (Vs g 8 cg):=fun J h=>(o.A.below h).2 0 AX
 have i1:∀J,Bw u3 J->J.cell? ⟨w.heap.size+1+1,1,none⟩=some (Vi (C:Int)):=fun J h=>(o.I.below h).2 1 AX
 have h1:Cb u3 nh 1 (.bool (S q).s):=fun J h=>(G3.below h).2 1 AX
 refine BH (T:=fun J=>Bw u3 J) (s:=8) AV BJ.drew (fun hHeld=>?_);refine NU [0,1,2,3,4,5] ?_;refine Ah (i:=6) rfl AV (fun KK hK=>?_);go_simp;refine(BN (S q).s (-1) _).mono ?_;rintro e aJ⟨rfl,Q⟩;have bx:=(Below.refl u3.heap.size u3).drew.trans Q;clear Q;obtain⟨B,aa⟩:=Au (Al (S q).s (-1));rw[aa];have am:=hxy aa;clear aa;simp only[VV.v];go_wp2_with fail;refine hK.out _ _ bx (fun O=>?_);clear hK KK;refine Cn ?_;refine BR 7 ?_;have X:=hxy (o.below bx);have ai:=hxy (G3.below bx);clear N i1 h1 hHeld O bx o G3;obtain⟨d0,d1,d2,d3,d4,d5⟩:=Bh X.G C hd;have gf:=X.G.free;have gl:=X.G.lt;refine BD rfl AV AV (fun KK hK=>?_);go_simp;refine hK.out _ _ ?_;clear hK KK d0 d1 d2 d3 d4 d5 gf gl;obtain⟨u5,ab⟩:=Au (Ff aJ g (C*6) B);rw[show(((((aJ.setCell (Va g (C*6)) (Vi B.k)).setCell (Va g (C*6+1)) (.bool B.s)).setCell (Va g (C*6+2)) (Vi B.m)).setCell (Va g (C*6+3)) (Vi B.h)).setCell (Va g (C*6+4)) (Vi B.lo)).setCell (Va g (C*6+5)) (Vi B.hi)=u5 from ab];have M:Hid (nQ w u5 bH nH cH bR nR cR g cg z c n (C:Int) (j:Int) (l:Int) r (q:Int) na nb (V j) (V l) (Df V C B)):=by rw[<-ab];exact X.put lg ga gb hd B
 have G5:Hid (Cl u5 nh [Vi (S q).size,.bool (S q).s,.bool (S q).w]):=by rw[<-ab];exact EY ai AB _
 clear ab X ai;by_cases cw:wd=1
 rotate_left
 ·have ew:(wd==1)=false:=by simp[cw]
  have s0:=M.S.2 0 AX;have N:=M.A.2 0 AX;have a1:=M.A.2 1 AX;have a2:=M.A.2 2 AX;simp only[KJ,List.getElem?_cons_zero,List.getElem?_cons_succ,Option.getD_some]at s0 N a1 a2;obtain⟨i0,i1,i2,i3,i4,i5⟩:=Aa M.I;obtain⟨x0,x1,x2,x3,x4,x5⟩:=KL M.a;obtain⟨y0,y1,y2,y3,y4,y5⟩:=KL M.b;have r0:=M.R.2 0 AX;have r1:=M.R.2 1 AX;have r2:=M.R.2 2 AX;have r3:=M.R.2 3 AX;simp only[KJ,List.getElem?_cons_zero,List.getElem?_cons_succ,Option.getD_some]at r0 r1 r2 r3;have rf:=M.RF;have rl:=M.R.1;go_wp2;refine mY (.agg #[Vi 0,Vs g 8 cg,Vi z,Vi c]) (by simp[results,Tryz.results102,go_sem, *]) ⟨Or.inr ⟨by rw[<-K.out,A8,if_neg (by simp[L.out]),if_neg (by simp[Z.out]),if_neg F.out,if_neg C6.out,if_pos E.out],rfl,?_⟩,?_⟩
  ·rw[show W=Df V C B from by rw[<-ah.out,TF,if_neg (by rw[E.out];decide),if_neg (by rw[af.out];exact cw),am.out]]
   iterate 4 refine Ak.other ?_ (show w.heap.size+1+1+1≠g by omega) _
   exact M.G
  ·(iterate 4 refine Below.setCell ?_ (show g<=w.heap.size+1+1+1 by omega) _)
   exact M.bel
 have ew:(wd==1)=true:=by simp[cw]
 go_upto_region 27 with fail;have N:∀J,Bw u5 J->J.cell? ⟨w.heap.size+1,0,none⟩=some (Vs g 8 cg):=fun J h=>(M.A.below h).2 0 AX
 have i1:∀J,Bw u5 J->J.cell? ⟨w.heap.size+1+1,1,none⟩=some (Vi (C:Int)):=fun J h=>(M.I.below h).2 1 AX
 have h1:Cb u5 nh 1 (.bool (S q).s):=fun J h=>(G5.below h).2 1 AX
 refine BH (T:=fun J=>Bw u5 J) (s:=8) AV BJ.drew (fun hHeld=>?_);refine NU [0,1,2,3,4,5] ?_;refine Ah (i:=6) rfl AV (fun KK hK=>?_);go_simp;refine(BN (S q).s 255 _).mono ?_;rintro e aK⟨rfl,Q⟩;have bx:=(Below.refl u5.heap.size u5).drew.trans Q;clear Q;obtain⟨D,aa⟩:=Au (Al (S q).s 255);rw[aa];have an:=hxy aa;clear aa;simp only[VV.v];go_wp2_with fail;refine hK.out _ _ bx (fun O=>?_);clear hK KK;refine Cn ?_;refine BR 7 ?_;have Y:=hxy (M.below bx);have aj:=hxy (G5.below bx);clear N i1 h1 hHeld O bx M G5;obtain⟨d0,d1,d2,d3,d4,d5⟩:=Bh Y.G C hd;have gf:=Y.G.free;have gl:=Y.G.lt;refine BD rfl AV AV (fun KK hK=>?_);go_simp;refine hK.out _ _ ?_;clear hK KK d0 d1 d2 d3 d4 d5 gf gl;obtain⟨u7,ac⟩:=Au (Ff aK g (C*6) D);rw[show(((((aK.setCell (Va g (C*6)) (Vi D.k)).setCell (Va g (C*6+1)) (.bool D.s)).setCell (Va g (C*6+2)) (Vi D.m)).setCell (Va g (C*6+3)) (Vi D.h)).setCell (Va g (C*6+4)) (Vi D.lo)).setCell (Va g (C*6+5)) (Vi D.hi)=u7 from ac];have P7:Hid (nQ w u7 bH nH cH bR nR cR g cg z c n (C:Int) (j:Int) (l:Int) r (q:Int) na nb (V j) (V l) (Df (Df V C B) C D)):=by rw[<-ac];exact Y.put lg ga gb hd D
 have G7:Hid (Cl u7 nh [Vi (S q).size,.bool (S q).s,.bool (S q).w]):=by rw[<-ac];exact EY aj AB _
 clear ac Y aj;have s0:=P7.S.2 0 AX;have N:=P7.A.2 0 AX;have a1:=P7.A.2 1 AX;have a2:=P7.A.2 2 AX;simp only[KJ,List.getElem?_cons_zero,List.getElem?_cons_succ,Option.getD_some]at s0 N a1 a2;obtain⟨i0,i1,i2,i3,i4,i5⟩:=Aa P7.I;obtain⟨x0,x1,x2,x3,x4,x5⟩:=KL P7.a;obtain⟨y0,y1,y2,y3,y4,y5⟩:=KL P7.b;have r0:=P7.R.2 0 AX;have r1:=P7.R.2 1 AX;have r2:=P7.R.2 2 AX;have r3:=P7.R.2 3 AX;simp only[KJ,List.getElem?_cons_zero,List.getElem?_cons_succ,Option.getD_some]at r0 r1 r2 r3;have rf:=P7.RF;have rl:=P7.R.1;go_wp2;refine mY (.agg #[Vi 0,Vs g 8 cg,Vi z,Vi c]) (by simp[results,Tryz.results102,go_sem, *]) ⟨Or.inr ⟨by rw[<-K.out,A8,if_neg (by simp[L.out]),if_neg (by simp[Z.out]),if_neg F.out,if_neg C6.out,if_pos E.out],rfl,?_⟩,?_⟩
 ·rw[show W=Df (Df V C B) C D from by rw[<-ah.out,TF,if_neg (by rw[E.out];decide),if_pos (by rw[af.out];exact cw),an.out,pY]]
  iterate 4 refine Ak.other ?_ (show w.heap.size+1+1+1≠g by omega) _
  exact P7.G
 ·(iterate 4 refine Below.setCell ?_ (show g<=w.heap.size+1+1+1 by omega) _)
  exact P7.bel
end
section
open Go.RowKit
theorem JH(y K o:Nat)(S:Nat->HS)(A L p:Nat)(s:Nat->VV)(x J n:Nat)(V:Nat->VV)(z c k d q r a h:Int)(w:World)(lH:o<=1048576)(lR:p<=1048576)(lA:n<=1048576)(Z:Ck w y o S A p s)(h2:Ak w x (n*6) (vF V))(M:¬(BK o S p s n V z c=true/\BF k d q r a h=true/\k<=28)):
 Ks 64 #[.agg #[Vs y o K,Vs A p L],.agg #[Vs x n J,Vi z,Vi c],.agg #[Vi k,Vi d,Vi q,Vi r,Vi a,Vi h]] w fun e w'=>e=.returned (.agg #[Vi 11,.slice none 0 0,Vi 0,Vi 0])/\Below w.heap.size w w':=by
 have Q:=hxy Z;have N:=hxy h2;have U:=hxy M;go_enter Tryz.func64,Tryz.ntmps64;go_upto_region 1 with fail;obtain⟨u,hu,pu⟩:=Ny w y o K A p L x n J (z:=z) (c:=c) (op:=k) (d:=d) (ra:=q) (rb:=r) (imm:=a) (h:=h);rw[hu];have l:=hxy pu;have E:=Cc l;have B:=Aa l.I;have D:=l.R.1;have C:=l.RF;go_wp2_with fail;refine(GN y K o S A L p s x J n V z c u lH lR lA (Q.below l.bel) (N.below l.bel N.lt)).mono ?_;rintro e u1⟨rfl,m⟩;have b:=hxy (l.below m);cases hok:BK o S p s n V z c with
 |false=>
  have E:=Cc b;have B:=Aa b.I;have D:=b.R.1;have C:=b.RF;go_wp2;refine mY (.agg #[Vi 11,.slice none 0 0,Vi 0,Vi 0]) (by simp[results,Tryz.results64,go_sem, *]) ⟨rfl,?_⟩
  (iterate 4 refine Below.setCell ?_ (show w.heap.size<=w.heap.size+1+1+1 by omega) _)
  exact b.bel
 |true=>
 have F:=hxy hok;have E:=Cc b;have B:=Aa b.I;have D:=b.R.1;have C:=b.RF;go_wp2_with fail;refine(GX k d q r a h _).mono ?_;rintro e u2⟨rfl,m⟩;have j:=hxy (b.below m);cases hik:BF k d q r a h with
 |false=>
  have E:=Cc j;have B:=Aa j.I;have D:=j.R.1;have C:=j.RF;go_wp2;refine mY (.agg #[Vi 11,.slice none 0 0,Vi 0,Vi 0]) (by simp[results,Tryz.results64,go_sem, *]) ⟨rfl,?_⟩
  (iterate 4 refine Below.setCell ?_ (show w.heap.size<=w.heap.size+1+1+1 by omega) _)
  exact j.bel
 |true=>
 have X:28<k:=by have:=U.out;rw[F.out,hik]at this;simp at this;omega
 have Y:decide (k>=29)=true:=by simp;omega
 have O:decide (29<=k)=true:=by simp;omega
 have E:=Cc j;have B:=Aa j.I;have D:=j.R.1;have C:=j.RF;go_wp2;refine mY (.agg #[Vi 11,.slice none 0 0,Vi 0,Vi 0]) (by simp[results,Tryz.results64,go_sem, *]) ⟨rfl,?_⟩
 (iterate 4 refine Below.setCell ?_ (show w.heap.size<=w.heap.size+1+1+1 by omega) _)
 exact j.bel
end
end Go.Proofs.YtcjnmdgomocpgaaGreatDoor
