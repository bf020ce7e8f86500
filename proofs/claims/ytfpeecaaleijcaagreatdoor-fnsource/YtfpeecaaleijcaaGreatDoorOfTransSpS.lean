import Derived.Test.YtfpeecaaleijcaaGreatDoorOfCl
import Derived.Test.YtfpeecaaleijcaaGreatDoorOfTransAcc
import Derived.Test.YtfpeecaaleijcaaGreatDoorOfTransRes
import Derived.Test.YtfpeecaaleijcaaGreatDoorOfTransAbs
import Derived.Test.YtfpeecaaleijcaaGreatDoorOfInsSame
import Derived.Test.YtfpeecaaleijcaaGreatDoorOfValBlock
set_option maxHeartbeats 8000000
set_option maxRecDepth 20000
namespace Go.Proofs.YtfpeecaaleijcaaGreatDoor
open Go.RowKit
variable {c co d h imm op ra rb z zo:Int}{bA cA cg g na nb no:Nat}{V:Nat->VV}{a b:VV}{u w:World}
structure Ky(w u:World)(bA cA g cg:Nat)(z c op d ra rb imm h:Int)(no:Nat)(zo co:Int)(na nb:Nat)(a b:VV)(V:Nat->VV):Prop where
 bel:Below w.heap.size w u
 A:Cl u (w.heap.size+1) [Vs bA 8 cA,Vi z,Vi c]
 I:Cl u (w.heap.size+1+1) [Vi op,Vi d,Vi ra,Vi rb,Vi imm,Vi h]
 R:Cl u (w.heap.size+1+1+1) [Vi 0,.slice none 0 0,Vi 0,Vi 0]
 RF:∀i,u.frozen? ⟨w.heap.size+1+1+1,i,none⟩=false
 O:Cl u no [Vs g 8 cg,Vi zo,Vi co]
 OF:∀i,u.frozen? (Va no i)=false
 a:Cl u na [Vi a.k,.bool a.s,Vi a.m,Vi a.h,Vi a.lo,Vi a.hi]
 b:Cl u nb [Vi b.k,.bool b.s,Vi b.m,Vi b.h,Vi b.lo,Vi b.hi]
 G:A9 u g (8*6) (vF V)
 o1:w.heap.size+1+1+1<g
 o2:g<no
 o3:no<na
 o4:no<nb
theorem Ky.below{v:World}(p:Ky w u bA cA g cg z c op d ra rb imm h no zo co na nb a b V)(hb:Below u.heap.size u v):Ky w v bA cA g cg z c op d ra rb imm h no zo co na nb a b V:=
 ⟨p.bel.trans (hb.mono p.bel.size),p.A.below hb,p.I.below hb,p.R.below hb,fun i=>(hb.frozen (p:=⟨w.heap.size+1+1+1,i,none⟩) p.R.1).trans (p.RF i),p.O.below hb,fun i=>(hb.frozen (p:=Va no i) p.O.1).trans (p.OF i),p.a.below hb,p.b.below hb,p.G.below hb p.G.lt,p.o1,p.o2,p.o3,p.o4⟩
theorem Ky.put(p:Ky w u bA cA g cg z c op d ra rb imm h no zo co na nb a b V){di:Nat}(hd:di<8)(r:VV):Ky w (put6 u g (di*6) r) bA cA g cg z c op d ra rb imm h no zo co na nb a b (Eo V di r):=
 have q1:=p.o1
 have q2:=p.o2
 have q3:=p.o3
 have q4:=p.o4
 ⟨Md p.bel (by omega) r,Dp p.A (by omega) r,Dp p.I (by omega) r,Dp p.R (by omega) r,fun i=>(QM r).trans (p.RF i),Dp p.O (by omega) r,fun i=>(QM r).trans (p.OF i),Dp p.a (by omega) r,Dp p.b (by omega) r,Jp p.G hd r,q1,q2,q3,q4⟩
theorem Ch{c:Nat}{a:Addr}{vs:List Value}{v:Value}(h:Cl w c vs)(hne:a.block≠c):Cl (w.setCell a v) c vs:=
 ⟨by simpa using h.1,fun i hi=>(World.cell?_setCell_far _ _ _ _ hne).trans (h.2 i hi)⟩
theorem Ky.flags{v:World}(p:Ky w u bA cA g cg z c op d ra rb imm h no zo co na nb a b V){f:Int}(hv:v=(u.setCell (Va no 1) (Vi f)).setCell (Va no 2) (Vi f)):Ky w v bA cA g cg z c op d ra rb imm h no f f na nb a b V:=by
 have q1:=p.o1;have q2:=p.o2;have q3:=p.o3;have q4:=p.o4;have c0:=p.O.2 0 (by simp);have c1:=p.O.2 1 (by simp);have c2:=p.O.2 2 (by simp);have ol:=p.O.1;have of:=p.OF;subst hv;refine⟨(p.bel.setCell (p:=Va no 1) (show w.heap.size<=no by omega) _).setCell (p:=Va no 2) (show w.heap.size<=no by omega) _,Ch (Ch p.A (show no≠_ by omega)) (show no≠_ by omega),Ch (Ch p.I (show no≠_ by omega)) (show no≠_ by omega),Ch (Ch p.R (show no≠_ by omega)) (show no≠_ by omega),fun i=>by simpa using p.RF i,⟨by simpa using p.O.1,?_⟩,fun i=>by simpa using p.OF i,Ch (Ch p.a (show no≠_ by omega)) (show no≠_ by omega),Ch (Ch p.b (show no≠_ by omega)) (show no≠_ by omega),(p.G.other (show no≠_ by omega) _).other (show no≠_ by omega) _,q1,q2,q3,q4⟩;simp only[jJ,List.getElem?_cons_zero,List.getElem?_cons_succ,Option.getD_some]at c0 c1 c2;intro i hi;match i,hi with
 |0,_=>simp[go_sem,c0]
 |1,_=>simp[go_sem,c1]
 |2,_=>simp[go_sem,c2]
theorem Ky.aside(p:Ky w u bA cA g cg z c op d ra rb imm h no zo co na nb a b V){nj:Nat}(h1:w.heap.size+1+1+1<nj)(h2:g<nj)(h3:no<nj)(h4:na<nj)(h5:nb<nj)(o:Nat)(v:Value):Ky w (u.setCell (Va nj o) v) bA cA g cg z c op d ra rb imm h no zo co na nb a b V:=
 ⟨p.bel.setCell (p:=Va nj o) (show w.heap.size<=nj by omega) _,Ch p.A (show nj≠_ by omega),Ch p.I (show nj≠_ by omega),Ch p.R (show nj≠_ by omega),fun i=>by simpa using p.RF i,Ch p.O (show nj≠_ by omega),fun i=>by simpa using p.OF i,Ch p.a (show nj≠_ by omega),Ch p.b (show nj≠_ by omega),p.G.other (show nj≠_ by omega) _,p.o1,p.o2,p.o3,p.o4⟩
theorem Ky.asideV(p:Ky w u bA cA g cg z c op d ra rb imm h no zo co na nb a b V){nj:Nat}(h1:w.heap.size+1+1+1<nj)(h2:g<nj)(h3:no<nj)(h4:na<nj)(h5:nb<nj)(x:VV):Ky w (Hr u nj x) bA cA g cg z c op d ra rb imm h no zo co na nb a b V:=by
 unfold Hr;exact(((((p.aside h1 h2 h3 h4 h5 _ _).aside h1 h2 h3 h4 h5 _ _).aside h1 h2 h3 h4 h5 _ _).aside h1 h2 h3 h4 h5 _ _).aside h1 h2 h3 h4 h5 _ _).aside h1 h2 h3 h4 h5 _ _
theorem Nj{q:Nat}{v0 v1 v2:Value}(h:Cl u q [v0,v1,v2]):u.cell? (Va q 0)=some v0/\u.cell? (Va q 1)=some v1/\u.cell? (Va q 2)=some v2:=⟨h.2 0 (by simp),h.2 1 (by simp),h.2 2 (by simp)⟩
theorem Nq{q:Nat}{v0 v1 v2 v3:Value}(h:Cl u q [v0,v1,v2,v3]):u.cell? (Va q 0)=some v0/\u.cell? (Va q 1)=some v1/\u.cell? (Va q 2)=some v2/\u.cell? (Va q 3)=some v3:=⟨h.2 0 (by simp),h.2 1 (by simp),h.2 2 (by simp),h.2 3 (by simp)⟩
end Go.Proofs.YtfpeecaaleijcaaGreatDoor
namespace Go.Proofs.YtfpeecaaleijcaaGreatDoor
open Go.RowKit Go.Deep
variable {c n z:Int}{nH nR:Nat}{S:Nat->HS}{V V0:Nat->VV}{a b v:VV}
def GV(v:VV)(n:Int):Prop:=(v.k=0/\ -1<=v.m/\v.m<=1099511627776/\v.h=0/\v.lo=0/\v.hi=0)∨(v.k=1/\v.s=false/\v.m=0/\0<=v.h/\v.h<n/\ -1099511627776<=v.lo/\v.lo<=v.hi/\v.hi<=1099511627776)
theorem gv:CO v n=true↔GV v n:=by
 unfold CO GV;by_cases h:v.k=0
 ·rw[if_pos h]
  simp only[decide_eq_true_eq];constructor
  ·intro q;exact Or.inl ⟨h,q⟩
  ·rintro(q|q)
   ·exact q.2
   ·omega
 ·rw[if_neg h]
  simp only[decide_eq_true_eq];constructor
  ·intro q;exact Or.inr q
  ·rintro(q|q)
   ·omega
   ·exact q
theorem I8(s:Bool)(m n:Int):GV (Az s m) n:=by
 refine Or.inl ⟨rfl,?_,?_,rfl,rfl,rfl⟩<;>(show _<=_;unfold Az;dsimp only;split<;>omega)
theorem Us(ha:GV a n)(hb:GV b n):GV (Iq a b) n:=by
 unfold Iq;rcases ha with ha|ha<;>rcases hb with hb|hb
 ·rw[if_neg (by omega)];split
  ·exact Or.inl ⟨rfl,by dsimp only;split<;>omega,by dsimp only;split<;>omega,rfl,rfl,rfl⟩
  ·exact Or.inl ⟨rfl,by dsimp only;omega,by dsimp only;omega,rfl,rfl,rfl⟩
 ·rw[if_neg (by omega),if_neg (by omega)];exact Or.inl ⟨rfl,by dsimp only;omega,by dsimp only;omega,rfl,rfl,rfl⟩
 ·rw[if_neg (by omega),if_neg (by omega)];exact Or.inl ⟨rfl,by dsimp only;omega,by dsimp only;omega,rfl,rfl,rfl⟩
 ·split
  ·exact Or.inr ⟨rfl,rfl,rfl,by dsimp only;omega,by dsimp only;omega,by dsimp only;split<;>omega,by dsimp only;split<;>split<;>omega,by dsimp only;split<;>omega⟩
  ·rw[if_neg (by omega)];exact Or.inl ⟨rfl,by dsimp only;omega,by dsimp only;omega,rfl,rfl,rfl⟩
theorem U8{p q:VV}(hp:GV p n):GV (Xw p q) n:=by
 unfold Xw;split
 ·rename_i h
  rcases hp with hp|hp
  ·omega
  ·have:0<=q.m:=by
    have h2:=h.2.1;unfold Ao at h2;by_cases e:q.k=1
    ·rw[if_pos e]at h2;omega
    ·rw[if_neg e]at h2;exact h2
   exact Or.inr ⟨hp.1,hp.2.1,hp.2.2.1,hp.2.2.2.1,hp.2.2.2.2.1,hp.2.2.2.2.2.1,by show p.lo<=p.hi+q.m;omega,h.2.2.2⟩
 ·split<;>exact I8 _ _ _
theorem dS(ha:GV a n)(hb:GV b n):GV (Pp a b) n:=by
 unfold Pp;split
 ·exact U8 hb
 ·exact U8 ha
theorem dJ{op imm:Int}{s:Bool}(ha:GV a n)(hb:GV b n):GV (Cb op imm a b s) n:=by
 unfold Cb;by_cases h1:op=1
 ·rw[if_pos h1];exact ha
 rw[if_neg h1];by_cases h2:op=2
 ·rw[if_pos h2];exact I8 _ _ _
 rw[if_neg h2];by_cases h3:op=3∨op=14
 ·rw[if_pos h3];exact dS ha hb
 rw[if_neg h3];by_cases h10:op=10
 ·rw[if_neg (by omega),if_neg (by omega),if_neg (by omega),if_neg (by omega),if_pos h10]
  split
  ·rename_i h
   rcases ha with q|q
   ·omega
   ·exact Or.inr ⟨q.1,q.2.1,q.2.2.1,q.2.2.2.1,q.2.2.2.2.1,h.2.1,by show a.lo+imm<=a.hi+imm;omega,h.2.2⟩
  ·split<;>exact I8 _ _ _
 ·(repeat' split)<;>first|exact I8 _ _ _|omega
theorem DK{nA:Nat}:BA nH S nR V0 nA V z c=true↔Cu nH S nR V0=true/\nA=8/\(∀i,i<8->GV (V i) nH)/\(0<=z/\z<=2)/\0<=c/\c<=2:=by
 unfold BA Cq JH;simp only[Bool.and_eq_true,decide_eq_true_eq,List.all_eq_true,List.mem_range,gv];constructor
 ·rintro⟨⟨⟨h1,h2,h3⟩,h4⟩,h5⟩
  subst h2;exact⟨h1,rfl,h3,h4,h5⟩
 ·rintro⟨h1,h2,h3,h4,h5⟩
  subst h2;exact⟨⟨⟨h1,rfl,h3⟩,h4⟩,h5⟩
theorem Ut{z' c':Int}{d:Nat}{r:VV}(h:BA nH S nR V0 8 V z c=true)(hr:GV r nH)(hz:0<=z'/\z'<=2)(hc:0<=c'/\c'<=2):BA nH S nR V0 8 (Eo V d r) z' c'=true:=by
 obtain⟨h1,_,h3,_,_⟩:=DK.1 h;refine DK.2 ⟨h1,rfl,fun i hi=>?_,hz,hc⟩;unfold Eo;split
 ·exact hr
 ·exact h3 i hi
def gN(nH:Nat)(S:Nat->HS)(nR:Nat)(V0:Nat->VV)(op:Int)(w:World)(e:Ending)(w':World):Prop:=
 ∃(err:Int)(V':Nat->VV)(z' c':Int),aj w w' e err V' z' c'/\(err=0->BA nH S nR V0 8 V' z' c'=true)/\(op=2∨op=11∨op=18->err=0)/\Below w.heap.size w w'
theorem VS{V':Nat->VV}{z' c':Int}(h:BA nH S nR V0 8 V z c=true)(hr:∀i,i<8->GV (V' i) nH)(hz:0<=z'/\z'<=2)(hc:0<=c'/\c'<=2):BA nH S nR V0 8 V' z' c'=true:=
 DK.2 ⟨(DK.1 h).1,rfl,hr,hz,hc⟩
theorem YS{d:Nat}{r:VV}(h:∀i,i<8->GV (V i) n)(hr:GV r n):∀i,i<8->GV (Eo V d r i) n:=fun i hi=>by
 unfold Eo;split
 ·exact hr
 ·exact h i hi
theorem bP{t:Bool}(h:GV v n)(ht:v.k=1->t=false):GV {v with s:=t} n:=by
 rcases h with h|h
 ·exact Or.inl h
 ·exact Or.inr ⟨h.1,ht h.1,h.2.2⟩
theorem fP(h:GV v n)(k:v.k=1):v.s=false:=by
 rcases h with h|h
 ·omega
 ·exact h.2.1
theorem cZ{w:World}{b:Nat}{y:VV}(h:Vb w b y)(t:Bool):Vb (w.setCell (Va b 1) (.bool t)) b {y with s:=t}:=
 (A9.set1 h 1 (by omega) _).congr (Jj rfl rfl rfl rfl rfl rfl)
theorem eU{op:Int}(o:op<=18)(h:A8 (Af op) 68=true):op<=16:=by
 by_cases o17:op=17
 ·subst o17;exact absurd h (by rw[show A8 (Af 17) 68=false from by kernel_rfl];decide)
 by_cases o18:op=18
 ·subst o18;exact absurd h (by rw[show A8 (Af 18) 68=false from by kernel_rfl];decide)
 omega
end Go.Proofs.YtfpeecaaleijcaaGreatDoor
namespace Go.Proofs.YtfpeecaaleijcaaGreatDoor
open Go.RowKit
theorem Kt(bH cH nH:Nat)(S:Nat->HS)(bR cR nR:Nat)(V0:Nat->VV)(bA cA nA:Nat)(V:Nat->VV)(z c op d ra rb imm h:Int)(w:World)(lH:nH<=1048576)(lR:nR<=1048576)(lA:nA<=1048576)(h1:Bl w bH nH S bR nR V0)(h2:A9 w bA (nA*6) (vF V))(hno:¬(BA nH S nR V0 nA V z c=true/\Ar op d ra rb imm h=true/\op<=28)):
 Calls Tryz.prog 135 #[.agg #[Vs bH nH cH,Vs bR nR cR],.agg #[Vs bA nA cA,Vi z,Vi c],.agg #[Vi op,Vi d,Vi ra,Vi rb,Vi imm,Vi h]] w fun e w'=>e=.returned (.agg #[Vi 11,.slice none 0 0,Vi 0,Vi 0])/\Below w.heap.size w w':=by
 have H1:=hxy h1;have H2:=hxy h2;have HN:=hxy hno;clear h1 h2 hno;go_enter Tryz.func135,Tryz.ntmps135;go_upto_region 1 with fail;obtain⟨u,hu,pu⟩:=MG w bH nH cH bR nR cR bA nA cA (z:=z) (c:=c) (op:=op) (d:=d) (ra:=ra) (rb:=rb) (imm:=imm) (h:=h);rw[hu];have P0:=hxy pu;clear hu pu;obtain⟨⟨s0,s1⟩,⟨a0,a1,a2⟩,r0,r1,r2,r3⟩:=Br P0.out;obtain⟨i0,i1,i2,i3,i4,i5⟩:=AX P0.out.I;have rl:=P0.out.R.1;have rf:=P0.out.RF;go_wp2_with fail;refine(Fa bH cH nH S bR cR nR V0 bA cA nA V z c u lH lR lA (H1.out.below P0.out.bel) (H2.out.below P0.out.bel H2.out.lt)).mono ?_;rintro e u1⟨rfl,hbe⟩;have P1:=hxy (P0.out.below hbe);clear hbe P0;clear s0 s1 a0 a1 a2 r0 r1 r2 r3 i0 i1 i2 i3 i4 i5 rl rf;cases hok:BA nH S nR V0 nA V z c with
 |false=>
  obtain⟨⟨s0,s1⟩,⟨a0,a1,a2⟩,r0,r1,r2,r3⟩:=Br P1.out;obtain⟨i0,i1,i2,i3,i4,i5⟩:=AX P1.out.I;have rl:=P1.out.R.1;have rf:=P1.out.RF;go_wp2;refine bodyPost_ret (v:=.agg #[Vi 11,.slice none 0 0,Vi 0,Vi 0]) (by simp[results,Tryz.results135,go_sem, *]) rfl ⟨rfl,?_⟩
  (iterate 4 refine Below.setCell ?_ (show w.heap.size<=w.heap.size+1+1+1 by omega) _)
  exact P1.out.bel
 |true=>
 have HOK:=hxy hok;clear hok;obtain⟨⟨s0,s1⟩,⟨a0,a1,a2⟩,r0,r1,r2,r3⟩:=Br P1.out;obtain⟨i0,i1,i2,i3,i4,i5⟩:=AX P1.out.I;have rl:=P1.out.R.1;have rf:=P1.out.RF;go_wp2_with fail;refine(En op d ra rb imm h _).mono ?_;rintro e u2⟨rfl,hbe⟩;have P2:=hxy (P1.out.below hbe);clear hbe P1;clear s0 s1 a0 a1 a2 r0 r1 r2 r3 i0 i1 i2 i3 i4 i5 rl rf;cases hik:Ar op d ra rb imm h with
 |false=>
  obtain⟨⟨s0,s1⟩,⟨a0,a1,a2⟩,r0,r1,r2,r3⟩:=Br P2.out;obtain⟨i0,i1,i2,i3,i4,i5⟩:=AX P2.out.I;have rl:=P2.out.R.1;have rf:=P2.out.RF;go_wp2;refine bodyPost_ret (v:=.agg #[Vi 11,.slice none 0 0,Vi 0,Vi 0]) (by simp[results,Tryz.results135,go_sem, *]) rfl ⟨rfl,?_⟩
  (iterate 4 refine Below.setCell ?_ (show w.heap.size<=w.heap.size+1+1+1 by omega) _)
  exact P2.out.bel
 |true=>
 have c28:28<op:=by have:=HN.out;rw[HOK.out,hik]at this;simp at this;omega
 clear hik;have e28:decide (op>=29)=true:=by simp;omega
 have e28':decide (29<=op)=true:=by simp;omega
 obtain⟨⟨s0,s1⟩,⟨a0,a1,a2⟩,r0,r1,r2,r3⟩:=Br P2.out;obtain⟨i0,i1,i2,i3,i4,i5⟩:=AX P2.out.I;have rl:=P2.out.R.1;have rf:=P2.out.RF;go_wp2;refine bodyPost_ret (v:=.agg #[Vi 11,.slice none 0 0,Vi 0,Vi 0]) (by simp[results,Tryz.results135,go_sem, *]) rfl ⟨rfl,?_⟩
 (iterate 4 refine Below.setCell ?_ (show w.heap.size<=w.heap.size+1+1+1 by omega) _)
 exact P2.out.bel
end Go.Proofs.YtfpeecaaleijcaaGreatDoor
