import Derived.Deep.CutBlock
import Derived.Test.YtcjnmdgomocpgaaGreatDoorOfTransAft
set_option maxHeartbeats 40000000
set_option maxRecDepth 20000
namespace Go.Proofs.YtcjnmdgomocpgaaGreatDoor
section
open Go.RowKit
variable {K Z c z:Int}{B:Nat}{V:Nat->VV}{x:VV}{u w:World}
theorem VU{q:Nat}(h:Below B w u)(a:B<=q)(x:VV):Below B w (mP u q x):=by
 unfold mP;exact(((((h.setCell a _).setCell a _).setCell a _).setCell a _).setCell a _).setCell a _
def Gl(V:Nat->VV)(op:Int)(i:Nat):VV:=if Ap op 2 then V i else zV
def Gb(V:Nat->VV)(op:Int)(i:Nat):VV:=if Ap op 4 then V i else zV
def Jw(op z c:Int):Int:=if op=19 then z else if op=15∨op=20 then c else 1
def Gi(V:Nat->VV)(op z c:Int)(ia ib:Nat):Bool:=(Gl V op ia).s||(Gb V op ib).s||decide (Jw op z c=2)
theorem UJ(b:1<=Z)(a:Z<=28):Z=1∨Z=2∨Z=3∨Z=4∨Z=5∨Z=6∨Z=7∨Z=8∨Z=9∨Z=10∨Z=11∨Z=12∨Z=13∨Z=14∨Z=15∨Z=16∨Z=17∨Z=18∨Z=19∨Z=20∨Z=21∨Z=22∨Z=23∨Z=24∨Z=25∨Z=26∨Z=27∨Z=28:=AB
theorem wO(h:Ak u B 50 (fF V z c))(k:Nat)(b:k<8)(e:V k=x):u.cell? (Va B (k*6))=some (Vi x.k)/\u.cell? (Va B (k*6+1))=some (.bool x.s)/\u.cell? (Va B (k*6+2))=some (Vi x.m)/\u.cell? (Va B (k*6+3))=some (Vi x.h)/\u.cell? (Va B (k*6+4))=some (Vi x.lo)/\u.cell? (Va B (k*6+5))=some (Vi x.hi):=by
 subst e;have g:=fun j(a:j<6)=>(h.cell (i:=k*6+j) AB).trans (congrArg some (FY V z c k j b a))
 exact⟨g 0 AB,g 1 AB,g 2 AB,g 3 AB,g 4 AB,g 5 AB⟩
theorem xq(h:Ak u B 50 (fF V z c)):u.cell? (Va B 48)=some (Vi z)/\u.cell? (Va B 49)=some (Vi c):=⟨h.cell (i:=48) AB,h.cell (i:=49) AB⟩
theorem gF.as{d I C m h:Int}{a b a' b':VV}{D:Int}{N:Bool}(p:gF w u V z c Z d I C m h a b K N)(e:a=a')(j:b=b')(k:K=D):gF w u V z c Z d I C m h a' b' D N:=by
 subst e j k;exact p
theorem yX(x y:Bool)(n:Int):x=true∨(x=false/\y=true)∨(x=false/\y=false/\(n==2)=true/\decide (n=2)=true)∨(x=false/\y=false/\(n==2)=false/\decide (n=2)=false):=by
 by_cases h:n=2<;>cases x<;>cases y<;>simp[h]
theorem xZ(h:(if Z=19 then z else if Z=15∨Z=20 then c else 1)=K):(((Z==19)=true/\K=z)∨((Z==19)=false/\(Z==15)=true/\K=c)∨((Z==19)=false/\(Z==15)=false/\(Z==20)=true/\K=c))∨((Z==19)=false/\(Z==15)=false/\(Z==20)=false/\1=K):=by
 by_cases a:Z=19
 ·simp[a]at h⊢
  exact h.symm
 by_cases b:Z=15
 ·simp[b]at h⊢
  exact h.symm
 by_cases d:Z=20<;>simp[a,b,d]at h⊢ <;>simp[h]
theorem KP(V:Nat->VV)(z c:Int)(FA:Array Value)(hF:FA=CX V z c)(o d q h:Int)(r x:Nat)(ha:r<8)(hb:x<8)(w:World):
 Ks 123 #[.agg FA,.agg #[Vi o,Vi d,Vi (r:Int),Vi (x:Int),Vi q,Vi h]] w fun e w'=>e=.returned (.agg (oL (Gl V o r) (Gb V o x) (Jw o z c) (Gi V o z c r x)).toArray)/\Below w.heap.size w w':=by
 obtain⟨a,X⟩:=Au (Gl V o r);obtain⟨b,Y⟩:=Au (Gb V o x);obtain⟨S,hL⟩:=Au (Jw o z c);unfold Gi;rw[X,Y,hL];unfold Gl Ap at X;unfold Gb Ap at Y;unfold Jw at hL;replace hF:=EO hF;replace X:=EO X;replace Y:=EO Y;replace hL:=EO hL;go_enter Tryz.func123,Tryz.ntmps123;go_upto_region 2 with fail;obtain⟨u,hu,pu⟩:=si w V z c FA hF.out (op:=o) (d:=d) (ra:=(r:Int)) (rb:=(x:Int)) (imm:=q) (h:=h);rw[hu];have j:=EO pu;clear hu pu hF;have B:=Aa j.I;obtain⟨C,y,D,E,J,K,L,A,M,N,k,l,m,n⟩:=j.O.cells;have of:=j.O.2.1;have Q:=j.O.1;go_wp2_with fail;refine(Kj o _).mono ?_;rintro e w'⟨rfl,hw⟩;rw[hw];clear hw B of Q C y D E J K L A M N k l m n;go_upto_if 13 with fail;go_cut []from 7(fun U=>gF w U V z c o d (r:Int) (x:Int) q h a zV 1 false)
 case first=>
  by_cases eA:(bits .and .i64 (FE o) 2 !=0)=true
  ·obtain⟨f0,Z,f2,f3,f4,f5⟩:=wO j.F r ha ((if_pos eA).symm.trans X.out)
   have B:=Aa j.I;obtain⟨C,y,D,E,J,K,L,A,M,N,k,l,m,n⟩:=j.O.cells;have of:=j.O.2.1;have Q:=j.O.1;go_wp2;go_meet;exact j.upd (v:=Iy u (w.heap.size+1+1+1) a) (Ag BJ BQ _) (j.O.setA _)
  ·go_wp2
   go_meet;exact j.as ((if_neg eA).symm.trans X.out) rfl rfl
 case rest=>
 clear j;have j:=EO hcut;clear hcut;go_upto_if 22 with fail;go_cut []from 7(fun U=>gF w U V z c o d (r:Int) (x:Int) q h a b 1 false)
 case first=>
  by_cases eB:(bits .and .i64 (FE o) 4 !=0)=true
  ·obtain⟨f0,Z,f2,f3,f4,f5⟩:=wO j.F x hb ((if_pos eB).symm.trans Y.out)
   have B:=Aa j.I;obtain⟨C,y,D,E,J,K,L,A,M,N,k,l,m,n⟩:=j.O.cells;have of:=j.O.2.1;have Q:=j.O.1;go_wp2;go_meet;exact j.upd (v:=mP wc (w.heap.size+1+1+1) b) (VU BJ BQ _) (j.O.setB _)
  ·go_wp2
   go_meet;exact j.as rfl ((if_neg eB).symm.trans Y.out) rfl
 case rest=>
 clear j;have j:=EO hcut;clear hcut;have B:=Aa j.I;obtain⟨C,y,D,E,J,K,L,A,M,N,k,l,m,n⟩:=j.O.cells;have of:=j.O.2.1;have Q:=j.O.1;obtain⟨f0,Z⟩:=xq j.F;go_upto_block 0 with fail;go_cut []from 7(fun U=>gF w U V z c o d (r:Int) (x:Int) q h a b S false)
 case first=>
  rcases xZ hL.out with(⟨e1,e⟩|⟨e1,e2,e⟩|⟨e1,e2,e3,e⟩)|⟨e1,e2,e3,e⟩
  ·rw[<-e]at f0
   clear e;go_wp2;go_meet;exact j.upd (BJ.setCell (p:=⟨w.heap.size+1+1+1,12,none⟩) BQ _) (j.O.setF _)
  ·rw[<-e]at Z
   clear e;go_wp2;go_meet;exact j.upd (BJ.setCell (p:=⟨w.heap.size+1+1+1,12,none⟩) BQ _) (j.O.setF _)
  ·rw[<-e]at Z
   clear e;go_wp2;go_meet;exact j.upd (BJ.setCell (p:=⟨w.heap.size+1+1+1,12,none⟩) BQ _) (j.O.setF _)
  ·replace e:=EO e
   go_wp2;go_meet;exact j.as rfl rfl e.out
 case rest=>
 clear j f0 Z B of Q C y D E J K L A M N k l m n;have j:=EO hcut;clear hcut;have B:=Aa j.I;obtain⟨C,y,D,E,J,K,L,A,M,N,k,l,m,n⟩:=j.O.cells;have of:=j.O.2.1;have Q:=j.O.1;go_upto_region 13 with fail;go_cut []from 7(fun U=>gF w U V z c o d (r:Int) (x:Int) q h a b S (a.s||b.s||decide (S=2)))
 case first=>
  rcases yX a.s b.s S with h1|⟨h1,h2⟩|⟨h1,h2,h3⟩|⟨h1,h2,h3⟩;all_goals(
   rw[h1]at y;try rw[h2]at A
   go_wp2;go_meet;exact j.upd (BJ.setCell (p:=⟨w.heap.size+1+1+1,13,none⟩) BQ _) (by simpa[*]using j.O.setS (a.s||b.s||decide (S=2))))
 case rest=>
 clear j B of Q C y D E J K L A M N k l m n;have P:=EO hcut;clear hcut;have B:=Aa P.I;obtain⟨C,y,D,E,J,K,L,A,M,N,k,l,m,n⟩:=P.O.cells;have of:=P.O.2.1;have Q:=P.O.1;have r0:=P.R.cells;have rf:=P.R.2.1;have rl:=P.R.1;go_wp2;exact mY (.agg (oL a b S (a.s||b.s||decide (S=2))).toArray) (by simp[results,Tryz.results123,go_sem,oL, *]) ⟨rfl,by(iterate 14 refine Below.setCell ?_ (show w.heap.size<=w.heap.size+1+1 by omega) _);exact P.bel⟩
def kS(op imm:Int)(a b:VV)(sec:Bool)(fl:Int)(g:HS):VV:=
 if op=19∨op=20 then KW a b fl else if op=21∨op=25 then Al g.s 255 else if op=22∨op=26 then Al g.s (-1)else CQ op imm a b sec
theorem rU{f:FuncId}{d:Array Value}{y:VV}(h:Ks f d w fun e a=>e=.returned x.v/\Below w.heap.size w a)(e:x=y):Ks f d w fun e a=>e=.returned y.v/\Below w.heap.size w a:=e▸h
theorem UQ(a i:Int)(w:World)(h:0<=i/\i<=63):Ks 159 #[Vi a,Vi i] w fun e b=>e=.returned (Vi (Ow a i.toNat))/\b=w:=by
 have e:=QV a i.toNat w AB;rwa [show((i.toNat:Nat):Int)=i by omega]at e
theorem Rj(a i:Int)(w:World)(h:0<=i/\i<=63):Ks 160 #[Vi a,Vi i] w fun e b=>e=.returned (Vi (Kr a i.toNat))/\b=w:=by
 have e:=SK a i.toNat w AB;rwa [show((i.toNat:Nat):Int)=i by omega]at e
theorem Sg(l d ra rb o:Int)(q:Nat)(a b:VV)(E:Int)(j:Bool)(w:World)(Y:Bd a)(hb:Bd b)(pa:a.k=1->a.s=false)(pb:b.k=1->b.s=false)(C:j=(a.s||b.s||decide (E=2)))(F:l≠19->l≠20->l≠15->E=1)(N:l=10->b.s=false)(bH cH nH:Nat)(S:Nat->HS)(_lH:nH<=1048576)(hq:21<=l->q<nH)(hh:Ak w bH (nH*3) (Ur S))(n0: -1000000<=o)(n1:o<=1000000)(X:l=12∨l=13->0<=o/\o<=63)
 (Q:(1<=l/\l<=16)∨(19<=l/\l<=22)∨l=25∨l=26):
 Ks 127 #[.agg #[Vi l,Vi d,Vi ra,Vi rb,Vi o,Vi (q:Int)],.agg #[Vi a.k,.bool a.s,Vi a.m,Vi a.h,Vi a.lo,Vi a.hi,Vi b.k,.bool b.s,Vi b.m,Vi b.h,Vi b.lo,Vi b.hi,Vi E,.bool j],Vs bH nH cH] w fun e p=>e=.returned (kS l o a b j E (S q)).v/\Below w.heap.size w p:=by
 obtain⟨x,c⟩:=Au (kS l o a b j E (S q));rw[c];replace c:=EO c;replace Y:=EO Y;replace hb:=EO hb;replace F:=EO F;replace N:=EO N;replace hq:=EO hq;replace hh:=EO hh;replace n0:=EO n0;replace n1:=EO n1;replace X:=EO X;replace Q:=EO Q;replace pa:=EO pa;replace pb:=EO pb;replace C:=EO C;go_enter Tryz.func127,Tryz.ntmps127;go_upto_region 1 with fail;obtain⟨u,hu,pu⟩:=tH w (op:=l) (d:=d) (ra:=ra) (rb:=rb) (imm:=o) (h:=(q:Int)) a b E j;rw[hu];have P0:=EO pu;clear hu pu;have t:=fun p(h:Bw u p)=>Gf (P0.O.below h)
 refine wp_region_held_drew (S:=fun p=>Bw u p) AV BJ.drew (fun hHeld=>?_);refine EX [0,1,3,4] ?_;clear t;refine AO 2 rfl (fun z n=>?_);go_simp;refine(Gw a.k a.s a.m a.h a.lo a.hi _).mono ?_;rintro e v1⟨rfl,h⟩;have J:Bw u v1:=BJ.drew.trans h;clear h hHeld;rw[show AZ ⟨a.k,a.s,a.m,a.h,a.lo,a.hi⟩=AZ a from rfl];go_wp2_with fail;refine n.out _ _ J (fun _=>?_);clear n z;try go_frame
 refine AO 5 rfl (fun z n=>?_);go_simp;refine(Gw b.k b.s b.m b.h b.lo b.hi _).mono ?_;rintro e D⟨rfl,h⟩;have U:=J.trans (h.mono J.size);clear h;rw[show AZ ⟨b.k,b.s,b.m,b.h,b.lo,b.hi⟩=AZ b from rfl];go_wp2_with fail;refine n.out _ _ U (fun _=>?_);clear n z;try go_frame
 refine EX [6,7] ?_
 refine wpAnyH_done AV ?_ _
 have B:=EO (P0.below U)
 clear P0 J U
 have Z:=Aa B.I
 have o0:=Gf B.O
 have K:=B.R.cells
 have L:=B.R.free
 have M:=B.R.lt
 rcases(by have:=Q.out;omega:l=1∨(l=2∨l=4∨l=16∨l=9∨l=3∨l=14∨l=10∨l=19∨l=20∨l=21∨l=22∨l=25∨l=26)∨(l=5∨l=6∨l=7∨l=8)∨(l=11∨l=12∨l=13)∨l=15)with rfl|h|h|h|rfl
 ·obtain rfl:a=x:=c.out
  go_wp2
  exact mY (VV.v a) (by simp[results,Tryz.results127,go_sem,VV.v, *]) ⟨rfl,Ag B.bel B.oR _⟩
 ·rcases h with rfl|rfl|rfl|rfl|rfl|rfl|rfl|rfl|rfl|rfl|rfl|rfl|rfl
  all_goals(
   try(have aa:=hq.out Ad;have c0:D.cell? (Va bH (q*3+1))=some (.bool (S q).s):=by rw[(hh.out.below B.bel hh.out.lt).cell AB,Fb S q 1 AB];rfl)
   go_wp2_with fail
   first
    |refine(rU (y:=x) (EK _ _ _) (by exact c.out)).mono ?_
    |refine(rU (y:=x) (ZG a b E j _ Y.out hb.out) (by have e:=F.out Ad Ad Ad;refine Eq.trans ?_ c.out;rw[C.out,e];exact(by simpa[CQ]using fO a b:sj a b (a.s||b.s||decide ((1:Int)=2))=Mg a b))).mono ?_
    |refine(rU (y:=x) (Xx a b E j o _ Y.out n0.out n1.out) (by have e:=F.out Ad Ad Ad;exact(Zn a b j (fun k=>by rw[C.out,pa.out k,N.out AX,e];rfl)).trans c.out)).mono ?_
    |refine(rU (y:=x) (RN a b E j _) (by have e:=Zd a b E pa.out pb.out;rw[<-C.out]at e;exact e.trans c.out)).mono ?_
   rintro e y1⟨rfl,h⟩
   have r:=EO (B.below h)
   clear h
   clear Z o0 K L M
   have Z:=Aa r.I
   have o0:=Gf r.O
   have K:=r.R.cells
   have L:=r.R.free
   have M:=r.R.lt
   simp only[VV.v]
   go_wp2
   exact mY (VV.v x) (by simp[results,Tryz.results127,go_sem,VV.v, *]) ⟨rfl,Ag r.bel r.oR _⟩)
 all_goals(have qa:=Nf Y.out;have qb:=Nf hb.out)
 ·rcases h with rfl|rfl|rfl|rfl
  all_goals(
   go_wp2_with fail
   clear Z o0 K L M
   have t:=fun p(h:Bw D p)=>(Gf (B.O.below h)).2.2.2.2.2.2.2.2.2.2.2.2.2
   have t4:=fun p(h:Bw D p)=>(Aa (B.I.below h)).2.2.2.2.1
   refine BH (T:=fun p=>Bw D p) (s:=6) AV BJ.drew (fun hHeld=>?_)
   refine NU [0,1,2,3] ?_
   clear t t4
   refine Ah (i:=4) rfl AV (fun z n=>?_)
   go_simp
   first
    |refine(OZ _ _ _ qa.1 qa.2 qb.1 qb.2).mono ?_
    |refine(Jr _ _ _).mono ?_
    |refine(U3 _ _ _ qa qb).mono ?_
   rintro e p⟨rfl,h⟩
   rw[h]
   clear h
   go_wp2_with fail
   refine n.out _ _ BJ.drew (fun _=>?_)
   clear n z
   try go_frame
   refine Ah (i:=5) rfl AV (fun z n=>?_)
   go_simp
   refine(rU (y:=x) (EK j _ _) (by first|exact(jY (i:=o) a b j).trans c.out|exact(Zw (i:=o) a b j).trans c.out|exact(Xg (i:=o) a b j 7 Ad).trans c.out|exact(Xg (i:=o) a b j 8 Ad).trans c.out)).mono ?_
   rintro e v3⟨rfl,h⟩
   have A:Bw D v3:=BJ.drew.trans h
   have r:=EO (B.below A)
   simp only[VV.v]
   go_wp2_with fail
   refine n.out _ _ A (fun _=>?_)
   clear n z h A hHeld
   try go_frame
   have K:=r.R.cells
   have L:=r.R.free
   have M:=r.R.lt
   refine BD rfl AV AV (fun z n=>?_)
   go_simp
   refine n.out _ _ ?_
   clear n z
   go_wp2
   exact mY (VV.v x) (by simp[results,Tryz.results127,go_sem,VV.v, *]) ⟨rfl,Ag r.bel r.oR _⟩)
 ·rcases h with rfl|rfl|rfl
  all_goals(
   go_wp2_with fail
   clear Z o0 K L M
   have t:=fun p(h:Bw D p)=>(Gf (B.O.below h)).2.2.2.2.2.2.2.2.2.2.2.2.2
   have t4:=fun p(h:Bw D p)=>(Aa (B.I.below h)).2.2.2.2.1
   refine BH (T:=fun p=>Bw D p) (s:=7) AV BJ.drew (fun hHeld=>?_)
   refine NU [0,1,2,3,4] ?_
   clear t t4
   refine Ah (i:=5) rfl AV (fun z n=>?_)
   go_simp
   first
    |refine(Jr _ _ _).mono ?_
    |refine(UQ _ _ _ (X.out Ad)).mono ?_
    |refine(Rj _ _ _ (X.out Ad)).mono ?_
   rintro e p⟨rfl,h⟩
   rw[h]
   clear h
   go_wp2_with fail
   refine n.out _ _ BJ.drew (fun _=>?_)
   clear n z
   try go_frame
   refine Ah (i:=6) rfl AV (fun z n=>?_)
   go_simp
   refine(rU (y:=x) (EK j _ _) (by first|exact(Yj (i:=o) a b j).trans c.out|exact(jM a b j (X.out Ad).1).trans c.out|exact(Zi a b j (X.out Ad).1 (X.out Ad).2).trans c.out)).mono ?_
   rintro e v3⟨rfl,h⟩
   have A:Bw D v3:=BJ.drew.trans h
   have r:=EO (B.below A)
   simp only[VV.v]
   go_wp2_with fail
   refine n.out _ _ A (fun _=>?_)
   clear n z h A hHeld
   try go_frame
   have K:=r.R.cells
   have L:=r.R.free
   have M:=r.R.lt
   refine BD rfl AV AV (fun z n=>?_)
   go_simp
   refine n.out _ _ ?_
   clear n z
   go_wp2
   exact mY (VV.v x) (by simp[results,Tryz.results127,go_sem,VV.v, *]) ⟨rfl,Ag r.bel r.oR _⟩)
 ·have qc: -1<=Ho (AZ a) (AZ b)/\Ho (AZ a) (AZ b)<=2199023255552:=by unfold Ho;split<;>constructor<;>omega
  go_wp2_with fail
  clear Z o0 K L M
  have t:=fun p(h:Bw D p)=>(Gf (B.O.below h)).2.2.2.2.2.2.2.2.2.2.2.2.2
  have t4:=fun p(h:Bw D p)=>(Aa (B.I.below h)).2.2.2.2.1
  refine BH (T:=fun p=>Bw D p) (s:=7) AV BJ.drew (fun hHeld=>?_)
  refine NU [0,1,2,3] ?_
  clear t t4
  refine Ah (i:=4) rfl AV (fun z n=>?_)
  go_simp
  first
   |refine(Ip _ _ _ qa.1 AB AB qb.2).mono ?_
  rintro e p⟨rfl,h⟩
  rw[h]
  clear h
  go_wp2_with fail
  refine n.out _ _ BJ.drew (fun _=>?_)
  clear n z
  try go_frame
  refine Ah (i:=5) rfl AV (fun z n=>?_)
  go_simp
  first
   |refine(Ip _ 1 _ qc.1 qc.2 AB AB).mono ?_
  rintro e p⟨rfl,h⟩
  rw[h]
  clear h
  go_wp2_with fail
  refine n.out _ _ BJ.drew (fun _=>?_)
  clear n z
  try go_frame
  refine Ah (i:=6) rfl AV (fun z n=>?_)
  go_simp
  refine(rU (y:=x) (EK j _ _) (by first|exact(gJ (i:=o) a b j).trans c.out)).mono ?_
  rintro e v3⟨rfl,h⟩
  have A:Bw D v3:=BJ.drew.trans h
  have r:=EO (B.below A)
  simp only[VV.v]
  go_wp2_with fail
  refine n.out _ _ A (fun _=>?_)
  clear n z h A hHeld
  try go_frame
  have K:=r.R.cells
  have L:=r.R.free
  have M:=r.R.lt
  refine BD rfl AV AV (fun z n=>?_)
  go_simp
  refine n.out _ _ ?_
  clear n z
  go_wp2
  exact mY (VV.v x) (by simp[results,Tryz.results127,go_sem,VV.v, *]) ⟨rfl,Ag r.bel r.oR _⟩
def Ik(op:Int):Bool:=Ap op 1&&!decide (op=23∨op=24∨op=27∨op=28)
def Fj(op:Int):Bool:=decide (14<=op/\op<=18)
theorem kJ{op n:Int}{i:Nat}(g:Cy (V i) n=true):Bd (Gl V op i)/\((Gl V op i).k=1->(Gl V op i).s=false)/\((Gl V op i).k=1->0<=(Gl V op i).h/\(Gl V op i).h<n):=by
 unfold Gl;split
 ·exact⟨Ec g,NH g,Iu g⟩
 ·exact⟨qh,fun _=>rfl,fun h=>absurd h Ad⟩
theorem iw{op n:Int}{i:Nat}(g:Cy (V i) n=true):Bd (Gb V op i)/\((Gb V op i).k=1->(Gb V op i).s=false):=by
 unfold Gb;split
 ·exact⟨Ec g,NH g⟩
 ·exact⟨qh,fun _=>rfl⟩
theorem nE{m h:Int}{a b:VV}{g:HS}(e:A8 Z m h a b x g=0):a.k=1/\a.h=h:=by
 unfold A8 at e;by_cases c:a.k=1
 ·rw[if_neg (by simp[c])]at e
  by_cases d:a.h=h
  ·exact⟨c,d⟩
  ·rw[if_pos d]at e;omega
 ·rw[if_pos c]at e;omega
theorem rJ(b:1<=Z)(a:Z<=28)(h:Ik Z=true):(1<=Z/\Z<=16)∨(19<=Z/\Z<=22)∨Z=25∨Z=26:=by
 rcases UJ b a with rfl|rfl|rfl|rfl|rfl|rfl|rfl|rfl|rfl|rfl|rfl|rfl|rfl|rfl|rfl|rfl|rfl|rfl|rfl|rfl|rfl|rfl|rfl|rfl|rfl|rfl|rfl|rfl;all_goals first|omega|(exfalso;revert h;decide)
theorem pQ{N:Bool}{r:Int}(a:21<=Z)(b:Z<=28)(h:FL Z K N r=0):r=0:=by
 unfold FL at h;by_cases c:K=0
 ·rw[if_pos c]at h;omega
 ·rw[if_neg c,if_neg AB,if_pos ⟨a,b⟩]at h;exact h
theorem Xv(V:Nat->VV)(z c:Int)(o:Array Value)(hF:o=CX V z c)(a b:Int)(j d h q:Nat)(K:j<8)(I:d<8)(J:h<8)(U:1<=a)(s:a<=28)(M: -1000000<=b)(N:b<=1000000)(R:a=12∨a=13->0<=b/\b<=63)(p u m:Nat)(S:Nat->HS)(L:m<=1048576)(G:∀i,i<8->Cy (V i) m=true)(w:World)(x:Ak w p (m*3) (Ur S)):
 Ks 92 #[.agg o,.agg #[Vi a,Vi (j:Int),Vi (d:Int),Vi (h:Int),Vi b,Vi (q:Int)],Vs p m u] w fun e n=>e=.returned (NR V z c j (kS a b (Gl V a d) (Gb V a h) (Gi V a z c d h) (Jw a z c) (S q)) (FL a (Jw a z c) (Gi V a z c d h) (A8 a b (q:Int) (Gl V a d) (Gb V a h) (V j) (S q))) (Ik a) (Fj a) (Gi V a z c d h))/\Below w.heap.size w n:=by
 obtain⟨D,X,F⟩:=kJ (op:=a) (G d I);obtain⟨E,Y⟩:=iw (op:=a) (G h J);refine YG V z c o hF a (d:Int) (h:Int) b (q:Int) j K (Gl V a d) (Gb V a h) (Jw a z c) (Gi V a z c d h) (Vs p m u) _ _ (Ik a) (Fj a) w ?_ ?_ ?_ rfl rfl
 ·intro n _
  exact KP V z c o hF a (j:Int) b (q:Int) d h I J n
 ·intro n l
  refine Uj V z c o hF a (j:Int) (d:Int) (h:Int) b (q:Int) _ _ _ _ _ _ n (fun _ _ C r=>?_);have B:=l.trans (r.mono l.size);exact VT V z c o hF a (d:Int) (h:Int) b j q K _ _ _ _ p u m S C L (fun k e=>by have:=F k;omega) (x.below B x.lt) D E M N
 ·intro O Q n l
  refine Sg a (j:Int) (d:Int) (h:Int) b q _ _ _ _ n D E X Y rfl (fun y Z h3=>?_) (fun y=>?_) p u m S L (fun A=>?_) (x.below l x.lt) M N R (rJ U s Q)
  ·unfold Jw;rw[if_neg y,if_neg AB]
  ·subst y;rfl
  ·have e:=nE (pQ A s O)
   have:=F e.1;omega
end
section
open Go.RowKit Go.Deep
variable {C Z c d h m z:Int}{J N o:Nat}
def Wx(w w':World)(e:Ending)(err:Int)(V:Nat->VV)(z c:Int):Prop:=
 (err≠0/\e=.returned (.agg #[Vi err,.slice none 0 0,Vi 0,Vi 0]))∨(err=0/\∃g cg,w.heap.size<=g/\e=.returned (.agg #[Vi 0,Vs g 8 cg,Vi z,Vi c])/\Ak w' g (8*6) (vF V))
def TN(nH:Nat)(S:Nat->HS)(nR:Nat)(V0:Nat->VV)(nA:Nat)(V:Nat->VV)(z c op d ra rb imm h:Int):Int:=
 if BK nH S nR V0 nA V z c=true/\BF op d ra rb imm h=true/\op<=28 then FL op (Jw op z c) (Gi V op z c ra.toNat rb.toNat) (A8 op imm h (Gl V op ra.toNat) (Gb V op rb.toNat) (V d.toNat) (S h.toNat))else 11
def Pj(S:Nat->HS)(V:Nat->VV)(z c op d ra rb imm h:Int):Nat->VV:=
 if Ik op then Df V d.toNat (kS op imm (Gl V op ra.toNat) (Gb V op rb.toNat) (Gi V op z c ra.toNat rb.toNat) (Jw op z c) (S h.toNat))else V
def Mc(V:Nat->VV)(z c op ra rb x:Int):Int:=if Fj op then(if Gi V op z c ra.toNat rb.toNat then 2 else 1)else x
structure wP(w u:World)(bH nH cH bR nR cR bA nA cA:Nat)(z c op d ra rb imm h:Int):Prop where
 bel:Below w.heap.size w u
 S:Cl u w.heap.size [Vs bH nH cH,Vs bR nR cR]
 A:Cl u (w.heap.size+1) [Vs bA nA cA,Vi z,Vi c]
 I:Cl u (w.heap.size+1+1) [Vi op,Vi d,Vi ra,Vi rb,Vi imm,Vi h]
 R:Cl u (w.heap.size+1+1+1) [Vi 0,.slice none 0 0,Vi 0,Vi 0]
 RF:∀i,u.frozen? ⟨w.heap.size+1+1+1,i,none⟩=false
theorem wP.below{w u v:World}{bH M D O K F:Nat}{ra:Int}(p:wP w u bH o M D J O K N F z c Z d ra C m h)(a:Below u.heap.size u v):wP w v bH o M D J O K N F z c Z d ra C m h:=
 ⟨p.bel.trans (a.mono p.bel.size),p.S.below a,p.A.below a,p.I.below a,p.R.below a,fun i=>(a.frozen (p:=⟨w.heap.size+1+1+1,i,none⟩) p.R.1).trans (p.RF i)⟩
theorem Ny(w:World)(e o l j p m b n k:Nat){op ra rb imm:Int}:∃u,(((w.alloc (.cells #[Vs e o l,Vs j p m] 26)).alloc (.cells #[Vs b n k,Vi z,Vi c] 31)).alloc (.cells #[Vi op,Vi d,Vi ra,Vi rb,Vi imm,Vi h] 99)).alloc (.cells #[Vi 0,.slice none 0 0,Vi 0,Vi 0] 147)=u/\wP w u e o l j p m b n k z c op d ra rb imm h:=by
 have M:=Cl.new (w:=w) (vs:=#[Vs e o l,Vs j p m]) (t:=26);generalize D:w.alloc (.cells #[Vs e o l,Vs j p m] 26)=x at *;have I:x.heap.size=w.heap.size+1:=by rw[<-D];simp
 have K:Bw w x:=by rw[<-D];exact Ai
 have N:=Cl.new (w:=x) (vs:=#[Vs b n k,Vi z,Vi c]) (t:=31);generalize E:x.alloc (.cells #[Vs b n k,Vi z,Vi c] 31)=y at *;have J:y.heap.size=w.heap.size+1+1:=by rw[<-E];simp[I]
 have r:Bw x y:=by rw[<-E];exact Ai
 have A:=Cl.new (w:=y) (vs:=#[Vi op,Vi d,Vi ra,Vi rb,Vi imm,Vi h]) (t:=99);generalize F:y.alloc (.cells #[Vi op,Vi d,Vi ra,Vi rb,Vi imm,Vi h] 99)=v at *;have O:v.heap.size=w.heap.size+1+1+1:=by rw[<-F];simp[J]
 have q:Bw y v:=by rw[<-F];exact Ai
 have B:=Cl.new (w:=v) (vs:=#[Vi 0,.slice none 0 0,Vi 0,Vi 0]) (t:=147);have C:∀i,(v.alloc (.cells #[Vi 0,.slice none 0 0,Vi 0,Vi 0] 147)).frozen? ⟨v.heap.size,i,none⟩=false:=fun i=>by simp[go_sem]
 have a:Bw v (v.alloc (.cells #[Vi 0,.slice none 0 0,Vi 0,Vi 0] 147)):=Ai;have L:=(M.below r).below q;have s:=N.below q;rw[I]at s;rw[J]at A;rw[O]at B C;exact⟨_,rfl,((K.trans (r.mono AB)).trans (q.mono AB)).trans (a.mono AB),L.below a,s.below a,A.below a,B,C⟩
theorem Cc{w u:World}{bH M D O K F:Nat}{I:Int}(p:wP w u bH o M D J O K N F z c Z d I C m h):(u.cell? ⟨w.heap.size,0,none⟩=some (Vs bH o M)/\u.cell? ⟨w.heap.size,1,none⟩=some (Vs D J O))/\(u.cell? ⟨w.heap.size+1,0,none⟩=some (Vs K N F)/\u.cell? ⟨w.heap.size+1,1,none⟩=some (Vi z)/\u.cell? ⟨w.heap.size+1,2,none⟩=some (Vi c))/\(u.cell? ⟨w.heap.size+1+1+1,0,none⟩=some (Vi 0)/\u.cell? ⟨w.heap.size+1+1+1,1,none⟩=some (.slice none 0 0)/\u.cell? ⟨w.heap.size+1+1+1,2,none⟩=some (Vi 0)/\u.cell? ⟨w.heap.size+1+1+1,3,none⟩=some (Vi 0)):=
 ⟨⟨p.S.2 0 AX,p.S.2 1 AX⟩,⟨p.A.2 0 AX,p.A.2 1 AX,p.A.2 2 AX⟩,p.R.2 0 AX,p.R.2 1 AX,p.R.2 2 AX,p.R.2 3 AX⟩
theorem Y4(V:Nat->VV)(z c:Int)(j:Nat)(R:VV)(r:Int)(wr b a:Bool):∃W k d,NR V z c j R r wr b a=.tuple #[.agg (CX W k d),Vi r]/\(r=0->W=(if wr then Df V j R else V)/\k=(if b then(if a then 2 else 1)else z)/\d=(if b then(if a then 2 else 1)else c)):=by
 unfold NR;by_cases h:r=0
 ·rw[if_neg (by simp[h]),h]
  exact⟨_,_,_,rfl,fun _=>⟨rfl,rfl,rfl⟩⟩
 ·rw[if_pos h]
  exact⟨_,_,_,rfl,fun e=>absurd e h⟩
theorem Gx{I:Int}(e:BF Z d I C m h=true)(o:Z<=28):1<=Z/\0<=d/\d<=7/\0<=I/\I<=7/\0<=C/\C<=7/\0<=h/\h<=7/\ -1000000<=m/\m<=1000000/\(Z=12∨Z=13->0<=m/\m<=63):=by
 unfold BF at e;have f:∀(u:Bool)(v b a:Int),Dc u v b a=true->(b<=v/\v<=a)∨v=0:=fun u v b a h=>by
  unfold Dc EM at h;cases u<;>simp at h<;>omega
 simp only[Bool.and_eq_true]at e;obtain⟨⟨⟨⟨⟨c,j⟩,k⟩,l⟩,n⟩,p⟩:=e;have q:1<=Z:=by unfold EM at c;simp at c;omega
 have s: -1000000<=DF Z/\DL Z<=1000000:=by unfold DF DL;(repeat' split)<;>omega
 have r:Z=12∨Z=13->DF Z=0/\DL Z=63:=fun h=>by unfold DF DL;rw[if_pos AB,if_pos h];exact⟨rfl,rfl⟩
 have:=f _ _ _ _ j;have:=f _ _ _ _ k;have:=f _ _ _ _ l;have:=f _ _ _ _ n;have:=f _ _ _ _ p;refine⟨q,AB,AB,AB,AB,AB,AB,AB,AB,AB,AB,fun h=>?_⟩;have:=r h;omega
theorem FR{S:Nat->HS}{O V:Nat->VV}(h:BK o S J O N V z c=true):N=8/\o<=8/\∀i,i<8->Cy (V i) o=true:=by
 unfold BK at h;simp only[Bool.and_eq_true]at h;obtain⟨⟨⟨e,a⟩,_⟩,_⟩:=h;have b:=NY e;unfold Dq at a;rw[Bool.and_eq_true]at a;have d:=of_decide_eq_true a.1;refine⟨d,b,fun i j=>?_⟩;have:=List.all_eq_true.1 a.2 i (List.mem_range.2 AB);exact this
end
section
open Go.RowKit
variable {b g o:Nat}{V:Nat->VV}{a:VV}{u w:World}
def vG(w':World)(g cg:Nat)(e:Ending)(err:Int)(V:Nat->VV)(z c:Int):Prop:=
 (err≠0/\e=.returned (.agg #[Vi err,.slice none 0 0,Vi 0,Vi 0]))∨(err=0/\e=.returned (.agg #[Vi 0,Vs g 8 cg,Vi z,Vi c])/\Ak w' g (8*6) (vF V))
def Ff(w:World)(b o:Nat)(r:VV):World:=(((((w.setCell (Va b o) (Vi r.k)).setCell (Va b (o+1)) (.bool r.s)).setCell (Va b (o+2)) (Vi r.m)).setCell (Va b (o+3)) (Vi r.h)).setCell (Va b (o+4)) (Vi r.lo)).setCell (Va b (o+5)) (Vi r.hi)
theorem OM(h:Ak w b (8*6) (vF V)){d:Nat}(k:d<8)(r:VV):Ak (Ff w b (d*6) r) b (8*6) (vF (Df V d r)):=by
 refine(Ak.set1 (Ak.set1 (Ak.set1 (Ak.set1 (Ak.set1 (Ak.set1 h (d*6) AB _) (d*6+1) AB _) (d*6+2) AB _) (d*6+3) AB _) (d*6+4) AB _) (d*6+5) AB _).congr (fun i l=>?_);have m:=Nat.div_add_mod i 6;have c:i%6<6:=Nat.mod_lt _ Ad;simp only[vF,Df];generalize i/6=j at *;generalize i%6=e at *;by_cases a:j=d
 ·subst a
  rw[if_pos rfl];match e,c with
  |0,_=>rw[if_neg AB,if_neg AB,if_neg AB,if_neg AB,if_neg AB,if_pos AB];rfl
  |1,_=>rw[if_neg AB,if_neg AB,if_neg AB,if_neg AB,if_pos AB];rfl
  |2,_=>rw[if_neg AB,if_neg AB,if_neg AB,if_pos AB];rfl
  |3,_=>rw[if_neg AB,if_neg AB,if_pos AB];rfl
  |4,_=>rw[if_neg AB,if_pos AB];rfl
  |5,_=>rw[if_pos AB];rfl
 ·rw[if_neg a]
  iterate 6 rw[if_neg AB]
theorem PY{B:Nat}{C:World}(h:Below B C w)(a:B<=b)(r:VV):Below B C (Ff w b o r):=by
 unfold Ff;exact(((((h.setCell a _).setCell a _).setCell a _).setCell a _).setCell a _).setCell a _
theorem EY{c:Nat}{N:List Value}(h:Cl w c N)(a:b≠c)(r:VV):Cl (Ff w b o r) c N:=
 ⟨by unfold Ff;simpa using h.1,fun i d=>by unfold Ff;(iterate 6 refine(World.cell?_setCell_far _ _ _ _ a).trans ?_);exact h.2 i d⟩
theorem RI{a:Addr}(r:VV):(Ff w b o r).frozen? a=w.frozen? a:=by unfold Ff;simp
structure nQ(w u:World)(bH nH cH bR nR cR g cg:Nat)(z c op d ra rb imm h:Int)(na nb:Nat)(a b:VV)(V:Nat->VV):Prop where
 bel:Below g w u
 S:Cl u w.heap.size [Vs bH nH cH,Vs bR nR cR]
 A:Cl u (w.heap.size+1) [Vs g 8 cg,Vi z,Vi c]
 I:Cl u (w.heap.size+1+1) [Vi op,Vi d,Vi ra,Vi rb,Vi imm,Vi h]
 R:Cl u (w.heap.size+1+1+1) [Vi 0,.slice none 0 0,Vi 0,Vi 0]
 RF:∀i,u.frozen? ⟨w.heap.size+1+1+1,i,none⟩=false
 a:Cl u na [Vi a.k,.bool a.s,Vi a.m,Vi a.h,Vi a.lo,Vi a.hi]
 b:Cl u nb [Vi b.k,.bool b.s,Vi b.m,Vi b.h,Vi b.lo,Vi b.hi]
 G:Ak u g (8*6) (vF V)
theorem nQ.below{v:World}{bH M D J O L:Nat}{z c Z d ra C m h:Int}{F nb:Nat}{b:VV}(p:nQ w u bH o M D J O g L z c Z d ra C m h F nb a b V)(e:Below u.heap.size u v):nQ w v bH o M D J O g L z c Z d ra C m h F nb a b V:=
 ⟨p.bel.trans (e.mono (Nat.le_of_lt p.G.lt)),p.S.below e,p.A.below e,p.I.below e,p.R.below e,fun i=>(e.frozen (p:=⟨w.heap.size+1+1+1,i,none⟩) p.R.1).trans (p.RF i),p.a.below e,p.b.below e,p.G.below e p.G.lt⟩
theorem nQ.put{bH M D nR O L:Nat}{z c Z d ra C m h:Int}{F J:Nat}{b:VV}(p:nQ w u bH o M D nR O g L z c Z d ra C m h F J a b V)(l:g<w.heap.size)(j:w.heap.size<=F)(k:w.heap.size<=J){B:Nat}(e:B<8)(r:VV):nQ w (Ff u g (B*6) r) bH o M D nR O g L z c Z d ra C m h F J a b (Df V B r):=
 ⟨PY p.bel BQ r,EY p.S AB r,EY p.A AB r,EY p.I AB r,EY p.R AB r,fun i=>(RI r).trans (p.RF i),EY p.a AB r,EY p.b AB r,OM p.G e r⟩
theorem KL{q:Nat}(h:Cl u q [Vi a.k,.bool a.s,Vi a.m,Vi a.h,Vi a.lo,Vi a.hi]):u.cell? (Va q 0)=some (Vi a.k)/\u.cell? (Va q 1)=some (.bool a.s)/\u.cell? (Va q 2)=some (Vi a.m)/\u.cell? (Va q 3)=some (Vi a.h)/\u.cell? (Va q 4)=some (Vi a.lo)/\u.cell? (Va q 5)=some (Vi a.hi):=
 ⟨h.2 0 AX,h.2 1 AX,h.2 2 AX,h.2 3 AX,h.2 4 AX,h.2 5 AX⟩
theorem Bh(h:Ak u g (8*6) (vF V))(i:Nat)(a:i<8):u.cell? (Va g (i*6))=some (Vi (V i).k)/\u.cell? (Va g (i*6+1))=some (.bool (V i).s)/\u.cell? (Va g (i*6+2))=some (Vi (V i).m)/\u.cell? (Va g (i*6+3))=some (Vi (V i).h)/\u.cell? (Va g (i*6+4))=some (Vi (V i).lo)/\u.cell? (Va g (i*6+5))=some (Vi (V i).hi):=
 ⟨(h.cell (i:=i*6+0) AB).trans (congrArg some (Bz V i 0 AB)),(h.cell (i:=i*6+1) AB).trans (congrArg some (Bz V i 1 AB)),(h.cell (i:=i*6+2) AB).trans (congrArg some (Bz V i 2 AB)),(h.cell (i:=i*6+3) AB).trans (congrArg some (Bz V i 3 AB)),(h.cell (i:=i*6+4) AB).trans (congrArg some (Bz V i 4 AB)),(h.cell (i:=i*6+5) AB).trans (congrArg some (Bz V i 5 AB))⟩
theorem Sw{A:Nat}{S:Nat->HS}(h:Ak u A (o*3) (Ur S)){q:Nat}(a:q<o):u.cell? (Va A (q*3))=some (Vi (S q).size)/\u.cell? (Va A (q*3+1))=some (.bool (S q).s)/\u.cell? (Va A (q*3+2))=some (.bool (S q).w):=
 ⟨(h.cell (i:=q*3+0) AB).trans (congrArg some (Fb S q 0 AB)),(h.cell (i:=q*3+1) AB).trans (congrArg some (Fb S q 1 AB)),(h.cell (i:=q*3+2) AB).trans (congrArg some (Fb S q 2 AB))⟩
end
end Go.Proofs.YtcjnmdgomocpgaaGreatDoor
