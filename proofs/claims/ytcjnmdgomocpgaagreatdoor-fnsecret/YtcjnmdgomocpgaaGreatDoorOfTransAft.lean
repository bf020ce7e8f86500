import Derived.Test.YtcjnmdgomocpgaaGreatDoorOfTransSame
set_option maxHeartbeats 8000000
set_option maxRecDepth 20000
namespace Go.Proofs.YtcjnmdgomocpgaaGreatDoor
open Go.RowKit
variable {a:Act}{R:Array Oper}{Q:Exit->Act->World->Prop}{C c d h imm m ra z:Int}{k:List Oper}{b n:Nat}{V:Nat->VV}{f:Nat->Value}{Z:Oper}{P:Program}{u v w:World}
theorem JB:(Tryz.prog.info? 76).map (·.size)=some 50:=AV
theorem WA(h:Ak u b 50 (fF V z c)):(Instr.loadAt 76 (Vq b)).run Tryz.prog u=.ok (.agg (CX V z c)) u:=
 run_loadAt_mid u b 0 _ (first 50 (fF V z c)) _ (fun j v d=>by obtain⟨a,rfl⟩:=Ca d;rw[Nat.zero_add];exact h.cell a) Tryz.underlying76 rfl (by rw[Aw];exact JB)
theorem Dx(c:TypeId)(x:Operand)(e:Z.op=.load c x)(b o:Nat)(h:a.eval x=.pointer (some ⟨b,o,none⟩)){v:Value}(d:(Instr.loadAt c (.pointer (some ⟨b,o,none⟩))).run P w=.ok v w):(execOp a.eval Z).run P w=.ok (.value v) w:=by
 unfold execOp;simp only[e,h,Sem.run_bind,d,Result.andThen_ok,Sem.run_pure]
theorem Bn(d:Z.guard=none)(x:Operand)(n:Z.op=.load 76 x)(b:Nat)(p:a.eval x=Vq b)(V:Nat->VV)(z c:Int)(e:Array Value)(hF:e=CX V z c)(l:Ak w b 50 (fF V z c))
 (h:wpList Tryz.prog R Q k (a.put Z.dst (.agg e)) w):wpList Tryz.prog R Q (Z::k) a w:=by
 subst hF;exact wpList_load_mid d 76 x n b 0 p (first 50 (fF V z c)) _ (fun j v o=>by obtain⟨m,rfl⟩:=Ca o;rw[Nat.zero_add];exact l.cell m) Tryz.underlying76 rfl (by rw[Aw];exact JB) h
def Vu(op:Int):Int:=if op=21∨op=23∨op=25∨op=27 then 1 else 8
theorem uE(a:Int):1<=Vu a/\Vu a<=8:=by unfold Vu;split<;>omega
def oN(op:Int):Bool:=decide (op=23∨op=24∨op=27∨op=28)
def A8(op imm h:Int)(a b x:VV)(g:HS):Int:=
 if a.k≠1 then 3 else if a.h≠h then 4 else if b.s=true∨AZ b<0 then 5
 else if a.lo+imm<0∨g.size<a.hi+imm+b.m+Vu op then 6
 else if oN op=false then 0 else if g.w=false then 7 else if x.s=true/\g.s=false then 8 else 0
structure xP(w u:World)(V:Nat->VV)(z c op d ra rb imm h:Int)(a b:VV)(fl:Int)(sec:Bool):Prop where
 bel:Below w.heap.size w u
 F:Ak u w.heap.size 50 (fF V z c)
 I:Cl u (w.heap.size+1) [Vi op,Vi d,Vi ra,Vi rb,Vi imm,Vi h]
 O:Cl u (w.heap.size+1+1) [Vi a.k,.bool a.s,Vi a.m,Vi a.h,Vi a.lo,Vi a.hi,Vi b.k,.bool b.s,Vi b.m,Vi b.h,Vi b.lo,Vi b.hi,Vi fl,.bool sec]
theorem xP.below{Z:Int}{a b:VV}{K:Int}{N:Bool}(p:xP w u V z c Z d ra C m h a b K N)(e:Below u.heap.size u v):xP w v V z c Z d ra C m h a b K N:=
 ⟨p.bel.trans (e.mono p.bel.size),p.F.below e p.F.lt,p.I.below e,p.O.below e⟩
theorem iq(w:World)(V:Nat->VV)(z c:Int)(q:Array Value)(hF:q=CX V z c){op rb:Int}(a b:VV)(l:Int)(e:Bool):∃u,((w.alloc (.cells q 76)).alloc (.cells #[Vi op,Vi d,Vi ra,Vi rb,Vi imm,Vi h] 99)).alloc (.cells #[Vi a.k,.bool a.s,Vi a.m,Vi a.h,Vi a.lo,Vi a.hi,Vi b.k,.bool b.s,Vi b.m,Vi b.h,Vi b.lo,Vi b.hi,Vi l,.bool e] 222)=u/\xP w u V z c op d ra rb imm h a b l e:=by
 subst hF;have r:=Ak.newFirst w 50 (fF V z c) 76;generalize n:w.alloc (.cells (CX V z c) 76)=x;have C:x.heap.size=w.heap.size+1:=by rw[<-n];simp
 rw[show w.alloc (.cells (first 50 (fF V z c)).toArray 76)=x from n]at r;have E:Below w.heap.size w x:=by rw[<-n];exact Ai
 clear n;have A:=Cl.new (w:=x) (vs:=#[Vi op,Vi d,Vi ra,Vi rb,Vi imm,Vi h]) (t:=99);generalize p:x.alloc (.cells #[Vi op,Vi d,Vi ra,Vi rb,Vi imm,Vi h] 99)=y at *;have D:y.heap.size=w.heap.size+1+1:=by rw[<-p];simp[C]
 have o:Below x.heap.size x y:=by rw[<-p];exact Ai
 clear p;have B:=Cl.new (w:=y) (vs:=#[Vi a.k,.bool a.s,Vi a.m,Vi a.h,Vi a.lo,Vi a.hi,Vi b.k,.bool b.s,Vi b.m,Vi b.h,Vi b.lo,Vi b.hi,Vi l,.bool e]) (t:=222);have j:Below y.heap.size y (y.alloc (.cells #[Vi a.k,.bool a.s,Vi a.m,Vi a.h,Vi a.lo,Vi a.hi,Vi b.k,.bool b.s,Vi b.m,Vi b.h,Vi b.lo,Vi b.hi,Vi l,.bool e] 222)):=Ai;rw[C]at A o;rw[D]at B j;exact⟨_,rfl,(E.trans (o.mono (by omega))).trans (j.mono (by omega)),(r.below o (by omega)).below j (by omega),A.below (by rw[D];exact j),B⟩
theorem VT(V:Nat->VV)(z c:Int)(FA:Array Value)(hF:FA=CX V z c)(j ra rb n:Int)(A q:Nat)(hd:A<8)(a b:VV)(fl:Int)(ao:Bool)(bH cH nH:Nat)(S:Nat->HS)(w:World)(_lH:nH<=1048576)(am:a.k=1->a.h=(q:Int)->q<nH)(hh:Ak w bH (nH*3) (Ur S))(ha:Bd a)(hb:Bd b)(n0: -1000000<=n)(n1:n<=1000000):
 Ks 151 #[.agg FA,.agg #[Vi j,Vi (A:Int),Vi ra,Vi rb,Vi n,Vi (q:Int)],.agg #[Vi a.k,.bool a.s,Vi a.m,Vi a.h,Vi a.lo,Vi a.hi,Vi b.k,.bool b.s,Vi b.m,Vi b.h,Vi b.lo,Vi b.hi,Vi fl,.bool ao],Vs bH nH cH] w fun e l=>e=.returned (Vi (A8 j n (q:Int) a b (V A) (S q)))/\Below w.heap.size w l:=by
 obtain⟨az,r⟩:=Au (A8 j n (q:Int) a b (V A) (S q));rw[r];have p:=hxy r;have L:=hxy hh;have ax:=ha.l0;have ay:=ha.l1;have au:=ha.h0;have av:=ha.h1;have ap:=hb.m0;have ar:=hb.m1;have HF:=hxy hF;have af:=hxy am;clear r hh ha hb hF am;go_enter Tryz.func151,Tryz.ntmps151;go_upto_region 1 with fail;obtain⟨u,hu,pu⟩:=iq w V z c FA HF (op:=j) (d:=(A:Int)) (ra:=ra) (rb:=rb) (imm:=n) (h:=(q:Int)) a b fl ao;rw[hu];have N:=hxy pu;clear hu pu;have i0:=Aa N.I;obtain⟨o0,o1,o2,o3,o4,o5,o6,o7,o8,o9,Z,aa,ab,ac⟩:=Gf N.O;by_cases c1:a.k=1
 rotate_left
 ·have e1:(a.k !=1)=true:=by simp[c1]
  go_wp2;go_ret;exact⟨Ae (by rw[<-p.out,A8,if_pos c1]),N.bel⟩
 have e1:(a.k !=1)=false:=by simp[c1]
 have o:=hxy c1;clear c1;by_cases c2:a.h=(q:Int)
 rotate_left
 ·have e2:(a.h !=(q:Int))=true:=by simp[c2]
  go_wp2;go_ret;exact⟨Ae (by rw[<-p.out,A8,if_neg (by simp[o.out]),if_pos c2]),N.bel⟩
 have e2:(a.h !=(q:Int))=false:=by simp[c2]
 have B:=hxy c2;have hq:=af.out o c2;clear c2 af;cases hs:b.s with
 |true=>
  rw[hs]at o7;go_wp2;go_ret;exact⟨Ae (by rw[<-p.out,A8,if_neg (by simp[o.out]),if_neg (by simp[B.out]),if_pos (Or.inl hs)]),N.bel⟩
 |false=>
 have J:=hxy hs;rw[hs]at o7;clear hs;go_wp2_with fail;refine(Gw b.k false b.m b.h b.lo b.hi _).mono ?_;rintro e u1⟨rfl,aj⟩;obtain⟨mb,hm⟩:=Au (AZ b);rw[show AZ ⟨b.k,false,b.m,b.h,b.lo,b.hi⟩=mb from hm];have HM:=hxy hm;have C:=hxy (N.below aj);clear hm aj N i0 o0 o1 o2 o3 o4 o5 o6 o7 o8 o9 Z aa ab ac;by_cases c4:mb<0
 ·have e4:decide (mb<0)=true:=by simp[c4]
  go_wp2;go_ret;exact⟨Ae (by rw[<-p.out,A8,if_neg (by simp[o.out]),if_neg (by simp[B.out]),if_pos (Or.inr (by rw[HM.out];exact c4))]),C.bel⟩
 have e4:decide (mb<0)=false:=by simp;omega
 have K:Hid (¬AZ b<0):=by rw[HM.out];exact c4
 clear c4;go_upto_region 7 with fail;clear e4 HM;have t0:∀l,Bw u1 l->l.cell? ⟨w.heap.size+1+1,4,none⟩=some (Vi a.lo):=fun l h=>(C.O.below h).2 4 AX
 have t1:∀l,Bw u1 l->l.cell? ⟨w.heap.size+1+1,5,none⟩=some (Vi a.hi):=fun l h=>(C.O.below h).2 5 AX
 have t2:∀l,Bw u1 l->l.cell? ⟨w.heap.size+1+1,8,none⟩=some (Vi b.m):=fun l h=>(C.O.below h).2 8 AX
 have t3:∀l,Bw u1 l->l.cell? ⟨w.heap.size+1,4,none⟩=some (Vi n):=fun l h=>(C.I.below h).2 4 AX
 have i0:=Aa C.I;obtain⟨o0,o1,o2,o3,o4,o5,o6,o7,o8,o9,Z,aa,ab,ac⟩:=Gf C.O;go_quiet(fail);clear t0 t1 t2 t3 i0 o0 o1 o2 o3 o4 o5 o6 o7 o8 o9 Z aa ab ac;obtain⟨u2,ak,ah⟩:∃v,u1.drewN nq=v/\Bw u1 v:=⟨_,rfl,below_drewN BJ _⟩
 rw[ak];have P2:=hxy (C.below ah);clear ak ah C;have i0:=Aa P2.I;have h0:u2.cell? (Va bH (q*3))=some (Vi (S q).size):=((L.below P2.bel L.lt).cell (i:=q*3+0) AB).trans (congrArg some (Fb S q 0 AB));have h1:u2.cell? (Va bH (q*3+1))=some (.bool (S q).s):=((L.below P2.bel L.lt).cell (i:=q*3+1) AB).trans (congrArg some (Fb S q 1 AB));have h2:u2.cell? (Va bH (q*3+2))=some (.bool (S q).w):=((L.below P2.bel L.lt).cell (i:=q*3+2) AB).trans (congrArg some (Fb S q 2 AB));go_upto_region 9 with fail;obtain⟨u3,an,ai,g3⟩:∃v,u2.alloc (.cells #[Vi (S q).size,.bool (S q).s,.bool (S q).w] 45)=v/\Bw u2 v/\Cl v u2.heap.size [Vi (S q).size,.bool (S q).s,.bool (S q).w]:=⟨_,rfl,Ai,Cl.new⟩
 rw[an];have P3:=hxy (P2.below ai);have G3:=hxy g3;clear an ai g3 P2 i0 h0 h1 h2 L;generalize u2.heap.size=gb at *;obtain⟨lo,X⟩:=Au (a.lo+n);obtain⟨U,R⟩:=Au (a.hi+n+b.m);have aw: -3000000000000<=U/\U<=3000000000000:=AB;have ae:=hxy X;have ad:=hxy R;rw[X,R];clear X R;have t0:∀l,Bw u3 l->l.cell? ⟨w.heap.size+1,0,none⟩=some (Vi j):=fun l h=>(P3.I.below h).2 0 AX
 have t1:Cb u3 gb 0 (Vi (S q).size):=fun l h=>(G3.below h).2 0 AX
 obtain⟨E,Y⟩:=Au (Vu j);have aA:1<=E/\E<=8:=by rw[<-Y];exact uE j
 have M:=hxy Y;clear Y;refine wp_region_held_drew (S:=fun l=>Bw u3 l) AV BJ.drew (fun hHeld=>?_);obtain⟨u4,al,Q⟩:∃v,u3.drew=v/\Bw u3 v:=⟨_,rfl,BJ.drew⟩
 rw[al]at hHeld⊢;have D:=hxy (P3.below Q);have G4:=hxy (G3.below Q);clear al Q P3 G3;by_cases c5:lo<0
 ·have e5:decide (lo<0)=true:=by simp[c5]
  refine EX [0,1,2] ?_;refine Br 3 rfl ?_;refine Cn ?_;refine Br 4 rfl ?_;refine Cn ?_;refine Br 5 rfl ?_;refine Cn ?_;refine Br 6 rfl ?_;refine Cn ?_;refine Br 7 rfl ?_;refine Cn ?_;refine Br 8 rfl ?_;refine Cn ?_;refine Br 9 rfl ?_;refine Cn ?_;refine Br 10 rfl ?_;refine Cn ?_;refine AU 11 ?_;refine wpAnyH_done AV ?_ _;clear t0 t1 hHeld;go_wp2;go_ret;exact⟨Ae (by rw[<-p.out,A8,if_neg (by simp[o.out]),if_neg (by simp[B.out]),if_neg (fun x=>x.elim (by simp[J.out]) (fun y=>absurd y (by have:=K.out;omega))),if_pos (Or.inl (by rw[ae.out];exact c5))]),D.bel⟩
 have e5:decide (lo<0)=false:=by simp;omega
 refine EX [0,1,2,3,4,5,8,9] ?_;refine AO 6 rfl (fun KK hK=>?_);go_simp;refine(Oa j _).mono ?_;rintro e l⟨rfl,hw⟩;rw[hw];clear hw;rw[show(if j=21∨j=23∨j=25∨j=27 then(1:Int)else 8)=E from M.out];go_wp2_with fail;refine hK.out _ _ hHeld (fun _=>?_);clear hK KK;try go_frame
 have f1:IntKind.i64.wrap (U+E)=U+E:=by rw[IntKind.wrap_i64];omega
 by_cases c6:(S q).size<U+E
 ·have e7:decide ((S q).size<U+E)=true:=by simp[c6]
  refine EX [7,10,11] ?_;refine wpAnyH_done AV ?_ _;clear t0 t1 hHeld;go_wp2;go_ret;exact⟨Ae (by rw[<-p.out,A8,if_neg (by simp[o.out]),if_neg (by simp[B.out]),if_neg (fun x=>x.elim (by simp[J.out]) (fun y=>absurd y (by have:=K.out;omega))),if_pos (Or.inr (by rw[ad.out,M.out];exact c6))]),D.bel⟩
 have e7:decide ((S q).size<U+E)=false:=by simp;omega
 have ag:¬(a.lo+n<0∨(S q).size<a.hi+n+b.m+Vu j):=by rw[ae.out,ad.out,M.out];omega
 have C6:=hxy ag;clear ag;refine EX [7,10,11] ?_;refine wpAnyH_done AV ?_ _;clear t0 t1 hHeld e5 e7 c5 c6 f1;have i0:=Aa D.I;have g1:u4.cell? (Va gb 1)=some (.bool (S q).s):=G4.2 1 AX;have g2:u4.cell? (Va gb 2)=some (.bool (S q).w):=G4.2 2 AX;have f1:u4.cell? ⟨w.heap.size,A*6+1,none⟩=some (.bool (V A).s):=(D.F.cell (i:=A*6+1) AB).trans (congrArg some (FY V z c A 1 AB AB));go_wp2_with fail;refine(Js j _).mono ?_;rintro e l⟨rfl,hw⟩;rw[hw];clear hw;cases hst:oN j with
 |false=>
  rw[show decide (j=23∨j=24∨j=27∨j=28)=false from hst];go_wp2;go_ret;exact⟨Ae (by rw[<-p.out,A8,if_neg (by simp[o.out]),if_neg (by simp[B.out]),if_neg (fun x=>x.elim (by simp[J.out]) (fun y=>absurd y (by have:=K.out;omega))),if_neg C6.out,if_pos hst]),D.bel⟩
 |true=>
 rw[show decide (j=23∨j=24∨j=27∨j=28)=true from hst];have C7:Hid (¬oN j=false):=(by simp[hst]:¬oN j=false)
 clear hst;cases hgw:(S q).w with
 |false=>
  rw[hgw]at g2;go_wp2;go_ret;exact⟨Ae (by rw[<-p.out,A8,if_neg (by simp[o.out]),if_neg (by simp[B.out]),if_neg (fun x=>x.elim (by simp[J.out]) (fun y=>absurd y (by have:=K.out;omega))),if_neg C6.out,if_neg C7.out,if_pos hgw]),D.bel⟩
 |true=>
 rw[hgw]at g2;have C8:Hid (¬(S q).w=false):=(by simp[hgw]:¬(S q).w=false)
 clear hgw;cases hxs:(V A).s with
 |false=>
  rw[hxs]at f1;go_wp2;go_ret;exact⟨Ae (by rw[<-p.out,A8,if_neg (by simp[o.out]),if_neg (by simp[B.out]),if_neg (fun x=>x.elim (by simp[J.out]) (fun y=>absurd y (by have:=K.out;omega))),if_neg C6.out,if_neg C7.out,if_neg C8.out,if_neg (by simp[hxs])]),D.bel⟩
 |true=>
 rw[hxs]at f1;cases hgs:(S q).s with
 |false=>
  rw[hgs]at g1;go_wp2;go_ret;exact⟨Ae (by rw[<-p.out,A8,if_neg (by simp[o.out]),if_neg (by simp[B.out]),if_neg (fun x=>x.elim (by simp[J.out]) (fun y=>absurd y (by have:=K.out;omega))),if_neg C6.out,if_neg C7.out,if_neg C8.out,if_pos ⟨hxs,hgs⟩]),D.bel⟩
 |true=>
  rw[hgs]at g1;go_wp2;go_ret;exact⟨Ae (by rw[<-p.out,A8,if_neg (by simp[o.out]),if_neg (by simp[B.out]),if_neg (fun x=>x.elim (by simp[J.out]) (fun y=>absurd y (by have:=K.out;omega))),if_neg C6.out,if_neg C7.out,if_neg C8.out,if_neg (by simp[hgs])]),D.bel⟩
theorem LC:(Tryz.prog.info? 47).map (fun i=>(i.zero,i.size,i.bytes))=some (some (.agg #[Vi 0,.bool false,Vi 0,Vi 0,Vi 0,Vi 0]),6,48):=AV
theorem Dy{l e s:Nat}{v:Value}{d:List Value}(h:w.ownsRow l e s v n d)(j:0<n):∃g c,v=Vs g n c:=by
 rcases h.2 with⟨_,rfl⟩|⟨g,a,b,rfl,_⟩
 ·omega
 ·exact⟨_,_,rfl⟩
theorem Gy{l e g Y:Nat}(h:w.ownsRow l e 6 (Vs g n Y) n (first (n*6) f)):Ak w g (n*6) f:=
 ⟨(h.lt _ rfl).2,fun i=>h.frozenAt i,fun i a=>by rw[h.cellAt i a];simp[first,a]⟩
theorem J8(b d:Nat)(V:Nat->VV)(z c:Int)(w:World)(h:Ak w b (8*6) (vF V)):
 Ks 101 #[.agg #[Vs b 8 d,Vi z,Vi c]] w fun e a=>∃g cg,w.heap.size<=g/\e=.returned (.agg #[Vs g 8 cg,Vi z,Vi c])/\Below w.heap.size w a/\Ak a g (8*6) (vF V):=by
 have L:=hxy h;go_enter Tryz.func101,Tryz.ntmps101;go_upto_region 1 with fail;obtain⟨u,hu,Z,R,ru,rf⟩:∃v,(w.alloc (.cells #[Vs b 8 d,Vi z,Vi c] 31)).alloc (.cells #[.slice none 0 0,Vi 0,Vi 0] 31)=v/\Bw w v/\Cl v w.heap.size [Vs b 8 d,Vi z,Vi c]/\Cl v (w.heap.size+1) [.slice none 0 0,Vi 0,Vi 0]/\(∀i,v.frozen? ⟨w.heap.size+1,i,none⟩=false):=by
  refine⟨_,rfl,(Ai).alloc AX _,(Cl.new).below Ai,?_,fun i=>by simp[go_sem]⟩;have h:=Cl.new (w:=w.alloc (.cells #[Vs b 8 d,Vi z,Vi c] 31)) (vs:=#[.slice none 0 0,Vi 0,Vi 0]) (t:=31);simp only[World.size_alloc]at h;exact h
 rw[hu];obtain⟨iV,gV,S,U,X⟩:=info_parts LC;have n:Hid (_/\_/\_/\_):=⟨gV,S,U,X⟩
 have s0:∀a,Bw u a->a.cell? ⟨w.heap.size,0,none⟩=some (Vs b 8 d):=fun a h=>(R.below h).2 0 AX
 have s1:∀a,Bw u a->a.cell? ⟨w.heap.size,1,none⟩=some (Vi z):=fun a h=>(R.below h).2 1 AX
 have s2:∀a,Bw u a->a.cell? ⟨w.heap.size,2,none⟩=some (Vi c):=fun a h=>(R.below h).2 2 AX
 have l:=hxy Z;have r:=hxy ru;have Q:=hxy rf;have F:=ru.1;refine BH (T:=fun a=>Bw u a) (s:=9) AV BJ.drew (fun hHeld=>?_);refine NU [1,2,4,5,6,7] ?_;refine Ah (i:=0) rfl AV (fun KK D=>?_);go_simp;generalize E:(u.alloc (.cells #[] 47)).drew=w6;have b6:Bw u w6:=by rw[<-E];exact(Ai).drew
 have E6:w6.ownsRow u.heap.size 47 6 (Vs u.heap.size 0 0) 0 []:=by rw[<-E];exact(World.ownsRow_lit u #[] 0 BQ (by unfold maxLen;omega) rfl).drew
 have O:=hxy E6;have m:=hxy b6;refine D.out _ _ b6 (fun J=>?_);try go_frame
 refine Ah (i:=3) rfl AV (fun KK D=>?_);refine DJ rfl (.tmp 3) (.tmp 5) 24 rfl u.heap.size 47 iV (.agg #[Vi 0,.bool false,Vi 0,Vi 0,Vi 0,Vi 0]) 6 48 Tryz.underlying24 n.1 n.2.1 n.2.2.1 n.2.2.2 rfl Ad (Vs u.heap.size 0 0) 0 [] rfl O ⟨b,0,none⟩ 8 d (first (8*6) (vF V)) rfl (Aw _ _) ?d1 ?d2 (by unfold maxLen;omega) AB m.size ?_
 case d1=>
  intro j x hj;obtain⟨hm,rfl⟩:=Ca hj;rw[Addr.add_lit,Nat.zero_add];exact(m.cell (p:=Va b j) (Ey L.lt l.size)).trans ((l.cell (p:=Va b j) L.lt).trans (L.cell hm))
 case d2=>
  intro x hx;obtain⟨j,hj,rfl⟩:=Cv hx;unfold vF;have:j%6<6:=Nat.mod_lt _ Ad;generalize j%6=q at this⊢;match q,this with
  |0,_=>rfl
  |1,_=>rfl
  |2,_=>rfl
  |3,_=>rfl
  |4,_=>rfl
  |5,_=>rfl
 intro vD C B o;have Y:C.ownsRow u.heap.size 47 6 vD 8 (first (8*6) (vF V)):=by simpa using B
 obtain⟨I,cD,aa⟩:=Dy Y AB;subst aa;have y:Bw u C:=m.trans (BJ.grown o m.size (by intro k hk;simp[Value.ownBlock]at hk;omega));have ab:u.heap.size<=I:=(Y.lt _ rfl).1;have N:=hxy (Gy Y);have M:=hxy y;refine D.out _ _ y (fun K=>?_)
 try go_frame
 refine BR 8 ?_
 have r0:C.cell? ⟨w.heap.size+1,0,none⟩=some (.slice none 0 0):=(r.below y).2 0 AX
 have r1:C.cell? ⟨w.heap.size+1,1,none⟩=some (Vi 0):=(r.below y).2 1 AX
 have r2:C.cell? ⟨w.heap.size+1,2,none⟩=some (Vi 0):=(r.below y).2 2 AX
 have rf:∀i,C.frozen? ⟨w.heap.size+1,i,none⟩=false:=fun i=>(y.frozen (p:=⟨w.heap.size+1,i,none⟩) F).trans (Q i)
 have ac:w.heap.size+1<C.heap.size:=Ey F y.size
 refine BD rfl AV AV (fun KK D=>?_)
 go_simp
 refine D.out _ _ ?_
 have A:I≠w.heap.size+1:=AB
 go_wp2
 refine mY (.agg #[Vs I 8 cD,Vi z,Vi c]) (by simp[results,Tryz.results101,go_sem, *]) ⟨I,cD,?_,rfl,?_,?_⟩
 ·have:=l.size;omega
 ·(iterate 3 refine Below.setCell ?_ (show w.heap.size<=w.heap.size+1 by omega) _)
  exact l.trans (M.mono l.size)
 ·exact((N.other (fun e=>A e.symm) _).other (fun e=>A e.symm) _).other (fun e=>A e.symm) _
theorem iY:(Tryz.prog.info? 47).map (fun i=>(i.zero,i.size,i.bytes))=some (some (.agg #[Vi 0,.bool false,Vi 0,Vi 0,Vi 0,Vi 0]),6,48):=AV
theorem iX(b m n p:Nat)(f:Nat->Value)(w:World)(O:n<=1048576)(q:At w b m (n*6) f)(y:∀i,(f i).oneCell'=true):
 Ks 60 #[.slice (some ⟨b,m,none⟩) n p] w fun e A=>∃o,e=.returned o/\A.ownsRow w.heap.size 47 6 o n (first (n*6) f)/\Below w.heap.size w A/\(o=.slice none 0 0↔n=0):=by
 obtain⟨N,z,r,s,x⟩:=info_parts iY;have D:=hxy q;have C:=hxy y;clear q y;go_enter Tryz.func60,Tryz.ntmps60;go_wp2_with(first|(at_builtin;refine wpList_append_own _ rfl _ _ 24 rfl w.heap.size 47 N (.agg #[Vi 0,.bool false,Vi 0,Vi 0,Vi 0,Vi 0]) 6 48 Tryz.underlying24 z r s x rfl Ad _ 0 [] rfl (World.ownsRow_nil _ _ _ _) ⟨b,m,none⟩ n p (first (n*6) f) rfl (Aw _ _) ?c1 ?c2 ?c3 ?c4 ?c5 ?_)|go_in)
 case c1=>
  intro j u J;obtain⟨L,rfl⟩:=Ca J;rw[Addr.add_lit];exact D.cell L
 case c2=>
  intro u M;obtain⟨j,_,rfl⟩:=Cv M;exact C j
 case c3=>unfold maxLen;omega
 case c4=>omega
 case c5=>exact BQ
 ·intro o B l a h
  have d:B.ownsRow w.heap.size 47 6 o n (first (n*6) f):=by simpa using l
  have c:o=.slice none 0 0↔n=0:=by simpa using h
  have E:Hid (Bw w B):=BJ.grown a BQ (by intro k K;cases K);have I:=hxy (d);have F:=hxy c;clear l d a h c z r s x;go_wp2;go_ret;exact⟨o,rfl,I,E,F⟩
theorem Nq(V:Nat->VV)(i:Nat):(vF V i).oneCell'=true:=by
 unfold vF;have:i%6<6:=Nat.mod_lt _ Ad;generalize i%6=q at this⊢;match q,this with
 |0,_=>rfl
 |1,_=>rfl
 |2,_=>rfl
 |3,_=>rfl
 |4,_=>rfl
 |5,_=>rfl
theorem WW(V:Nat->VV)(z c:Int)(i:Nat):(fF V z c i).oneCell'=true:=by
 unfold fF;split
 ·exact Nq V i
 ·split<;>rfl
theorem iL(V:Nat->VV)(z c:Int):(CX V z c).all (·.oneCell')=true:=
 all_oneCell_toArray (fun v a=>by obtain⟨j,_,rfl⟩:=Cv a;exact WW V z c j)
theorem Qc(V:Nat->VV)(z c:Int):(CX V z c).size=50:=by simp[CX,Aw]
theorem Ak.there(h:Ak w b n f):w.there b 0 n:=fun j a=>by
 rw[Nat.zero_add];exact⟨by rw[h.cell a];rfl,h.free j⟩
theorem Ak.put(h:Ak w b n f)(g:Nat->Value):Ak (w.setCells b 0 (first n g)) b n g:=by
 refine(h.setCells 0 (first n g) (by simp[Aw])).congr (fun i a=>?_);simp[first,a]
theorem OW:(Tryz.prog.info? 74).map (·.size)=some 48:=AV
theorem YH(h:Ak u b (8*6) (vF V)):(Instr.loadAt 74 (Vq b)).run Tryz.prog u=.ok (.agg (first 48 (vF V)).toArray) u:=
 run_loadAt_mid u b 0 _ (first 48 (vF V)) _ (fun j v c=>by obtain⟨a,rfl⟩:=Ca c;rw[Nat.zero_add];exact h.cell a) Tryz.underlying74 rfl (by rw[Aw];exact OW)
theorem UY(V:Nat->VV)(z c:Int)(w:World):(Instr.build 76 #[(0,.agg (first 48 (vF V)).toArray),(1,Vi z),(2,Vi c)]).run Tryz.prog w=.ok (.agg (CX V z c)) w:=AV
theorem mo(b c:Nat)(w:World):(Instr.arrayAt 74 (Vs b 8 c)).run Tryz.prog w=.ok (Vq b) w:=AV
theorem Iq(d:TypeId)(b:Array (Nat×Operand))(h:Z.op=.build d b){vs:Array (Nat×Value)}(c:(b.map fun(i,x)=>(i,a.eval x))=vs){v:Value}(e:(Instr.build d vs).run P w=.ok v w):(execOp a.eval Z).run P w=.ok (.value v) w:=by
 subst c;unfold execOp;simp only[h,Sem.run_bind,e,Result.andThen_ok,Sem.run_pure]
theorem BX:(#[Vi 0,.bool false,Vi 0,Vi 0,Vi 0,Vi 0,Vi 0,.bool false,Vi 0,Vi 0,Vi 0,Vi 0,Vi 0,.bool false,Vi 0,Vi 0,Vi 0,Vi 0,Vi 0,.bool false,Vi 0,Vi 0,Vi 0,Vi 0,Vi 0,.bool false,Vi 0,Vi 0,Vi 0,Vi 0,Vi 0,.bool false,Vi 0,Vi 0,Vi 0,Vi 0,Vi 0,.bool false,Vi 0,Vi 0,Vi 0,Vi 0,Vi 0,.bool false,Vi 0,Vi 0,Vi 0,Vi 0,Vi 0,Vi 0]:Array Value)=CX (fun _=>zV) 0 0:=AV
theorem IE{c:Prop} [Decidable c]{P Q:Prop}(h:c)(p:P):if c then P else Q:=by rw[if_pos h];exact p
theorem Kb{e:Func}{p:Tmp}{ty:TypeId}(h:e.results=#[.cell p ty])(c:Array Value)(w:World)(b:Nat)(v:Value)(k:c.getD p undef=Vq b)(j:(loadVar ty ⟨b,0,none⟩).run P w=.ok v w):(results e c).run P w=.ok v w:=by
 have d:c[p]?.getD undef=Vq b:=by simpa using k
 simp[results,h,d,asAddr,j]
theorem Ei(h:Ak u b 50 (fF V z c)):(loadVar 76 ⟨b,0,none⟩).run Tryz.prog u=.ok (.agg (CX V z c)) u:=
 run_loadVar_mid u b 0 _ (first 50 (fF V z c)) _ (fun j v d=>by obtain⟨a,rfl⟩:=Ca d;rw[Nat.zero_add];exact h.cell a) Tryz.underlying76 rfl (by rw[Aw];exact JB)
theorem Gc{K:Act->World->Prop}(x y:Operand)(m:Z.op=.store 76 x y)(b:Nat)(V k:Nat->VV)(z c p l:Int)(n:a.eval x=Vq b)(e:Array Value)(hF:e=CX V z c)(o:a.eval y=.agg e)(j:Ak w b 50 (fF k p l))
 (h:∀d,Ak d b 50 (fF V z c)->Below b w d->(d=w.setCells b 0 (first 50 (fF V z c)))->K (a.put Z.dst undef) d):Z.wp Tryz.prog a w K Q:=by
 subst hF;exact wp_store_mid 76 x y m b 0 (CX V z c) n o (by rw[Qc];exact j.there) (by rw[Qc];exact JB) (iL V z c) (h _ (j.put _) (below_setCells BQ _ _ BJ) rfl)
theorem TU(b d:Nat)(V:Nat->VV)(z c:Int)(w:World)(h:Ak w b (8*6) (vF V)):
 Ks 26 #[.agg #[Vs b 8 d,Vi z,Vi c]] w fun e a=>e=.returned (.agg (CX V z c))/\Below w.heap.size w a:=by
 have x:=hxy h;clear h;obtain⟨p,j⟩:=Au (CX V z c);obtain⟨N,k⟩:=Au (CX (fun _=>zV) 0 0);obtain⟨C,n⟩:=Au ((first 48 (vF V)).toArray);have r:=hxy j;have m:=hxy n;rw[j];clear j n;go_enter Tryz.func26,Tryz.ntmps26;go_upto_region 1 with fail;rw[BX,k];obtain⟨u,J,l,o,K⟩:∃v,(w.alloc (.cells #[Vs b 8 d,Vi z,Vi c] 31)).alloc (.cells N 76)=v/\Bw w v/\Cl v w.heap.size [Vs b 8 d,Vi z,Vi c]/\Ak v (w.heap.size+1) 50 (fF (fun _=>zV) 0 0):=by
  subst k;refine⟨_,rfl,(Ai).alloc AX _,(Cl.new).below Ai,?_⟩;have h:=Ak.newFirst (w.alloc (.cells #[Vs b 8 d,Vi z,Vi c] 31)) 50 (fF (fun _=>zV) 0 0) 76;simp only[World.size_alloc]at h;exact h
 rw[J];clear J k;have y:=hxy l;have A:=hxy K;have B:=hxy (x.below l x.lt);have Q:∀a,Bw u a->a.cell? ⟨w.heap.size,0,none⟩=some (Vs b 8 d):=fun a h=>(o.below h).2 0 AX
 have R:∀a,Bw u a->a.cell? ⟨w.heap.size,1,none⟩=some (Vi z):=fun a h=>(o.below h).2 1 AX
 have S:∀a,Bw u a->a.cell? ⟨w.heap.size,2,none⟩=some (Vi c):=fun a h=>(o.below h).2 2 AX
 have O:=mo b d;clear l o K;refine BH (T:=fun a=>Bw u a) (s:=9) AV BJ.drew (fun hHeld=>?_);refine NU [0,1,2] ?_;refine Mi 3 (.agg C) rfl ?my ?mr
 case my=>exact fun a h=>Dx 74 (.tmp 5) rfl b 0 rfl (m▸YH (B.below h B.lt))
 refine Cn ?_;refine NU [4,5,6,7] ?_;refine Mi 8 (.agg p) rfl ?ny ?nr
 case ny=>exact fun a h=>Iq (vs:=#[(0,.agg C),(1,Vi z),(2,Vi c)]) 76 #[(0,.tmp 6),(1,.tmp 8),(2,.tmp 10)] rfl AV (m▸r▸UY V z c a)
 refine Cn ?_;refine BD rfl AV AV (fun M E=>?_);have F:=A.below (Below.refl u.heap.size u).drew A.lt;refine IE AV ?_;refine Gc (.tmp 2) (.tmp 11) rfl (w.heap.size+1) V (fun _=>zV) z c 0 0 rfl p r.symm rfl F ?_;intro a D I _;refine E.out _ _ ?_;clear E M Q R S O;simp only[Act.put,List.getElem_toArray,List.getElem_cons_zero,List.getElem_cons_succ];have L:=hxy D;have q:Hid (Bw w a):=(y.trans (BJ.drew.mono y.size)).trans (I.mono AB);clear D I F;go_wp2;exact mY (.agg p) (Kb rfl _ _ (w.heap.size+1) _ rfl (r▸Ei L)) ⟨rfl,q⟩
theorem WN(h:Ak u b 50 (fF V z c)):At u b 0 (8*6) (vF V):=by
 refine⟨h.lt,fun i a=>?_⟩;rw[Nat.zero_add,h.cell AB];simp only[fF];rw[if_pos AB]
theorem Yd(V:Nat->VV)(z c:Int)(B:Array Value)(hF:B=CX V z c)(w:World):
 Ks 28 #[.agg B] w fun e b=>∃g Q,w.heap.size<=g/\e=.returned (.agg #[Vs g 8 Q,Vi z,Vi c])/\Below w.heap.size w b/\Ak b g (8*6) (vF V):=by
 have O:=hxy hF;clear hF;go_enter Tryz.func28,Tryz.ntmps28;go_upto_region 1 with fail;obtain⟨u,N,q,m,K,J⟩:∃v,(w.alloc (.cells B 76)).alloc (.cells #[.slice none 0 0,Vi 0,Vi 0] 31)=v/\Bw w v/\Ak v w.heap.size 50 (fF V z c)/\Cl v (w.heap.size+1) [.slice none 0 0,Vi 0,Vi 0]/\(∀i,v.frozen? ⟨w.heap.size+1,i,none⟩=false):=by
  rw[O.out];refine⟨_,rfl,(Ai).alloc AX _,?_,?_,fun i=>by simp[go_sem]⟩
  ·exact(Ak.newFirst w 50 (fF V z c) 76).below Ai AX
  ·have h:=Cl.new (w:=w.alloc (.cells (CX V z c) 76)) (vs:=#[.slice none 0 0,Vi 0,Vi 0]) (t:=31)
   simp only[World.size_alloc]at h;exact h
 rw[N];clear N;have U:∀b,Bw u b->b.cell? ⟨w.heap.size,48,none⟩=some (Vi z):=fun b h=>(m.below h m.lt).cell (i:=48) AB
 have X:∀b,Bw u b->b.cell? ⟨w.heap.size,49,none⟩=some (Vi c):=fun b h=>(m.below h m.lt).cell (i:=49) AB
 have j:=hxy q;have n:=hxy m;have k:=hxy K;have E:=hxy J;have r:=K.1;clear q m K J;refine BH (T:=fun b=>Bw u b) (s:=8) AV BJ.drew (fun hHeld=>?_);refine NU [0,1,3,4,5,6] ?_;refine Ah (i:=2) rfl AV (fun F o=>?_);go_simp;refine(iX w.heap.size 0 8 8 (vF V) _ AB (WN (n.below (Below.refl u.heap.size u).drew n.lt)) (Nq V)).mono ?_;rintro e x⟨v',rfl,a,M,_⟩;obtain⟨y,L,I⟩:=Dy a AB;subst I;have d:=(Below.refl u.heap.size u).drew.trans M;have R:u.heap.size<=y:=(a.lt _ rfl).1;have D:=hxy a;have C:=hxy d;clear a M;go_wp2_with fail;refine o.out _ _ d (fun A=>?_);clear o F;refine Cn ?_;refine BR 7 ?_;have Y:x.cell? ⟨w.heap.size+1,0,none⟩=some (.slice none 0 0):=(k.below d).2 0 AX;have Z:x.cell? ⟨w.heap.size+1,1,none⟩=some (Vi 0):=(k.below d).2 1 AX;have r2:x.cell? ⟨w.heap.size+1,2,none⟩=some (Vi 0):=(k.below d).2 2 AX;have J:∀i,x.frozen? ⟨w.heap.size+1,i,none⟩=false:=fun i=>(d.frozen (p:=⟨w.heap.size+1,i,none⟩) r).trans (E i)
 have S:w.heap.size+1<x.heap.size:=Ey r d.size;clear U X d;refine BD rfl AV AV (fun F o=>?_);go_simp;refine o.out _ _ ?_;clear o F;have l:y≠w.heap.size+1:=AB;go_wp2;refine mY (.agg #[Vs y 8 L,Vi z,Vi c]) (by simp[results,Tryz.results28,go_sem, *]) ⟨y,L,?_,rfl,?_,?_⟩
 ·have:=j.size;omega
 ·(iterate 3 refine Below.setCell ?_ (show w.heap.size<=w.heap.size+1 by omega) _)
  exact j.trans (C.mono j.size)
 ·exact(((Gy D).other (fun e=>l e.symm) _).other (fun e=>l e.symm) _).other (fun e=>l e.symm) _
def FL(op fl:Int)(sec:Bool)(r:Int):Int:=if fl=0 then 1 else if op=9/\sec=true then 9 else if 21<=op/\op<=28 then r else 0
theorem Uj(V:Nat->VV)(z c:Int)(M:Array Value)(hF:M=CX V z c)(j d S U p h:Int)(a b:VV)(x:Int)(l:Bool)(Z:Value)(r:Int)(w:World)
 (y:21<=j->j<=28->∀A,Below w.heap.size w A->Ks 151 #[.agg M,.agg #[Vi j,Vi d,Vi S,Vi U,Vi p,Vi h],.agg #[Vi a.k,.bool a.s,Vi a.m,Vi a.h,Vi a.lo,Vi a.hi,Vi b.k,.bool b.s,Vi b.m,Vi b.h,Vi b.lo,Vi b.hi,Vi x,.bool l],Z] A fun e v=>e=.returned (Vi r)/\Below A.heap.size A v):
 Ks 124 #[.agg M,.agg #[Vi j,Vi d,Vi S,Vi U,Vi p,Vi h],.agg #[Vi a.k,.bool a.s,Vi a.m,Vi a.h,Vi a.lo,Vi a.hi,Vi b.k,.bool b.s,Vi b.m,Vi b.h,Vi b.lo,Vi b.hi,Vi x,.bool l],Z] w fun e A=>e=.returned (Vi (FL j x l r))/\Below w.heap.size w A:=by
 obtain⟨ad,n⟩:=Au (FL j x l r);rw[n];have N:=hxy n;have HC:Hid _:=y;have X:=hxy hF;clear n y hF;go_enter Tryz.func124,Tryz.ntmps124;go_upto_region 1 with fail;obtain⟨u,Y,pu⟩:=iq w V z c M X (op:=j) (d:=d) (ra:=S) (rb:=U) (imm:=p) (h:=h) a b x l;rw[Y];have o:=hxy pu;clear Y pu;have i0:=Aa o.I;obtain⟨o0,o1,o2,o3,o4,o5,o6,o7,o8,o9,aa,ab,ac,R⟩:=Gf o.O;by_cases J:x=0
 ·have e1:(x==0)=true:=by simp[J]
  have D:=hxy J;clear J;go_wp2;go_ret;exact⟨Ae (by rw[<-N.out,FL,if_pos D.out]),o.bel⟩
 have e1:(x==0)=false:=by simp[J]
 have D:=hxy J;clear J;by_cases K:j=9
 ·have e2:(j==9)=true:=by simp[K]
  have E:=hxy K;clear K;cases hs:l with
  |true=>
   rw[hs]at R;go_wp2;go_ret;exact⟨Ae (by rw[<-N.out,FL,if_neg D.out,if_pos ⟨E.out,hs⟩]),o.bel⟩
  |false=>
   have B:=hxy hs;rw[hs]at R;clear hs;go_wp2_with fail;refine(JJ j _).mono ?_;rintro e A⟨rfl,Q⟩;rw[Q];clear Q;have C:decide (21<=j/\j<=28)=false:=by have:=E.out;simp;omega
   rw[C];go_wp2;go_ret;exact⟨Ae (by rw[<-N.out,FL,if_neg D.out,if_neg (by simp[B.out]),if_neg (by have:=E.out;omega)]),o.bel⟩
 have e2:(j==9)=false:=by simp[K]
 have E:=hxy K;clear K;go_wp2_with fail;refine(JJ j _).mono ?_;rintro e A⟨rfl,Q⟩;rw[Q];clear Q;by_cases L:21<=j/\j<=28
 ·have C:decide (21<=j/\j<=28)=true:=by simp[L]
  rw[C];have B:=hxy L;clear L C;go_wp2_with(refine Bn rfl (.tmp 4) rfl w.heap.size rfl V z c M X o.F ?_);refine(HC B.1 B.2 _ o.bel).mono ?_;rintro e v⟨rfl,hb⟩;go_wp2;go_ret;exact⟨Ae (by rw[<-N.out,FL,if_neg D.out,if_neg (fun q=>E.out q.1),if_pos B.out]),o.bel.trans (hb.mono o.bel.size)⟩
 ·have C:decide (21<=j/\j<=28)=false:=by simp only[decide_eq_false_iff_not];exact L
  rw[C];have B:=hxy L;clear L C;go_wp2;go_ret;exact⟨Ae (by rw[<-N.out,FL,if_neg D.out,if_neg (fun q=>E.out q.1),if_neg B.out]),o.bel⟩
def Df(V:Nat->VV)(d:Nat)(r:VV)(i:Nat):VV:=if i=d then r else V i
def NR(V:Nat->VV)(z c:Int)(di:Nat)(R:VV)(r:Int)(wr fg sec:Bool):Value:=if r≠0 then .tuple #[.agg (CX (fun _=>zV) 0 0),Vi r]else .tuple #[.agg (CX (if wr then Df V di R else V) (if fg then(if sec then 2 else 1)else z) (if fg then(if sec then 2 else 1)else c)),Vi 0]
theorem Am{j:Func}{p q:Tmp}{a:TypeId}(h:j.results=#[.cell p a,.tmp q])(c:Array Value)(w:World)(b:Nat)(v x:Value)(l:c.getD p undef=Vq b)(m:c.getD q undef=x)(k:(loadVar a ⟨b,0,none⟩).run P w=.ok v w):(results j c).run P w=.ok (.tuple #[v,x]) w:=by
 have d:c[p]?.getD undef=Vq b:=by simpa using l
 have e:c[q]?.getD undef=x:=by simpa using m
 simp[results,h,d,e,asAddr,k]
structure kU(w u:World)(V:Nat->VV)(z c op d ra rb imm h:Int):Prop where
 bel:Below w.heap.size w u
 F:Ak u w.heap.size 50 (fF V z c)
 I:Cl u (w.heap.size+1) [Vi op,Vi d,Vi ra,Vi rb,Vi imm,Vi h]
 R:Ak u (w.heap.size+1+1) 50 (fF (fun _=>zV) 0 0)
theorem kU.below{Z:Int}(p:kU w u V z c Z d ra C m h)(a:Below u.heap.size u v):kU w v V z c Z d ra C m h:=
 ⟨p.bel.trans (a.mono p.bel.size),p.F.below a p.F.lt,p.I.below a,p.R.below a p.R.lt⟩
theorem sN(w:World)(V:Nat->VV)(z c:Int)(k l:Array Value)(hF:k=CX V z c)(s:l=CX (fun _=>zV) 0 0){op rb:Int}:∃u,((w.alloc (.cells k 76)).alloc (.cells #[Vi op,Vi d,Vi ra,Vi rb,Vi imm,Vi h] 99)).alloc (.cells l 76)=u/\kU w u V z c op d ra rb imm h:=by
 subst hF s;have m:=Ak.newFirst w 50 (fF V z c) 76;generalize b:w.alloc (.cells (CX V z c) 76)=x;have p:x.heap.size=w.heap.size+1:=by rw[<-b];simp
 rw[show w.alloc (.cells (first 50 (fF V z c)).toArray 76)=x from b]at m;have r:Below w.heap.size w x:=by rw[<-b];exact Ai
 clear b;have n:=Cl.new (w:=x) (vs:=#[Vi op,Vi d,Vi ra,Vi rb,Vi imm,Vi h]) (t:=99);generalize j:x.alloc (.cells #[Vi op,Vi d,Vi ra,Vi rb,Vi imm,Vi h] 99)=y at *;have q:y.heap.size=w.heap.size+1+1:=by rw[<-j];simp[p]
 have e:Below x.heap.size x y:=by rw[<-j];exact Ai
 clear j;have o:=Ak.newFirst y 50 (fF (fun _=>zV) 0 0) 76;have a:Below y.heap.size y (y.alloc (.cells (CX (fun _=>zV) 0 0) 76)):=Ai;rw[p]at n e;rw[q]at o a;exact⟨_,rfl,(r.trans (e.mono (by omega))).trans (a.mono (by omega)),(m.below e (by omega)).below a (by omega),n.below (by rw[q];exact a),o⟩
theorem OI(w:World):(Instr.build 76 #[]).run Tryz.prog w=.ok (.agg (CX (fun _=>zV) 0 0)) w:=AV
theorem Lg(b:Z.guard=none)(j:Z.op=.build 76 #[])(c:Array Value)(e:c=CX (fun _=>zV) 0 0)
 (h:wpList Tryz.prog R Q k (a.put Z.dst (.agg c)) w):wpList Tryz.prog R Q (Z::k) a w:=by
 subst e;refine wpList_plain b fun K d=>?_
 unfold Oper.wp execOp;simp only[j,Array.map_empty,Sem.run_bind,OI,Result.andThen_ok,Sem.run_pure];exact d _ _ h
theorem Ch(j:Z.guard=none)(x y:Operand)(r:Z.op=.store 76 x y)(b:Nat)(V l:Nat->VV)(z c n m:Int)(u:a.eval x=Vq b)(e:Array Value)(hF:e=CX V z c)(A:a.eval y=.agg e)(s:Ak w b 50 (fF l n m))
 (h:∀d,Ak d b 50 (fF V z c)->Below b w d->wpList Tryz.prog R Q k (a.put Z.dst undef) d):wpList Tryz.prog R Q (Z::k) a w:=
 wpList_plain j fun _ p=>Gc x y r b V l z c n m u e hF A s (fun d o q _=>p _ _ (h d o q))
theorem kU.setD{Z:Int}(p:kU w u V z c Z d ra C imm h){B:Nat}(x:B<8)(r:VV)(n:v=(((((u.setCell ⟨w.heap.size,B*6,none⟩ (Vi r.k)).setCell ⟨w.heap.size,B*6+1,none⟩ (.bool r.s)).setCell ⟨w.heap.size,B*6+2,none⟩ (Vi r.m)).setCell ⟨w.heap.size,B*6+3,none⟩ (Vi r.h)).setCell ⟨w.heap.size,B*6+4,none⟩ (Vi r.lo)).setCell ⟨w.heap.size,B*6+5,none⟩ (Vi r.hi)):kU w v (Df V B r) z c Z d ra C imm h:=by
 subst n;have k:Below w.heap.size u _:=(((((((Below.refl w.heap.size u).setCell (p:=⟨w.heap.size,B*6,none⟩) BQ (Vi r.k)).setCell (p:=⟨w.heap.size,B*6+1,none⟩) BQ (.bool r.s)).setCell (p:=⟨w.heap.size,B*6+2,none⟩) BQ (Vi r.m)).setCell (p:=⟨w.heap.size,B*6+3,none⟩) BQ (Vi r.h)).setCell (p:=⟨w.heap.size,B*6+4,none⟩) BQ (Vi r.lo)).setCell (p:=⟨w.heap.size,B*6+5,none⟩) BQ (Vi r.hi))
 have b:=p.I.1;refine⟨p.bel.trans k,?_,⟨by simpa using b,fun i e=>?_⟩,?_⟩
 ·refine(Ak.set1 (Ak.set1 (Ak.set1 (Ak.set1 (Ak.set1 (Ak.set1 p.F (B*6) AB _) (B*6+1) AB _) (B*6+2) AB _) (B*6+3) AB _) (B*6+4) AB _) (B*6+5) AB _).congr (fun i e=>?_)
  by_cases a:i<48
  ·have y:=Nat.div_add_mod i 6
   have l:i%6<6:=Nat.mod_lt _ Ad;simp only[fF,if_pos a,vF,Df];generalize i/6=q at *;generalize i%6=o at *;by_cases j:q=B
   ·subst j
    rw[if_pos rfl];match o,l with
    |0,_=>rw[if_neg AB,if_neg AB,if_neg AB,if_neg AB,if_neg AB,if_pos AB];rfl
    |1,_=>rw[if_neg AB,if_neg AB,if_neg AB,if_neg AB,if_pos AB];rfl
    |2,_=>rw[if_neg AB,if_neg AB,if_neg AB,if_pos AB];rfl
    |3,_=>rw[if_neg AB,if_neg AB,if_pos AB];rfl
    |4,_=>rw[if_neg AB,if_pos AB];rfl
    |5,_=>rw[if_pos AB];rfl
   ·rw[if_neg j]
    iterate 6 rw[if_neg AB]
  ·iterate 6 rw[if_neg AB]
   simp only[fF,if_neg a]
 ·iterate 6 refine(World.cell?_setCell_far _ _ _ _ AX).trans ?_
  exact p.I.2 i e
 ·iterate 6 refine Ak.other ?_ (by simp;omega) _
  exact p.R
theorem kU.setF{Z f:Int}(p:kU w u V z c Z d ra C m h)(j:v=(u.setCell ⟨w.heap.size,48,none⟩ (Vi f)).setCell ⟨w.heap.size,49,none⟩ (Vi f)):kU w v V f f Z d ra C m h:=by
 subst j;have k:Below w.heap.size u _:=((Below.refl w.heap.size u).setCell (p:=⟨w.heap.size,48,none⟩) BQ (Vi f)).setCell (p:=⟨w.heap.size,49,none⟩) BQ (Vi f);have b:=p.I.1;refine⟨p.bel.trans k,?_,⟨by simpa using b,fun i e=>?_⟩,?_⟩
 ·refine(Ak.set1 (Ak.set1 p.F 48 AB _) 49 AB _).congr (fun i e=>?_)
  by_cases a:i<48
  ·simp only[fF,if_pos a]
   iterate 2 rw[if_neg AB]
  ·simp only[fF,if_neg a]
   by_cases h:i=49
   ·rw[if_pos h,if_neg AB]
   ·rw[if_neg h,if_pos AB,if_pos AB]
 ·iterate 2 refine(World.cell?_setCell_far _ _ _ _ AX).trans ?_
  exact p.I.2 i e
 ·iterate 2 refine Ak.other ?_ (by simp;omega) _
  exact p.R
theorem YG(V:Nat->VV)(z c:Int)(FA:Array Value)(hF:FA=CX V z c)(B ra rb U h:Int)(n:Nat)(hd:n<8)(a b:VV)(fl:Int)(p:Bool)(hv:Value)(r:Int)(R:VV)(wr fg:Bool)(w:World)
 (al:∀j,Below w.heap.size w j->Ks 123 #[.agg FA,.agg #[Vi B,Vi (n:Int),Vi ra,Vi rb,Vi U,Vi h]] j fun e v=>e=.returned (.agg #[Vi a.k,.bool a.s,Vi a.m,Vi a.h,Vi a.lo,Vi a.hi,Vi b.k,.bool b.s,Vi b.m,Vi b.h,Vi b.lo,Vi b.hi,Vi fl,.bool p])/\Below j.heap.size j v)
 (af:∀j,Below w.heap.size w j->Ks 124 #[.agg FA,.agg #[Vi B,Vi (n:Int),Vi ra,Vi rb,Vi U,Vi h],.agg #[Vi a.k,.bool a.s,Vi a.m,Vi a.h,Vi a.lo,Vi a.hi,Vi b.k,.bool b.s,Vi b.m,Vi b.h,Vi b.lo,Vi b.hi,Vi fl,.bool p],hv] j fun e v=>e=.returned (Vi r)/\Below j.heap.size j v)
 (ag:r=0->wr=true->∀j,Below w.heap.size w j->Ks 127 #[.agg #[Vi B,Vi (n:Int),Vi ra,Vi rb,Vi U,Vi h],.agg #[Vi a.k,.bool a.s,Vi a.m,Vi a.h,Vi a.lo,Vi a.hi,Vi b.k,.bool b.s,Vi b.m,Vi b.h,Vi b.lo,Vi b.hi,Vi fl,.bool p],hv] j fun e v=>e=.returned R.v/\Below j.heap.size j v)
 (ai:((bits .and .i64 (FE B) 1 !=0)&&!decide (B=23∨B=24∨B=27∨B=28))=wr)(ah:decide (14<=B/\B<=18)=fg):
 Ks 92 #[.agg FA,.agg #[Vi B,Vi (n:Int),Vi ra,Vi rb,Vi U,Vi h],hv] w fun e j=>e=.returned (NR V z c n R r wr fg p)/\Below w.heap.size w j:=by
 have HF:=hxy hF;have HO:Hid _:=al;have HR:Hid _:=af;have HS:Hid _:=ag;have HW:Hid _:=ai;have HG:Hid _:=ah;obtain⟨Z0,aj⟩:=Au (CX (fun _=>zV) 0 0);have HZ:=hxy aj;obtain⟨X,hX⟩:=Au (NR V z c n R r wr fg p);rw[hX];have HX:=hxy hX;clear hF al af ag ai ah aj hX;have au:(n:Int)<8:=AB;go_enter Tryz.func92,Tryz.ntmps92;go_upto_region 1 with fail;rw[BX,HZ.out];obtain⟨u,hu,pu⟩:=sN w V z c FA Z0 HF HZ.symm (op:=B) (d:=(n:Int)) (ra:=ra) (rb:=rb) (imm:=U) (h:=h);rw[hu];have P0:=hxy pu;clear hu pu;have i0:=Aa P0.I;go_wp2_with(refine Bn rfl (.tmp 3) rfl w.heap.size rfl V z c FA HF P0.F ?_);refine(HO _ P0.bel).mono ?_;rintro e u1⟨rfl,q⟩;have P1:=hxy (P0.below q);clear q P0 i0;go_upto_region 2 with fail;obtain⟨u2,am,ak,Z⟩:∃v,u1.alloc (.cells #[Vi a.k,.bool a.s,Vi a.m,Vi a.h,Vi a.lo,Vi a.hi,Vi b.k,.bool b.s,Vi b.m,Vi b.h,Vi b.lo,Vi b.hi,Vi fl,.bool p] 222)=v/\Bw u1 v/\Cl v u1.heap.size [Vi a.k,.bool a.s,Vi a.m,Vi a.h,Vi a.lo,Vi a.hi,Vi b.k,.bool b.s,Vi b.m,Vi b.h,Vi b.lo,Vi b.hi,Vi fl,.bool p]:=⟨_,rfl,Ai,Cl.new⟩
 rw[am];have P2:=hxy (P1.below ak);have O2:=hxy Z;have av:=P1.R.lt;clear am ak Z P1;generalize u1.heap.size=Y at *;have i0:=Aa P2.I;obtain⟨o0,o1,Z,o3,o4,o5,o6,o7,o8,o9,J,K,L,M⟩:=Gf O2;go_wp2_with(refine Bn rfl (.tmp 3) rfl w.heap.size rfl V z c FA HF P2.F ?_);refine(HR _ P2.bel).mono ?_;rintro e u3⟨rfl,q⟩;have x:=hxy (P2.below q);have O:=hxy (O2.below q);clear q P2 O2 i0 o0 o1 Z o3 o4 o5 o6 o7 o8 o9 J K L M;by_cases hr:r=0
 rotate_left
 ·have er:(r !=0)=true:=by simp[hr]
  go_wp2_with(first|(refine Lg rfl rfl Z0 HZ.symm ?_)|(refine Ch rfl (.tmp 6) (.tmp 20) rfl (w.heap.size+1+1) (fun _=>zV) (fun _=>zV) 0 0 0 0 rfl Z0 HZ.symm rfl x.R ?_;intro j N q));have A:=hxy N;have y:Hid (Bw w j):=x.bel.trans (q.mono AB);clear N q;go_wp2;refine mY (.tuple #[.agg Z0,Vi r]) (Am rfl _ _ (w.heap.size+1+1) _ _ rfl rfl (HZ▸Ei A)) ⟨?_,y⟩;rw[<-HX.out,NR,if_pos hr,HZ.out]
 have er:(r !=0)=false:=by simp[hr]
 have Q:=hxy hr;clear hr;have i0:=Aa x.I;obtain⟨o0,o1,Z,o3,o4,o5,o6,o7,o8,o9,J,K,L,M⟩:=Gf O;go_wp2_with fail;refine(Kj B _).mono ?_;rintro e j⟨rfl,E⟩;rw[E];clear E;cases hD:(bits .and .i64 (FE B) 1 !=0)with
 |false=>
  obtain rfl:false=wr:=by have:=HW.out;rw[hD]at this;simpa using this
  clear HS;go_wp2_with fail;refine(Fh B _).mono ?_;rintro e j⟨rfl,E⟩;rw[E];clear E;rw[HG.out];cases fg with
  |false=>
   clear i0 o0 o1 Z o3 o4 o5 o6 o7 o8 o9 J K L M;obtain⟨C,o⟩:=Au (CX V z c);have l:=hxy o;clear o;go_wp2_with(first|(refine Bn rfl (.tmp 3) rfl w.heap.size rfl V z c C l.symm x.F ?_)|(refine Ch rfl (.tmp 6) (.tmp 51) rfl (w.heap.size+1+1) V (fun _=>zV) z c 0 0 rfl C l.symm rfl x.R ?_;intro j N q));have A:=hxy N;have y:Hid (Bw w j):=x.bel.trans (q.mono AB);clear N q;go_wp2;refine mY (.tuple #[.agg C,Vi 0]) (Am rfl _ _ (w.heap.size+1+1) _ _ rfl rfl (l▸Ei A)) ⟨?_,y⟩;rw[<-HX.out,NR,if_neg (by simp[Q.out]),<-l.out];rfl
  |true=>
   go_wp2_with fail;refine(IA p _).mono ?_;rintro e j⟨rfl,E⟩;rw[E];clear E;obtain⟨f,hf⟩:=Au ((if p then(2:Int)else 1));rw[hf];have aa:=hxy hf;clear hf;have ab:u3.cell? ⟨w.heap.size,48,none⟩=some (Vi z):=x.F.cell (i:=48) AB;have ac:u3.cell? ⟨w.heap.size,49,none⟩=some (Vi c):=x.F.cell (i:=49) AB;have ff:=x.F.free;have S:=x.F.lt;go_upto_region 10 with fail;clear i0 o0 o1 Z o3 o4 o5 o6 o7 o8 o9 J K L M;clear ab ac ff S;obtain⟨u9,D⟩:∃v,v=(u3.setCell ⟨w.heap.size,48,none⟩ (Vi f)).setCell ⟨w.heap.size,49,none⟩ (Vi f):=⟨_,rfl⟩
   rw[<-D];have P9:=hxy (x.setF D);clear D;obtain⟨C,o⟩:=Au (CX V f f);have l:=hxy o;clear o;go_wp2_with(first|(refine Bn rfl (.tmp 3) rfl w.heap.size rfl V f f C l.symm P9.F ?_)|(refine Ch rfl (.tmp 6) (.tmp 51) rfl (w.heap.size+1+1) V (fun _=>zV) f f 0 0 rfl C l.symm rfl P9.R ?_;intro j N q));have A:=hxy N;have y:Hid (Bw w j):=P9.bel.trans (q.mono AB);clear N q;go_wp2;refine mY (.tuple #[.agg C,Vi 0]) (Am rfl _ _ (w.heap.size+1+1) _ _ rfl rfl (l▸Ei A)) ⟨?_,y⟩;rw[<-HX.out,NR,if_neg (by simp[Q.out]),<-l.out,<-aa.out];rfl
 |true=>
 go_wp2_with fail;refine(Js B _).mono ?_;rintro e j⟨rfl,E⟩;rw[E];clear E;cases hst:decide (B=23∨B=24∨B=27∨B=28)with
 |true=>
  obtain rfl:false=wr:=by have:=HW.out;rw[hD,hst]at this;simpa using this
  clear HS;go_wp2_with fail;refine(Fh B _).mono ?_;rintro e j⟨rfl,E⟩;rw[E];clear E;rw[HG.out];cases fg with
  |false=>
   clear i0 o0 o1 Z o3 o4 o5 o6 o7 o8 o9 J K L M;obtain⟨C,o⟩:=Au (CX V z c);have l:=hxy o;clear o;go_wp2_with(first|(refine Bn rfl (.tmp 3) rfl w.heap.size rfl V z c C l.symm x.F ?_)|(refine Ch rfl (.tmp 6) (.tmp 51) rfl (w.heap.size+1+1) V (fun _=>zV) z c 0 0 rfl C l.symm rfl x.R ?_;intro j N q));have A:=hxy N;have y:Hid (Bw w j):=x.bel.trans (q.mono AB);clear N q;go_wp2;refine mY (.tuple #[.agg C,Vi 0]) (Am rfl _ _ (w.heap.size+1+1) _ _ rfl rfl (l▸Ei A)) ⟨?_,y⟩;rw[<-HX.out,NR,if_neg (by simp[Q.out]),<-l.out];rfl
  |true=>
   go_wp2_with fail;refine(IA p _).mono ?_;rintro e j⟨rfl,E⟩;rw[E];clear E;obtain⟨f,hf⟩:=Au ((if p then(2:Int)else 1));rw[hf];have aa:=hxy hf;clear hf;have ab:u3.cell? ⟨w.heap.size,48,none⟩=some (Vi z):=x.F.cell (i:=48) AB;have ac:u3.cell? ⟨w.heap.size,49,none⟩=some (Vi c):=x.F.cell (i:=49) AB;have ff:=x.F.free;have S:=x.F.lt;go_upto_region 10 with fail;clear i0 o0 o1 Z o3 o4 o5 o6 o7 o8 o9 J K L M;clear ab ac ff S;obtain⟨u9,D⟩:∃v,v=(u3.setCell ⟨w.heap.size,48,none⟩ (Vi f)).setCell ⟨w.heap.size,49,none⟩ (Vi f):=⟨_,rfl⟩
   rw[<-D];have P9:=hxy (x.setF D);clear D;obtain⟨C,o⟩:=Au (CX V f f);have l:=hxy o;clear o;go_wp2_with(first|(refine Bn rfl (.tmp 3) rfl w.heap.size rfl V f f C l.symm P9.F ?_)|(refine Ch rfl (.tmp 6) (.tmp 51) rfl (w.heap.size+1+1) V (fun _=>zV) f f 0 0 rfl C l.symm rfl P9.R ?_;intro j N q));have A:=hxy N;have y:Hid (Bw w j):=P9.bel.trans (q.mono AB);clear N q;go_wp2;refine mY (.tuple #[.agg C,Vi 0]) (Am rfl _ _ (w.heap.size+1+1) _ _ rfl rfl (l▸Ei A)) ⟨?_,y⟩;rw[<-HX.out,NR,if_neg (by simp[Q.out]),<-l.out,<-aa.out];rfl
 |false=>
 obtain rfl:true=wr:=by have:=HW.out;rw[hD,hst]at this;simpa using this
 go_upto_region 6 with fail;clear i0 o0 o1 Z o3 o4 o5 o6 o7 o8 o9 J K L M;have t0:∀j,Bw u3 j->j.cell? ⟨w.heap.size+1,0,none⟩=some (Vi B):=fun j h=>(x.I.below h).2 0 AX
 have t1:∀j,Bw u3 j->j.cell? ⟨w.heap.size+1,1,none⟩=some (Vi (n:Int)):=fun j h=>(x.I.below h).2 1 AX
 have t2:∀j,Bw u3 j->j.cell? ⟨w.heap.size+1,2,none⟩=some (Vi ra):=fun j h=>(x.I.below h).2 2 AX
 have t3:∀j,Bw u3 j->j.cell? ⟨w.heap.size+1,3,none⟩=some (Vi rb):=fun j h=>(x.I.below h).2 3 AX
 have t4:∀j,Bw u3 j->j.cell? ⟨w.heap.size+1,4,none⟩=some (Vi U):=fun j h=>(x.I.below h).2 4 AX
 have t5:∀j,Bw u3 j->j.cell? ⟨w.heap.size+1,5,none⟩=some (Vi h):=fun j h=>(x.I.below h).2 5 AX
 have q0:Cb u3 Y 0 (Vi a.k):=fun j h=>(O.below h).2 0 AX
 have q1:Cb u3 Y 1 (.bool a.s):=fun j h=>(O.below h).2 1 AX
 have q2:Cb u3 Y 2 (Vi a.m):=fun j h=>(O.below h).2 2 AX
 have q3:Cb u3 Y 3 (Vi a.h):=fun j h=>(O.below h).2 3 AX
 have q4:Cb u3 Y 4 (Vi a.lo):=fun j h=>(O.below h).2 4 AX
 have q5:Cb u3 Y 5 (Vi a.hi):=fun j h=>(O.below h).2 5 AX
 have q6:Cb u3 Y 6 (Vi b.k):=fun j h=>(O.below h).2 6 AX
 have q7:Cb u3 Y 7 (.bool b.s):=fun j h=>(O.below h).2 7 AX
 have q8:Cb u3 Y 8 (Vi b.m):=fun j h=>(O.below h).2 8 AX
 have q9:Cb u3 Y 9 (Vi b.h):=fun j h=>(O.below h).2 9 AX
 have an:Cb u3 Y 10 (Vi b.lo):=fun j h=>(O.below h).2 10 AX
 have ao:Cb u3 Y 11 (Vi b.hi):=fun j h=>(O.below h).2 11 AX
 have ap:Cb u3 Y 12 (Vi fl):=fun j h=>(O.below h).2 12 AX
 have ar:Cb u3 Y 13 (.bool p):=fun j h=>(O.below h).2 13 AX
 refine BH (T:=fun j=>Bw u3 j) (s:=8) AV BJ.drew (fun hHeld=>?_);refine NU [0,1,2,3,4] ?_;refine Bt 6 ?_;refine Ah (i:=5) rfl AV (fun KK hK=>?_);go_simp;refine(HS Q (by first|rfl|trivial) _ (x.bel.trans (BJ.drew.mono x.bel.size))).mono ?_;rintro e u4⟨rfl,q⟩;have b4:=(Below.refl u3.heap.size u3).drew.trans q;clear q;simp only[VV.v];go_wp2_with fail;refine hK.out _ _ b4 (fun ae=>?_);clear hK KK;refine Cn ?_;refine BR 7 ?_;have P4:=hxy (x.below b4);have O4:=hxy (O.below b4);clear t0 t1 t2 t3 t4 t5 q0 q1 q2 q3 q4 q5 q6 q7 q8 q9 an ao ap ar x O;have f0:u4.cell? ⟨w.heap.size,n*6,none⟩=some (Vi (V n).k):=(P4.F.cell (i:=n*6+0) AB).trans (congrArg some (FY V z c n 0 AB AB));have f1:u4.cell? ⟨w.heap.size,n*6+1,none⟩=some (.bool (V n).s):=(P4.F.cell (i:=n*6+1) AB).trans (congrArg some (FY V z c n 1 AB AB));have f2:u4.cell? ⟨w.heap.size,n*6+2,none⟩=some (Vi (V n).m):=(P4.F.cell (i:=n*6+2) AB).trans (congrArg some (FY V z c n 2 AB AB));have f3:u4.cell? ⟨w.heap.size,n*6+3,none⟩=some (Vi (V n).h):=(P4.F.cell (i:=n*6+3) AB).trans (congrArg some (FY V z c n 3 AB AB));have f4:u4.cell? ⟨w.heap.size,n*6+4,none⟩=some (Vi (V n).lo):=(P4.F.cell (i:=n*6+4) AB).trans (congrArg some (FY V z c n 4 AB AB));have f5:u4.cell? ⟨w.heap.size,n*6+5,none⟩=some (Vi (V n).hi):=(P4.F.cell (i:=n*6+5) AB).trans (congrArg some (FY V z c n 5 AB AB));have ff:=P4.F.free;have S:=P4.F.lt;refine BD rfl AV AV (fun KK hK=>?_);go_simp;refine hK.out _ _ ?_;clear hK KK f0 f1 f2 f3 f4 f5 ff S hHeld ae b4;obtain⟨u5,ad⟩:∃v,v=(((((u4.setCell ⟨w.heap.size,n*6,none⟩ (Vi R.k)).setCell ⟨w.heap.size,n*6+1,none⟩ (.bool R.s)).setCell ⟨w.heap.size,n*6+2,none⟩ (Vi R.m)).setCell ⟨w.heap.size,n*6+3,none⟩ (Vi R.h)).setCell ⟨w.heap.size,n*6+4,none⟩ (Vi R.lo)).setCell ⟨w.heap.size,n*6+5,none⟩ (Vi R.hi):=⟨_,rfl⟩
 rw[<-ad];have P5:=hxy (P4.setD hd R ad);have O5:Hid (Cl u5 Y [Vi a.k,.bool a.s,Vi a.m,Vi a.h,Vi a.lo,Vi a.hi,Vi b.k,.bool b.s,Vi b.m,Vi b.h,Vi b.lo,Vi b.hi,Vi fl,.bool p]):=⟨by rw[ad];simpa using O4.1,fun i hi=>by rw[ad];(iterate 6 refine(World.cell?_setCell_far _ _ _ _ (by simp;omega)).trans ?_);exact O4.2 i hi⟩
 clear ad P4 O4 HS;have i0:=Aa P5.I;obtain⟨o0,o1,Z,o3,o4,o5,o6,o7,o8,o9,J,K,L,M⟩:=Gf O5;go_wp2_with fail;refine(Fh B _).mono ?_;rintro e j⟨rfl,E⟩;rw[E];clear E;rw[HG.out];cases fg with
 |false=>
  clear i0 o0 o1 Z o3 o4 o5 o6 o7 o8 o9 J K L M;obtain⟨C,o⟩:=Au (CX (Df V n R) z c);have l:=hxy o;clear o;go_wp2_with(first|(refine Bn rfl (.tmp 3) rfl w.heap.size rfl (Df V n R) z c C l.symm P5.F ?_)|(refine Ch rfl (.tmp 6) (.tmp 51) rfl (w.heap.size+1+1) (Df V n R) (fun _=>zV) z c 0 0 rfl C l.symm rfl P5.R ?_;intro j N q));have A:=hxy N;have y:Hid (Bw w j):=P5.bel.trans (q.mono AB);clear N q;go_wp2;refine mY (.tuple #[.agg C,Vi 0]) (Am rfl _ _ (w.heap.size+1+1) _ _ rfl rfl (l▸Ei A)) ⟨?_,y⟩;rw[<-HX.out,NR,if_neg (by simp[Q.out]),<-l.out];rfl
 |true=>
  go_wp2_with fail;refine(IA p _).mono ?_;rintro e j⟨rfl,E⟩;rw[E];clear E;obtain⟨f,hf⟩:=Au ((if p then(2:Int)else 1));rw[hf];have aa:=hxy hf;clear hf;have ab:u5.cell? ⟨w.heap.size,48,none⟩=some (Vi z):=P5.F.cell (i:=48) AB;have ac:u5.cell? ⟨w.heap.size,49,none⟩=some (Vi c):=P5.F.cell (i:=49) AB;have ff:=P5.F.free;have S:=P5.F.lt;go_upto_region 10 with fail;clear i0 o0 o1 Z o3 o4 o5 o6 o7 o8 o9 J K L M;clear ab ac ff S;obtain⟨u9,D⟩:∃v,v=(u5.setCell ⟨w.heap.size,48,none⟩ (Vi f)).setCell ⟨w.heap.size,49,none⟩ (Vi f):=⟨_,rfl⟩
  rw[<-D];have P9:=hxy (P5.setF D);clear D;obtain⟨C,o⟩:=Au (CX (Df V n R) f f);have l:=hxy o;clear o;go_wp2_with(first|(refine Bn rfl (.tmp 3) rfl w.heap.size rfl (Df V n R) f f C l.symm P9.F ?_)|(refine Ch rfl (.tmp 6) (.tmp 51) rfl (w.heap.size+1+1) (Df V n R) (fun _=>zV) f f 0 0 rfl C l.symm rfl P9.R ?_;intro j N q));have A:=hxy N;have y:Hid (Bw w j):=P9.bel.trans (q.mono AB);clear N q;go_wp2;refine mY (.tuple #[.agg C,Vi 0]) (Am rfl _ _ (w.heap.size+1+1) _ _ rfl rfl (l▸Ei A)) ⟨?_,y⟩;rw[<-HX.out,NR,if_neg (by simp[Q.out]),<-l.out,<-aa.out];rfl
end Go.Proofs.YtcjnmdgomocpgaaGreatDoor
