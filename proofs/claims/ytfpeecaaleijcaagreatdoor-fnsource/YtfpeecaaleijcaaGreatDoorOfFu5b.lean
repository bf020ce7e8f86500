import Derived.Test.YtfpeecaaleijcaaGreatDoorOfCl
import Derived.Test.YtfpeecaaleijcaaGreatDoorFuTr
import Derived.Test.YtfpeecaaleijcaaGreatDoorFuTrS
import Derived.Test.YtfpeecaaleijcaaGreatDoorOfFuTrM
import Derived.Test.YtfpeecaaleijcaaGreatDoorOfTransSpS
import Derived.Test.YtfpeecaaleijcaaGreatDoorOfDrawFlat
import Derived.Deep.CutBlock
set_option maxHeartbeats 16000000
set_option maxRecDepth 20000
namespace Go.Proofs.YtfpeecaaleijcaaGreatDoor
open Go.RowKit
variable {b q t:Nat}{x y z:Value}{u u':World}
def iR(nH:Nat)(S:Nat->HS)(nR:Nat)(V0:Nat->VV)(nA:Nat)(V:Nat->VV)(z c op d ra rb imm h:Int)(w:World)(e:Ending)(w':World):Prop:=
 ∃(err:Int)(V':Nat->VV)(z' c':Int),aj w w' e err V' z' c'/\(err=0->BA nH S nR V0 8 V' z' c'=true)/\(BA nH S nR V0 nA V z c=true->Ar op d ra rb imm h=true->op=2∨op=11∨op=18->err=0)/\Below w.heap.size w w'
theorem Dt(bH cH nH:Nat)(S:Nat->HS)(bR cR nR:Nat)(V0:Nat->VV)(bA cA nA:Nat)(V:Nat->VV)(z c op d ra rb imm h:Int)(w:World)(lH:nH<=1048576)(lR:nR<=1048576)(lA:nA<=1048576)(h1:Bl w bH nH S bR nR V0)(h2:A9 w bA (nA*6) (vF V)):
 Calls Tryz.prog 135 #[.agg #[Vs bH nH cH,Vs bR nR cR],.agg #[Vs bA nA cA,Vi z,Vi c],.agg #[Vi op,Vi d,Vi ra,Vi rb,Vi imm,Vi h]] w (iR nH S nR V0 nA V z c op d ra rb imm h w):=by
 by_cases hv:BA nH S nR V0 nA V z c=true/\Ar op d ra rb imm h=true/\op<=28
 rotate_left
 ·refine(Kt bH cH nH S bR cR nR V0 bA cA nA V z c op d ra rb imm h w lH lR lA h1 h2 hv).mono ?_
  rintro e w'⟨rfl,hb⟩;exact⟨11,V,z,c,Or.inl ⟨by decide,rfl⟩,fun e=>absurd e (by decide),fun a b o=>absurd ⟨a,b,by omega⟩ hv,hb⟩
 obtain⟨hok,hik,o28⟩:=hv;obtain⟨rfl,_,_⟩:=OX hok;obtain⟨o1,d0,d7,ra0,ra7,rb0,rb7,h0,h7,n0,n1,n2⟩:=Y2 hik o28;obtain⟨di,rfl⟩:∃k:Nat,d=(k:Int):=⟨d.toNat,by omega⟩
 obtain⟨ia,rfl⟩:∃k:Nat,ra=(k:Int):=⟨ra.toNat,by omega⟩
 obtain⟨ib,rfl⟩:∃k:Nat,rb=(k:Int):=⟨rb.toNat,by omega⟩
 obtain⟨q,rfl⟩:∃k:Nat,h=(k:Int):=⟨h.toNat,by omega⟩
 have hx:Calls Tryz.prog 135 #[.agg #[Vs bH nH cH,Vs bR nR cR],.agg #[Vs bA 8 cA,Vi z,Vi c],.agg #[Vi op,Vi (di:Int),Vi (ia:Int),Vi (ib:Int),Vi imm,Vi (q:Int)]] w (gN nH S nR V0 op w):=by
  by_cases o21:21<=op
  ·exact Yf bH cH nH S bR cR nR V0 bA cA V z c op imm di ia ib q (by omega) (by omega) (by omega) w lH lR h1 h2 hok hik o21 o28 n0 n1
  by_cases os:op=19∨op=20
  ·exact YT bH cH nH S bR cR nR V0 bA cA V z c op imm di ia ib q (by omega) (by omega) (by omega) w lH lR h1 h2 hok hik os
  ·exact Xd bH cH nH S bR cR nR V0 bA cA V z c op imm di ia ib q (by omega) (by omega) (by omega) w lH lR h1 h2 hok hik o1 (by omega) n0 n1 n2
 refine hx.mono ?_;rintro e w'⟨err,V',z',c',hy,ha,ho,hb⟩;exact⟨err,V',z',c',hy,ha,fun _ _=>ho,hb⟩
theorem CJ{p:Nat}{o:Obj}(h:u.heap[q]?=some o)(f:Fw p u u')(hp:p≠q):u'.heap[q]?=some o:=(f.block q (jH.1 h).1 (fun e=>hp e.symm)).trans h
theorem Bb{o:Obj}(h:u.heap[q]?=some o):q<u.heap.size:=(jH.1 h).1
theorem Aw{o:Obj}(h:u.heap[q]?=some o)(f:Below u.heap.size u u'):u'.heap[q]?=some o:=(f.block q (Bb h)).trans h
theorem BJ{row:Option Nat}{o:Obj}(h:u.heap[q]?=some o)(hg:u.grownBy u' row)(hn:row≠some q):u'.heap[q]?=some o:=(hg.block q (Bb h) (fun e=>hn e.symm)).trans h
theorem Am{B:Nat}{e s n':Nat}{v':Value}{xs:List Value}{BZ:Array Value}(hx:u.heap[q]?=some (.cells BZ t))(h2:u.ownsRow B e s v' n' xs)(he:t≠e):v'.ownBlock≠some q:=fun e1=>by
 rcases h2.2 with⟨h',_⟩|⟨g,cap,cur,h',_,h4,_⟩
 ·rw[h']at e1;cases e1
 ·rw[h']at e1
  have e2:=Option.some.inj e1;subst e2;rw[hx]at h4;exact he (Obj.cells.inj (Option.some.inj h4)).2.1
def V3(u:World)(b t:Nat)(x y z:Value):Prop:=u.heap[b]?=some (.cells #[x,y,z] t)
theorem V3.cells(h:V3 u b t x y z):u.cell? (Va b 0)=some x/\u.cell? (Va b 1)=some y/\u.cell? (Va b 2)=some z:=⟨(AY h 0).trans rfl,(AY h 1).trans rfl,(AY h 2).trans rfl⟩
theorem V3.lt(h:V3 u b t x y z):b<u.heap.size:=Bb h
theorem V3.free(h:V3 u b t x y z):∀i,u.frozen? (Va b i)=false:=Cr h
theorem V3.below(h:V3 u b t x y z)(f:Below u.heap.size u u'):V3 u' b t x y z:=Aw h f
theorem V3.put(h:V3 u b t x y z)(hq:b≠q)(j:Nat)(v:Value):V3 (u.setCell (Va q j) v) b t x y z:=Av h hq j v
theorem V3.set(h:V3 u b t x y z)(x' y' z':Value):V3 (((u.setCell (Va b 0) x').setCell (Va b 1) y').setCell (Va b 2) z') b t x' y' z':=Ci (Ci (Ci h 0 x') 1 y') 2 z'
theorem V3.set0(h:V3 u b t x y z)(x':Value):V3 (u.setCell (Va b 0) x') b t x' y z:=Ci h 0 x'
theorem V3.new(u:World)(t:Nat)(x y z:Value):V3 (u.alloc (.cells #[x,y,z] t)) u.heap.size t x y z:=Bh u _
def Ng(a b:Int):Int:=if a=0∨b=0 then 0 else if a=2∨b=2 then 2 else 1
theorem Xu(a b:Int):0<=Ng a b/\Ng a b<=2:=by unfold Ng;split<;>(try split)<;>omega
theorem Dk(a b:Int)(w:World):Calls Tryz.prog 160 #[Vi a,Vi b] w fun e w'=>e=.returned (Vi (Ng a b))/\w'=w:=by
 go_enter Tryz.func160,Tryz.ntmps160;go_wp2;all_goals(go_ret;refine⟨Bp ?_,rfl⟩;simp_all[Ng])
theorem JC(ao:Option Addr)(n cap:Nat)(z c cond:Int)(w:World):Calls Tryz.prog 133 #[.agg #[.slice ao n cap,Vi z,Vi c],Vi cond] w fun e w'=>(∃r:Int,e=.returned (Vi r))/\Below w.heap.size w w':=by
 go_enter Tryz.func133,Tryz.ntmps133;go_wp2;all_goals(go_ret;exact⟨⟨_,rfl⟩,Ak⟩)
def DC(err at':Int)(v:Value)(z c rounds:Int):Value:=.agg #[Vi err,Vi at',v,Vi z,Vi c,Vi rounds]
theorem GH(err at' rounds:Int)(w:World):Calls Tryz.prog 166 #[Vi err,Vi at',Vi rounds] w fun e w'=>e=.returned (DC err at' (.slice none 0 0) 0 0 rounds)/\Below w.heap.size w w':=by
 go_enter Tryz.func166,Tryz.ntmps166;go_wp2;refine bodyPost_ret (v:=DC err at' (.slice none 0 0) 0 0 rounds) (by simp[results,Tryz.results166,go_sem,DC]) rfl ⟨rfl,?_⟩;exact Ak
theorem ML{n:Nat}{V:Nat->VV}(h:A9 u b (n*6) (vF V))(hq:q<n):u.cell? (Va b (q*6))=some (Vi (V q).k)/\u.cell? (Va b (q*6+1))=some (.bool (V q).s)/\u.cell? (Va b (q*6+2))=some (Vi (V q).m)/\u.cell? (Va b (q*6+3))=some (Vi (V q).h)/\u.cell? (Va b (q*6+4))=some (Vi (V q).lo)/\u.cell? (Va b (q*6+5))=some (Vi (V q).hi):=
 ⟨(h.cell (i:=q*6+0) (by omega)).trans (congrArg some (BH V q 0 (by omega))),(h.cell (i:=q*6+1) (by omega)).trans (congrArg some (BH V q 1 (by omega))),(h.cell (i:=q*6+2) (by omega)).trans (congrArg some (BH V q 2 (by omega))),(h.cell (i:=q*6+3) (by omega)).trans (congrArg some (BH V q 3 (by omega))),(h.cell (i:=q*6+4) (by omega)).trans (congrArg some (BH V q 4 (by omega))),(h.cell (i:=q*6+5) (by omega)).trans (congrArg some (BH V q 5 (by omega)))⟩
theorem UU(bA cA:Nat)(V:Nat->VV)(z c:Int)(bB cB:Nat)(U:Nat->VV)(z' c':Int)(w:World)(hA:A9 w bA (8*6) (vF V))(hB:A9 w bB (8*6) (vF U)):
 Calls Tryz.prog 199 #[.agg #[Vs bA 8 cA,Vi z,Vi c],.agg #[Vs bB 8 cB,Vi z',Vi c']] w fun e w'=>(∃r:Bool,e=.returned (.bool r))/\Below w.heap.size w w':=by
 have HA:=hxy hA;have HB:=hxy hB;clear hA hB;go_enter Tryz.func199,Tryz.ntmps199;go_upto_region 1 with fail;obtain⟨u,hu,pa,pb,bu⟩:∃y,(w.alloc (.cells #[Vs bA 8 cA,Vi z,Vi c] 136)).alloc (.cells #[Vs bB 8 cB,Vi z',Vi c'] 136)=y/\V3 y w.heap.size 136 (Vs bA 8 cA) (Vi z) (Vi c)/\V3 y (w.heap.size+1) 136 (Vs bB 8 cB) (Vi z') (Vi c')/\Below w.heap.size w y:=by
  refine⟨_,rfl,(V3.new _ _ _ _ _).below Ak,?_,(Ak).alloc (by simp) _⟩;have:=V3.new (w.alloc (.cells #[Vs bA 8 cA,Vi z,Vi c] 136)) 136 (Vs bB 8 cB) (Vi z') (Vi c');simpa using this
 rw[hu];have RA:=hxy (HA.out.below bu HA.out.lt);have RB:=hxy (HB.out.below bu HB.out.lt);have BU:=hxy bu;obtain⟨a0,a1,a2⟩:=pa.cells;obtain⟨b0,b1,b2⟩:=pb.cells;have al:=pa.lt;have bl:=pb.lt;have PA:=hxy pa;have PB:=hxy pb;clear hu pa pb bu;obtain⟨ba,hba⟩:=Ae w.heap.size;obtain⟨bb,hbb⟩:=Ae (w.heap.size+1);rw[hbb]at PB b0 b1 b2 bl⊢;rw[hba]at PA a0 a1 a2 al⊢;go_wp2
 ·go_ret
  exact⟨⟨_,rfl⟩,BU.out⟩
 rotate_left
 ·go_ret
  exact⟨⟨_,rfl⟩,BU.out⟩
 clear a0 a1 a2 b0 b1 b2 al bl;go_loopw [5](fun i wr=>∃k:Nat,k<=8/\i=Vi k/\Below u.heap.size u wr)(fun i _=>8-(intOf i).toNat)
 case atStart=>exact⟨0,by omega,rfl,Below.refl _ _⟩
 case round=>
  obtain⟨k,hk,rfl,hbr⟩:=hrel;have HBR:=hxy hbr;by_cases hlt:k<8
  ·obtain⟨a0,_,_⟩:=(PA.out.below hbr).cells
   obtain⟨b0,_,_⟩:=(PB.out.below hbr).cells;have al:=(PA.out.below hbr).lt;have bl:=(PB.out.below hbr).lt;obtain⟨g0,g1,g2,g3,g4,g5⟩:=ML (RA.out.below hbr RA.out.lt) hlt;obtain⟨q0,q1,q2,q3,q4,q5⟩:=ML (RB.out.below hbr RB.out.lt) hlt;have gl:=(RA.out.below hbr RA.out.lt).lt;have ql:=(RB.out.below hbr RB.out.lt).lt;have hlt':(k:Int)<8:=by omega
   clear hbr;obtain⟨x,hx⟩:∃y:VV,V k=y:=⟨_,rfl⟩
   obtain⟨y,hy⟩:∃y:VV,U k=y:=⟨_,rfl⟩
   rw[hx]at g0 g1 g2 g3 g4 g5;rw[hy]at q0 q1 q2 q3 q4 q5;obtain⟨x0,x1,x2,x3,x4,x5⟩:=x;obtain⟨y0,y1,y2,y3,y4,y5⟩:=y;dsimp only at g0 g1 g2 g3 g4 g5 q0 q1 q2 q3 q4 q5;clear hx hy;by_cases e0:x0=y0
   rotate_left
   ·have f0:(x0==y0)=false:=by simpa using e0
    go_wp2_with fail;go_quiet(fail);clear g0 g1 g2 g3 g4 g5 q0 q1 q2 q3 q4 q5 a0 b0 al bl gl ql;go_wp2;go_ret;exact⟨⟨_,rfl⟩,BU.out.trans ((HBR.out.trans (below_drewN (Below.refl _ _) _)).mono BU.out.size)⟩
   subst e0;by_cases e1:x1=y1
   rotate_left
   ·have f1:(x1==y1)=false:=by simpa using e1
    go_wp2_with fail;go_quiet(fail);clear g0 g1 g2 g3 g4 g5 q0 q1 q2 q3 q4 q5 a0 b0 al bl gl ql;go_wp2;go_ret;exact⟨⟨_,rfl⟩,BU.out.trans ((HBR.out.trans (below_drewN (Below.refl _ _) _)).mono BU.out.size)⟩
   subst e1;by_cases e2:x2=y2
   rotate_left
   ·have f2:(x2==y2)=false:=by simpa using e2
    go_wp2_with fail;go_quiet(fail);clear g0 g1 g2 g3 g4 g5 q0 q1 q2 q3 q4 q5 a0 b0 al bl gl ql;go_wp2;go_ret;exact⟨⟨_,rfl⟩,BU.out.trans ((HBR.out.trans (below_drewN (Below.refl _ _) _)).mono BU.out.size)⟩
   subst e2;by_cases e3:x3=y3
   rotate_left
   ·have f3:(x3==y3)=false:=by simpa using e3
    go_wp2_with fail;go_quiet(fail);clear g0 g1 g2 g3 g4 g5 q0 q1 q2 q3 q4 q5 a0 b0 al bl gl ql;go_wp2;go_ret;exact⟨⟨_,rfl⟩,BU.out.trans ((HBR.out.trans (below_drewN (Below.refl _ _) _)).mono BU.out.size)⟩
   subst e3;by_cases e4:x4=y4
   rotate_left
   ·have f4:(x4==y4)=false:=by simpa using e4
    go_wp2_with fail;go_quiet(fail);clear g0 g1 g2 g3 g4 g5 q0 q1 q2 q3 q4 q5 a0 b0 al bl gl ql;go_wp2;go_ret;exact⟨⟨_,rfl⟩,BU.out.trans ((HBR.out.trans (below_drewN (Below.refl _ _) _)).mono BU.out.size)⟩
   subst e4;by_cases e5:x5=y5
   rotate_left
   ·have f5:(x5==y5)=false:=by simpa using e5
    go_wp2_with fail;go_quiet(fail);clear g0 g1 g2 g3 g4 g5 q0 q1 q2 q3 q4 q5 a0 b0 al bl gl ql;go_wp2;go_ret;exact⟨⟨_,rfl⟩,BU.out.trans ((HBR.out.trans (below_drewN (Below.refl _ _) _)).mono BU.out.size)⟩
   subst e5;go_wp2_with fail;go_quiet(fail);clear g0 g1 g2 g3 g4 g5 q0 q1 q2 q3 q4 q5 a0 b0 al bl gl ql;go_wp2;go_roundw
   case rel=>exact⟨k+1,by omega,by go_num,HBR.out.trans (below_drewN (Below.refl _ _) _)⟩
   case measure=>simp[intOf];omega
  ·go_wp2
   go_ret;exact⟨⟨_,rfl⟩,BU.out.trans (hbr.mono BU.out.size)⟩
end Go.Proofs.YtfpeecaaleijcaaGreatDoor
namespace Go.Proofs.YtfpeecaaleijcaaGreatDoor
open Go.RowKit Go.Deep
variable {row:Option Nat}{u u':World}
def iY(nH:Nat)(S:Nat->HS)(V0:Nat->VV)(w:World)(e:Ending)(w':World):Prop:=
 ∃(g cg:Nat)(V':Nat->VV)(z' c':Int),e=.returned (.agg #[Vs g 8 cg,Vi z',Vi c'])/\w.heap.size<=g/\A9 w' g (8*6) (vF V')/\BA nH S 8 V0 8 V' z' c'=true/\Below w.heap.size w w'
def UQ(x:VV):List Value:=[Vi x.k,.bool x.s,Vi x.m,Vi x.h,Vi x.lo,Vi x.hi]
theorem Tt(V:Nat->VV)(k:Nat):first (k*6) (vF V)++UQ (V k)=first ((k+1)*6) (vF V):=by
 unfold first
 rw[show(k+1)*6=k*6+1+1+1+1+1+1 by omega];simp only[List.range_succ,List.map_append,List.append_assoc,List.map_cons,List.map_nil];rw[<-Nat.add_zero (k*6),BH V k 0 (by omega)];simp only[Nat.add_zero];rw[BH V k 1 (by omega),BH V k 2 (by omega),BH V k 3 (by omega),BH V k 4 (by omega),BH V k 5 (by omega)];rfl
def Tn(row:Option Nat)(u u':World):Prop:=∀q,q<u.heap.size->row≠some q->u'.heap[q]?=u.heap[q]?
theorem Tn.of(h:Below u.heap.size u u'):Tn row u u':=fun q hq _=>h.block q hq
theorem Tn.grown{u'':World}(h:Below u.heap.size u u')(g:u'.grownBy u'' row):Tn row u u'':=fun q hq hn=>(g.block q (jI hq h.size) (fun e=>hn e.symm)).trans (h.block q hq)
theorem V3.tn{b t:Nat}{x y z:Value}(h:V3 u b t x y z)(f:Tn row u u')(hn:row≠some b):V3 u' b t x y z:=(f b h.lt hn).trans h
theorem A9.tn{b n:Nat}{g:Nat->Value}(h:A9 u b n g)(f:Tn row u u')(hn:row≠some b):∀i,i<n->u'.cell? (Va b i)=some (g i):=fun i hi=>(World.cell?_of_block (a:=Va b i) (f b h.lt hn)).trans (h.cell hi)
theorem Ba{B e s n q:Nat}{v:Value}{xs:List Value}(h:u.ownsRow B e s v n xs)(hq:v.ownBlock=some q):B<=q:=by
 rcases h.2 with⟨h',_⟩|⟨g,cap,cur,h',h1,_⟩
 ·rw[h']at hq;cases hq
 ·rw[h']at hq
  have:g=q:=Option.some.inj hq;omega
structure JX(w:World)(bA cA:Nat)(z c:Int)(bB cB:Nat)(z' c':Int)(ba bb br bo k:Nat)(v:Value)(J:Nat->VV)(u:World):Prop where
 bel:Below w.heap.size w u
 A:V3 u ba 136 (Vs bA 8 cA) (Vi z) (Vi c)
 B:V3 u bb 136 (Vs bB 8 cB) (Vi z') (Vi c')
 R:V3 u br 136 (.slice none 0 0) (Vi 0) (Vi 0)
 O:V3 u bo 136 v (Vi (Ng z z')) (Vi (Ng c c'))
 row:u.ownsRow w.heap.size 42 6 v k (first (k*6) (vF J))
 o1:w.heap.size=ba
 o2:ba<bb
 o3:bb<br
 o4:br<bo
theorem JX.below{w:World}{bA cA:Nat}{z c:Int}{bB cB:Nat}{z' c':Int}{ba bb br bo k:Nat}{v:Value}{J:Nat->VV}(h:JX w bA cA z c bB cB z' c' ba bb br bo k v J u)(f:Below u.heap.size u u'):JX w bA cA z c bB cB z' c' ba bb br bo k v J u':=
 ⟨h.bel.trans (f.mono h.bel.size),h.A.below f,h.B.below f,h.R.below f,h.O.below f,Ah h.row f,h.o1,h.o2,h.o3,h.o4⟩
theorem JE(nH:Nat)(S:Nat->HS)(V0:Nat->VV)(bA cA:Nat)(V:Nat->VV)(z c:Int)(bB cB:Nat)(U:Nat->VV)(z' c':Int)(w:World)(hA:A9 w bA (8*6) (vF V))(hB:A9 w bB (8*6) (vF U))(k1:BA nH S 8 V0 8 V z c=true)(k2:BA nH S 8 V0 8 U z' c'=true):
 Calls Tryz.prog 134 #[.agg #[Vs bA 8 cA,Vi z,Vi c],.agg #[Vs bB 8 cB,Vi z',Vi c']] w (iY nH S V0 w):=by
 have HA:=hxy hA;have HB:=hxy hB;have HOK:Hid (BA nH S 8 V0 8 (fun i=>Iq (V i) (U i)) (Ng z z') (Ng c c')=true):=(by
  obtain⟨q1,_,q3,_,_⟩:=DK.1 k1;obtain⟨_,_,r3,_,_⟩:=DK.1 k2;exact DK.2 ⟨q1,rfl,fun i hi=>Us (q3 i hi) (r3 i hi),Xu _ _,Xu _ _⟩:BA nH S 8 V0 8 (fun i=>Iq (V i) (U i)) (Ng z z') (Ng c c')=true)
 obtain⟨J,hJ⟩:∃y:Nat->VV,(fun i=>Iq (V i) (U i))=y:=⟨_,rfl⟩
 rw[hJ]at HOK;have HJ:Hid (∀i,J i=Iq (V i) (U i)):=fun i=>by rw[<-hJ]
 obtain⟨iV,gV,gV0,gV1,gV2⟩:=info_parts LM;have HIV:Hid (_/\_/\_/\_):=⟨gV,gV0,gV1,gV2⟩
 clear hA hB k1 k2 hJ gV gV0 gV1 gV2;go_enter Tryz.func134,Tryz.ntmps134;go_upto_region 1 with fail;obtain⟨u,hu,pa,pb,pr,bu⟩:∃y,((w.alloc (.cells #[Vs bA 8 cA,Vi z,Vi c] 136)).alloc (.cells #[Vs bB 8 cB,Vi z',Vi c'] 136)).alloc (.cells #[.slice none 0 0,Vi 0,Vi 0] 136)=y/\V3 y w.heap.size 136 (Vs bA 8 cA) (Vi z) (Vi c)/\V3 y (w.heap.size+1) 136 (Vs bB 8 cB) (Vi z') (Vi c')/\V3 y (w.heap.size+1+1) 136 (.slice none 0 0) (Vi 0) (Vi 0)/\Below w.heap.size w y:=by
  have n0:=V3.new w 136 (Vs bA 8 cA) (Vi z) (Vi c);generalize hx:w.alloc (.cells #[Vs bA 8 cA,Vi z,Vi c] 136)=x at *;have s0:x.heap.size=w.heap.size+1:=by rw[<-hx];simp
  have b0:Below w.heap.size w x:=by rw[<-hx];exact Ak
  have n1:=V3.new x 136 (Vs bB 8 cB) (Vi z') (Vi c');generalize hy:x.alloc (.cells #[Vs bB 8 cB,Vi z',Vi c'] 136)=y at *;have s1:y.heap.size=w.heap.size+1+1:=by rw[<-hy];simp[s0]
  have b1:Below x.heap.size x y:=by rw[<-hy];exact Ak
  have n2:=V3.new y 136 (.slice none 0 0) (Vi 0) (Vi 0);have b2:Below y.heap.size y (y.alloc (.cells #[.slice none 0 0,Vi 0,Vi 0] 136)):=Ak;rw[s0]at n1;rw[s1]at n2;exact⟨_,rfl,(n0.below b1).below b2,n1.below b2,n2,(b0.trans (b1.mono (by omega))).trans (b2.mono (by omega))⟩
 rw[hu];obtain⟨ba,hba⟩:=Ae w.heap.size;obtain⟨bb,hbb⟩:=Ae (w.heap.size+1);obtain⟨br,hbr⟩:=Ae (w.heap.size+1+1);rw[hbr]at pr⊢;rw[hbb]at pb⊢;rw[hba]at pa⊢;have hbz:br<u.heap.size:=pr.lt;have BO:Hid (w.heap.size=ba/\ba<bb/\bb<br):=⟨hba,by omega,by omega⟩
 have PA:=hxy pa;have PB:=hxy pb;have PR:=hxy pr;have BU:=hxy bu;clear hu pa pb pr bu hba hbb hbr;go_cut [2,3,4,5](fun s2 s3 s4 s5 wx=>s2=Vq ba/\s3=Vq bb/\s4=Vq br/\∃bo,s5=Vq bo/\JX w bA cA z c bB cB z' c' ba bb br bo 0 (.slice none 0 0) J wx)
 case first=>
  have a1:∀w',Below u.heap.size u w'->w'.cell? (Va ba 1)=some (Vi z):=fun w' h=>(PA.out.below h).cells.2.1
  have a2:∀w',Below u.heap.size u w'->w'.cell? (Va ba 2)=some (Vi c):=fun w' h=>(PA.out.below h).cells.2.2
  have b1:∀w',Below u.heap.size u w'->w'.cell? (Va bb 1)=some (Vi z'):=fun w' h=>(PB.out.below h).cells.2.1
  have b2:∀w',Below u.heap.size u w'->w'.cell? (Va bb 2)=some (Vi c'):=fun w' h=>(PB.out.below h).cells.2.2
  have END:Hid (∀t:World,Below u.heap.size u t->JX w bA cA z c bB cB z' c' ba bb br t.heap.size 0 (.slice none 0 0) J (t.alloc (.cells #[.slice none 0 0,Vi (Ng z z'),Vi (Ng c c')] 136))):=fun t ht=>by
   have hz:=ht.size;have bz:=BU.out.size;have bn:Below t.heap.size t (t.alloc (.cells #[.slice none 0 0,Vi (Ng z z'),Vi (Ng c c')] 136)):=Ak;exact⟨(BU.out.trans (ht.mono bz)).trans (bn.mono (by omega)),(PA.out.below ht).below bn,(PB.out.below ht).below bn,(PR.out.below ht).below bn,V3.new _ _ _ _ _,World.ownsRow_nil _ _ _ _,BO.out.1,BO.out.2.1,BO.out.2.2,by omega⟩
  refine wp_region_held_drew (S:=fun w'=>Below u.heap.size u w') (by kernel_rfl) (Below.refl _ _).drew (fun _=>?_);refine AB 0 rfl ?_;refine AB 1 rfl ?_;refine AB 2 rfl ?_;refine AB 3 rfl ?_;refine AB 5 rfl ?_;refine AB 6 rfl ?_;refine AB 7 rfl ?_;refine AB 8 rfl ?_;have hbd:Below u.heap.size u u.drew:=(Below.refl _ _).drew;generalize u.drew=t0 at hbd⊢;refine wpAnyH_ready (rs:=[4,11]) (by kernel_rfl) (by simp) ?_;refine AllReadyH.cons rfl (fun KK hK=>?_) (AllReadyH.cons rfl (fun KK hK=>?_) AllReadyH.nil)
  ·skip
   go_simp;refine(Dk _ _ _).mono ?_;rintro e w1⟨rfl,hw⟩;rw[hw];clear hw;refine hK.out _ _ hbd (fun _=>?_);clear hK KK;try go_frame
   refine wpAnyH_ready (rs:=[9,11]) (by kernel_rfl) (by simp) ?_;refine AllReadyH.cons rfl (fun KK hK=>?_) (AllReadyH.cons rfl (fun KK hK=>?_) AllReadyH.nil)
   ·skip
    go_simp;refine(Dk _ _ _).mono ?_;rintro e w1⟨rfl,hw⟩;rw[hw]
    clear hw
    refine hK.out _ _ hbd (fun _=>?_)
    clear hK KK
    try go_frame
    refine AB 10 rfl ?_
    refine AO 11 rfl (fun KK hK=>?_)
    go_simp
    refine hK.out _ _ (hbd.alloc hbd.size _) (fun _=>?_)
    clear hK KK
    try go_frame
    refine AO 12 rfl (fun KK hK=>?_)
    go_simp
    refine hK.out _ _ (hbd.alloc hbd.size _) (fun _=>?_)
    clear hK KK
    try go_frame
    refine wpAnyH_done (by kernel_rfl) ?_ _
    go_wp2_with fail
    go_meet
    exact⟨rfl,rfl,rfl,_,rfl,END.out t0 hbd⟩
   ·skip
    go_simp
    refine hK.out _ _ (hbd.alloc hbd.size _) (fun _=>?_)
    clear hK KK
    try go_frame
    refine AO 9 rfl (fun KK hK=>?_)
    go_simp
    refine(Dk _ _ _).mono ?_
    rintro e w1⟨rfl,hw⟩
    rw[hw]
    clear hw
    refine hK.out _ _ (hbd.alloc hbd.size _) (fun _=>?_)
    clear hK KK
    try go_frame
    refine AB 10 rfl ?_
    refine AO 12 rfl (fun KK hK=>?_)
    go_simp
    refine hK.out _ _ (hbd.alloc hbd.size _) (fun _=>?_)
    clear hK KK
    try go_frame
    refine wpAnyH_done (by kernel_rfl) ?_ _
    go_wp2_with fail
    go_meet
    exact⟨rfl,rfl,rfl,_,rfl,END.out t0 hbd⟩
  ·skip
   go_simp
   refine hK.out _ _ (hbd.alloc hbd.size _) (fun _=>?_)
   clear hK KK
   try go_frame
   refine AO 4 rfl (fun KK hK=>?_)
   go_simp
   refine(Dk _ _ _).mono ?_
   rintro e w1⟨rfl,hw⟩
   rw[hw]
   clear hw
   refine hK.out _ _ (hbd.alloc hbd.size _) (fun _=>?_)
   clear hK KK
   try go_frame
   refine AO 9 rfl (fun KK hK=>?_)
   go_simp
   refine(Dk _ _ _).mono ?_
   rintro e w1⟨rfl,hw⟩
   rw[hw]
   clear hw
   refine hK.out _ _ (hbd.alloc hbd.size _) (fun _=>?_)
   clear hK KK
   try go_frame
   refine AB 10 rfl ?_
   refine AO 12 rfl (fun KK hK=>?_)
   go_simp
   refine hK.out _ _ (hbd.alloc hbd.size _) (fun _=>?_)
   clear hK KK
   try go_frame
   refine wpAnyH_done (by kernel_rfl) ?_ _
   go_wp2_with fail
   go_meet
   exact⟨rfl,rfl,rfl,_,rfl,END.out t0 hbd⟩
 case rest=>
 obtain⟨rfl,rfl,rfl,bo,rfl,fx⟩:=hcut
 have X0:=hxy fx
 clear fx PA PB PR BU
 generalize wc=u1 at X0⊢
 go_wp2_with fail
 go_loopw [6](fun iv wr=>∃(k:Nat)(v:Value),iv=Vi k/\k<=8/\JX w bA cA z c bB cB z' c' ba bb br bo k v J wr)(fun iv _=>8-(intOf iv).toNat)
 case atStart=>exact⟨0,_,rfl,by omega,X0.out⟩
 case round=>
  clear X0
  obtain⟨k,v,rfl,hk,x⟩:=hrel
  have X:=hxy x
  clear x
  obtain⟨va,vc,hv⟩:=II X.out.row
  subst hv
  by_cases hlt:k<8
  rotate_left
  ·obtain rfl:k=8:=by omega
   obtain⟨g,cg,hv⟩:=Fv X.out.row (by omega)
   obtain⟨rfl,rfl⟩:va=some ⟨g,0,none⟩/\vc=cg:=by simpa using hv
   have RW:=hxy X.out.row
   obtain⟨c0,c1,c2⟩:=X.out.O.cells
   obtain⟨r0,r1,r2⟩:=X.out.R.cells
   have rf:=X.out.R.free
   have rl:=X.out.R.lt
   have ol:=X.out.O.lt
   have hne:g≠br:=fun e=>Am X.out.R RW.out (by decide) (by rw[e];rfl)
   have wbr:w.heap.size<=br:=by have:=X.out.o1;have:=X.out.o2;have:=X.out.o3;omega
   have BEL:=hxy X.out.bel
   have rg:w.heap.size<=g:=(RW.out.lt _ rfl).1
   clear X hv
   go_wp2_with fail
   refine bodyPost_ret (v:=.agg #[Vs g 8 vc,Vi (Ng z z'),Vi (Ng c c')]) (by simp[results,Tryz.results134,go_sem, *]) rfl ⟨g,vc,J,Ng z z',Ng c c',rfl,rg,?_,HOK.out,?_⟩
   ·exact(((QN RW.out).other (a:=Va br 0) (fun e=>hne e.symm) _).other (a:=Va br 1) (fun e=>hne e.symm) _).other (a:=Va br 2) (fun e=>hne e.symm) _
   ·(iterate 3 refine Below.setCell ?_ wbr _)
    exact BEL.out
  have hlt':(k:Int)<8:=by omega
  have wbo:bo<wr.heap.size:=X.out.O.lt
  have wl:w.heap.size<=wr.heap.size:=X.out.bel.size
  have wo:w.heap.size<=bo:=by have:=X.out.o1;have:=X.out.o2;have:=X.out.o3;have:=X.out.o4;omega
  have RA:=hxy (HA.out.below X.out.bel HA.out.lt)
  have RB:=hxy (HB.out.below X.out.bel HB.out.lt)
  have n0:(Value.slice va k vc).ownBlock≠some ba:=Am X.out.A X.out.row (by decide)
  have n1:(Value.slice va k vc).ownBlock≠some bb:=Am X.out.B X.out.row (by decide)
  have n2:(Value.slice va k vc).ownBlock≠some br:=Am X.out.R X.out.row (by decide)
  have n3:(Value.slice va k vc).ownBlock≠some bo:=Am X.out.O X.out.row (by decide)
  have n4:(Value.slice va k vc).ownBlock≠some bA:=fun e=>by have:=Ba X.out.row e;have:=HA.out.lt;omega
  have n5:(Value.slice va k vc).ownBlock≠some bB:=fun e=>by have:=Ba X.out.row e;have:=HB.out.lt;omega
  have NE:Hid ((Value.slice va k vc).ownBlock≠some ba/\(Value.slice va k vc).ownBlock≠some bb/\(Value.slice va k vc).ownBlock≠some br/\(Value.slice va k vc).ownBlock≠some bo):=⟨n0,n1,n2,n3⟩
  obtain⟨row,hrow⟩:=Ae ((Value.slice va k vc).ownBlock)
  rw[hrow]at n0 n1 n2 n3 n4 n5
  have HRW:=hxy hrow
  clear hrow
  have o0:∀w',Tn row wr w'->w'.cell? (Va bo 0)=some (.slice va k vc):=fun w' h=>(X.out.O.tn h n3).cells.1
  have a0:∀w',Tn row wr w'->w'.cell? (Va ba 0)=some (Vs bA 8 cA):=fun w' h=>(X.out.A.tn h n0).cells.1
  have b0:∀w',Tn row wr w'->w'.cell? (Va bb 0)=some (Vs bB 8 cB):=fun w' h=>(X.out.B.tn h n1).cells.1
  have g0:∀w',Tn row wr w'->w'.cell? (Va bA (k*6))=some (Vi (V k).k):=fun w' h=>(RA.out.tn h n4 (k*6+0) (by omega)).trans (congrArg some (BH V k 0 (by omega)))
  have g1:∀w',Tn row wr w'->w'.cell? (Va bA (k*6+1))=some (.bool (V k).s):=fun w' h=>(RA.out.tn h n4 (k*6+1) (by omega)).trans (congrArg some (BH V k 1 (by omega)))
  have g2:∀w',Tn row wr w'->w'.cell? (Va bA (k*6+2))=some (Vi (V k).m):=fun w' h=>(RA.out.tn h n4 (k*6+2) (by omega)).trans (congrArg some (BH V k 2 (by omega)))
  have g3:∀w',Tn row wr w'->w'.cell? (Va bA (k*6+3))=some (Vi (V k).h):=fun w' h=>(RA.out.tn h n4 (k*6+3) (by omega)).trans (congrArg some (BH V k 3 (by omega)))
  have g4:∀w',Tn row wr w'->w'.cell? (Va bA (k*6+4))=some (Vi (V k).lo):=fun w' h=>(RA.out.tn h n4 (k*6+4) (by omega)).trans (congrArg some (BH V k 4 (by omega)))
  have g5:∀w',Tn row wr w'->w'.cell? (Va bA (k*6+5))=some (Vi (V k).hi):=fun w' h=>(RA.out.tn h n4 (k*6+5) (by omega)).trans (congrArg some (BH V k 5 (by omega)))
  have q0:∀w',Tn row wr w'->w'.cell? (Va bB (k*6))=some (Vi (U k).k):=fun w' h=>(RB.out.tn h n5 (k*6+0) (by omega)).trans (congrArg some (BH U k 0 (by omega)))
  have q1:∀w',Tn row wr w'->w'.cell? (Va bB (k*6+1))=some (.bool (U k).s):=fun w' h=>(RB.out.tn h n5 (k*6+1) (by omega)).trans (congrArg some (BH U k 1 (by omega)))
  have q2:∀w',Tn row wr w'->w'.cell? (Va bB (k*6+2))=some (Vi (U k).m):=fun w' h=>(RB.out.tn h n5 (k*6+2) (by omega)).trans (congrArg some (BH U k 2 (by omega)))
  have q3:∀w',Tn row wr w'->w'.cell? (Va bB (k*6+3))=some (Vi (U k).h):=fun w' h=>(RB.out.tn h n5 (k*6+3) (by omega)).trans (congrArg some (BH U k 3 (by omega)))
  have q4:∀w',Tn row wr w'->w'.cell? (Va bB (k*6+4))=some (Vi (U k).lo):=fun w' h=>(RB.out.tn h n5 (k*6+4) (by omega)).trans (congrArg some (BH U k 4 (by omega)))
  have q5:∀w',Tn row wr w'->w'.cell? (Va bB (k*6+5))=some (Vi (U k).hi):=fun w' h=>(RB.out.tn h n5 (k*6+5) (by omega)).trans (congrArg some (BH U k 5 (by omega)))
  go_upto_region 5 with fail
  refine BF (T:=fun w'=>Tn row wr w') (s:=16) (by kernel_rfl) (Tn.of (Below.refl _ _).drew) (fun hHeld=>?_)
  have hB0:Below wr.heap.size wr wr.drew:=(Below.refl _ _).drew
  generalize wr.drew=t0 at hB0 hHeld⊢
  refine AJ 0 rfl ?_
  refine AJ 1 rfl ?_
  refine AJ 2 rfl ?_
  refine AJ 3 rfl ?_
  refine AJ 4 rfl ?_
  refine AJ 5 rfl ?_
  refine AJ 6 rfl ?_
  refine AJ 7 rfl ?_
  refine AJ 8 rfl ?_
  refine AJ 9 rfl ?_
  refine AJ 10 rfl ?_
  refine AJ 11 rfl ?_
  refine Aq (i:=12) rfl (by kernel_rfl) (fun KK hK=>?_)
  go_simp
  refine(J7 _ _ _ _ _ _ _ _ _ _ _ _ _).mono ?_
  rintro e t1⟨rfl,hb1⟩
  have hB1:Below wr.heap.size wr t1:=hB0.trans (hb1.mono hB0.size)
  refine hK.out _ _ (Tn.of hB1) (fun _=>?_)
  clear hK KK hb1 hB0 hHeld
  have hj:=HJ.out k
  obtain⟨j,hje⟩:∃y:VV,J k=y:=⟨_,rfl⟩
  have HJK:=hxy hje
  rw[show(⟨(V k).k,(V k).s,(V k).m,(V k).h,(V k).lo,(V k).hi⟩:VV)=V k from rfl,show(⟨(U k).k,(U k).s,(U k).m,(U k).h,(U k).lo,(U k).hi⟩:VV)=U k from rfl,<-hj,hje]
  clear hj hje
  unfold VV.v
  try go_frame
  refine Aq (i:=13) rfl (by kernel_rfl) (fun KK hK=>?_)
  go_simp
  obtain⟨t2,ht2,hb2,HC2⟩:∃y,t1.alloc (.cells #[Vi j.k,.bool j.s,Vi j.m,Vi j.h,Vi j.lo,Vi j.hi] 42)=y/\Below t1.heap.size t1 y/\Hid (∀i x,(UQ j)[i]?=some x->y.cell? ((⟨t1.heap.size,0,none⟩:Addr).add i)=some x):=⟨_,rfl,Ak,FN t1 _ _⟩
  rw[ht2]
  have hB2:Below wr.heap.size wr t2:=hB1.trans (hb2.mono hB1.size)
  obtain⟨tb,htb⟩:=Ae t1.heap.size
  rw[htb]at HC2⊢
  refine hK.out _ _ (Tn.of hB2) (fun _=>?_)
  clear hK KK ht2 hb2 htb hB1
  try go_frame
  refine Aq (i:=14) rfl (by kernel_rfl) (fun KK hK=>?_)
  refine Gg rfl (.tmp 23) (.tmp 35) 24 rfl w.heap.size 42 iV (.agg #[Vi 0,.bool false,Vi 0,Vi 0,Vi 0,Vi 0]) 6 48 Tryz.underlying24 HIV.out.1 HIV.out.2.1 HIV.out.2.2.1 HIV.out.2.2.2 rfl (by decide) (.slice va k vc) k (first (k*6) (vF J)) rfl (Ah X.out.row hB2) ⟨tb,0,none⟩ 1 1 (UQ j) rfl rfl HC2.out ?d2 (by unfold maxLen;omega) (by omega) (by have:=hB2.size;omega) ?_
  case d2=>
   intro x hx
   simp only[UQ,List.mem_cons,List.not_mem_nil,or_false]at hx
   rcases hx with rfl|rfl|rfl|rfl|rfl|rfl<;>rfl
  intro v' t3 hown hgrow
  obtain⟨m0,m1,m2,m3⟩:=NE.out
  have X2:=X.out.below hB2
  have A3:=BJ X2.A hgrow m0
  have B3:=BJ X2.B hgrow m1
  have R3:=BJ X2.R hgrow m2
  have O3:V3 t3 bo 136 (.slice va k vc) (Vi (Ng z z')) (Vi (Ng c c')):=BJ X2.O hgrow m3
  have bel3:Below w.heap.size w t3:=X2.bel.trans ((Below.refl _ _).grown hgrow X2.bel.size (fun q hq=>Ba X.out.row hq))
  have X3:Hid (∃v'',v'=v''/\JX w bA cA z c bB cB z' c' ba bb br bo (k+1) v'' J (t3.setCell (Va bo 0) v'')):=⟨_,rfl,by
   have hown':t3.ownsRow w.heap.size 42 6 v' (k+1) (first ((k+1)*6) (vF J)):=by rw[<-Tt,HJK.out];exact hown
   refine⟨bel3.setCell (p:=Va bo 0) wo _,Av A3 (by have:=X.out.o2;have:=X.out.o3;have:=X.out.o4;omega) _ _,Av B3 (by have:=X.out.o3;have:=X.out.o4;omega) _ _,Av R3 (by have:=X.out.o4;omega) _ _,O3.set0 _,Cs hown' (Am O3 hown' (by decide)) _ _,X.out.o1,X.out.o2,X.out.o3,X.out.o4⟩⟩
  have hT3:t3.cell? (Va bo 0)=some (.slice va k vc):=O3.cells.1
  have hF3:=O3.free
  have hL3:=O3.lt
  have hT:Tn row wr t3:=Tn.grown hB2 (by rw[<-HRW.out];exact hgrow)
  obtain⟨sa,scp,rfl⟩:=II hown
  obtain⟨v'',e'',X4⟩:=X3.out
  subst e''
  have X4:=hxy X4
  refine hK.out _ _ hT (fun _=>?_)
  clear hK KK hown hgrow m0 m1 m2 m3 X2 A3 B3 R3 O3 bel3 X3 o0 a0 b0 g0 g1 g2 g3 g4 g5 q0 q1 q2 q3 q4 q5 hT hB2
  try go_frame
  refine AJ 15 rfl ?_
  refine A7 rfl (by kernel_rfl) (by kernel_rfl) (fun KK hK=>?_)
  go_simp
  refine hK.out _ _ ?_
  clear hK KK hT3 hF3 hL3
  go_wp2_with fail
  go_roundw
  case rel=>exact⟨k+1,_,by go_num,by omega,X4.out⟩
  case measure=>simp[intOf];omega
end Go.Proofs.YtfpeecaaleijcaaGreatDoor
