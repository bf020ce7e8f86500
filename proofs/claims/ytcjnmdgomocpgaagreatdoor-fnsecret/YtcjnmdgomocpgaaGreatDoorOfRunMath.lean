import Derived.Test.YtcjnmdgomocpgaaGreatDoorOfSpecAny
import Derived.Laws.AppendOwnNone
set_option maxHeartbeats 4000000
set_option maxRecDepth 100000
namespace Go.Proofs.YtcjnmdgomocpgaaGreatDoor
open Go.RowKit
variable {b:Int}{X l:Nat}
theorem Fp{M:Nat->Nat}{k C i:Nat}(h:i<k):Dt M k C i=M i:=Rb AB
theorem VG(d:Nat->Bv)(a b:Nat->Nat)(k g c:Nat):first ((k+1)*3) (CO (place d (Dt a k g) (Dt b k c)))=first (k*3) (CO (place d a b))++[.int .u64 (d k).base,.bool (d k).wr,Vs g (d k).len c]:=by
 rw[show(k+1)*3=k*3+1+1+1 by omega,UI];have e:=Iz (place d (Dt a k g) (Dt b k c)) k;rw[Nat.add_zero]at e;rw[e,JE,show k*3+1+1=k*3+2 by omega,GD];simp only[place,GL];congr 1
 refine Eh fun p j=>ND j fun i h=>?_
 simp only[place,Fp h]
theorem Mem.push{B S:World}{R:Nat->Int}{z c I J:Bool}{a:Nat->Bv}{pc st:Int}{u:Nat}{K V:Nat->Int}{D cR:Nat}{Q:Option Addr}{cH:Nat}{M Y:Nat->Nat}{N:Option Addr}{O:Nat}{k F U:Nat}{e:Option Addr}{cH':Nat}
 (h:Mem B l ⟨D,cR,Q,cH,M,Y,N,O⟩ ⟨R,z,c,I,J,k,a,pc,st,u,K,V⟩)
 (q:B.ownsRow l 5 1 (Vs F (a k).len U) (a k).len (first (a k).len (EU .u8 (a k).dat)))(r:∀i,i<k->M i≠F)
 (s:S.ownsRow l 43 3 (.slice e (k+1) cH') (k+1) (first (k*3) (CO (place a M Y))++[.int .u64 (a k).base,.bool (a k).wr,Vs F (a k).len U]))
 (m:B.grownBy S (Value.slice Q k cH).ownBlock):
 Mem S l ⟨D,cR,e,cH',Dt M k F,Dt Y k U,N,O⟩ ⟨R,z,c,I,J,k+1,a,pc,st,u,K,V⟩:=by
 refine⟨h.regs.kept m (Aj h.regs h.heaps Ad),?_,fun i n=>?_,h.obs.kept m (Aj h.obs h.heaps Ad),fun i j n y p=>?_⟩
 ·show S.ownsRow l 43 3 (.slice e (k+1) cH') (k+1) (first ((k+1)*3) (CO (place a (Dt M k F) (Dt Y k U))))
  rw[VG];exact s
 ·show S.ownsRow l 5 1 (.slice (some ⟨Dt M k F i,0,none⟩) (a i).len (Dt Y k U i)) (a i).len (first (a i).len (EU .u8 (a i).dat))
  by_cases b:i=k
  ·subst b
   rw[GL,GL];exact q.kept m (Aj q h.heaps Ad)
  ·have d:i<k:=by have:i<k+1:=n;omega
   rw[Fp d,Fp d];have:=h.data i d;exact this.kept m (Aj this h.heaps Ad)
 ·show Dt M k F i≠Dt M k F j
  have x:i<k+1:=n;have A:j<k+1:=y;by_cases b:i=k
  ·subst b
   rw[GL,Fp AB];exact Ne.symm (r j AB)
  ·by_cases o:j=k
   ·subst o
    rw[GL,Fp AB];exact r i AB
   ·rw[Fp AB,Fp AB]
    exact h.ne i j (by show i<k;omega) (by show j<k;omega) p
theorem KM{P:Program}{w:World}{R:Array Oper}{k:List Oper}{o:Oper}{a:Act}{Q:Exit->Act->World->Prop}(C:o.guard=none)(s x:Operand)(t:TypeId)
 (X:o.op=.call {callee:=.builtin .append,args:=#[s,x],argTypes:=#[t,t]})
 (l:Nat)(e:TypeId)(i:TypeInfo)(z:Value)(b p:Nat)(Z:P.underlying t=some (.slice e))(S:P.info? e=some i)(hz:i.zero=some z)
 (B:i.size=b)(K:i.bytes=p)(N:z.cells.size=b)(M:0<b)
 (v:Value)(n:Nat)(F:List Value)(Y:a.eval s=v)(q:w.ownsRow l e b v n F)
 (O:Option Addr)(I:Addr)(m c:Nat)(d:List Value)(hx:a.eval x=.slice O m c)(L:(O=none/\m=0/\c=0)∨O=some I)(U:d.length=m*b)(A:∀j u,d[j]?=some u->w.cell? (I.add j)=some u)(h1:∀u∈d,u.oneCell'=true)
 (J:n+m<=maxLen)(r:(n+m)*p<=140737488355328)(y:l<=w.heap.size)
 (h:∀E D,D.ownsRow l e b E (n+m) (F++d)->w.grownBy D v.ownBlock->wpList P R Q k (a.put o.dst E) D):wpList P R Q (o::k) a w:=by
 rcases L with⟨rfl,rfl,rfl⟩|rfl
 ·have hn:d=[]:=List.length_eq_zero_iff.1 (by simpa using U)
  subst hn;exact wpList_append_own_none C s x t X l e i b Z S v n F Y q hx (h v w (by simpa using q) ⟨rfl,rfl,rfl,BQ,fun _ _ _=>rfl⟩)
 ·exact wpList_append_own w C s x t X l e i z b p Z S hz B K N M v n F Y q I m c d hx U A h1 J r y (fun E D h2 h3 _=>h E D h2 h3)
theorem Wn(xR:Option Addr)(N D nR:Nat)(R:Nat->Int)(z c hz hc:Bool)(E:Option Addr)(I bH nH:Nat)(Hp:Nat->Bv)(hA:Nat->Option Addr)(hC:Nat->Nat)(pc st:Int)(F:Option Addr)(J bO nO:Nat)(K V:Nat->Int)(w:World)(bP:nR=8)(bY:nH<=8)(bZ:nO<=1048576)(aM:∀i,i<nH->1<=(Hp i).len/\(Hp i).len<=4096)(hm:Hf w xR N D nR R E I bH nH Hp hA hC F J bO nO K V):
 Ks 45 #[.agg #[.slice xR nR N,.bool z,.bool c,.bool hz,.bool hc,.slice E nH I,Vi pc,Vi st,.slice F nO J]] w fun e d=>∃p:Pl,
  e=.returned (.agg #[Vs p.bR 8 p.cR,.bool z,.bool c,.bool hz,.bool hc,.slice p.aH nH p.cH,Vi pc,Vi st,.slice p.aO nO p.cO])/\Below w.heap.size w d/\Mem d w.heap.size p {R:=R,z:=z,c:=c,hz:=hz,hc:=hc,nH:=nH,Hp:=Hp,pc:=pc,st:=st,nO:=nO,K:=K,V:=V}:=by
 subst bP;obtain rfl:xR=some ⟨D,0,none⟩:=hm.eR.some AB;obtain⟨iU,hU,bA,bB,bC⟩:=info_parts Rf;obtain⟨iO,hO,bs,bu,bv⟩:=info_parts Xf;have HM:=hxy hm;have HL:=hxy aM;clear hm aM;go_enter Tryz.func45,Tryz.ntmps45;go_upto_region 2 with fail;generalize ag:((w.alloc (.cells #[Vs D 8 N,.bool z,.bool c,.bool hz,.bool hc,.slice E nH I,Vi pc,Vi st,.slice F nO J] 39)).alloc (.cells Zq 39)).alloc (.cells #[Vs D 8 N,.bool z,.bool c,.bool hz,.bool hc,.slice E nH I,Vi pc,Vi st,.slice F nO J] 39)=L;have b0:Bw w L:=by rw[<-ag];exact((Ai).alloc AX _).alloc (by simp;omega) _
 have z0:L.heap.size=w.heap.size+3:=by rw[<-ag];simp
 have XB:L.ownsRow w.heap.size 39 9 (Vs w.heap.size 1 1) 1 [Vs D 8 N,.bool z,.bool c,.bool hz,.bool hc,.slice E nH I,Vi pc,Vi st,.slice F nO J]:=by rw[<-ag];exact((World.ownsRow_lit w #[Vs D 8 N,.bool z,.bool c,.bool hz,.bool hc,.slice E nH I,Vi pc,Vi st,.slice F nO J] 1 BQ (by unfold maxLen;omega) rfl).alloc _).alloc _
 have XZ:L.ownsRow w.heap.size 39 9 (.slice (some ⟨w.heap.size+1,0,none⟩) 1 1) 1 Zp:=by
  rw[<-ag];have:=(World.ownsRow_lit (base:=w.heap.size) (e:=39) (size:=9) (w.alloc (.cells #[Vs D 8 N,.bool z,.bool c,.bool hz,.bool hc,.slice E nH I,Vi pc,Vi st,.slice F nO J] 39)) Zq 1 AX (by unfold maxLen;omega) rfl).alloc (.cells #[Vs D 8 N,.bool z,.bool c,.bool hz,.bool hc,.slice E nH I,Vi pc,Vi st,.slice F nO J] 39);rw[World.size_alloc]at this;exact this
 have XO:L.ownsRow w.heap.size 39 9 (.slice (some ⟨w.heap.size+1+1,0,none⟩) 1 1) 1 [Vs D 8 N,.bool z,.bool c,.bool hz,.bool hc,.slice E nH I,Vi pc,Vi st,.slice F nO J]:=by
  rw[<-ag];have:=World.ownsRow_lit (base:=w.heap.size) (e:=39) (size:=9) ((w.alloc (.cells #[Vs D 8 N,.bool z,.bool c,.bool hz,.bool hc,.slice E nH I,Vi pc,Vi st,.slice F nO J] 39)).alloc (.cells Zq 39)) #[Vs D 8 N,.bool z,.bool c,.bool hz,.bool hc,.slice E nH I,Vi pc,Vi st,.slice F nO J] 1 (by simp;omega) (by unfold maxLen;omega) rfl;rw[World.size_alloc,World.size_alloc]at this;exact this
 have O:=hxy XB;have ao:=hxy XZ;have x:=hxy XO;have aj:=hxy b0;obtain⟨m0,m1,m2,m3,m4,m5,m6,m7,m8⟩:=Dl O;obtain⟨o0,o1,o2,o3,o4,o5,o6,o7,o8⟩:=Dl x;have of:∀i,L.frozen? ⟨w.heap.size+1+1,i,none⟩=false:=fun i=>x.frozenAt i
 have y0:w.heap.size<L.heap.size:=AB;have y1:w.heap.size+1<L.heap.size:=AB;have y2:w.heap.size+1+1<L.heap.size:=AB;have b4:w.heap.size+3<=L.heap.size:=AB;clear ag b0 XB XZ XO z0;go_wp2_with(first|(at_builtin;refine wpList_append_own _ rfl _ _ 35 rfl L.heap.size 41 iU (.int .u64 0) 1 8 Tryz.underlying35 hU bA bB bC rfl Ad _ 0 [] rfl (World.ownsRow_lit L #[] 0 BQ (by unfold maxLen;omega) rfl) ⟨D,0,none⟩ 8 N (first (8*1) (EU .u64 R)) rfl (Aw _ _) ?c1 ?c2 ?c3 ?c4 ?c5 ?_)|go_in)
 case c1=>
  intro j u hj;obtain⟨hm,rfl⟩:=Ca hj;rw[Addr.add_lit,Nat.zero_add];have hA:=(HM.below aj BQ).regs;exact((Ai).cell (p:=Va D j) hA.lt).trans (hA.cell AB)
 case c2=>
  intro u hu;obtain⟨j,_,rfl⟩:=Cv hu;exact rfl
 case c3=>unfold maxLen;omega
 case c4=>omega
 case c5=>simp
 intro v1 w1 ay ab _;have B1:Bw L w1:=(Ai).trans (BJ.grown ab AX (by intro k hk;simp[Value.ownBlock]at hk;omega));have aY:w1.ownsRow L.heap.size 41 1 v1 8 (first 8 (EU .u64 R)):=by simpa using ay
 obtain⟨gR,cR,bQ⟩:=G8 aY Ad;subst bQ;have aQ:=hxy aY;have U:=Av O B1;have au:=Av ao B1;have B:=Av x B1;have b1:=B1.size;have ai:Hid (Bw w w1):=aj.trans (B1.mono AB);clear ay ab aY B1 hU bA bB bC m0 m1 m2 m3 m4 m5 m6 m7 m8 o0 o1 o2 o3 o4 o5 o6 o7 o8 of y0 y1 y2;obtain⟨o0,o1,o2,o3,o4,o5,o6,o7,o8⟩:=Dl B;obtain⟨m0,m1,m2,m3,m4,m5,m6,m7,m8⟩:=Dl U;have of:∀i,w1.frozen? ⟨w.heap.size+1+1,i,none⟩=false:=fun i=>B.frozenAt i
 have y0:w.heap.size<w1.heap.size:=AB;have y2:w.heap.size+1+1<w1.heap.size:=AB;go_upto_region 3 with fail;generalize Z:w1.setCell ⟨w.heap.size+1+1,0,none⟩ (Vs gR 8 cR)=M;have bc:M.ownsRow w.heap.size 39 9 (Vs w.heap.size 1 1) 1 [Vs D 8 N,.bool z,.bool c,.bool hz,.bool hc,.slice E nH I,Vi pc,Vi st,.slice F nO J]:=by rw[<-Z];exact ownsRow_setCell_other U (by simp[Value.ownBlock];omega) _
 have bg:M.ownsRow w.heap.size 39 9 (.slice (some ⟨w.heap.size+1,0,none⟩) 1 1) 1 Zp:=by rw[<-Z];exact ownsRow_setCell_other au (by simp[Value.ownBlock]) _
 have be:M.ownsRow w.heap.size 39 9 (.slice (some ⟨w.heap.size+1+1,0,none⟩) 1 1) 1 [Vs gR 8 cR,.bool z,.bool c,.bool hz,.bool hc,.slice E nH I,Vi pc,Vi st,.slice F nO J]:=by
  rw[<-Z];exact(B.stored 0 _).1
 have a7:Hid (M.ownsRow L.heap.size 41 1 (Vs gR 8 cR) 8 (first 8 (EU .u64 R))):=by
  have hl:=aQ.lt gR rfl;show M.ownsRow _ _ _ _ _ _;rw[<-Z];exact ownsRow_setCell_other aQ (by simp[Value.ownBlock];omega) _
 have B2:Bw w M:=by rw[<-Z];exact ai.setCell (by simp;omega) _
 have z2:w1.heap.size<=M.heap.size:=by rw[<-Z];simp
 clear Z U au B aQ ai aj O ao x m0 m1 m2 m3 m4 m5 m6 m7 m8 o0 o1 o2 o3 o4 o5 o6 o7 o8 of y0 y2;have Q:=hxy bc;have ap:=hxy bg;have y:=hxy be;have ak:=hxy B2;obtain⟨m0,m1,m2,m3,m4,m5,m6,m7,m8⟩:=Dl Q;obtain⟨o0,o1,o2,o3,o4,o5,o6,o7,o8⟩:=Dl y;have of:∀i,M.frozen? ⟨w.heap.size+1+1,i,none⟩=false:=fun i=>y.frozenAt i
 have y0:w.heap.size<M.heap.size:=AB;have y1:w.heap.size+1<M.heap.size:=AB;have y2:w.heap.size+1+1<M.heap.size:=AB;clear bc bg be B2;go_wp2_with(first|(at_builtin;refine KM rfl _ _ 37 rfl M.heap.size 167 iO (.agg #[Vi 0,.int .u64 0]) 2 16 Tryz.underlying37 hO bs bu bv rfl Ad _ 0 [] rfl (World.ownsRow_lit M #[] 0 BQ (by unfold maxLen;omega) rfl) F ⟨bO,0,none⟩ nO J (first (nO*2) (Dg K V)) rfl HM.eO (Aw _ _) ?c1 ?c2 ?c3 ?c4 ?c5 ?_)|go_in)
 case c1=>
  intro j u hj;obtain⟨hm,rfl⟩:=Ca hj;rw[Addr.add_lit,Nat.zero_add];have hA:=(HM.below ak BQ).obs;exact((Ai).cell (p:=Va bO j) hA.lt).trans (hA.cell AB)
 case c2=>
  intro u hu;obtain⟨j,_,rfl⟩:=Cv hu;exact UK K V j
 case c3=>unfold maxLen;omega
 case c4=>omega
 case c5=>simp
 intro v3 w3 az ac;have B3:Bw M w3:=(Ai).trans (BJ.grown ac AX (by intro k hk;simp[Value.ownBlock]at hk;omega));have aZ:w3.ownsRow M.heap.size 167 2 v3 nO (first (nO*2) (Dg K V)):=by simpa using az
 obtain⟨aO,cO,bS⟩:=KD aZ;subst bS;have aP:=hxy aZ;have aR:=hxy (Av a7 B3);have U:=Av Q B3;have au:=Av ap B3;have B:=Av y B3;have b2:=B3.size;have ai:Hid (Bw w w3):=ak.trans (B3.mono AB);clear az ac aZ B3 hO bs bu bv a7 m0 m1 m2 m3 m4 m5 m6 m7 m8 o0 o1 o2 o3 o4 o5 o6 o7 o8 of y0 y1 y2;obtain⟨o0,o1,o2,o3,o4,o5,o6,o7,o8⟩:=Dl B;obtain⟨m0,m1,m2,m3,m4,m5,m6,m7,m8⟩:=Dl U;have of:∀i,w3.frozen? ⟨w.heap.size+1+1,i,none⟩=false:=fun i=>B.frozenAt i
 have y0:w.heap.size<w3.heap.size:=AB;have y2:w.heap.size+1+1<w3.heap.size:=AB;go_wp2_with fail;generalize C:((w3.setCell ⟨w.heap.size+1+1,8,none⟩ (.slice aO nO cO)).setCell ⟨w.heap.size+1+1,5,none⟩ (Vs w3.heap.size 0 0)).alloc (.cells #[] 43)=w4;have bd:w4.ownsRow w.heap.size 39 9 (Vs w.heap.size 1 1) 1 [Vs D 8 N,.bool z,.bool c,.bool hz,.bool hc,.slice E nH I,Vi pc,Vi st,.slice F nO J]:=by rw[<-C];exact(ownsRow_setCell_other (ownsRow_setCell_other U (by simp[Value.ownBlock];omega) _) (by simp[Value.ownBlock];omega) _).alloc _
 have bh:w4.ownsRow w.heap.size 39 9 (.slice (some ⟨w.heap.size+1,0,none⟩) 1 1) 1 Zp:=by rw[<-C];exact(ownsRow_setCell_other (ownsRow_setCell_other au (by simp[Value.ownBlock]) _) (by simp[Value.ownBlock]) _).alloc _
 have bf:w4.ownsRow w.heap.size 39 9 (.slice (some ⟨w.heap.size+1+1,0,none⟩) 1 1) 1 [Vs gR 8 cR,.bool z,.bool c,.bool hz,.bool hc,Vs w3.heap.size 0 0,Vi pc,Vi st,.slice aO nO cO]:=by
  rw[<-C];exact(((B.stored 8 _).1).stored 5 _).1.alloc _
 have lR:=aR.lt gR rfl;have R4:w4.ownsRow L.heap.size 41 1 (Vs gR 8 cR) 8 (first 8 (EU .u64 R)):=by
  rw[<-C];exact(ownsRow_setCell_other (ownsRow_setCell_other aR (by simp[Value.ownBlock];omega) _) (by simp[Value.ownBlock];omega) _).alloc _
 have a1:(Value.slice aO nO cO).ownBlock≠some (w.heap.size+1+1):=fun q=>by have:=(aP.lt _ q).1;omega
 have O4:w4.ownsRow M.heap.size 167 2 (.slice aO nO cO) nO (first (nO*2) (Dg K V)):=by
  rw[<-C];exact(ownsRow_setCell_other (ownsRow_setCell_other aP a1 _) a1 _).alloc _
 have H4:w4.ownsRow w.heap.size 43 3 (Vs w3.heap.size 0 0) 0 []:=by
  rw[<-C];have:=World.ownsRow_lit (base:=w.heap.size) (e:=43) (size:=3) ((w3.setCell ⟨w.heap.size+1+1,8,none⟩ (.slice aO nO cO)).setCell ⟨w.heap.size+1+1,5,none⟩ (Vs w3.heap.size 0 0)) #[] 0 (by simp;omega) (by unfold maxLen;omega) rfl;simpa using this
 have bL:Hid (Mem w4 w.heap.size ⟨gR,cR,some ⟨w3.heap.size,0,none⟩,0,fun _=>0,fun _=>0,aO,cO⟩ ⟨R,z,c,hz,hc,0,Hp,pc,st,nO,K,V⟩):=
  ⟨R4.mono AB,by simpa[first]using H4,fun i hi=>absurd hi (Nat.not_lt_zero _),O4.mono AB,fun i j hi=>absurd hi (Nat.not_lt_zero _)⟩
 have bK:Hid (Bw w w4):=by
  show Bw w w4;rw[<-C];exact((ai.setCell (by simp;omega) _).setCell (by simp;omega) _).alloc (by simp;omega) _
 have a9:=hxy bd;have bb:=hxy bh;have ba:=hxy bf;have z4:w3.heap.size<w4.heap.size:=by rw[<-C];simp
 clear C bd bh bf R4 O4 H4 U au B ai aR aP a1 lR m0 m1 m2 m3 m4 m5 m6 m7 m8 o0 o1 o2 o3 o4 o5 o6 o7 o8 of y0 y2 ak Q ap y;go_loopw [4](fun i wr=>∃k:Nat,k<=nH/\i=Vi k/\Bw w wr/\∃(aH:Option Addr)(cH:Nat)(X ae:Nat->Nat),wr.ownsRow w.heap.size 39 9 (Vs w.heap.size 1 1) 1 [Vs D 8 N,.bool z,.bool c,.bool hz,.bool hc,.slice E nH I,Vi pc,Vi st,.slice F nO J]/\wr.ownsRow w.heap.size 39 9 (.slice (some ⟨w.heap.size+1,0,none⟩) 1 1) 1 Zp/\wr.ownsRow w.heap.size 39 9 (.slice (some ⟨w.heap.size+1+1,0,none⟩) 1 1) 1 [Vs gR 8 cR,.bool z,.bool c,.bool hz,.bool hc,.slice aH k cH,Vi pc,Vi st,.slice aO nO cO]/\Mem wr w.heap.size ⟨gR,cR,aH,cH,X,ae,aO,cO⟩ ⟨R,z,c,hz,hc,k,Hp,pc,st,nO,K,V⟩)(fun i _=>nH-(intOf i).toNat)
 case atStart=>exact⟨0,Nat.zero_le _,rfl,bK,some ⟨w3.heap.size,0,none⟩,0,fun _=>0,fun _=>0,a9,bb,ba,bL⟩
 case round=>
  obtain⟨k,hk,rfl,bE,aH,cH,X,ae,xb,xz,xo,bF⟩:=hrel;have aD:=hxy bE;have bM:=hxy xb;have aU:=hxy xz;have aT:=hxy xo;have am:=hxy bF;have lO:=xo.lt (w.heap.size+1+1) rfl;have y2:=lO.2;have y0:w.heap.size<wr.heap.size:=AB;have y1:w.heap.size+1<wr.heap.size:=AB;have m5:wr.cell? ⟨w.heap.size,5,none⟩=some (.slice E nH I):=xb.cellAt 5 Ad;clear bE xb xz xo bF lO;by_cases aX:k<nH
  ·have bV:(k:Int)<nH:=AB
   obtain rfl:E=some ⟨bH,0,none⟩:=HM.eH.some AB;have ax:=(HM.below aD BQ).heaps;obtain⟨bD,eD,bw⟩:=(HM.below aD BQ).data k aX (by have:=(HL k aX).1;omega);have zH:=ax.lt;have c0:wr.cell? (Va bH (k*3))=some (.int .u64 (Hp k).base):=by
    have:=ax.cell (i:=k*3+0) AB;rw[Iz]at this;exact this
   have c1:wr.cell? (Va bH (k*3+1))=some (.bool (Hp k).wr):=by
    have:=ax.cell (i:=k*3+1) AB;rw[JE]at this;exact this
   have c2:wr.cell? (Va bH (k*3+2))=some (Vs bD (Hp k).len (hC k)):=by
    have:=ax.cell (i:=k*3+2) AB;rw[GD]at this;dsimp only[Bv.put]at this;rw[eD]at this;exact this
   have an:=hxy bw;have hl:=HL.out k aX;obtain⟨bW,bX⟩:=hl;clear ax eD bw;go_upto_region 9 with fail;generalize aI:wr.alloc (.cells #[.int .u64 (Hp k).base,.bool (Hp k).wr,Vs bD (Hp k).len (hC k)] 43)=o;have bx:Bw wr o:=by rw[<-aI];exact Ai
   have XI:o.ownsRow wr.heap.size 43 3 (Vs wr.heap.size 1 1) 1 [.int .u64 (Hp k).base,.bool (Hp k).wr,Vs bD (Hp k).len (hC k)]:=by rw[<-aI];exact World.ownsRow_lit wr #[.int .u64 (Hp k).base,.bool (Hp k).wr,Vs bD (Hp k).len (hC k)] 1 BQ (by unfold maxLen;omega) rfl
   have yx:wr.heap.size<o.heap.size:=by rw[<-aI];simp
   have XO:=Av aT bx;have cc:o.cell? ⟨w.heap.size+1+1,5,none⟩=some (.slice aH k cH)/\o.cell? ⟨wr.heap.size,0,none⟩=some (.int .u64 (Hp k).base)/\o.cell? ⟨wr.heap.size,1,none⟩=some (.bool (Hp k).wr)/\o.cell? ⟨wr.heap.size,2,none⟩=some (Vs bD (Hp k).len (hC k)):=⟨XO.cellAt 5 Ad,XI.cellAt 0 Ad,XI.cellAt 1 Ad,XI.cellAt 2 Ad⟩
   obtain⟨S,af⟩:∃S:World->Prop,S=fun d=>d.cell? ⟨w.heap.size+1+1,5,none⟩=some (.slice aH k cH)/\d.cell? ⟨wr.heap.size,0,none⟩=some (.int .u64 (Hp k).base)/\d.cell? ⟨wr.heap.size,1,none⟩=some (.bool (Hp k).wr)/\d.cell? ⟨wr.heap.size,2,none⟩=some (Vs bD (Hp k).len (hC k)):=⟨_,rfl⟩
   have j5:∀d,Such S d->d.cell? ⟨w.heap.size+1+1,5,none⟩=some (.slice aH k cH):=fun d h=>by unfold Such at h;rw[af]at h;exact h.1
   have j0:∀d,Such S d->d.cell? ⟨wr.heap.size,0,none⟩=some (.int .u64 (Hp k).base):=fun d h=>by unfold Such at h;rw[af]at h;exact h.2.1
   have j1:∀d,Such S d->d.cell? ⟨wr.heap.size,1,none⟩=some (.bool (Hp k).wr):=fun d h=>by unfold Such at h;rw[af]at h;exact h.2.2.1
   have j2:∀d,Such S d->d.cell? ⟨wr.heap.size,2,none⟩=some (Vs bD (Hp k).len (hC k)):=fun d h=>by unfold Such at h;rw[af]at h;exact h.2.2.2
   have ar:Hid (∀d:World,d.heap[w.heap.size+1+1]?=o.heap[w.heap.size+1+1]?->d.heap[wr.heap.size]?=o.heap[wr.heap.size]?->Such S d):=fun d h1 h2=>by
    unfold Such;rw[af];exact⟨(World.cell?_of_block (a:=⟨w.heap.size+1+1,5,none⟩) h1).trans cc.1,(World.cell?_of_block (a:=⟨wr.heap.size,0,none⟩) h2).trans cc.2.1,(World.cell?_of_block (a:=⟨wr.heap.size,1,none⟩) h2).trans cc.2.2.1,(World.cell?_of_block (a:=⟨wr.heap.size,2,none⟩) h2).trans cc.2.2.2⟩
   have A:Hid (∀d,Bw o d->Such S d):=fun d h=>ar.out d (h.block _ AB) (h.block _ yx)
   have a6:=hxy (am.below bx);have a8:=hxy (an.below bx an.lt);have aE:=hxy bx;obtain⟨iB,gB,bk,bl,bm⟩:=info_parts RU;obtain⟨iH,gH,bn,bo,bp⟩:=info_parts Sy;have aF:Hid (_/\_/\_/\_):=⟨gB,bk,bl,bm⟩
   have aG:Hid (_/\_/\_/\_):=⟨gH,bn,bo,bp⟩
   clear aI bx XI XO cc af c0 c1 c2 an m5 gB bk bl bm gH bn bo bp;refine BH (T:=Such S) (s:=14) AV (A _ BJ.drew) (fun hHeld=>?_);refine NU [0,1,2,3,4,5,7,8] ?_;refine Ah (i:=6) rfl AV (fun KK hK=>?_);go_simp;generalize a0:(o.alloc (.cells #[] 5)).drew=w6;have b6:Bw o w6:=by rw[<-a0];exact(Ai).drew
   have E6:w6.ownsRow o.heap.size 5 1 (Vs o.heap.size 0 0) 0 []:=by rw[<-a0];exact(World.ownsRow_lit o #[] 0 BQ (by unfold maxLen;omega) rfl).drew
   have a5:=hxy E6;have ah:=hxy b6;clear a0 E6;refine hK.out _ _ (A _ b6) (fun bI=>?_);clear hK KK b6;try go_frame
   refine Ah (i:=9) rfl AV (fun KK hK=>?_);refine DJ rfl (.tmp 37) (.tmp 39) 22 rfl o.heap.size 5 iB (.int .u8 0) 1 1 Tryz.underlying22 aF.1 aF.2.1 aF.2.2.1 aF.2.2.2 rfl Ad (Vs o.heap.size 0 0) 0 [] rfl a5 ⟨bD,0,none⟩ (Hp k).len (hC k) (first ((Hp k).len*1) (EU .u8 (Hp k).dat)) rfl (Aw _ _) ?d1 ?d2 (by unfold maxLen;omega) AB ah.size ?_
   case d1=>
    intro j u hj;obtain⟨hm,rfl⟩:=Ca hj;rw[Addr.add_lit,Nat.zero_add];exact(ah.cell (p:=Va bD j) a8.lt).trans (a8.cell AB)
   case d2=>
    intro u hu;obtain⟨j,_,rfl⟩:=Cv hu;rfl
   intro vD w9 aA ad;have hD:w9.ownsRow o.heap.size 5 1 vD (Hp k).len (first (Hp k).len (EU .u8 (Hp k).dat)):=by simpa using aA
   obtain⟨gD,cD,bT⟩:=G8 hD AB;subst bT;have b9:Bw o w9:=ah.trans (BJ.grown ad ah.size (by intro k hk;simp[Value.ownBlock]at hk;omega));have a4:=hxy hD
   have aN:=hxy b9
   clear aA ad hD a5 ah
   refine hK.out _ _ (A _ b9) (fun bJ=>?_)
   clear hK KK b9
   try go_frame
   refine BR 10 ?_
   refine Ah (i:=11) rfl AV (fun KK hK=>?_)
   go_simp
   generalize aB:w9.alloc (.cells #[.int .u64 (Hp k).base,.bool (Hp k).wr,Vs gD (Hp k).len cD] 43)=bG
   have aW:Bw w9 bG:=by rw[<-aB];exact Ai
   have a2:bG.ownsRow w9.heap.size 43 3 (Vs w9.heap.size 1 1) 1 [.int .u64 (Hp k).base,.bool (Hp k).wr,Vs gD (Hp k).len cD]:=by rw[<-aB];exact World.ownsRow_lit w9 #[.int .u64 (Hp k).base,.bool (Hp k).wr,Vs gD (Hp k).len cD] 1 BQ (by unfold maxLen;omega) rfl
   have aJ:=hxy a2
   have aC:=aN.trans (aW.mono aN.size)
   have l:=hxy aC
   have al:=hxy (Av a4 aW)
   have m:=hxy (a6.below aC)
   clear aB aW a2 a4 aN a6
   refine hK.out _ _ (A _ aC) (fun bq=>?_)
   clear hK KK aC
   try go_frame
   refine Ah (i:=12) rfl AV (fun KK hK=>?_)
   refine DJ rfl (.tmp 32) (.tmp 42) 36 rfl w.heap.size 43 iH (.agg #[.int .u64 0,.bool false,.slice none 0 0]) 3 40 Tryz.underlying36 aG.1 aG.2.1 aG.2.2.1 aG.2.2.2 rfl Ad (.slice aH k cH) k (first (k*3) (CO (place Hp X ae))) rfl m.heaps ⟨w9.heap.size,0,none⟩ 1 1 [.int .u64 (Hp k).base,.bool (Hp k).wr,Vs gD (Hp k).len cD] rfl rfl ?d3 ?d4 (by unfold maxLen;omega) AB (by have:=l.size;omega) ?_
   case d3=>
    intro j u hj
    have bN:j<3:=by
     have:=(List.getElem?_eq_some_iff.1 hj).1
     simpa using this
    have:=aJ.cellAt j (by simpa using bN)
    rw[Addr.add_lit,Nat.zero_add]
    exact this.trans hj
   case d4=>
    intro u hu
    simp at hu
    rcases hu with rfl|rfl|rfl<;>rfl
   intro vH n Y b
   obtain⟨bi,bj,bU⟩:=KD Y
   subst bU
   have lD:=al.lt gD rfl
   have aK:Hid (Mem n w.heap.size ⟨gR,cR,bi,bj,Dt X k gD,Dt ae k cD,aO,cO⟩ ⟨R,z,c,hz,hc,k+1,Hp,pc,st,nO,K,V⟩):=Mem.push m (al.mono AB) (fun i hi=>by have:=((am.data i hi).lt (X i) rfl).2;omega) Y b
   have zz:=l.size
   have aa:=Av (Av aT aE) l
   have av:=Av (Av bM aE) l
   have aw:=Av (Av aU aE) l
   have r:Hid (n.ownsRow w.heap.size 39 9 (.slice (some ⟨w.heap.size+1+1,0,none⟩) 1 1) 1 [Vs gR 8 cR,.bool z,.bool c,.bool hz,.bool hc,.slice aH k cH,Vi pc,Vi st,.slice aO nO cO]):=aa.kept b (Aj aa m.heaps Ad)
   have aS:Hid (n.ownsRow w.heap.size 39 9 (Vs w.heap.size 1 1) 1 [Vs D 8 N,.bool z,.bool c,.bool hz,.bool hc,Vs bH nH I,Vi pc,Vi st,.slice F nO J]):=av.kept b (Aj av m.heaps Ad)
   have aV:Hid (n.ownsRow w.heap.size 39 9 (.slice (some ⟨w.heap.size+1,0,none⟩) 1 1) 1 Zp):=aw.kept b (Aj aw m.heaps Ad)
   have a3:Hid (Bw w n):=(aD.trans ((aE.trans (l.mono AB)).mono AB)).trans (BJ.grown b AB (fun k hk=>(m.heaps.lt k hk).1))
   have g1:n.heap[w.heap.size+1+1]?=o.heap[w.heap.size+1+1]?:=(b.block _ AB (Fu (Aj aa m.heaps Ad))).trans (l.block _ AB)
   have g2:n.heap[wr.heap.size]?=o.heap[wr.heap.size]?:=(b.block _ AB (fun q=>by have:=(am.heaps.lt _ q.symm).2;omega)).trans (l.block _ yx)
   have b5:=b.size
   clear Y b aa av aw m al aJ lD
   refine hK.out _ _ (ar _ g1 g2) (fun br=>?_)
   clear hK KK g1 g2
   try go_frame
   refine BR 13 ?_
   have o5:n.cell? ⟨w.heap.size+1+1,5,none⟩=some (.slice aH k cH):=r.cellAt 5 Ad
   have of:∀i,n.frozen? ⟨w.heap.size+1+1,i,none⟩=false:=fun i=>r.frozenAt i
   have b3:w.heap.size+1+1<n.heap.size:=AB
   refine BD rfl AV AV (fun KK hK=>?_)
   go_simp
   refine hK.out _ _ ?_
   clear hK KK
   go_wp2
   go_roundw
   case rel=>
    refine⟨k+1,AB,by go_num,a3.setCell (by simp;omega) _,bi,bj,Dt X k gD,Dt ae k cD,ownsRow_setCell_other aS (by simp[Value.ownBlock];omega) _,ownsRow_setCell_other aV (by simp[Value.ownBlock]) _,(r.stored 5 _).1,?_⟩
    exact Mem.setOff aK (Xc aK r) _ _
   case measure=>simp[intOf];omega
  ·obtain rfl:k=nH:=AB
   have XO:=aT.out
   have XZ:=aU.out
   obtain⟨o0,o1,o2,o3,o4,o5,o6,o7,o8⟩:=Dl XO
   obtain⟨s0,s1,s2,s3,s4,s5,s6,s7,s8⟩:=Dl XZ
   have sf:∀i,wr.frozen? ⟨w.heap.size+1,i,none⟩=false:=fun i=>XZ.frozenAt i
   clear XO XZ
   go_wp2
   refine mY (.agg #[Vs gR 8 cR,.bool z,.bool c,.bool hz,.bool hc,.slice aH k cH,Vi pc,Vi st,.slice aO nO cO]) (by simp[results,Tryz.results45,go_sem,s0,s1,s2,s3,s4,s5,s6,s7,s8]) ⟨⟨gR,cR,aH,cH,X,ae,aO,cO⟩,rfl,?_,?_⟩
   ·iterate 9 refine Below.setCell ?_ AX _
    exact aD
   ·iterate 9 refine Mem.setOff ?_ (Xc am aU) _ _
    exact am
theorem u64_nonneg{n:Int}(a:0<=n)(b:n<=18446744073709551615):IntKind.u64.wrap n=n:=by rw[IntKind.wrap_u64];omega
theorem XY{l:Int}(a:¬(X:Int)<1)(b:¬(4096:Int)<(X:Int)):Value.bool (decide (IntKind.u64.wrap (18446744073709551615-(X:Int))<l))=Value.bool !qO l X:=by
 rw[u64_nonneg AB AB];have:decide (18446744073709551615-(X:Int)<l)=!qO l X:=by rw[Bool.eq_iff_iff];simp[qO];omega
 rw[this]
theorem YZ{b':Int}{J:Nat}(h:b'<b+(l:Int))(c:0<=b')(a:b'+(J:Int)<=18446744073709551615):Value.bool (decide (b<IntKind.u64.wrap (b'+(J:Int))))=Value.bool (xN b l b' J):=by
 rw[u64_nonneg AB a];have:decide (b<b'+(J:Int))=xN b l b' J:=by rw[Bool.eq_iff_iff];simp[xN];omega
 rw[this]
theorem Zx{b':Int}{J:Nat}(h:¬b'<b+(l:Int)):Value.bool false=Value.bool (xN b l b' J):=by
 have:false=xN b l b' J:=by rw[Bool.eq_iff_iff];simp[xN];omega
 rw[<-this]
def Gt(nR:Nat)(z c hz hc:Bool)(nH:Nat)(pc st:Int)(nO:Nat):Bool:=
 decide ((nR:Int)=8)&&(hz||!z)&&(hc||!c)&&decide ((nH:Int)<=8)&&EM pc 0 2000&&EM st 0 2&&decide ((nO:Int)<=200000)
theorem VS(j:Nat)(z c l k:Bool)(d:Nat)(h:Nat->Bv)(m n:Int)(e:Nat)(K:Nat->Int):Et j z c l k d h m n e K=(Gt j z c l k d m n e&&(Ea d h&&Gz e K)):=by
 have o:decide (j=8)=decide ((j:Int)=8):=by rw[Bool.eq_iff_iff];simp;omega
 have p:Ea d h=(decide ((d:Int)<=8)&&Ea d h):=by
  unfold Ea;rw[show decide ((d:Int)<=8)=decide (d<=8)by rw[Bool.eq_iff_iff];simp;omega];rw[<-Bool.and_assoc,Bool.and_self]
 have q:Gz e K=(decide ((e:Int)<=200000)&&Gz e K):=by
  unfold Gz;rw[show decide ((e:Int)<=200000)=decide (e<=200000)by rw[Bool.eq_iff_iff];simp;omega];rw[<-Bool.and_assoc,Bool.and_self]
 unfold Et Gt;rw[o,p,q];generalize Ea d h=a;generalize Gz e K=b;ac_rfl
theorem JK(xR:Option Addr)(yR bR D:Nat)(z c C O:Bool)(R:Nat->Int)(xH:Option Addr)(yH bH o:Nat)(a:Nat->Bv)(hA:Nat->Option Addr)(hC:Nat->Nat)(Q U:Int)(X:Option Addr)(yO bO r:Nat)(K V:Nat->Int)(w:World)
 (hs:Small D o a r)(L:∀i,i<o->0<=(a i).base/\(a i).base<=18446744073709551615)(h:Hf w xR yR bR D R xH yH bH o a hA hC X yO bO r K V):
 Ks 43 #[.agg #[.slice xR D yR,.bool z,.bool c,.bool C,.bool O,.slice xH o yH,Vi Q,Vi U,.slice X r yO]] w fun e l=>
  e=.returned (.bool (Et D z c C O o a Q U r K))/\Below w.heap.size w l:=by
 have Z:=hxy h;have HL:=hxy hs.data;have HZ:=hxy L;have HE:=hxy (VS D z c C O o a Q U r K);have A:=h.heaps.lt;have av:=h.obs.lt;have l1:=hs.regs;have l2:=hs.heaps;have l3:=hs.obs;clear h L hs;have b0:=(Below.refl w.heap.size w).alloc BQ (.cells #[.slice xR D yR,.bool z,.bool c,.bool C,.bool O,.slice xH o yH,Vi Q,Vi U,.slice X r yO] 39);have af:=hxy b0;clear b0;have am:(w.alloc (.cells #[.slice xR D yR,.bool z,.bool c,.bool C,.bool O,.slice xH o yH,Vi Q,Vi U,.slice X r yO] 39)).cell? ⟨w.heap.size,5,none⟩=some (.slice xH o yH):=by simp[go_sem]
 have an:(w.alloc (.cells #[.slice xR D yR,.bool z,.bool c,.bool C,.bool O,.slice xH o yH,Vi Q,Vi U,.slice X r yO] 39)).cell? ⟨w.heap.size,8,none⟩=some (.slice X r yO):=by simp[go_sem]
 have H0:=hxy am;have H1:=hxy an;clear am an;go_enter Tryz.func43,Tryz.ntmps43;go_upto_region 1 with fail;go_cut [0,53](fun _ ay wx=>ay=.bool (!Gt D z c C O o Q U r)/\wx=w.alloc (.cells #[.slice xR D yR,.bool z,.bool c,.bool C,.bool O,.slice xH o yH,Vi Q,Vi U,.slice X r yO] 39))
 case first=>
  go_wp2_with(go_at_call 44;refine(Eu _ _ _ _).mono ?_;rintro e l⟨rfl,rfl⟩);all_goals
   go_meet;refine⟨?_,by simp_all⟩;simp_all[Gt]<;>(rw[Bool.eq_iff_iff];simp;omega)
 case rest=>
 obtain⟨rfl,rfl⟩:=hcut;cases hh:Gt D z c C O o Q U r with
 |false=>
  have HH:=hxy hh;go_wp2;go_ret;exact⟨AY (by rw[HE.out,HH.out];rfl),af⟩
 |true=>
 have e2:Et D z c C O o a Q U r K=(Ea o a&&Gz r K):=by rw[HE.out,hh];rfl
 have Y:=hxy e2;clear e2;have hn:o<=8:=by simp[Gt]at hh;omega
 have ho:r<=200000:=by simp[Gt]at hh;omega
 go_wp2;clear hh;go_loopw [3](fun i wr=>∃k:Nat,k<=o/\i=Vi k/\Bw w wr/\w.heap.size<wr.heap.size/\wr.cell? ⟨w.heap.size,5,none⟩=some (.slice xH o yH)/\wr.cell? ⟨w.heap.size,8,none⟩=some (.slice X r yO)/\∀i,i<k->Bg a i=true)(fun i _=>o-(intOf i).toNat)
 case atStart=>exact⟨0,Nat.zero_le _,rfl,af,AX,H0,H1,fun i hi=>by omega⟩
 case round=>
  obtain⟨k,hk,rfl,s,N,ae,ab,ac⟩:=hrel;have HK:=hxy ac;clear ac H0 H1;by_cases aa:k<o
  ·obtain rfl:xH=some ⟨bH,0,none⟩:=Z.eH.some AB
   have g0:=(s.cell (p:=Va bH (k*3)) A).trans ((Z.heaps.cell (i:=k*3+0) AB).trans (congrArg some (Iz _ k)));have g1:=(s.cell (p:=Va bH (k*3+1)) A).trans ((Z.heaps.cell (i:=k*3+1) AB).trans (congrArg some (JE _ k)));have g2:=(s.cell (p:=Va bH (k*3+2)) A).trans ((Z.heaps.cell (i:=k*3+2) AB).trans (congrArg some (GD _ k)));simp only[Bv.put]at g0 g1 g2;have hl:=HL.out k aa;have C:=HZ.out k aa;obtain⟨ax,aA⟩:=C;go_upto_region 7 with fail;generalize y:wr.alloc (.cells #[.int .u64 (a k).base,.bool (a k).wr,.slice (hA k) (a k).len (hC k)] 43)=E;have y0:E.cell? ⟨wr.heap.size,0,none⟩=some (.int .u64 (a k).base):=by rw[<-y];simp[go_sem]
   have y1:E.cell? ⟨wr.heap.size,1,none⟩=some (.bool (a k).wr):=by rw[<-y];simp[go_sem]
   have y2:E.cell? ⟨wr.heap.size,2,none⟩=some (.slice (hA k) (a k).len (hC k)):=by rw[<-y];simp[go_sem]
   have ya:Bw wr E:=by rw[<-y];exact Ai
   have x:wr.heap.size<E.heap.size:=by rw[<-y];simp
   clear y g0 g1 g2;go_cut [83](fun az wx=>az=.bool (!qO (a k).base (a k).len)/\Bw E wx)
   case first=>
    have R0:∀l,Bw E l->l.cell? ⟨wr.heap.size,0,none⟩=some (.int .u64 (a k).base):=fun l h=>(h.cell (p:=⟨wr.heap.size,0,none⟩) x).trans y0
    have R1:∀l,Bw E l->l.cell? ⟨wr.heap.size,1,none⟩=some (.bool (a k).wr):=fun l h=>(h.cell (p:=⟨wr.heap.size,1,none⟩) x).trans y1
    have R2:∀l,Bw E l->l.cell? ⟨wr.heap.size,2,none⟩=some (.slice (hA k) (a k).len (hC k)):=fun l h=>(h.cell (p:=⟨wr.heap.size,2,none⟩) x).trans y2
    by_cases c1:((a k).len:Int)<1
    ·have e1:decide (((a k).len:Int)<1)=true:=by simp;omega
     go_region;all_goals
      go_wp2_with fail;go_meet;exact⟨by simp[qO];omega,BJ.drew⟩
    ·have e1:decide (((a k).len:Int)<1)=false:=by simp;omega
     by_cases c2:(4096:Int)<((a k).len:Int)
     ·have e2:decide ((4096:Int)<((a k).len:Int))=true:=by simp;omega
      go_region;all_goals
       go_wp2_with fail;go_meet;exact⟨by simp[qO];omega,BJ.drew⟩
     ·have e2:decide ((4096:Int)<((a k).len:Int))=false:=by simp;omega
      go_region_held3(fun l=>Bw E l)(first|exact BJ.drew|exact Below.trans (by assumption) (J.mono (Below.size (B:=E.heap.size) (w:=E) (by assumption))))(first|(go_at_call 68;refine(Zy _ _ _ _ _ _ hl).mono ?_;rintro e l⟨rfl,J⟩));all_goals
       go_wp2_with fail;go_meet;exact⟨XY AB AB,by assumption⟩
   case rest=>
    obtain⟨rfl,u⟩:=hcut;have ba:=s.trans (ya.mono s.size);have I:=hxy (ba.trans (u.mono ba.size));have bc:=ya.trans (u.mono (Nat.le_of_lt x));have x5:=(bc.cell (p:=⟨w.heap.size,5,none⟩) N).trans ae;have x8:=(bc.cell (p:=⟨w.heap.size,8,none⟩) N).trans ab;have v0:=(u.cell (p:=⟨wr.heap.size,0,none⟩) x).trans y0;have v1:=(u.cell (p:=⟨wr.heap.size,1,none⟩) x).trans y1;have v2:=(u.cell (p:=⟨wr.heap.size,2,none⟩) x).trans y2;have vz:wr.heap.size<wc.heap.size:=Ey x u.size;have wz:w.heap.size<wc.heap.size:=AB;clear ba bc u y0 y1 y2 ya x ae ab s;cases hv:qO (a k).base (a k).len with
    |false=>
     go_wp2;go_ret;exact⟨AY (by rw[Y.out,T9 aa (show Bg a k=false by simp[Bg,hv])];rfl),I⟩
    |true=>
     have HV:=hxy hv;clear hv;go_wp2;generalize wr.heap.size=Bx at v0 v1 v2 vz⊢;clear N;go_loopw [5](fun i wr=>∃j:Nat,j<=k/\i=Vi j/\Bw wc wr/\∀i,i<j->Il a k i=true)(fun i _=>k-(intOf i).toNat)
     case atStart=>exact⟨0,Nat.zero_le _,rfl,Below.refl _ _,fun i hi=>by omega⟩
     case round=>
      obtain⟨j,hj,rfl,n,ah⟩:=hrel;have HP:=hxy ah;clear ah;have t5:=(n.cell (p:=⟨w.heap.size,5,none⟩) wz).trans x5;have t8:=(n.cell (p:=⟨w.heap.size,8,none⟩) wz).trans x8;have r0:=(n.cell (p:=Va Bx 0) vz).trans v0;have r1:=(n.cell (p:=Va Bx 1) vz).trans v1;have r2:=(n.cell (p:=Va Bx 2) vz).trans v2;have rz:Bx<wr.heap.size:=Ey vz n.size;have ar:w.heap.size<wr.heap.size:=Ey wz n.size;have F:=hxy (I.trans (n.mono I.size));clear x8 v0 v1 v2;by_cases aj:j<k
      ·have g0:=(F.cell (p:=Va bH (j*3)) A).trans ((Z.heaps.cell (i:=j*3+0) AB).trans (congrArg some (Iz _ j)))
       have g1:=(F.cell (p:=Va bH (j*3+1)) A).trans ((Z.heaps.cell (i:=j*3+1) AB).trans (congrArg some (JE _ j)));have g2:=(F.cell (p:=Va bH (j*3+2)) A).trans ((Z.heaps.cell (i:=j*3+2) AB).trans (congrArg some (GD _ j)));simp only[Bv.put]at g0 g1 g2;have aw:=HL.out j AB;obtain⟨aB,aC⟩:=HZ.out j AB;obtain⟨_,o1,o2⟩:=Zu HV;obtain⟨_,o3,o4⟩:=Zu (show qO (a j).base (a j).len=true by have:=HK.out j aj;simp[Bg]at this;exact this.1);go_upto_region 13 with fail;generalize y:wr.alloc (.cells #[.int .u64 (a j).base,.bool (a j).wr,.slice (hA j) (a j).len (hC j)] 43)=d;have y0:d.cell? ⟨wr.heap.size,0,none⟩=some (.int .u64 (a j).base):=by rw[<-y];simp[go_sem]
       have y1:d.cell? ⟨wr.heap.size,1,none⟩=some (.bool (a j).wr):=by rw[<-y];simp[go_sem]
       have y2:d.cell? ⟨wr.heap.size,2,none⟩=some (.slice (hA j) (a j).len (hC j)):=by rw[<-y];simp[go_sem]
       have ya:Bw wr d:=by rw[<-y];exact Ai
       have x:wr.heap.size<d.heap.size:=by rw[<-y];simp
       have n0:=(ya.cell (p:=Va Bx 0) rz).trans r0;have n1:=(ya.cell (p:=Va Bx 1) rz).trans r1;have n2:=(ya.cell (p:=Va Bx 2) rz).trans r2;have nz:Bx<d.heap.size:=AB;have HN:=hxy (n.trans (ya.mono n.size));clear y g0 g1 g2 r0 r1 r2;generalize wr.heap.size=By at y0 y1 y2 x⊢;clear ya;go_cut [111](fun ap wx=>ap=.bool (xN (a j).base (a j).len (a k).base (a k).len)/\Bw d wx)
       case first=>
        have R0:Cb d By 0 (.int .u64 (a j).base):=fun l h=>(h.cell (p:=Va By 0) x).trans y0
        have R1:Cb d By 1 (.bool (a j).wr):=fun l h=>(h.cell (p:=Va By 1) x).trans y1
        have R2:Cb d By 2 (.slice (hA j) (a j).len (hC j)):=fun l h=>(h.cell (p:=Va By 2) x).trans y2
        have S0:Cb d Bx 0 (.int .u64 (a k).base):=fun l h=>(h.cell (p:=Va Bx 0) nz).trans n0
        have S1:Cb d Bx 1 (.bool (a k).wr):=fun l h=>(h.cell (p:=Va Bx 1) nz).trans n1
        have S2:Cb d Bx 2 (.slice (hA k) (a k).len (hC k)):=fun l h=>(h.cell (p:=Va Bx 2) nz).trans n2
        clear y0 y1 y2 n0 n1 n2 t5 t8;by_cases c1:(a k).base<(a j).base+((a j).len:Int)
        ·have e1:decide ((a k).base<IntKind.u64.wrap ((a j).base+((a j).len:Int)))=true:=by rw[u64_nonneg AB o4];simp;omega
         go_region_held3(fun l=>Bw d l)(first|exact BJ.drew|exact Below.trans (by assumption) (J.mono (Below.size (B:=d.heap.size) (w:=d) (by assumption))))(first|(go_at_call 68;refine(Zy _ _ _ _ _ _ (by assumption)).mono ?_;rintro e l⟨rfl,J⟩));all_goals
          go_wp2_with fail;go_meet;exact⟨YZ AB ax o2,by assumption⟩
        ·have e1:decide ((a k).base<IntKind.u64.wrap ((a j).base+((a j).len:Int)))=false:=by rw[u64_nonneg AB o4];simp;omega
         refine wp_region_held_drew (S:=fun l=>Bw d l) AV BJ.drew (fun hHeld=>?_);refine wpAnyH_take (i:=0) (v:=?v0) rfl AV AV AV (fun _ _ _ h=>h) (Or.inl ⟨by rfl,?y0⟩) (by assumption) ?r0
         case y0=>(intro w b;(try dsimp only at b);go_simp;try with_reducible rfl)
         refine Cn ?_;refine wpAnyH_take (i:=1) (v:=?v1) rfl AV AV AV (fun _ _ _ h=>h) (Or.inl ⟨by rfl,?y1⟩) (by assumption) ?r1
         case y1=>(intro w b;(try dsimp only at b);go_simp;try with_reducible rfl)
         refine Cn ?_;refine wpAnyH_take (i:=2) (v:=?v2) rfl AV AV AV (fun _ _ _ h=>h) (Or.inl ⟨by rfl,?y2⟩) (by assumption) ?r2
         case y2=>(intro w b;(try dsimp only at b);go_simp;try with_reducible rfl)
         refine Cn ?_;refine wpAnyH_take (i:=3) (v:=?v3) rfl AV AV AV (fun _ _ _ h=>h) (Or.inl ⟨by rfl,?y3⟩) (by assumption) ?r3
         case y3=>(intro w b;(try dsimp only at b);go_simp;try with_reducible rfl)
         refine Cn ?_;refine wpAnyH_take (i:=4) (v:=?v4) rfl AV AV AV (fun _ _ _ h=>h) (Or.inl ⟨by rfl,?y4⟩) (by assumption) ?r4
         case y4=>(intro w b;(try dsimp only at b);go_simp;try with_reducible rfl)
         refine Cn ?_;refine wpAnyH_ready (rs:=[5]) AV AX ?_;refine AllReadyH.cons rfl (fun K hK=>?_) AllReadyH.nil;go_simp;refine(Zy _ _ _ _ _ _ aw).mono ?_;rintro e l⟨rfl,J⟩;go_wp2_with fail;refine hK.out _ _ (BJ.drew.trans J) (fun au=>?_);clear hK K;refine wpAnyH_take (i:=6) (v:=?v6) rfl AV AV AV (fun _ _ _ h=>h) (Or.inl ⟨by rfl,?y6⟩) (by assumption) ?r6
         case y6=>(intro w b;(try dsimp only at b);go_simp;try with_reducible rfl)
         refine Cn ?_;refine wpAnyH_take (i:=7) (v:=?v7) rfl AV AV AV (fun _ _ _ h=>h) (Or.inl ⟨by rfl,?y7⟩) (by assumption) ?r7
         case y7=>(intro w b;(try dsimp only at b);go_simp;try with_reducible rfl)
         refine Cn ?_;refine wpAnyH_take (i:=8) (v:=?v8) rfl AV AV AV (fun _ _ _ h=>h) (Or.inl ⟨by rfl,?y8⟩) (by assumption) ?r8
         case y8=>(intro w b;(try dsimp only at b);go_simp;try with_reducible rfl)
         refine Cn ?_;refine wpAnyH_take (i:=9) (v:=undef) rfl AV AV AV (fun _ _ _ h=>h) (Or.inr ⟨AV,rfl⟩) (by assumption) ?_;refine Cn ?_;refine wpAnyH_take (i:=10) (v:=undef) rfl AV AV AV (fun _ _ _ h=>h) (Or.inr ⟨AV,rfl⟩) (by assumption) ?_;refine Cn ?_;refine wpAnyH_take (i:=11) (v:=undef) rfl AV AV AV (fun _ _ _ h=>h) (Or.inr ⟨AV,rfl⟩) (by assumption) ?_;refine Cn ?_;refine wpAnyH_take (i:=12) (v:=undef) rfl AV AV AV (fun _ _ _ h=>h) (Or.inr ⟨AV,rfl⟩) (by assumption) ?_;refine Cn ?_;refine wpAnyH_take (i:=13) (v:=undef) rfl AV AV AV (fun _ _ _ h=>h) (Or.inr ⟨AV,rfl⟩) (by assumption) ?_;refine Cn ?_;refine wpAnyH_take (i:=14) (v:=undef) rfl AV AV AV (fun _ _ _ h=>h) (Or.inr ⟨AV,rfl⟩) (by assumption) ?_;refine Cn ?_;refine wpAnyH_take (i:=15) (v:=undef) rfl AV AV AV (fun _ _ _ h=>h) (Or.inr ⟨AV,rfl⟩) (by assumption) ?_;refine Cn ?_;refine wpAnyH_take (i:=16) (v:=undef) rfl AV AV AV (fun _ _ _ h=>h) (Or.inr ⟨AV,rfl⟩) (by assumption) ?_;refine Cn ?_;refine wpAnyH_take (i:=17) (v:=?v17) rfl AV AV AV (fun _ _ _ h=>h) (Or.inl ⟨by rfl,?y17⟩) (by assumption) ?r17
         case y17=>(intro w b;(try dsimp only at b);go_simp;try with_reducible rfl)
         refine Cn ?_;refine wpAnyH_done AV ?_ _;go_wp2_with fail;go_meet;exact⟨Zx AB,by assumption⟩
       case rest=>
        obtain⟨rfl,ai⟩:=hcut;have b3:=HN.trans (ai.mono HN.size);have ad:Hid _:=b3;have q5:=(b3.cell (p:=⟨w.heap.size,5,none⟩) wz).trans x5;clear b3 ai y0 y1 y2 n0 n1 n2 t5 t8;cases hv:xN (a j).base (a j).len (a k).base (a k).len with
        |true=>
         go_wp2;go_ret;exact⟨AY (by rw[Y.out,T9 aa (by simp[Bg,Vd aj (show Il a k j=false by simp[Il,hv])])];rfl),I.trans (ad.mono I.size)⟩
        |false=>
         have q:Il a k j=true:=by simp[Il,hv]
         have HQ:=hxy q;clear hv q;go_wp2;go_roundw
         case rel=>first|exact⟨j+1,AB,by go_num,ad,MI HP HQ⟩|((repeat apply Exists.intro);exact⟨⟨j+1,AB,by go_num,ad,MI HP HQ⟩,rfl⟩)
         case measure=>simp[intOf];omega
      ·obtain rfl:j=k:=AB
       have q:Bg a j=true:=by simp only[Bg,HV.out,LH HP.out,Bool.and_self]
       have HQ:=hxy q;clear q r0 r1 r2;go_wp2;go_roundw
       case rel=>first|exact⟨j+1,AB,by go_num,F,ar,t5,t8,MI HK HQ⟩|((repeat apply Exists.intro);exact⟨⟨j+1,AB,by go_num,F,ar,t5,t8,MI HK HQ⟩,rfl⟩)
       case measure=>simp[intOf];omega
  ·obtain rfl:k=o:=AB
   have HH:=hxy (YE hn HK);go_wp2;go_loopw [7](fun i wq=>∃m:Nat,m<=r/\i=Vi m/\Bw w wq/\w.heap.size<wq.heap.size/\wq.cell? ⟨w.heap.size,8,none⟩=some (.slice X r yO)/\∀i,i<m->EM (K i) 1 3=true)(fun i _=>r-(intOf i).toNat)
   case atStart=>exact⟨0,Nat.zero_le _,rfl,s,N,ab,fun i hi=>by omega⟩
   case round=>
    clear ae ab s N;obtain⟨m,hm,rfl,M,ao,al,ag⟩:=hrel;have HX:=hxy ag;clear ag;by_cases ak:m<r
    ·obtain rfl:X=some ⟨bO,0,none⟩:=Z.eO.some AB
     have g0:=(M.cell (p:=Va bO (m*2)) av).trans ((Z.obs.cell (i:=m*2+0) AB).trans (congrArg some (Zh K V m)));go_wp2_with fail;refine(Eu _ _ _ _).mono ?_;rintro e l⟨rfl,rfl⟩;cases hv:EM (K m) 1 3 with
     |false=>
      go_wp2;go_ret;exact⟨AY (by rw[Y.out,Xb ak hv];simp),M⟩
     |true=>
      have HV:=hxy hv;clear hv g0;go_wp2;go_roundw
      case rel=>first|exact⟨m+1,AB,by go_num,M,ao,al,MI HX HV⟩|((repeat apply Exists.intro);exact⟨⟨m+1,AB,by go_num,M,ao,al,MI HX HV⟩,rfl⟩)
      case measure=>simp[intOf];omega
    ·obtain rfl:m=r:=AB
     go_wp2;go_ret;exact⟨AY (by rw[Y.out,HH.out];simp only[Gz,LH HX.out,ho,decide_true,Bool.and_self]),M⟩
def Sz(M M':MV):Prop:=M'.nH=M.nH/\(∀i,(M'.Hp i).len=(M.Hp i).len)/\M'.nO<=M.nO+1
theorem Sz.refl(M:MV):Sz M M:=⟨rfl,fun _=>rfl,Nat.le_succ _⟩
theorem Gp{M a:MV}(b:a.nH=M.nH)(c:a.Hp=M.Hp)(d:a.nO<=M.nO+1):Sz M a:=⟨b,fun i=>by rw[c],d⟩
def yI(M:MV):Ia->Prop
 |.inl (M',_)=>Sz M M'
 |.inr M'=>Sz M M'
theorem Qx(M:MV)(h o:Nat)(v:Int):∀k,(M.pokeN h o v k).nO=M.nO
 |0=>rfl
 |k+1=>Qx M h o v k
theorem fo(s:Bool)(b:Nat)(A:Int)(d h:Nat)(M:MV)(c:Int):yI M (Cm s b A d h M c):=by
 unfold Cm;split
 ·exact Gp rfl rfl BQ
 ·split
  ·split
   ·have a:=MV.pokeN_len (M.see 1 A) h (A-(M.Hp h).base).toNat (M.R d) b
    exact⟨a.1,a.2.1,by rw[Qx];exact BQ⟩
   ·exact Gp rfl rfl BQ
  ·exact Gp rfl rfl BQ
theorem Yq(a b c:Bool)(d:Int)(M:MV)(e:Int):yI M (Da a b c d M e):=by
 unfold Da;split
 ·split
  ·exact Gp rfl rfl BQ
  ·exact Gp rfl rfl BQ
 ·exact Sz.refl M
theorem XD(j d a b h:Nat)(c:Int)(M:MV)(e:Int):yI M (exec j d a b h c M e):=by
 unfold exec;split;all_goals first
  |exact fo _ _ _ _ _ _ _
  |exact Yq _ _ _ _ _ _
  |exact Gp rfl rfl (Nat.le_succ _)
  |exact Gp rfl rfl BQ
  |(split<;>exact Gp rfl rfl (Nat.le_succ _))
theorem ZJ(a:Nat)(F:Nat->Nat->Int)(M:MV):Sz M (stepM a F M):=by
 by_cases h:(a:Int)<=M.pc
 ·unfold stepM;rw[if_pos h];exact Gp rfl rfl (Nat.le_succ _)
 ·rw[Oi a F M h]
  have:=XD (F M.pc.toNat 0).toNat (F M.pc.toNat 1).toNat (F M.pc.toNat 2).toNat (F M.pc.toNat 3).toNat (F M.pc.toNat 5).toNat (F M.pc.toNat 4) M (M.pc+1);generalize exec (F M.pc.toNat 0).toNat (F M.pc.toNat 1).toNat (F M.pc.toNat 2).toNat (F M.pc.toNat 3).toNat (F M.pc.toNat 5).toNat (F M.pc.toNat 4) M (M.pc+1)=o at this⊢;cases o with
  |inl q=>obtain⟨b,c⟩:=q;exact this
  |inr b=>exact this
theorem MV.Ok.setR{M:MV}(h:M.Ok)(d:Nat){v:Int}(b:0<=v/\v<=18446744073709551615):(M.setR d v).Ok:=
 ⟨fun i a=>by
   show 0<=(if i=d then v else M.R i)/\(if i=d then v else M.R i)<=18446744073709551615;split
   ·exact b
   ·exact h.reg i a,h.heaps,h.heap,h.dat⟩
theorem MV.Ok.seen{M:MV}(h:M.Ok)(k v:Int):(M.see k v).Ok:=⟨h.reg,h.heaps,h.heap,h.dat⟩
theorem MV.Ok.flagged{M:MV}(h:M.Ok)(r:Int)(k:Bool):(M.flags r k).Ok:=⟨h.reg,h.heaps,h.heap,h.dat⟩
theorem MV.Ok.faulted{M:MV}(h:M.Ok):M.fault.Ok:=⟨h.reg,h.heaps,h.heap,h.dat⟩
theorem MV.Ok.poke{M:MV}(h:M.Ok)(k j:Nat){u:Int}(l:0<=u/\u<=255):(M.poke k j u).Ok:=by
 have b:∀i,((M.poke k j u).Hp i).base=(M.Hp i).base/\((M.poke k j u).Hp i).len=(M.Hp i).len:=fun i=>by
  unfold MV.poke;by_cases e:i=k<;>simp[e]
 refine⟨h.reg,h.heaps,fun i a=>?_,fun i a q d=>?_⟩
 ·rw[(b i).1,(b i).2];exact h.heap i a
 ·rw[(b i).2]at d
  have:=h.dat i a q d;unfold MV.poke;by_cases e:i=k
  ·by_cases c:q=j
   ·simp[e,c];exact l
   ·simp only[e,if_true,c,if_false];rw[<-e];exact this
  ·simp only[e,if_false];exact this
theorem MV.Ok.pokeN{M:MV}(h:M.Ok)(k o:Nat)(v:Int):∀n,(M.pokeN k o v n).Ok
 |0=>h
 |n+1=>(MV.Ok.pokeN h k o v n).poke k (o+n) AB
def okO:Ia->Prop
 |.inl (M',_)=>M'.Ok
 |.inr M'=>M'.Ok
theorem gu{M:MV}(b:M.Ok)(s:Bool)(a:Nat)(q:a<=8)(A:Int)(d h:Nat)(o:Int):okO (Cm s a A d h M o):=by
 unfold Cm;by_cases e:M.nH<=h
 ·rw[if_pos e];exact b.seen _ _
 ·rw[if_neg e]
  by_cases c:(lies (M.Hp h).base A a (M.Hp h).len&&(!s||(M.Hp h).wr))=true
  ·rw[if_pos c]
   cases s with
   |true=>exact(b.seen _ _).pokeN _ _ _ _
   |false=>
    refine(b.seen 1 A).setR d ?_;have k:lies (M.Hp h).base A a (M.Hp h).len=true:=by simp only[Bool.and_eq_true]at c;exact c.1
    have l:=JY (M.Hp h).dat (A-(M.Hp h).base).toNat a fun j p=>b.dat h AB _ (by
     unfold lies at k;simp only[Bool.and_eq_true,decide_eq_true_eq]at k;omega)
    refine⟨l.1,?_⟩;have:(2:Int)^(8*a)<=2^64:=by
     have n:(2:Nat)^(8*a)<=2^64:=Nat.pow_le_pow_right Ad AB;exact_mod_cast n
    have m:(2:Int)^64=18446744073709551616:=Ad;have:=l.2;omega
  ·rw[if_neg c];exact b.seen _ _
theorem ZF{M:MV}(d:M.Ok)(a b c:Bool)(e h:Int):okO (Da a b c e M h):=by
 unfold Da;split
 ·split
  ·exact d.seen _ _
  ·exact d.seen _ _
 ·exact d
theorem Nv(x y c:Int):0<=Ih x y c/\Ih x y c<=18446744073709551615:=by unfold Ih;omega
theorem VY(x y:Int):0<=Ep x y/\Ep x y<=18446744073709551615:=by
 rw[<-kG];exact Du _
theorem Ol{x y:Int}(h:0<=x/\x<=18446744073709551615)(a:0<=y):0<=x/y/\x/y<=18446744073709551615:=
 ⟨Int.ediv_nonneg h.1 a,Int.le_trans (Int.ediv_le_self _ h.1) h.2⟩
theorem Xq{M:MV}(c:M.Ok)(o d a b h:Nat)(j n:Int)(l:a<8)(m:b<8):okO (exec o d a b h j M n):=by
 have e:=c.reg a l;have k:=c.reg b m;unfold exec;split;all_goals first
  |exact gu c _ _ Ad _ _ _ _
  |exact ZF c _ _ _ _ _
  |exact c.setR _ e
  |exact c.setR _ (Du _)
  |exact(c.setR _ (Nv _ _ _)).flagged _ _
  |exact(c.flagged _ _).setR _ (VY _ _)
  |exact c.flagged _ _
  |exact c.setR _ (Ol e (Int.le_of_lt (Int.pow_pos Ad)))
  |exact⟨c.reg,c.heaps,c.heap,c.dat⟩
  |skip
 ·refine(c.seen _ _).setR _ ?_
  split
  ·decide
  ·exact Ol e k.1
 all_goals
  split
  ·first
    |exact(c.setR _ (Nv _ _ _)).flagged _ _
    |(refine c.setR _ ?_
      split
      ·exact e
      ·exact k)
  ·exact c
def MQ(len:Nat)(F:Nat->Nat->Int):Nat->MV->MV
 |0,M=>M
 |k+1,M=>if M.st=0 then MQ len F k (stepM len F M)else M
theorem EJ(a:Nat)(F:Nat->Nat->Int)(k:Nat){M:MV}(h:M.st≠0):MQ a F k M=M:=by
 cases k with
 |zero=>rfl
 |succ k=>show(if M.st=0 then _ else M)=M;rw[if_neg h]
theorem Qq(a:Nat)(F:Nat->Nat->Int)(k:Nat){M:MV}(h:M.st=0):MQ a F (k+1) M=MQ a F k (stepM a F M):=by
 show(if M.st=0 then _ else M)=_;rw[if_pos h]
theorem gm{Z d a m h:Int}(e:BF Z d a b m h=true)(k:29<=Z/\Z<=33):0<=m:=by
 unfold BF at e;simp only[Bool.and_eq_true]at e;obtain⟨⟨_,c⟩,_⟩:=e;have j:DF Z=0:=by unfold DF;rw[if_pos AB]
 rw[j]at c;unfold Dc EM at c;split at c
 ·simp only[Bool.and_eq_true,decide_eq_true_eq]at c;exact c.1
 ·simp only[beq_iff_eq]at c;omega
def yG:Ia->Prop
 |.inl (_,n)=>0<=n
 |.inr M'=>0<=M'.pc
theorem Wd(s:Bool)(e:Nat)(A:Int)(d h:Nat)(M:MV)(c:Int)(a:0<=c)(b:0<=M.pc):yG (Cm s e A d h M c):=by
 unfold Cm;split
 ·exact b
 ·split
  ·split
   ·exact a
   ·exact a
  ·exact b
theorem Yw(a b c:Bool)(d:Int)(M:MV)(e:Int)(h:0<=e)(k:0<=M.pc)(j:0<=d):yG (Da a b c d M e):=by
 unfold Da;split
 ·split
  ·exact j
  ·exact h
 ·exact k
theorem pJ(k d a b h:Nat)(c:Int)(M:MV)(m:Int)(e:0<=m)(j:0<=M.pc)(l:(29<=k/\k<=33)->0<=c):yG (exec k d a b h c M m):=by
 unfold exec;split;all_goals first
  |exact e
  |exact Wd _ _ _ _ _ _ _ e j
  |exact Yw _ _ _ _ _ _ e j (l Ad)
  |exact l Ad
  |exact j
  |(split
    ·exact e
    ·exact j)
structure Going(M:MV)(n:Nat):Prop where
 ok:M.Ok
 pc:0<=M.pc
 seen:M.nO<=n
theorem sF{F:Nat->Nat->Int}(a:EW X F=true){q:Nat}(b:q<X):BF (F q 0) (F q 1) (F q 2) (F q 3) (F q 4) (F q 5)=true:=by
 unfold EW at a;simp only[Bool.and_eq_true,decide_eq_true_eq,List.all_eq_true,List.mem_range]at a;have:=a.1.2 q b;unfold FP at this;simp only[Bool.and_eq_true]at this;exact this.1
theorem Mv{F:Nat->Nat->Int}(j:EW X F=true){M:MV}{n:Nat}(h:Going M n):Going (stepM X F M) (n+1):=by
 by_cases b:(X:Int)<=M.pc
 ·have:stepM X F M=M.fault:=by unfold stepM;rw[if_pos b]
  rw[this];exact⟨h.ok.faulted,h.pc,Nat.le_succ_of_le h.seen⟩
 ·have r:=(ZJ X F M).2.2
  refine⟨?_,?_,by have:=h.seen;omega⟩;all_goals
   rw[Oi X F M b];have k:=h.pc;have e:=sF j (q:=M.pc.toNat) AB;have m:=Ma e;have a:=Xq h.ok (F M.pc.toNat 0).toNat (F M.pc.toNat 1).toNat (F M.pc.toNat 2).toNat (F M.pc.toNat 3).toNat (F M.pc.toNat 5).toNat (F M.pc.toNat 4) (M.pc+1) AB AB;have d:=pJ (F M.pc.toNat 0).toNat (F M.pc.toNat 1).toNat (F M.pc.toNat 2).toNat (F M.pc.toNat 3).toNat (F M.pc.toNat 5).toNat (F M.pc.toNat 4) M (M.pc+1) AB k (fun p=>gm e AB);generalize exec (F M.pc.toNat 0).toNat (F M.pc.toNat 1).toNat (F M.pc.toNat 2).toNat (F M.pc.toNat 3).toNat (F M.pc.toNat 5).toNat (F M.pc.toNat 4) M (M.pc+1)=o at a d
  ·cases o with
   |inl q=>obtain⟨c,l⟩:=q;exact⟨a.reg,a.heaps,a.heap,a.dat⟩
   |inr c=>exact MV.Ok.faulted a
  ·cases o with
   |inl q=>obtain⟨c,l⟩:=q;exact d
   |inr c=>exact d
def Jh(len:Nat)(F:Nat->Nat->Int)(nR:Nat)(M:MV)(steps:Int):Option MV:=
 if EW len F&&Et nR M.z M.c M.hz M.hc M.nH M.Hp M.pc M.st M.nO M.K&&(EM steps 0 100000&&decide (M.nO<=100000))then some (MQ len F steps.toNat M)else none
end Go.Proofs.YtcjnmdgomocpgaaGreatDoor
