import Derived.Test.YtkckomianknjdaaGreatOfCoreF
import Derived.Test.YtkckomianknjdaaGreatOfSpecAny
import Derived.Test.YtkckomianknjdaaGreatOfDrawM0
import Derived.Test.YtkckomianknjdaaGreatOfTableParts
import Derived.Laws.AppendOwnNone
set_option maxHeartbeats 4000000
set_option maxRecDepth 20000
namespace Go.Proofs.YtkckomianknjdaaGreat
open Go.RowKit
theorem FY{S:Nat->Nat}{k C i:Nat}(h:i<k):Dk S k C i=S i:=QU AB
theorem UG(d:Nat->Bj)(a b:Nat->Nat)(k g c:Nat):first ((k+1)*3) (CO (place d (Dk a k g) (Dk b k c)))=first (k*3) (CO (place d a b))++[.int .u64 (d k).base,.bool (d k).wr,Vs g (d k).len c]:=by
 rw[show(k+1)*3=k*3+1+1+1 by omega,SK];have e:=FR (place d (Dk a k g) (Dk b k c)) k;rw[Nat.add_zero]at e;rw[e,FQ,show k*3+1+1=k*3+2 by omega,Ef];simp only[place,Fq];congr 1
 refine EU fun p j=>LJ j fun i h=>?_
 simp only[place,FY h]
theorem Mem.push{M X:World}{l:Nat}{R:Nat->Int}{z c B m:Bool}{d:Nat->Bj}{O st:Int}{p:Nat}{K V:Nat->Int}{C cR:Nat}{b:Option Addr}{Q:Nat}{S Y:Nat->Nat}{a:Option Addr}{cO:Nat}{k e o:Nat}{L:Option Addr}{N:Nat}
 (h:Mem M l ⟨C,cR,b,Q,S,Y,a,cO⟩ ⟨R,z,c,B,m,k,d,O,st,p,K,V⟩)
 (y:M.ownsRow l 5 1 (Vs e (d k).len o) (d k).len (first (d k).len (EH .u8 (d k).dat)))(A:∀i,i<k->S i≠e)
 (D:X.ownsRow l 76 3 (.slice L (k+1) N) (k+1) (first (k*3) (CO (place d S Y))++[.int .u64 (d k).base,.bool (d k).wr,Vs e (d k).len o]))
 (r:M.grownBy X (Value.slice b k Q).ownBlock):
 Mem X l ⟨C,cR,L,N,Dk S k e,Dk Y k o,a,cO⟩ ⟨R,z,c,B,m,k+1,d,O,st,p,K,V⟩:=by
 refine⟨h.regs.kept r (Ae h.regs h.heaps Aa),?_,fun i s=>?_,h.obs.kept r (Ae h.obs h.heaps Aa),fun i j s F x=>?_⟩
 ·show X.ownsRow l 76 3 (.slice L (k+1) N) (k+1) (first ((k+1)*3) (CO (place d (Dk S k e) (Dk Y k o))))
  rw[UG];exact D
 ·show X.ownsRow l 5 1 (.slice (some ⟨Dk S k e i,0,none⟩) (d i).len (Dk Y k o i)) (d i).len (first (d i).len (EH .u8 (d i).dat))
  by_cases n:i=k
  ·subst n
   rw[Fq,Fq];exact y.kept r (Ae y h.heaps Aa)
  ·have q:i<k:=by have:i<k+1:=s;omega
   rw[FY q,FY q];have:=h.data i q;exact this.kept r (Ae this h.heaps Aa)
 ·show Dk S k e i≠Dk S k e j
  have E:i<k+1:=s;have I:j<k+1:=F;by_cases n:i=k
  ·subst n
   rw[Fq,FY AB];exact Ne.symm (A j AB)
  ·by_cases u:j=k
   ·subst u
    rw[Fq,FY AB];exact A i AB
   ·rw[FY AB,FY AB]
    exact h.ne i j (by show i<k;omega) (by show j<k;omega) x
theorem JP{P:Program}{w:World}{b:Array Oper}{E:List Oper}{o:Oper}{a:Act}{Q:Exit->Act->World->Prop}(C:o.guard=none)(s x:Operand)(t:TypeId)
 (X:o.op=.call {callee:=.builtin .append,args:=#[s,x],argTypes:=#[t,t]})
 (l:Nat)(e:TypeId)(i:TypeInfo)(z:Value)(d p:Nat)(Z:P.underlying t=some (.slice e))(S:P.info? e=some i)(hz:i.zero=some z)
 (B:i.size=d)(L:i.bytes=p)(O:z.cells.size=d)(N:0<d)
 (v:Value)(n:Nat)(I:List Value)(Y:a.eval s=v)(q:w.ownsRow l e d v n I)
 (R:Option Addr)(J:Addr)(m c:Nat)(k:List Value)(hx:a.eval x=.slice R m c)(M:(R=none/\m=0/\c=0)∨R=some J)(U:k.length=m*d)(A:∀j u,k[j]?=some u->w.cell? (J.add j)=some u)(h1:∀u∈k,u.oneCell'=true)
 (K:n+m<=maxLen)(r:(n+m)*p<=140737488355328)(y:l<=w.heap.size)
 (h:∀F D,D.ownsRow l e d F (n+m) (I++k)->w.grownBy D v.ownBlock->wpList P b Q E (a.put o.dst F) D):wpList P b Q (o::E) a w:=by
 rcases M with⟨rfl,rfl,rfl⟩|rfl
 ·have hn:k=[]:=List.length_eq_zero_iff.1 (by simpa using U)
  subst hn;exact wpList_append_own_none C s x t X l e i d Z S v n I Y q hx (h v w (by simpa using q) ⟨rfl,rfl,rfl,BP,fun _ _ _=>rfl⟩)
 ·exact wpList_append_own w C s x t X l e i z d p Z S hz B L O N v n I Y q J m c k hx U A h1 K r y (fun F D h2 h3 _=>h F D h2 h3)
theorem Tf(xR:Option Addr)(N D nR:Nat)(R:Nat->Int)(z c hz hc:Bool)(E:Option Addr)(I bH nH:Nat)(Hp:Nat->Bj)(hA:Nat->Option Addr)(hC:Nat->Nat)(pc st:Int)(F:Option Addr)(J bO nO:Nat)(K V:Nat->Int)(w:World)(bP:nR=8)(bY:nH<=8)(bZ:nO<=1048576)(aM:∀i,i<nH->1<=(Hp i).len/\(Hp i).len<=4096)(hm:FN w xR N D nR R E I bH nH Hp hA hC F J bO nO K V):
 Calls Tryz.prog 21 #[.agg #[.slice xR nR N,.bool z,.bool c,.bool hz,.bool hc,.slice E nH I,Vi pc,Vi st,.slice F nO J]] w fun e d=>∃p:Pl,
  e=.returned (.agg #[Vs p.bR 8 p.cR,.bool z,.bool c,.bool hz,.bool hc,.slice p.aH nH p.cH,Vi pc,Vi st,.slice p.aO nO p.cO])/\Below w.heap.size w d/\Mem d w.heap.size p {R:=R,z:=z,c:=c,hz:=hz,hc:=hc,nH:=nH,Hp:=Hp,pc:=pc,st:=st,nO:=nO,K:=K,V:=V}:=by
 subst bP;obtain rfl:xR=some ⟨D,0,none⟩:=hm.eR.some AB;obtain⟨iU,hU,bA,bB,bC⟩:=info_parts MG;obtain⟨iO,hO,bs,bu,bv⟩:=info_parts Lv;have HM:=hxy hm;have HL:=hxy aM;clear hm aM;go_enter Tryz.func21,Tryz.ntmps21;go_upto_region 2 with fail;generalize ag:((w.alloc (.cells #[Vs D 8 N,.bool z,.bool c,.bool hz,.bool hc,.slice E nH I,Vi pc,Vi st,.slice F nO J] 28)).alloc (.cells #[.slice none 0 0,.bool false,.bool false,.bool false,.bool false,.slice none 0 0,Vi 0,Vi 0,.slice none 0 0] 28)).alloc (.cells #[Vs D 8 N,.bool z,.bool c,.bool hz,.bool hc,.slice E nH I,Vi pc,Vi st,.slice F nO J] 28)=L;have b0:Bw w L:=by rw[<-ag];exact((Ah).alloc AY _).alloc (by simp;omega) _
 have z0:L.heap.size=w.heap.size+3:=by rw[<-ag];simp
 have XB:L.ownsRow w.heap.size 28 9 (Vs w.heap.size 1 1) 1 [Vs D 8 N,.bool z,.bool c,.bool hz,.bool hc,.slice E nH I,Vi pc,Vi st,.slice F nO J]:=by rw[<-ag];exact((World.ownsRow_lit w #[Vs D 8 N,.bool z,.bool c,.bool hz,.bool hc,.slice E nH I,Vi pc,Vi st,.slice F nO J] 1 BP (by unfold maxLen;omega) rfl).alloc _).alloc _
 have XZ:L.ownsRow w.heap.size 28 9 (.slice (some ⟨w.heap.size+1,0,none⟩) 1 1) 1 [.slice none 0 0,.bool false,.bool false,.bool false,.bool false,.slice none 0 0,Vi 0,Vi 0,.slice none 0 0]:=by
  rw[<-ag];have:=(World.ownsRow_lit (base:=w.heap.size) (e:=28) (size:=9) (w.alloc (.cells #[Vs D 8 N,.bool z,.bool c,.bool hz,.bool hc,.slice E nH I,Vi pc,Vi st,.slice F nO J] 28)) #[.slice none 0 0,.bool false,.bool false,.bool false,.bool false,.slice none 0 0,Vi 0,Vi 0,.slice none 0 0] 1 AY (by unfold maxLen;omega) rfl).alloc (.cells #[Vs D 8 N,.bool z,.bool c,.bool hz,.bool hc,.slice E nH I,Vi pc,Vi st,.slice F nO J] 28);rw[World.size_alloc]at this;exact this
 have XO:L.ownsRow w.heap.size 28 9 (.slice (some ⟨w.heap.size+1+1,0,none⟩) 1 1) 1 [Vs D 8 N,.bool z,.bool c,.bool hz,.bool hc,.slice E nH I,Vi pc,Vi st,.slice F nO J]:=by
  rw[<-ag];have:=World.ownsRow_lit (base:=w.heap.size) (e:=28) (size:=9) ((w.alloc (.cells #[Vs D 8 N,.bool z,.bool c,.bool hz,.bool hc,.slice E nH I,Vi pc,Vi st,.slice F nO J] 28)).alloc (.cells #[.slice none 0 0,.bool false,.bool false,.bool false,.bool false,.slice none 0 0,Vi 0,Vi 0,.slice none 0 0] 28)) #[Vs D 8 N,.bool z,.bool c,.bool hz,.bool hc,.slice E nH I,Vi pc,Vi st,.slice F nO J] 1 (by simp;omega) (by unfold maxLen;omega) rfl;rw[World.size_alloc,World.size_alloc]at this;exact this
 have O:=hxy XB;have ao:=hxy XZ;have x:=hxy XO;have aj:=hxy b0;obtain⟨m0,m1,m2,m3,m4,m5,m6,m7,m8⟩:=BX O;obtain⟨o0,o1,o2,o3,o4,o5,o6,o7,o8⟩:=BX x;have of:∀i,L.frozen? ⟨w.heap.size+1+1,i,none⟩=false:=fun i=>x.frozenAt i
 have y0:w.heap.size<L.heap.size:=AB;have y1:w.heap.size+1<L.heap.size:=AB;have y2:w.heap.size+1+1<L.heap.size:=AB;have b4:w.heap.size+3<=L.heap.size:=AB;clear ag b0 XB XZ XO z0;go_wp2_with(first|(at_builtin;refine wpList_append_own _ rfl _ _ 24 rfl L.heap.size 74 iU (.int .u64 0) 1 8 Tryz.underlying24 hU bA bB bC rfl Aa _ 0 [] rfl (World.ownsRow_lit L #[] 0 BP (by unfold maxLen;omega) rfl) ⟨D,0,none⟩ 8 N (first (8*1) (EH .u64 R)) rfl (CJ _ _) ?c1 ?c2 ?c3 ?c4 ?c5 ?_)|go_in)
 case c1=>
  intro j u hj;obtain⟨hm,rfl⟩:=Eh hj;rw[Addr.add_lit,Nat.zero_add];have hA:=(HM.below aj BP).regs;exact((Ah).cell (p:=Va D j) hA.lt).trans (hA.cell AB)
 case c2=>
  intro u hu;obtain⟨j,_,rfl⟩:=Ej hu;exact rfl
 case c3=>unfold maxLen;omega
 case c4=>omega
 case c5=>simp
 intro v1 w1 ay ab _;have B1:Bw L w1:=(Ah).trans (Al.grown ab AY (by intro k hk;simp[Value.ownBlock]at hk;omega));have aY:w1.ownsRow L.heap.size 74 1 v1 8 (first 8 (EH .u64 R)):=by simpa using ay
 obtain⟨gR,cR,bQ⟩:=FP aY Aa;subst bQ;have aQ:=hxy aY;have U:=Am O B1;have au:=Am ao B1;have B:=Am x B1;have b1:=B1.size;have ai:Hid (Bw w w1):=aj.trans (B1.mono AB);clear ay ab aY B1 hU bA bB bC m0 m1 m2 m3 m4 m5 m6 m7 m8 o0 o1 o2 o3 o4 o5 o6 o7 o8 of y0 y1 y2;obtain⟨o0,o1,o2,o3,o4,o5,o6,o7,o8⟩:=BX B;obtain⟨m0,m1,m2,m3,m4,m5,m6,m7,m8⟩:=BX U;have of:∀i,w1.frozen? ⟨w.heap.size+1+1,i,none⟩=false:=fun i=>B.frozenAt i
 have y0:w.heap.size<w1.heap.size:=AB;have y2:w.heap.size+1+1<w1.heap.size:=AB;go_upto_region 3 with fail;generalize Z:w1.setCell ⟨w.heap.size+1+1,0,none⟩ (Vs gR 8 cR)=M;have bc:M.ownsRow w.heap.size 28 9 (Vs w.heap.size 1 1) 1 [Vs D 8 N,.bool z,.bool c,.bool hz,.bool hc,.slice E nH I,Vi pc,Vi st,.slice F nO J]:=by rw[<-Z];exact ownsRow_setCell_other U (by simp[Value.ownBlock];omega) _
 have bg:M.ownsRow w.heap.size 28 9 (.slice (some ⟨w.heap.size+1,0,none⟩) 1 1) 1 [.slice none 0 0,.bool false,.bool false,.bool false,.bool false,.slice none 0 0,Vi 0,Vi 0,.slice none 0 0]:=by rw[<-Z];exact ownsRow_setCell_other au (by simp[Value.ownBlock]) _
 have be:M.ownsRow w.heap.size 28 9 (.slice (some ⟨w.heap.size+1+1,0,none⟩) 1 1) 1 [Vs gR 8 cR,.bool z,.bool c,.bool hz,.bool hc,.slice E nH I,Vi pc,Vi st,.slice F nO J]:=by
  rw[<-Z];exact(B.stored 0 _).1
 have a7:Hid (M.ownsRow L.heap.size 74 1 (Vs gR 8 cR) 8 (first 8 (EH .u64 R))):=by
  have hl:=aQ.lt gR rfl;show M.ownsRow _ _ _ _ _ _;rw[<-Z];exact ownsRow_setCell_other aQ (by simp[Value.ownBlock];omega) _
 have B2:Bw w M:=by rw[<-Z];exact ai.setCell (by simp;omega) _
 have z2:w1.heap.size<=M.heap.size:=by rw[<-Z];simp
 clear Z U au B aQ ai aj O ao x m0 m1 m2 m3 m4 m5 m6 m7 m8 o0 o1 o2 o3 o4 o5 o6 o7 o8 of y0 y2;have Q:=hxy bc;have ap:=hxy bg;have y:=hxy be;have ak:=hxy B2;obtain⟨m0,m1,m2,m3,m4,m5,m6,m7,m8⟩:=BX Q;obtain⟨o0,o1,o2,o3,o4,o5,o6,o7,o8⟩:=BX y;have of:∀i,M.frozen? ⟨w.heap.size+1+1,i,none⟩=false:=fun i=>y.frozenAt i
 have y0:w.heap.size<M.heap.size:=AB;have y1:w.heap.size+1<M.heap.size:=AB;have y2:w.heap.size+1+1<M.heap.size:=AB;clear bc bg be B2;go_wp2_with(first|(at_builtin;refine JP rfl _ _ 26 rfl M.heap.size 109 iO (.agg #[Vi 0,.int .u64 0]) 2 16 Tryz.underlying26 hO bs bu bv rfl Aa _ 0 [] rfl (World.ownsRow_lit M #[] 0 BP (by unfold maxLen;omega) rfl) F ⟨bO,0,none⟩ nO J (first (nO*2) (CR K V)) rfl HM.eO (CJ _ _) ?c1 ?c2 ?c3 ?c4 ?c5 ?_)|go_in)
 case c1=>
  intro j u hj;obtain⟨hm,rfl⟩:=Eh hj;rw[Addr.add_lit,Nat.zero_add];have hA:=(HM.below ak BP).obs;exact((Ah).cell (p:=Va bO j) hA.lt).trans (hA.cell AB)
 case c2=>
  intro u hu;obtain⟨j,_,rfl⟩:=Ej hu;exact Rb K V j
 case c3=>unfold maxLen;omega
 case c4=>omega
 case c5=>simp
 intro v3 w3 az ac;have B3:Bw M w3:=(Ah).trans (Al.grown ac AY (by intro k hk;simp[Value.ownBlock]at hk;omega));have aZ:w3.ownsRow M.heap.size 109 2 v3 nO (first (nO*2) (CR K V)):=by simpa using az
 obtain⟨aO,cO,bS⟩:=JC aZ;subst bS;have aP:=hxy aZ;have aR:=hxy (Am a7 B3);have U:=Am Q B3;have au:=Am ap B3;have B:=Am y B3;have b2:=B3.size;have ai:Hid (Bw w w3):=ak.trans (B3.mono AB);clear az ac aZ B3 hO bs bu bv a7 m0 m1 m2 m3 m4 m5 m6 m7 m8 o0 o1 o2 o3 o4 o5 o6 o7 o8 of y0 y1 y2;obtain⟨o0,o1,o2,o3,o4,o5,o6,o7,o8⟩:=BX B;obtain⟨m0,m1,m2,m3,m4,m5,m6,m7,m8⟩:=BX U;have of:∀i,w3.frozen? ⟨w.heap.size+1+1,i,none⟩=false:=fun i=>B.frozenAt i
 have y0:w.heap.size<w3.heap.size:=AB;have y2:w.heap.size+1+1<w3.heap.size:=AB;go_wp2_with fail;generalize C:((w3.setCell ⟨w.heap.size+1+1,8,none⟩ (.slice aO nO cO)).setCell ⟨w.heap.size+1+1,5,none⟩ (Vs w3.heap.size 0 0)).alloc (.cells #[] 76)=w4;have bd:w4.ownsRow w.heap.size 28 9 (Vs w.heap.size 1 1) 1 [Vs D 8 N,.bool z,.bool c,.bool hz,.bool hc,.slice E nH I,Vi pc,Vi st,.slice F nO J]:=by rw[<-C];exact(ownsRow_setCell_other (ownsRow_setCell_other U (by simp[Value.ownBlock];omega) _) (by simp[Value.ownBlock];omega) _).alloc _
 have bh:w4.ownsRow w.heap.size 28 9 (.slice (some ⟨w.heap.size+1,0,none⟩) 1 1) 1 [.slice none 0 0,.bool false,.bool false,.bool false,.bool false,.slice none 0 0,Vi 0,Vi 0,.slice none 0 0]:=by rw[<-C];exact(ownsRow_setCell_other (ownsRow_setCell_other au (by simp[Value.ownBlock]) _) (by simp[Value.ownBlock]) _).alloc _
 have bf:w4.ownsRow w.heap.size 28 9 (.slice (some ⟨w.heap.size+1+1,0,none⟩) 1 1) 1 [Vs gR 8 cR,.bool z,.bool c,.bool hz,.bool hc,Vs w3.heap.size 0 0,Vi pc,Vi st,.slice aO nO cO]:=by
  rw[<-C];exact(((B.stored 8 _).1).stored 5 _).1.alloc _
 have lR:=aR.lt gR rfl;have R4:w4.ownsRow L.heap.size 74 1 (Vs gR 8 cR) 8 (first 8 (EH .u64 R)):=by
  rw[<-C];exact(ownsRow_setCell_other (ownsRow_setCell_other aR (by simp[Value.ownBlock];omega) _) (by simp[Value.ownBlock];omega) _).alloc _
 have a1:(Value.slice aO nO cO).ownBlock≠some (w.heap.size+1+1):=fun q=>by have:=(aP.lt _ q).1;omega
 have O4:w4.ownsRow M.heap.size 109 2 (.slice aO nO cO) nO (first (nO*2) (CR K V)):=by
  rw[<-C];exact(ownsRow_setCell_other (ownsRow_setCell_other aP a1 _) a1 _).alloc _
 have H4:w4.ownsRow w.heap.size 76 3 (Vs w3.heap.size 0 0) 0 []:=by
  rw[<-C];have:=World.ownsRow_lit (base:=w.heap.size) (e:=76) (size:=3) ((w3.setCell ⟨w.heap.size+1+1,8,none⟩ (.slice aO nO cO)).setCell ⟨w.heap.size+1+1,5,none⟩ (Vs w3.heap.size 0 0)) #[] 0 (by simp;omega) (by unfold maxLen;omega) rfl;simpa using this
 have bL:Hid (Mem w4 w.heap.size ⟨gR,cR,some ⟨w3.heap.size,0,none⟩,0,fun _=>0,fun _=>0,aO,cO⟩ ⟨R,z,c,hz,hc,0,Hp,pc,st,nO,K,V⟩):=
  ⟨R4.mono AB,by simpa[first]using H4,fun i hi=>absurd hi (Nat.not_lt_zero _),O4.mono AB,fun i j hi=>absurd hi (Nat.not_lt_zero _)⟩
 have bK:Hid (Bw w w4):=by
  show Bw w w4;rw[<-C];exact((ai.setCell (by simp;omega) _).setCell (by simp;omega) _).alloc (by simp;omega) _
 have a9:=hxy bd;have bb:=hxy bh;have ba:=hxy bf;have z4:w3.heap.size<w4.heap.size:=by rw[<-C];simp
 clear C bd bh bf R4 O4 H4 U au B ai aR aP a1 lR m0 m1 m2 m3 m4 m5 m6 m7 m8 o0 o1 o2 o3 o4 o5 o6 o7 o8 of y0 y2 ak Q ap y;go_loopw [4](fun i wr=>∃k:Nat,k<=nH/\i=Vi k/\Bw w wr/\∃(aH:Option Addr)(cH:Nat)(X ae:Nat->Nat),wr.ownsRow w.heap.size 28 9 (Vs w.heap.size 1 1) 1 [Vs D 8 N,.bool z,.bool c,.bool hz,.bool hc,.slice E nH I,Vi pc,Vi st,.slice F nO J]/\wr.ownsRow w.heap.size 28 9 (.slice (some ⟨w.heap.size+1,0,none⟩) 1 1) 1 [.slice none 0 0,.bool false,.bool false,.bool false,.bool false,.slice none 0 0,Vi 0,Vi 0,.slice none 0 0]/\wr.ownsRow w.heap.size 28 9 (.slice (some ⟨w.heap.size+1+1,0,none⟩) 1 1) 1 [Vs gR 8 cR,.bool z,.bool c,.bool hz,.bool hc,.slice aH k cH,Vi pc,Vi st,.slice aO nO cO]/\Mem wr w.heap.size ⟨gR,cR,aH,cH,X,ae,aO,cO⟩ ⟨R,z,c,hz,hc,k,Hp,pc,st,nO,K,V⟩)(fun i _=>nH-(intOf i).toNat)
 case atStart=>exact⟨0,Nat.zero_le _,rfl,bK,some ⟨w3.heap.size,0,none⟩,0,fun _=>0,fun _=>0,a9,bb,ba,bL⟩
 case round=>
  obtain⟨k,hk,rfl,bE,aH,cH,X,ae,xb,xz,xo,bF⟩:=hrel;have aD:=hxy bE;have bM:=hxy xb;have aU:=hxy xz;have aT:=hxy xo;have am:=hxy bF;have lO:=xo.lt (w.heap.size+1+1) rfl;have y2:=lO.2;have y0:w.heap.size<wr.heap.size:=AB;have y1:w.heap.size+1<wr.heap.size:=AB;have m5:wr.cell? ⟨w.heap.size,5,none⟩=some (.slice E nH I):=xb.cellAt 5 Aa;clear bE xb xz xo bF lO;by_cases aX:k<nH
  ·have bV:(k:Int)<nH:=AB
   obtain rfl:E=some ⟨bH,0,none⟩:=HM.eH.some AB;have ax:=(HM.below aD BP).heaps;obtain⟨bD,eD,bw⟩:=(HM.below aD BP).data k aX (by have:=(HL k aX).1;omega);have zH:=ax.lt;have c0:wr.cell? (Va bH (k*3))=some (.int .u64 (Hp k).base):=by
    have:=ax.cell (i:=k*3+0) AB;rw[FR]at this;exact this
   have c1:wr.cell? (Va bH (k*3+1))=some (.bool (Hp k).wr):=by
    have:=ax.cell (i:=k*3+1) AB;rw[FQ]at this;exact this
   have c2:wr.cell? (Va bH (k*3+2))=some (Vs bD (Hp k).len (hC k)):=by
    have:=ax.cell (i:=k*3+2) AB;rw[Ef]at this;dsimp only[Bj.put]at this;rw[eD]at this;exact this
   have an:=hxy bw;have hl:=HL.out k aX;obtain⟨bW,bX⟩:=hl;clear ax eD bw;go_upto_region 9 with fail;generalize aI:wr.alloc (.cells #[.int .u64 (Hp k).base,.bool (Hp k).wr,Vs bD (Hp k).len (hC k)] 76)=o;have bx:Bw wr o:=by rw[<-aI];exact Ah
   have XI:o.ownsRow wr.heap.size 76 3 (Vs wr.heap.size 1 1) 1 [.int .u64 (Hp k).base,.bool (Hp k).wr,Vs bD (Hp k).len (hC k)]:=by rw[<-aI];exact World.ownsRow_lit wr #[.int .u64 (Hp k).base,.bool (Hp k).wr,Vs bD (Hp k).len (hC k)] 1 BP (by unfold maxLen;omega) rfl
   have yx:wr.heap.size<o.heap.size:=by rw[<-aI];simp
   have XO:=Am aT bx;have cc:o.cell? ⟨w.heap.size+1+1,5,none⟩=some (.slice aH k cH)/\o.cell? ⟨wr.heap.size,0,none⟩=some (.int .u64 (Hp k).base)/\o.cell? ⟨wr.heap.size,1,none⟩=some (.bool (Hp k).wr)/\o.cell? ⟨wr.heap.size,2,none⟩=some (Vs bD (Hp k).len (hC k)):=⟨XO.cellAt 5 Aa,XI.cellAt 0 Aa,XI.cellAt 1 Aa,XI.cellAt 2 Aa⟩
   obtain⟨S,af⟩:∃S:World->Prop,S=fun d=>d.cell? ⟨w.heap.size+1+1,5,none⟩=some (.slice aH k cH)/\d.cell? ⟨wr.heap.size,0,none⟩=some (.int .u64 (Hp k).base)/\d.cell? ⟨wr.heap.size,1,none⟩=some (.bool (Hp k).wr)/\d.cell? ⟨wr.heap.size,2,none⟩=some (Vs bD (Hp k).len (hC k)):=⟨_,rfl⟩
   have j5:∀d,Such S d->d.cell? ⟨w.heap.size+1+1,5,none⟩=some (.slice aH k cH):=fun d h=>by unfold Such at h;rw[af]at h;exact h.1
   have j0:∀d,Such S d->d.cell? ⟨wr.heap.size,0,none⟩=some (.int .u64 (Hp k).base):=fun d h=>by unfold Such at h;rw[af]at h;exact h.2.1
   have j1:∀d,Such S d->d.cell? ⟨wr.heap.size,1,none⟩=some (.bool (Hp k).wr):=fun d h=>by unfold Such at h;rw[af]at h;exact h.2.2.1
   have j2:∀d,Such S d->d.cell? ⟨wr.heap.size,2,none⟩=some (Vs bD (Hp k).len (hC k)):=fun d h=>by unfold Such at h;rw[af]at h;exact h.2.2.2
   have ar:Hid (∀d:World,d.heap[w.heap.size+1+1]?=o.heap[w.heap.size+1+1]?->d.heap[wr.heap.size]?=o.heap[wr.heap.size]?->Such S d):=fun d h1 h2=>by
    unfold Such;rw[af];exact⟨(World.cell?_of_block (a:=⟨w.heap.size+1+1,5,none⟩) h1).trans cc.1,(World.cell?_of_block (a:=⟨wr.heap.size,0,none⟩) h2).trans cc.2.1,(World.cell?_of_block (a:=⟨wr.heap.size,1,none⟩) h2).trans cc.2.2.1,(World.cell?_of_block (a:=⟨wr.heap.size,2,none⟩) h2).trans cc.2.2.2⟩
   have A:Hid (∀d,Bw o d->Such S d):=fun d h=>ar.out d (h.block _ AB) (h.block _ yx)
   have a6:=hxy (am.below bx);have a8:=hxy (an.below bx an.lt);have aE:=hxy bx;obtain⟨iB,gB,bk,bl,bm⟩:=info_parts Ll;obtain⟨iH,gH,bn,bo,bp⟩:=info_parts KQ;have aF:Hid (_/\_/\_/\_):=⟨gB,bk,bl,bm⟩
   have aG:Hid (_/\_/\_/\_):=⟨gH,bn,bo,bp⟩
   clear aI bx XI XO cc af c0 c1 c2 an m5 gB bk bl bm gH bn bo bp;refine Ak (T:=Such S) (s:=14) Ab (A _ Al.drew) (fun hHeld=>?_);refine lS [0,1,2,3,4,5,7,8] ?_;refine Ac (i:=6) rfl Ab (fun KK hK=>?_);go_simp;generalize a0:(o.alloc (.cells #[] 5)).drew=w6;have b6:Bw o w6:=by rw[<-a0];exact(Ah).drew
   have E6:w6.ownsRow o.heap.size 5 1 (Vs o.heap.size 0 0) 0 []:=by rw[<-a0];exact(World.ownsRow_lit o #[] 0 BP (by unfold maxLen;omega) rfl).drew
   have a5:=hxy E6;have ah:=hxy b6;clear a0 E6;refine hK.out _ _ (A _ b6) (fun bI=>?_);clear hK KK b6;try go_frame
   refine Ac (i:=9) rfl Ab (fun KK hK=>?_);refine Ey rfl (.tmp 37) (.tmp 39) 22 rfl o.heap.size 5 iB (.int .u8 0) 1 1 Tryz.underlying22 aF.1 aF.2.1 aF.2.2.1 aF.2.2.2 rfl Aa (Vs o.heap.size 0 0) 0 [] rfl a5 ⟨bD,0,none⟩ (Hp k).len (hC k) (first ((Hp k).len*1) (EH .u8 (Hp k).dat)) rfl (CJ _ _) ?d1 ?d2 (by unfold maxLen;omega) AB ah.size ?_
   case d1=>
    intro j u hj;obtain⟨hm,rfl⟩:=Eh hj;rw[Addr.add_lit,Nat.zero_add];exact(ah.cell (p:=Va bD j) a8.lt).trans (a8.cell AB)
   case d2=>
    intro u hu;obtain⟨j,_,rfl⟩:=Ej hu;rfl
   intro vD w9 aA ad;have hD:w9.ownsRow o.heap.size 5 1 vD (Hp k).len (first (Hp k).len (EH .u8 (Hp k).dat)):=by simpa using aA
   obtain⟨gD,cD,bT⟩:=FP hD AB;subst bT;have b9:Bw o w9:=ah.trans (Al.grown ad ah.size (by intro k hk;simp[Value.ownBlock]at hk;omega));have a4:=hxy hD
   have aN:=hxy b9
   clear aA ad hD a5 ah
   refine hK.out _ _ (A _ b9) (fun bJ=>?_)
   clear hK KK b9
   try go_frame
   refine BR 10 ?_
   refine Ac (i:=11) rfl Ab (fun KK hK=>?_)
   go_simp
   generalize aB:w9.alloc (.cells #[.int .u64 (Hp k).base,.bool (Hp k).wr,Vs gD (Hp k).len cD] 76)=bG
   have aW:Bw w9 bG:=by rw[<-aB];exact Ah
   have a2:bG.ownsRow w9.heap.size 76 3 (Vs w9.heap.size 1 1) 1 [.int .u64 (Hp k).base,.bool (Hp k).wr,Vs gD (Hp k).len cD]:=by rw[<-aB];exact World.ownsRow_lit w9 #[.int .u64 (Hp k).base,.bool (Hp k).wr,Vs gD (Hp k).len cD] 1 BP (by unfold maxLen;omega) rfl
   have aJ:=hxy a2
   have aC:=aN.trans (aW.mono aN.size)
   have l:=hxy aC
   have al:=hxy (Am a4 aW)
   have m:=hxy (a6.below aC)
   clear aB aW a2 a4 aN a6
   refine hK.out _ _ (A _ aC) (fun bq=>?_)
   clear hK KK aC
   try go_frame
   refine Ac (i:=12) rfl Ab (fun KK hK=>?_)
   refine Ey rfl (.tmp 32) (.tmp 42) 25 rfl w.heap.size 76 iH (.agg #[.int .u64 0,.bool false,.slice none 0 0]) 3 40 Tryz.underlying25 aG.1 aG.2.1 aG.2.2.1 aG.2.2.2 rfl Aa (.slice aH k cH) k (first (k*3) (CO (place Hp X ae))) rfl m.heaps ⟨w9.heap.size,0,none⟩ 1 1 [.int .u64 (Hp k).base,.bool (Hp k).wr,Vs gD (Hp k).len cD] rfl rfl ?d3 ?d4 (by unfold maxLen;omega) AB (by have:=l.size;omega) ?_
   case d3=>
    intro j u hj
    have bN:j<3:=by
     have:=(List.getElem?_eq_some_iff.1 hj).1
     simpa using this
    have:=aJ.cellAt j (by simpa using bN)
    rw[Addr.add_lit,Nat.zero_add]
    exact this.trans hj
   case d4=>
    intro u hu
    simp at hu
    rcases hu with rfl|rfl|rfl<;>rfl
   intro vH n Y b
   obtain⟨bi,bj,bU⟩:=JC Y
   subst bU
   have lD:=al.lt gD rfl
   have aK:Hid (Mem n w.heap.size ⟨gR,cR,bi,bj,Dk X k gD,Dk ae k cD,aO,cO⟩ ⟨R,z,c,hz,hc,k+1,Hp,pc,st,nO,K,V⟩):=Mem.push m (al.mono AB) (fun i hi=>by have:=((am.data i hi).lt (X i) rfl).2;omega) Y b
   have zz:=l.size
   have aa:=Am (Am aT aE) l
   have av:=Am (Am bM aE) l
   have aw:=Am (Am aU aE) l
   have r:Hid (n.ownsRow w.heap.size 28 9 (.slice (some ⟨w.heap.size+1+1,0,none⟩) 1 1) 1 [Vs gR 8 cR,.bool z,.bool c,.bool hz,.bool hc,.slice aH k cH,Vi pc,Vi st,.slice aO nO cO]):=aa.kept b (Ae aa m.heaps Aa)
   have aS:Hid (n.ownsRow w.heap.size 28 9 (Vs w.heap.size 1 1) 1 [Vs D 8 N,.bool z,.bool c,.bool hz,.bool hc,Vs bH nH I,Vi pc,Vi st,.slice F nO J]):=av.kept b (Ae av m.heaps Aa)
   have aV:Hid (n.ownsRow w.heap.size 28 9 (.slice (some ⟨w.heap.size+1,0,none⟩) 1 1) 1 [.slice none 0 0,.bool false,.bool false,.bool false,.bool false,.slice none 0 0,Vi 0,Vi 0,.slice none 0 0]):=aw.kept b (Ae aw m.heaps Aa)
   have a3:Hid (Bw w n):=(aD.trans ((aE.trans (l.mono AB)).mono AB)).trans (Al.grown b AB (fun k hk=>(m.heaps.lt k hk).1))
   have g1:n.heap[w.heap.size+1+1]?=o.heap[w.heap.size+1+1]?:=(b.block _ AB (CU (Ae aa m.heaps Aa))).trans (l.block _ AB)
   have g2:n.heap[wr.heap.size]?=o.heap[wr.heap.size]?:=(b.block _ AB (fun q=>by have:=(am.heaps.lt _ q.symm).2;omega)).trans (l.block _ yx)
   have b5:=b.size
   clear Y b aa av aw m al aJ lD
   refine hK.out _ _ (ar _ g1 g2) (fun br=>?_)
   clear hK KK g1 g2
   try go_frame
   refine BR 13 ?_
   have o5:n.cell? ⟨w.heap.size+1+1,5,none⟩=some (.slice aH k cH):=r.cellAt 5 Aa
   have of:∀i,n.frozen? ⟨w.heap.size+1+1,i,none⟩=false:=fun i=>r.frozenAt i
   have b3:w.heap.size+1+1<n.heap.size:=AB
   refine Ai rfl Ab Ab (fun KK hK=>?_)
   go_simp
   refine hK.out _ _ ?_
   clear hK KK
   go_wp2
   go_roundw
   case rel=>
    refine⟨k+1,AB,by go_num,a3.setCell (by simp;omega) _,bi,bj,Dk X k gD,Dk ae k cD,ownsRow_setCell_other aS (by simp[Value.ownBlock];omega) _,ownsRow_setCell_other aV (by simp[Value.ownBlock]) _,(r.stored 5 _).1,?_⟩
    exact Mem.setOff aK (Uf aK r) _ _
   case measure=>simp[intOf];omega
  ·obtain rfl:k=nH:=AB
   have XO:=aT.out
   have XZ:=aU.out
   obtain⟨o0,o1,o2,o3,o4,o5,o6,o7,o8⟩:=BX XO
   obtain⟨s0,s1,s2,s3,s4,s5,s6,s7,s8⟩:=BX XZ
   have sf:∀i,wr.frozen? ⟨w.heap.size+1,i,none⟩=false:=fun i=>XZ.frozenAt i
   clear XO XZ
   go_wp2
   refine bodyPost_ret (v:=.agg #[Vs gR 8 cR,.bool z,.bool c,.bool hz,.bool hc,.slice aH k cH,Vi pc,Vi st,.slice aO nO cO]) (by simp[results,Tryz.results21,go_sem,s0,s1,s2,s3,s4,s5,s6,s7,s8]) rfl ⟨⟨gR,cR,aH,cH,X,ae,aO,cO⟩,rfl,?_,?_⟩
   ·iterate 9 refine Below.setCell ?_ AY _
    exact aD
   ·iterate 9 refine Mem.setOff ?_ (Uf am aU) _ _
    exact am
end Go.Proofs.YtkckomianknjdaaGreat
