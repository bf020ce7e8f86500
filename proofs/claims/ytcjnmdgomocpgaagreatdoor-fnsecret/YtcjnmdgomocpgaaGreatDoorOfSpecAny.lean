import Derived.Test.YtcjnmdgomocpgaaGreatDoorSpecRestS
set_option maxHeartbeats 40000000
set_option maxRecDepth 1000000
namespace Go.Proofs.YtcjnmdgomocpgaaGreatDoor
open Go.RowKit
variable {k l:Nat}{j w:World}
section
variable{w:World}{base:Nat}{p:Pl}{M:MV}
theorem lN(h0:Mem w base p M)(hk:M.Ok)(d a b h:Nat)(l:Int)(hd:d<8)(ha:a<8)(hb:b<8):
 Ks 84 #[.agg #[Vs p.bR 8 p.cR,.bool M.z,.bool M.c,.bool M.hz,.bool M.hc,.slice p.aH M.nH p.cH,Vi M.pc,Vi M.st,.slice p.aO M.nO p.cO],.agg #[Vi 15,Vi d,Vi a,Vi b,Vi l,Vi h]] w (Bf base w (uq 15 d a b h l M)):=by
 have am:(d:Int)<8:=AB;have ak:(a:Int)<8:=AB;have al:(b:Int)<8:=AB;have ra:=h0.reg ha;have rb:=h0.reg hb;have rd:=h0.reg hd;have fd:=h0.freeR d;have zR:=h0.ltR.2;have pa:=hk.reg a ha;have pb:=hk.reg b hb;obtain⟨ag,ah⟩:=pa;obtain⟨ai,aj⟩:=pb;have H0:=hxy h0;clear h0 hk;go_enter Tryz.func84,Tryz.ntmps84;go_upto_region 1 with fail;generalize I:((w.alloc (.cells #[Vs p.bR 8 p.cR,.bool M.z,.bool M.c,.bool M.hz,.bool M.hc,.slice p.aH M.nH p.cH,Vi M.pc,Vi M.st,.slice p.aO M.nO p.cO] 39)).alloc (.cells #[Vi 15,Vi d,Vi a,Vi b,Vi l,Vi h] 99)).alloc (.cells Zq 39)=L;have b0:Bw w L:=by rw[<-I];exact((Ai).alloc AX _).alloc (by simp;omega) _
 have z0:L.heap.size=w.heap.size+3:=by rw[<-I];simp
 have XM:L.ownsRow w.heap.size 39 9 (Vs w.heap.size 1 1) 1 [Vs p.bR 8 p.cR,.bool M.z,.bool M.c,.bool M.hz,.bool M.hc,.slice p.aH M.nH p.cH,Vi M.pc,Vi M.st,.slice p.aO M.nO p.cO]:=by rw[<-I];exact((World.ownsRow_lit w #[Vs p.bR 8 p.cR,.bool M.z,.bool M.c,.bool M.hz,.bool M.hc,.slice p.aH M.nH p.cH,Vi M.pc,Vi M.st,.slice p.aO M.nO p.cO] 1 BQ (by unfold maxLen;omega) rfl).alloc _).alloc _
 have XI:L.ownsRow w.heap.size 99 6 (.slice (some ⟨w.heap.size+1,0,none⟩) 1 1) 1 [Vi 15,Vi d,Vi a,Vi b,Vi l,Vi h]:=by
  rw[<-I];have:=(World.ownsRow_lit (base:=w.heap.size) (e:=99) (size:=6) (w.alloc (.cells #[Vs p.bR 8 p.cR,.bool M.z,.bool M.c,.bool M.hz,.bool M.hc,.slice p.aH M.nH p.cH,Vi M.pc,Vi M.st,.slice p.aO M.nO p.cO] 39)) #[Vi 15,Vi d,Vi a,Vi b,Vi l,Vi h] 1 AX (by unfold maxLen;omega) rfl).alloc (.cells Zq 39);rw[World.size_alloc]at this;exact this
 have XZ:L.ownsRow w.heap.size 39 9 (.slice (some ⟨w.heap.size+1+1,0,none⟩) 1 1) 1 Zp:=by
  rw[<-I];have:=World.ownsRow_lit (base:=w.heap.size) (e:=39) (size:=9) ((w.alloc (.cells #[Vs p.bR 8 p.cR,.bool M.z,.bool M.c,.bool M.hz,.bool M.hc,.slice p.aH M.nH p.cH,Vi M.pc,Vi M.st,.slice p.aO M.nO p.cO] 39)).alloc (.cells #[Vi 15,Vi d,Vi a,Vi b,Vi l,Vi h] 99)) Zq 1 (by simp;omega) (by unfold maxLen;omega) rfl;rw[World.size_alloc,World.size_alloc]at this;exact this
 obtain⟨m0,m1,N,m3,O,m5,m6,m7,m8⟩:=Dl XM;obtain⟨Y,Z,i2,i3,i4,i5⟩:=E5 XI;obtain⟨s0,s1,s2,s3,s4,s5,s6,s7,s8⟩:=Dl XZ;have mf:∀i,L.frozen? ⟨w.heap.size,i,none⟩=false:=fun i=>XM.frozenAt i
 have sf:∀i,L.frozen? ⟨w.heap.size+1+1,i,none⟩=false:=fun i=>XZ.frozenAt i
 have S:=(b0.cell (p:=⟨p.bR,a,none⟩) zR).trans ra;have U:=(b0.cell (p:=⟨p.bR,b,none⟩) zR).trans rb;have o:=(b0.cell (p:=⟨p.bR,d,none⟩) zR).trans rd;have n:=(b0.frozen (p:=⟨p.bR,d,none⟩) zR).trans fd;have m:p.bR<L.heap.size:=AB;have J:w.heap.size<L.heap.size:=AB;have y1:w.heap.size+1<L.heap.size:=AB;have K:w.heap.size+1+1<L.heap.size:=AB;have n0:p.bR≠w.heap.size:=AB;have n1:p.bR≠w.heap.size+1:=AB;have n2:p.bR≠w.heap.size+1+1:=AB;have Q:=hxy b0;clear I b0 XM XI XZ ra rb rd fd;cases hh:M.hc with
 |false=>
  have r:uq 15 d a b h l M=M.fault:=by unfold uq exec;simp[hh]
  have HE:Hid _:=r;clear r;rw[hh]at O;go_wp2_with fail;refine(A9 _ _ _ _ _ _ _ _ _ _ _ _ _ _ _ _).mono ?_;rintro e k⟨rfl,j⟩;have ac:=c9b j J m0 m1 N m3 O m5 m6 m7 m8;have ab:=yh j y1 Y Z i2 i3 i4 i5;obtain⟨u,x,y,A,B,C,D,E,F⟩:=c9b j K s0 s1 s2 s3 s4 s5 s6 s7 s8;have ad:∀i,k.frozen? ⟨w.heap.size,i,none⟩=false:=fun i=>(j.frozen (p:=⟨w.heap.size,i,none⟩) J).trans (mf i)
  have af:∀i,k.frozen? ⟨w.heap.size+1+1,i,none⟩=false:=fun i=>(j.frozen (p:=⟨w.heap.size+1+1,i,none⟩) K).trans (sf i)
  have ae:=(j.cell (p:=⟨p.bR,d,none⟩) m).trans o;have aa:=(j.frozen (p:=⟨p.bR,d,none⟩) m).trans n;have v0:w.heap.size<k.heap.size:=Ey J j.size;have v1:w.heap.size+1<k.heap.size:=Ey y1 j.size;have v2:w.heap.size+1+1<k.heap.size:=Ey K j.size;have vR:p.bR<k.heap.size:=Ey m j.size;have s:Hid (Bw w k):=Q.trans (j.mono AB);clear j m0 m1 N m3 O m5 m6 m7 m8 Y Z i2 i3 i4 i5 s0 s1 s2 s3 s4 s5 s6 s7 s8 mf sf o n S U;go_wp2;refine mY (.agg #[Vs p.bR 8 p.cR,.bool M.z,.bool M.c,.bool M.hz,.bool false,.slice p.aH M.nH p.cH,Vi M.pc,Vi 2,.slice p.aO M.nO p.cO]) (by simp[results,Tryz.results84,go_sem,u,x,y,A,B,C,D,E,F]) ?_;rw[HE.out,<-hh];refine Bf.fault H0 ?_;iterate 9 refine Below.setCell ?_ (by simp;omega) _
  exact s
 |true=>
  rw[hh]at O;cases hf:M.c with
  |false=>
   rw[hf]at N;go_wp2_with fail;refine(Bc _ _ _ _ _ _ _ _ _ _ _ _ _ _ _ (IntKind.u64.wrap (M.R a+M.R b)) (decide (IntKind.u64.wrap (M.R a+M.R b)<M.R a)) _).mono ?_;rintro e k⟨rfl,j⟩;have ac:=c9b j J m0 m1 N m3 O m5 m6 m7 m8;have ab:=yh j y1 Y Z i2 i3 i4 i5;obtain⟨u,x,y,A,B,C,D,E,F⟩:=c9b j K s0 s1 s2 s3 s4 s5 s6 s7 s8;have ad:∀i,k.frozen? ⟨w.heap.size,i,none⟩=false:=fun i=>(j.frozen (p:=⟨w.heap.size,i,none⟩) J).trans (mf i)
   have af:∀i,k.frozen? ⟨w.heap.size+1+1,i,none⟩=false:=fun i=>(j.frozen (p:=⟨w.heap.size+1+1,i,none⟩) K).trans (sf i)
   have ae:=(j.cell (p:=⟨p.bR,d,none⟩) m).trans o;have aa:=(j.frozen (p:=⟨p.bR,d,none⟩) m).trans n;have v0:w.heap.size<k.heap.size:=Ey J j.size;have v1:w.heap.size+1<k.heap.size:=Ey y1 j.size;have v2:w.heap.size+1+1<k.heap.size:=Ey K j.size;have vR:p.bR<k.heap.size:=Ey m j.size;have s:Hid (Bw w k):=Q.trans (j.mono AB);clear j m0 m1 N m3 O m5 m6 m7 m8 Y Z i2 i3 i4 i5 s0 s1 s2 s3 s4 s5 s6 s7 s8 mf sf o n S U;have r:uq 15 d a b h l M=(M.setR d (IntKind.u64.wrap (M.R a+M.R b))).flags (IntKind.u64.wrap (M.R a+M.R b)) (decide (IntKind.u64.wrap (M.R a+M.R b)<M.R a)):=by
    have e1:uq 15 d a b h l M=(M.setR d (Ih (M.R a) (M.R b) 0)).flags (Ih (M.R a) (M.R b) 0) (carry (M.R a) (M.R b) 0 !=0):=by unfold uq exec;simp[hh,hf]
    rw[e1,ED,MN ag ah ai aj]
   generalize hV:IntKind.u64.wrap (M.R a+M.R b)=V at r⊢;generalize X:decide (V=0)=zb;generalize hC:(decide (V<M.R a))=cb at r⊢;have HE:Hid _:=r;have HZ:Hid _:=X;clear r hV X hC;go_wp2;refine mY (.agg #[Vs p.bR 8 p.cR,.bool zb,.bool cb,.bool true,.bool true,.slice p.aH M.nH p.cH,Vi M.pc,Vi M.st,.slice p.aO M.nO p.cO]) (by simp[results,Tryz.results84,go_sem,u,x,y,A,B,C,D,E,F]) ?_;rw[HE.out,<-HZ.out];refine Bf.setF H0 d _ _ _ ?_;iterate 9 refine Below.setCell ?_ (by simp;omega) _
   refine Dp (p:=⟨p.bR,d,none⟩) ?_ zR _;iterate 9 refine Below.setCell ?_ AX _
   exact s
  |true=>
   rw[hf]at N;have e1:uq 15 d a b h l M=(M.setR d (Ih (M.R a) (M.R b) 1)).flags (Ih (M.R a) (M.R b) 1) (carry (M.R a) (M.R b) 1 !=0):=by unfold uq exec;simp[hh,hf]
   have e2:=UD ag ah ai aj;have E1:Hid _:=e1;have E2:Hid _:=e2;clear e1 e2;by_cases q:IntKind.u64.wrap (M.R a+M.R b)<M.R a
   ·go_wp2_with fail
    refine(Bc _ _ _ _ _ _ _ _ _ _ _ _ _ _ _ (IntKind.u64.wrap (IntKind.u64.wrap (M.R a+M.R b)+1)) true _).mono ?_;rintro e k⟨rfl,j⟩;have ac:=c9b j J m0 m1 N m3 O m5 m6 m7 m8;have ab:=yh j y1 Y Z i2 i3 i4 i5;obtain⟨u,x,y,A,B,C,D,E,F⟩:=c9b j K s0 s1 s2 s3 s4 s5 s6 s7 s8;have ad:∀i,k.frozen? ⟨w.heap.size,i,none⟩=false:=fun i=>(j.frozen (p:=⟨w.heap.size,i,none⟩) J).trans (mf i)
    have af:∀i,k.frozen? ⟨w.heap.size+1+1,i,none⟩=false:=fun i=>(j.frozen (p:=⟨w.heap.size+1+1,i,none⟩) K).trans (sf i)
    have ae:=(j.cell (p:=⟨p.bR,d,none⟩) m).trans o;have aa:=(j.frozen (p:=⟨p.bR,d,none⟩) m).trans n;have v0:w.heap.size<k.heap.size:=Ey J j.size;have v1:w.heap.size+1<k.heap.size:=Ey y1 j.size;have v2:w.heap.size+1+1<k.heap.size:=Ey K j.size;have vR:p.bR<k.heap.size:=Ey m j.size;have s:Hid (Bw w k):=Q.trans (j.mono AB);clear j m0 m1 N m3 O m5 m6 m7 m8 Y Z i2 i3 i4 i5 s0 s1 s2 s3 s4 s5 s6 s7 s8 mf sf o n S U;have r:uq 15 d a b h l M=(M.setR d (IntKind.u64.wrap (IntKind.u64.wrap (M.R a+M.R b)+1))).flags (IntKind.u64.wrap (IntKind.u64.wrap (M.R a+M.R b)+1)) true:=by
     rw[E1.out,ED (M.R a) (M.R b),QW,<-E2.out];rw[ED]at q;simp[q]
    generalize hV:IntKind.u64.wrap (IntKind.u64.wrap (M.R a+M.R b)+1)=V at r⊢;generalize X:decide (V=0)=zb;have HE:Hid _:=r;have HZ:Hid _:=X;clear r hV X;go_wp2;refine mY (.agg #[Vs p.bR 8 p.cR,.bool zb,.bool true,.bool true,.bool true,.slice p.aH M.nH p.cH,Vi M.pc,Vi M.st,.slice p.aO M.nO p.cO]) (by simp[results,Tryz.results84,go_sem,u,x,y,A,B,C,D,E,F]) ?_;rw[HE.out,<-HZ.out];refine Bf.setF H0 d _ _ _ ?_;iterate 9 refine Below.setCell ?_ (by simp;omega) _
    refine Dp (p:=⟨p.bR,d,none⟩) ?_ zR _;iterate 9 refine Below.setCell ?_ AX _
    exact s
   ·go_wp2_with fail
    refine(Bc _ _ _ _ _ _ _ _ _ _ _ _ _ _ _ (IntKind.u64.wrap (IntKind.u64.wrap (M.R a+M.R b)+1)) (IntKind.u64.wrap (IntKind.u64.wrap (M.R a+M.R b)+1)==0) _).mono ?_;rintro e k⟨rfl,j⟩;have ac:=c9b j J m0 m1 N m3 O m5 m6 m7 m8;have ab:=yh j y1 Y Z i2 i3 i4 i5;obtain⟨u,x,y,A,B,C,D,E,F⟩:=c9b j K s0 s1 s2 s3 s4 s5 s6 s7 s8;have ad:∀i,k.frozen? ⟨w.heap.size,i,none⟩=false:=fun i=>(j.frozen (p:=⟨w.heap.size,i,none⟩) J).trans (mf i)
    have af:∀i,k.frozen? ⟨w.heap.size+1+1,i,none⟩=false:=fun i=>(j.frozen (p:=⟨w.heap.size+1+1,i,none⟩) K).trans (sf i)
    have ae:=(j.cell (p:=⟨p.bR,d,none⟩) m).trans o;have aa:=(j.frozen (p:=⟨p.bR,d,none⟩) m).trans n;have v0:w.heap.size<k.heap.size:=Ey J j.size;have v1:w.heap.size+1<k.heap.size:=Ey y1 j.size;have v2:w.heap.size+1+1<k.heap.size:=Ey K j.size;have vR:p.bR<k.heap.size:=Ey m j.size;have s:Hid (Bw w k):=Q.trans (j.mono AB);clear j m0 m1 N m3 O m5 m6 m7 m8 Y Z i2 i3 i4 i5 s0 s1 s2 s3 s4 s5 s6 s7 s8 mf sf o n S U;have r:uq 15 d a b h l M=(M.setR d (IntKind.u64.wrap (IntKind.u64.wrap (M.R a+M.R b)+1))).flags (IntKind.u64.wrap (IntKind.u64.wrap (M.R a+M.R b)+1)) (IntKind.u64.wrap (IntKind.u64.wrap (M.R a+M.R b)+1)==0):=by
     rw[E1.out,ED (M.R a) (M.R b),QW,<-E2.out];rw[ED]at q;have q2:¬Ih (M.R a) (M.R b) 0<M.R a:=AB;simp[q2]
    generalize hV:IntKind.u64.wrap (IntKind.u64.wrap (M.R a+M.R b)+1)=V at r⊢;generalize X:decide (V=0)=zb;generalize hC:(V==0)=cb at r⊢;have HE:Hid _:=r;have HZ:Hid _:=X;clear r hV X hC;go_wp2;refine mY (.agg #[Vs p.bR 8 p.cR,.bool zb,.bool cb,.bool true,.bool true,.slice p.aH M.nH p.cH,Vi M.pc,Vi M.st,.slice p.aO M.nO p.cO]) (by simp[results,Tryz.results84,go_sem,u,x,y,A,B,C,D,E,F]) ?_;rw[HE.out,<-HZ.out];refine Bf.setF H0 d _ _ _ ?_;iterate 9 refine Below.setCell ?_ (by simp;omega) _
    refine Dp (p:=⟨p.bR,d,none⟩) ?_ zR _;iterate 9 refine Below.setCell ?_ AX _
    exact s
end
section
variable{w:World}{base:Nat}{p:Pl}{M:MV}
theorem SQ(o:Mem w base p M)(q:M.Ok)(l d a b h:Nat)(j:Int)(U:d<8)(Q:a<8)(S:b<8)(hn:M.nO<=1048576)(K:l=21∨l=22∨l=23∨l=24):
 Ks 120 #[.agg #[Vs p.bR 8 p.cR,.bool M.z,.bool M.c,.bool M.hz,.bool M.hc,.slice p.aH M.nH p.cH,Vi M.pc,Vi M.st,.slice p.aO M.nO p.cO],.agg #[Vi l,Vi d,Vi a,Vi b,Vi j,Vi h]] w fun e w'=>MR base w (uq l d a b h j M) e w'/\∀k,k<w.heap.size->Off p M.nH M.nO k->w'.heap[k]?=w.heap[k]?:=by
 have ai:(d:Int)<8:=AB;have ag:(a:Int)<8:=AB;have ah:(b:Int)<8:=AB;have ra:=o.reg Q;have rb:=o.reg S;have rd:=o.reg U;have fd:=o.freeR d;have Y:=o.ltR.2;have pa:=q.reg a Q;have pb:=q.reg b S;obtain⟨aj,ak⟩:=pa;obtain⟨al,am⟩:=pb;have ae:=hxy q.heap;have ad:=hxy q.dat;have pd:=q.reg d U;obtain⟨an,ao⟩:=pd;have H0:=hxy o;have HK:Hid M.Ok:=q;clear o q;go_enter Tryz.func120,Tryz.ntmps120;go_upto_region 1 with fail;generalize n:((w.alloc (.cells #[Vs p.bR 8 p.cR,.bool M.z,.bool M.c,.bool M.hz,.bool M.hc,.slice p.aH M.nH p.cH,Vi M.pc,Vi M.st,.slice p.aO M.nO p.cO] 39)).alloc (.cells #[Vi l,Vi d,Vi a,Vi b,Vi j,Vi h] 99)).alloc (.cells Zq 39)=m;have u:Bw w m:=by rw[<-n];exact((Ai).alloc AX _).alloc (by simp;omega) _
 have z0:m.heap.size=w.heap.size+3:=by rw[<-n];simp
 have N:m.ownsRow w.heap.size 39 9 (Vs w.heap.size 1 1) 1 [Vs p.bR 8 p.cR,.bool M.z,.bool M.c,.bool M.hz,.bool M.hc,.slice p.aH M.nH p.cH,Vi M.pc,Vi M.st,.slice p.aO M.nO p.cO]:=by rw[<-n];exact((World.ownsRow_lit w #[Vs p.bR 8 p.cR,.bool M.z,.bool M.c,.bool M.hz,.bool M.hc,.slice p.aH M.nH p.cH,Vi M.pc,Vi M.st,.slice p.aO M.nO p.cO] 1 BQ (by unfold maxLen;omega) rfl).alloc _).alloc _
 have Z:m.ownsRow w.heap.size 99 6 (.slice (some ⟨w.heap.size+1,0,none⟩) 1 1) 1 [Vi l,Vi d,Vi a,Vi b,Vi j,Vi h]:=by
  rw[<-n];have:=(World.ownsRow_lit (base:=w.heap.size) (e:=99) (size:=6) (w.alloc (.cells #[Vs p.bR 8 p.cR,.bool M.z,.bool M.c,.bool M.hz,.bool M.hc,.slice p.aH M.nH p.cH,Vi M.pc,Vi M.st,.slice p.aO M.nO p.cO] 39)) #[Vi l,Vi d,Vi a,Vi b,Vi j,Vi h] 1 AX (by unfold maxLen;omega) rfl).alloc (.cells Zq 39);rw[World.size_alloc]at this;exact this
 have O:m.ownsRow w.heap.size 39 9 (.slice (some ⟨w.heap.size+1+1,0,none⟩) 1 1) 1 Zp:=by
  rw[<-n];have:=World.ownsRow_lit (base:=w.heap.size) (e:=39) (size:=9) ((w.alloc (.cells #[Vs p.bR 8 p.cR,.bool M.z,.bool M.c,.bool M.hz,.bool M.hc,.slice p.aH M.nH p.cH,Vi M.pc,Vi M.st,.slice p.aO M.nO p.cO] 39)).alloc (.cells #[Vi l,Vi d,Vi a,Vi b,Vi j,Vi h] 99)) Zq 1 (by simp;omega) (by unfold maxLen;omega) rfl;rw[World.size_alloc,World.size_alloc]at this;exact this
 have m0:=Dl N;have i0:=E5 Z;obtain⟨s0,s1,s2,s3,s4,s5,s6,X,s8⟩:=Dl O;have mf:∀i,m.frozen? ⟨w.heap.size,i,none⟩=false:=fun i=>N.frozenAt i
 have sf:∀i,m.frozen? ⟨w.heap.size+1+1,i,none⟩=false:=fun i=>O.frozenAt i
 have ap:=(u.cell (p:=⟨p.bR,a,none⟩) Y).trans ra;have ar:=(u.cell (p:=⟨p.bR,b,none⟩) Y).trans rb;have au:=(u.cell (p:=⟨p.bR,d,none⟩) Y).trans rd;have af:=(u.frozen (p:=⟨p.bR,d,none⟩) Y).trans fd;have av:p.bR<m.heap.size:=AB;have y0:w.heap.size<m.heap.size:=AB;have y1:w.heap.size+1<m.heap.size:=AB;have y2:w.heap.size+1+1<m.heap.size:=AB;have n0:p.bR≠w.heap.size:=AB;have n1:p.bR≠w.heap.size+1:=AB;have n2:p.bR≠w.heap.size+1+1:=AB;have y:=hxy u;have C:=hxy N;have D:=hxy O;have B:=hxy Z;have E:=hxy z0;clear n u N Z O z0 ra rb rd fd;go_wp2_with fail;go_cut [5]from 12(fun s5 L=>s5=.int .u64 (IntKind.u64.wrap (M.R a+IntKind.u64.wrap j))/\L=m.drew)
 case first=>
  go_region;all_goals
   go_wp2_with fail;go_meet;exact⟨rfl,rfl⟩
 case rest=>
 obtain⟨rfl,rfl⟩:=hcut;have hA:=Du (M.R a+IntKind.u64.wrap j);have HE:Hid (∀k2,l=k2->uq l d a b h j M=uq k2 d a b h j M):=fun _ e=>by rw[e]
 generalize J:IntKind.u64.wrap (M.R a+IntKind.u64.wrap j)=A at hA⊢;have x:=hxy J;obtain⟨F,I⟩:=hA;clear J;obtain⟨s,ab⟩:∃s:Bool,((l=21/\s=false)∨(l=23/\s=true))∨((l=22/\s=false)∨(l=24/\s=true)):=by rcases K with h|h|h|h<;>simp[h]
 clear K;rcases ab with h|h
 ·rcases h with⟨rfl,r⟩|⟨rfl,r⟩<;>
  (go_upto_region 7 with fail
   go_cut [7]from 12(fun X L=>X=.bool s/\L=m.drew)
   case first=>
    go_wp2_with fail;go_meet;exact⟨by rw[r],rfl⟩
   case rest=>
   subst r;obtain⟨rfl,rfl⟩:=hcut;refine(by assumption:∀(aa:Act)(ac:World),_->_) _ _ ?_;exact Me _ H0 HK _ 1 d a b h j U Q S hn _ A (by rw[<-x.out];rfl) F I Ad Ad y E C B D BJ.drew rfl)
 ·rcases h with⟨rfl,r⟩|⟨rfl,r⟩<;>
  (go_upto_region 7 with fail
   go_cut [7]from 12(fun X L=>X=.bool s/\L=m.drew)
   case first=>
    go_wp2_with fail;go_meet;exact⟨by rw[r],rfl⟩
   case rest=>
   subst r;obtain⟨rfl,rfl⟩:=hcut;refine(by assumption:∀(aa:Act)(ac:World),_->_) _ _ ?_;exact Me _ H0 HK _ 8 d a b h j U Q S hn _ A (by rw[<-x.out];rfl) F I Ad Ad y E C B D BJ.drew rfl)
end
section
variable{w:World}{base:Nat}{p:Pl}{M:MV}
theorem TS(o:Mem w base p M)(q:M.Ok)(l d a b h:Nat)(j:Int)(U:d<8)(Q:a<8)(S:b<8)(hn:M.nO<=1048576)(L:l=25∨l=26∨l=27∨l=28):
 Ks 120 #[.agg #[Vs p.bR 8 p.cR,.bool M.z,.bool M.c,.bool M.hz,.bool M.hc,.slice p.aH M.nH p.cH,Vi M.pc,Vi M.st,.slice p.aO M.nO p.cO],.agg #[Vi l,Vi d,Vi a,Vi b,Vi j,Vi h]] w fun e w'=>MR base w (uq l d a b h j M) e w'/\∀k,k<w.heap.size->Off p M.nH M.nO k->w'.heap[k]?=w.heap[k]?:=by
 have aj:(d:Int)<8:=AB;have ah:(a:Int)<8:=AB;have ai:(b:Int)<8:=AB;have ra:=o.reg Q;have rb:=o.reg S;have rd:=o.reg U;have fd:=o.freeR d;have Z:=o.ltR.2;have pa:=q.reg a Q;have pb:=q.reg b S;obtain⟨ak,al⟩:=pa;obtain⟨am,an⟩:=pb;have ae:=hxy q.heap;have ad:=hxy q.dat;have pd:=q.reg d U;obtain⟨ao,ap⟩:=pd;have H0:=hxy o;have HK:Hid M.Ok:=q;clear o q;go_enter Tryz.func120,Tryz.ntmps120;go_upto_region 1 with fail;generalize n:((w.alloc (.cells #[Vs p.bR 8 p.cR,.bool M.z,.bool M.c,.bool M.hz,.bool M.hc,.slice p.aH M.nH p.cH,Vi M.pc,Vi M.st,.slice p.aO M.nO p.cO] 39)).alloc (.cells #[Vi l,Vi d,Vi a,Vi b,Vi j,Vi h] 99)).alloc (.cells Zq 39)=m;have x:Bw w m:=by rw[<-n];exact((Ai).alloc AX _).alloc (by simp;omega) _
 have z0:m.heap.size=w.heap.size+3:=by rw[<-n];simp
 have N:m.ownsRow w.heap.size 39 9 (Vs w.heap.size 1 1) 1 [Vs p.bR 8 p.cR,.bool M.z,.bool M.c,.bool M.hz,.bool M.hc,.slice p.aH M.nH p.cH,Vi M.pc,Vi M.st,.slice p.aO M.nO p.cO]:=by rw[<-n];exact((World.ownsRow_lit w #[Vs p.bR 8 p.cR,.bool M.z,.bool M.c,.bool M.hz,.bool M.hc,.slice p.aH M.nH p.cH,Vi M.pc,Vi M.st,.slice p.aO M.nO p.cO] 1 BQ (by unfold maxLen;omega) rfl).alloc _).alloc _
 have XI:m.ownsRow w.heap.size 99 6 (.slice (some ⟨w.heap.size+1,0,none⟩) 1 1) 1 [Vi l,Vi d,Vi a,Vi b,Vi j,Vi h]:=by
  rw[<-n];have:=(World.ownsRow_lit (base:=w.heap.size) (e:=99) (size:=6) (w.alloc (.cells #[Vs p.bR 8 p.cR,.bool M.z,.bool M.c,.bool M.hz,.bool M.hc,.slice p.aH M.nH p.cH,Vi M.pc,Vi M.st,.slice p.aO M.nO p.cO] 39)) #[Vi l,Vi d,Vi a,Vi b,Vi j,Vi h] 1 AX (by unfold maxLen;omega) rfl).alloc (.cells Zq 39);rw[World.size_alloc]at this;exact this
 have O:m.ownsRow w.heap.size 39 9 (.slice (some ⟨w.heap.size+1+1,0,none⟩) 1 1) 1 Zp:=by
  rw[<-n];have:=World.ownsRow_lit (base:=w.heap.size) (e:=39) (size:=9) ((w.alloc (.cells #[Vs p.bR 8 p.cR,.bool M.z,.bool M.c,.bool M.hz,.bool M.hc,.slice p.aH M.nH p.cH,Vi M.pc,Vi M.st,.slice p.aO M.nO p.cO] 39)).alloc (.cells #[Vi l,Vi d,Vi a,Vi b,Vi j,Vi h] 99)) Zq 1 (by simp;omega) (by unfold maxLen;omega) rfl;rw[World.size_alloc,World.size_alloc]at this;exact this
 have m0:=Dl N;have i0:=E5 XI;obtain⟨s0,s1,s2,s3,s4,X,s6,Y,s8⟩:=Dl O;have mf:∀i,m.frozen? ⟨w.heap.size,i,none⟩=false:=fun i=>N.frozenAt i
 have sf:∀i,m.frozen? ⟨w.heap.size+1+1,i,none⟩=false:=fun i=>O.frozenAt i
 have ar:=(x.cell (p:=⟨p.bR,a,none⟩) Z).trans ra;have au:=(x.cell (p:=⟨p.bR,b,none⟩) Z).trans rb;have av:=(x.cell (p:=⟨p.bR,d,none⟩) Z).trans rd;have af:=(x.frozen (p:=⟨p.bR,d,none⟩) Z).trans fd;have aw:p.bR<m.heap.size:=AB;have y0:w.heap.size<m.heap.size:=AB;have y1:w.heap.size+1<m.heap.size:=AB;have y2:w.heap.size+1+1<m.heap.size:=AB;have n0:p.bR≠w.heap.size:=AB;have n1:p.bR≠w.heap.size+1:=AB;have n2:p.bR≠w.heap.size+1+1:=AB;have B:=hxy x;have D:=hxy N;have E:=hxy O;have C:=hxy XI;have F:=hxy z0;clear n x N XI O z0 ra rb rd fd;go_wp2_with fail;go_cut [5]from 12(fun X u=>X=.int .u64 (IntKind.u64.wrap (M.R a+IntKind.u64.wrap j))/\u=m.drew)
 case first=>
  go_region;all_goals
   go_wp2_with fail;go_meet;exact⟨rfl,rfl⟩
 case rest=>
 obtain⟨rfl,rfl⟩:=hcut;have ag:(25:Int)<=l:=AB;go_upto_region 3 with fail;go_cut [5]from 12(fun X u=>X=.int .u64 (IntKind.u64.wrap (M.R a+M.R b))/\u=m.drew.drew)
 case first=>
  go_region;all_goals
   go_wp2_with fail;go_meet;exact⟨rfl,rfl⟩
 case rest=>
 obtain⟨rfl,rfl⟩:=hcut;have hA:=Du (M.R a+M.R b);have HE:Hid (∀k2,l=k2->uq l d a b h j M=uq k2 d a b h j M):=fun _ e=>by rw[e]
 generalize K:IntKind.u64.wrap (M.R a+M.R b)=A at hA⊢;have y:=hxy K;obtain⟨I,J⟩:=hA;clear K;obtain⟨s,ab⟩:∃s:Bool,((l=25/\s=false)∨(l=27/\s=true))∨((l=26/\s=false)∨(l=28/\s=true)):=by rcases L with h|h|h|h<;>simp[h]
 clear L;rcases ab with h|h
 ·rcases h with⟨rfl,r⟩|⟨rfl,r⟩<;>
  (go_upto_region 7 with fail
   go_cut [7]from 12(fun Y u=>Y=.bool s/\u=m.drew.drew)
   case first=>
    go_wp2_with fail;go_meet;exact⟨by rw[r],rfl⟩
   case rest=>
   subst r;obtain⟨rfl,rfl⟩:=hcut;refine(by assumption:∀(aa:Act)(ac:World),_->_) _ _ ?_;exact Me _ H0 HK _ 1 d a b h j U Q S hn _ A (by rw[<-y.out];rfl) I J Ad Ad B F D C E BJ.drew.drew rfl)
 ·rcases h with⟨rfl,r⟩|⟨rfl,r⟩<;>
  (go_upto_region 7 with fail
   go_cut [7]from 12(fun Y u=>Y=.bool s/\u=m.drew.drew)
   case first=>
    go_wp2_with fail;go_meet;exact⟨by rw[r],rfl⟩
   case rest=>
   subst r;obtain⟨rfl,rfl⟩:=hcut;refine(by assumption:∀(aa:Act)(ac:World),_->_) _ _ ?_;exact Me _ H0 HK _ 8 d a b h j U Q S hn _ A (by rw[<-y.out];rfl) I J Ad Ad B F D C E BJ.drew.drew rfl)
end
def Jb(o:Ia):MV:=match o with
 |.inl (M',nx)=>{M' with pc:=nx}
 |.inr M'=>M'.fault
theorem Oi(a:Nat)(F:Nat->Nat->Int)(M:MV)(h:¬(a:Int)<=M.pc):
 stepM a F M=Jb (exec (F M.pc.toNat 0).toNat (F M.pc.toNat 1).toNat (F M.pc.toNat 2).toNat (F M.pc.toNat 3).toNat (F M.pc.toNat 5).toNat (F M.pc.toNat 4) M (M.pc+1)):=by
 unfold stepM;rw[if_neg h];rfl
theorem Kv(M:MV)(h o:Nat)(v:Int):∀k,(M.pokeN h o v k).st=M.st/\(M.pokeN h o v k).pc=M.pc
 |0=>⟨rfl,rfl⟩
 |k+1=>by have:=Kv M h o v k;exact this
def Plain(M:MV)(f:Int->Ia):Prop:=(∃M',(∀nx,f nx=.done M' nx)/\M'.st=M.st/\M'.pc=M.pc)∨(∃M',∀nx,f nx=.flt M')
theorem Ua(s:Bool)(c:Nat)(A:Int)(d h:Nat)(M:MV):Plain M (Cm s c A d h M):=by
 unfold Cm;by_cases a:M.nH<=h
 ·simp only[if_pos a];exact .inr ⟨_,fun _=>rfl⟩
 ·simp only[if_neg a]
  by_cases b:(lies (M.Hp h).base A c (M.Hp h).len&&(!s||(M.Hp h).wr))=true
  ·simp only[if_pos b]
   cases s with
   |true=>exact .inl ⟨_,fun _=>rfl,(Kv _ _ _ _ _).1,(Kv _ _ _ _ _).2⟩
   |false=>exact .inl ⟨_,fun _=>rfl,rfl,rfl⟩
  ·simp only[if_neg b];exact .inr ⟨_,fun _=>rfl⟩
theorem Oh(b:Bool)(M a:MV)(c:a.st=M.st)(d:a.pc=M.pc):Plain M (fun e=>if b then .done a e else .flt M):=by
 cases b
 ·exact .inr ⟨M,fun _=>rfl⟩
 ·exact .inl ⟨a,fun _=>rfl,c,d⟩
theorem Vx(c d a b h:Nat)(e:Int)(M:MV)(k:1<=c)(l:c<=28):Plain M (exec c d a b h e M):=by
 have j:c=1∨c=2∨c=3∨c=4∨c=5∨c=6∨c=7∨c=8∨c=9∨c=10∨c=11∨c=12∨c=13∨c=14∨c=15∨c=16∨c=17∨c=18∨c=19∨c=20∨c=21∨c=22∨c=23∨c=24∨c=25∨c=26∨c=27∨c=28:=AB;rcases j with rfl|rfl|rfl|rfl|rfl|rfl|rfl|rfl|rfl|rfl|rfl|rfl|rfl|rfl|rfl|rfl|rfl|rfl|rfl|rfl|rfl|rfl|rfl|rfl|rfl|rfl|rfl|rfl;iterate 14 exact .inl ⟨_,fun _=>rfl,rfl,rfl⟩
 ·exact Oh M.hc M _ rfl rfl
 iterate 3 exact .inl ⟨_,fun _=>rfl,rfl,rfl⟩
 ·exact Oh M.hz M _ rfl rfl
 ·exact Oh M.hc M _ rfl rfl
 all_goals exact Ua _ _ _ _ _ _
theorem Xu(e d a b h:Nat)(c:Int)(M:MV)(o:1<=e)(p:e<=28)(q:M.st=0):
 ((uq e d a b h c M).st=0/\(uq e d a b h c M).pc=M.pc/\Jb (exec e d a b h c M (M.pc+1))={uq e d a b h c M with pc:=M.pc+1})∨
 ((uq e d a b h c M).st=2/\Jb (exec e d a b h c M (M.pc+1))=uq e d a b h c M):=by
 rcases Vx e d a b h c M o p with⟨k,j,m,n⟩|⟨k,j⟩
 ·left
  have l:uq e d a b h c M=k:=by unfold uq;rw[j]
  rw[l,j];exact⟨m.trans q,n,rfl⟩
 ·right
  have l:uq e d a b h c M=k.fault:=by unfold uq;rw[j]
  rw[l,j];exact⟨rfl,rfl⟩
theorem Ot{e s n Y g:Nat}{d:List Value}(h:w.ownsRow l e s (Vs g n Y) n d)(q:j.heap[g]?=w.heap[g]?):j.ownsRow l e s (Vs g n Y) n d:=by
 refine⟨h.1,?_⟩;rcases h.2 with p|⟨r,c,b,k,m,o,a⟩
 ·exact .inl p
 ·simp only[Value.slice.injEq,Option.some.injEq,Addr.mk.injEq,and_true,true_and]at k
  obtain⟨rfl,rfl⟩:=k;exact .inr ⟨g,Y,b,rfl,m,q.trans o,a⟩
theorem Rc(h:w.grownBy j (some k))(o:Nat)(v:Value):w.grownBy (j.setCell (Va k o) v) (some k):=
 ⟨h.os,h.tape,h.output,by simpa using h.size,fun q b a=>(heap_setCell_other _ _ _ _ (fun e=>a (by rw[e]))).trans (h.block q b a)⟩
theorem kN{p:Pl}{M:MV}(h:Mem w l p M){C:Array Value}{a:Nat}{c:Nat×Nat}(b:w.heap[k]?=some (.cells C a c))(e:a≠41)(j:a≠43)(m:a≠5)(n:a≠167):Off p M.nH M.nO k:=
 ⟨fun q=>Nh h.regs b e (by rw[q];rfl),Nh h.heaps b j,fun i d q=>Nh (h.data i d) b m (by rw[<-q];rfl),Nh h.obs b n⟩
theorem Xc{I s n Y:Nat}{d:List Value}{p:Pl}{M:MV}(h:Mem w l p M)(c:w.ownsRow I 39 s (Vs k n Y) n d):Off p M.nH M.nO k:=by
 obtain⟨a,b⟩:=gW c rfl;exact kN h b Ad Ad Ad Ad
theorem Z4{p:Pl}{M:MV}(h:Mem w l p M)(b:w.heap.size<=k):Off p M.nH M.nO k:=by
 refine⟨?_,fun q=>?_,fun i a=>?_,fun q=>?_⟩
 ·have:=(h.regs.lt p.bR rfl).2;omega
 ·have:=(h.heaps.lt k q).2;omega
 ·have:=((h.data i a).lt (p.blk i) rfl).2;omega
 ·have:=(h.obs.lt k q).2;omega
def MV.but(M:MV)(z c hz hc:Bool)(pc st:Int):MV:={M with z:=z,c:=c,hz:=hz,hc:=hc,pc:=pc,st:=st}
theorem Mem.but{p:Pl}{M:MV}(h:Mem w l p M)(z c b a:Bool)(d e:Int):Mem w l p (M.but z c b a d e):=⟨h.regs,h.heaps,h.data,h.obs,h.ne⟩
theorem Bf.but{p:Pl}{M:MV}(h:Mem w l p M)(z c d b:Bool)(e k:Int)(a:Below w.heap.size w j):Bf l w (M.but z c d b e k) (.returned (xX p (M.but z c d b e k))) j:=
 ⟨⟨p,rfl,a.mono (Nat.le_of_lt (Nat.lt_of_le_of_lt h.ltR.1 h.ltR.2)),(h.but z c d b e k).below a⟩,Kept.below a⟩
theorem Kept.trans{a b c:World}(h:Kept a b)(k:Kept b c):Kept a c:=fun i d p e j l m n o=>by
 have:=h i d p e j l m n o;exact(k i d p e (this.trans j) l m n o).trans this
theorem Kept.new(h:Kept w j)(p:w.heap.size<=k)(o:Nat)(v:Value):Kept w (j.setCell (Va k o) v):=fun i a n c b d e l m=>by
 have q:=Kept.lt b;rw[heap_setCell_other _ _ _ _ (show i≠k by omega)];exact h i a n c b d e l m
theorem Kept.grown{p:Pl}{M:MV}(h:Mem w l p M)(b:w.grownBy j (Value.slice p.aO M.nO p.cO).ownBlock):Kept w j:=fun k _ _ _ a _ _ _ c=>
 b.block k (Kept.lt a) (fun q=>Nh h.obs a c q.symm)
section
variable{w:World}{base:Nat}{p:Pl}{M:MV}
theorem PZ(B:Mem w base p M)(C:M.Ok)(m d a b h:Nat)(j:Int)(s:d<8)(q:a<8)(r:b<8)(y:M.nO<=1048576)(L:m=21∨m=22∨m=23∨m=24∨m=25∨m=26∨m=27∨m=28):
 Ks 84 #[.agg #[Vs p.bR 8 p.cR,.bool M.z,.bool M.c,.bool M.hz,.bool M.hc,.slice p.aH M.nH p.cH,Vi M.pc,Vi M.st,.slice p.aO M.nO p.cO],.agg #[Vi m,Vi d,Vi a,Vi b,Vi j,Vi h]] w (Bf base w (uq m d a b h j M)):=by
 have ai:(d:Int)<8:=AB;have ag:(a:Int)<8:=AB;have ah:(b:Int)<8:=AB;have ra:=B.reg q;have rb:=B.reg r;have rd:=B.reg s;have fd:=B.freeR d;have Q:=B.ltR.2;have pa:=C.reg a q;have pb:=C.reg b r;obtain⟨aj,ak⟩:=pa;obtain⟨al,am⟩:=pb;have E:=hxy B;have u:Hid M.Ok:=C;clear B C;go_enter Tryz.func84,Tryz.ntmps84;go_upto_region 1 with fail;generalize o:((w.alloc (.cells #[Vs p.bR 8 p.cR,.bool M.z,.bool M.c,.bool M.hz,.bool M.hc,.slice p.aH M.nH p.cH,Vi M.pc,Vi M.st,.slice p.aO M.nO p.cO] 39)).alloc (.cells #[Vi m,Vi d,Vi a,Vi b,Vi j,Vi h] 99)).alloc (.cells Zq 39)=n;have F:Bw w n:=by rw[<-o];exact((Ai).alloc AX _).alloc (by simp;omega) _
 have z0:n.heap.size=w.heap.size+3:=by rw[<-o];simp
 have Z:n.ownsRow w.heap.size 39 9 (Vs w.heap.size 1 1) 1 [Vs p.bR 8 p.cR,.bool M.z,.bool M.c,.bool M.hz,.bool M.hc,.slice p.aH M.nH p.cH,Vi M.pc,Vi M.st,.slice p.aO M.nO p.cO]:=by rw[<-o];exact((World.ownsRow_lit w #[Vs p.bR 8 p.cR,.bool M.z,.bool M.c,.bool M.hz,.bool M.hc,.slice p.aH M.nH p.cH,Vi M.pc,Vi M.st,.slice p.aO M.nO p.cO] 1 BQ (by unfold maxLen;omega) rfl).alloc _).alloc _
 have XI:n.ownsRow w.heap.size 99 6 (.slice (some ⟨w.heap.size+1,0,none⟩) 1 1) 1 [Vi m,Vi d,Vi a,Vi b,Vi j,Vi h]:=by
  rw[<-o];have:=(World.ownsRow_lit (base:=w.heap.size) (e:=99) (size:=6) (w.alloc (.cells #[Vs p.bR 8 p.cR,.bool M.z,.bool M.c,.bool M.hz,.bool M.hc,.slice p.aH M.nH p.cH,Vi M.pc,Vi M.st,.slice p.aO M.nO p.cO] 39)) #[Vi m,Vi d,Vi a,Vi b,Vi j,Vi h] 1 AX (by unfold maxLen;omega) rfl).alloc (.cells Zq 39);rw[World.size_alloc]at this;exact this
 have N:n.ownsRow w.heap.size 39 9 (.slice (some ⟨w.heap.size+1+1,0,none⟩) 1 1) 1 Zp:=by
  rw[<-o];have:=World.ownsRow_lit (base:=w.heap.size) (e:=39) (size:=9) ((w.alloc (.cells #[Vs p.bR 8 p.cR,.bool M.z,.bool M.c,.bool M.hz,.bool M.hc,.slice p.aH M.nH p.cH,Vi M.pc,Vi M.st,.slice p.aO M.nO p.cO] 39)).alloc (.cells #[Vi m,Vi d,Vi a,Vi b,Vi j,Vi h] 99)) Zq 1 (by simp;omega) (by unfold maxLen;omega) rfl;rw[World.size_alloc,World.size_alloc]at this;exact this
 have m0:=Dl Z;have i0:=E5 XI;have s0:=Dl N;have mf:∀i,n.frozen? ⟨w.heap.size,i,none⟩=false:=fun i=>Z.frozenAt i
 have sf:∀i,n.frozen? ⟨w.heap.size+1+1,i,none⟩=false:=fun i=>N.frozenAt i
 have ac:=(F.cell (p:=⟨p.bR,a,none⟩) Q).trans ra;have ad:=(F.cell (p:=⟨p.bR,b,none⟩) Q).trans rb;have ae:=(F.cell (p:=⟨p.bR,d,none⟩) Q).trans rd;have aa:=(F.frozen (p:=⟨p.bR,d,none⟩) Q).trans fd;have an:p.bR<n.heap.size:=AB;have y0:w.heap.size<n.heap.size:=AB;have y1:w.heap.size+1<n.heap.size:=AB;have y2:w.heap.size+1+1<n.heap.size:=AB;have n0:p.bR≠w.heap.size:=AB;have n1:p.bR≠w.heap.size+1:=AB;have n2:p.bR≠w.heap.size+1+1:=AB;have A:=hxy F;have J:=hxy N;clear o F Z XI N ra rb rd fd;have l:=hxy (E.below A);have I:Hid (Ks 120 #[.agg #[Vs p.bR 8 p.cR,.bool M.z,.bool M.c,.bool M.hz,.bool M.hc,.slice p.aH M.nH p.cH,Vi M.pc,Vi M.st,.slice p.aO M.nO p.cO],.agg #[Vi m,Vi d,Vi a,Vi b,Vi j,Vi h]] n fun e w'=>MR base n (uq m d a b h j M) e w'/\∀k,k<n.heap.size->Off p M.nH M.nO k->w'.heap[k]?=n.heap[k]?):=by
  rcases L with rfl|rfl|rfl|rfl|rfl|rfl|rfl|rfl
  ·exact SQ l u 21 d a b h j s q r y Ad
  ·exact SQ l u 22 d a b h j s q r y Ad
  ·exact SQ l u 23 d a b h j s q r y Ad
  ·exact SQ l u 24 d a b h j s q r y Ad
  ·exact TS l u 25 d a b h j s q r y Ad
  ·exact TS l u 26 d a b h j s q r y Ad
  ·exact TS l u 27 d a b h j s q r y Ad
  ·exact TS l u 28 d a b h j s q r y Ad
 rcases L with rfl|rfl|rfl|rfl|rfl|rfl|rfl|rfl;all_goals
  go_wp2_with fail;refine I.mono ?_;rintro e w1⟨⟨D,rfl,b1,mm⟩,k1⟩;have S:=hxy k1;have hz:w1.heap[w.heap.size+1+1]?=n.heap[w.heap.size+1+1]?:=k1 _ y2 (Z4 E AB);generalize K:uq _ d a b h j M=x at mm⊢;have X:Hid _:=K;clear K;have O:=Ot J hz;obtain⟨t0,t1,t2,t3,t4,t5,t6,t7,t8⟩:=Dl O;have tf:∀i,w1.frozen? ⟨w.heap.size+1+1,i,none⟩=false:=fun i=>O.frozenAt i
  have v2:w.heap.size+1+1<w1.heap.size:=Ey y2 b1.size;have Y:=hxy O;have U:=hxy mm;have R:=hxy ((A.mono (Nat.le_of_lt (Nat.lt_of_le_of_lt E.ltR.1 E.ltR.2))).trans b1);clear m0 i0 s0 mf sf ae aa ac ad hz k1 b1 mm O l J;simp only[xX];go_wp2;refine mY (.agg #[Vs D.bR 8 D.cR,.bool x.z,.bool x.c,.bool x.hz,.bool x.hc,.slice D.aH x.nH D.cH,Vi x.pc,Vi x.st,.slice D.aO x.nO D.cO]) (by simp[results,Tryz.results84,go_sem,t0,t1,t2,t3,t4,t5,t6,t7,t8]) ?_;rw[X.out];refine⟨⟨D,rfl,?_,?_⟩,?_⟩
  ·iterate 9 refine Below.setCell ?_ (by simp;have:=E.ltR;omega) _
   exact R
  ·refine Mem.other U Y ?_ Ad Ad Ad Ad
   iterate 9 refine Rc ?_ _ _
   exact⟨rfl,rfl,rfl,BQ,fun _ _ _=>rfl⟩
  ·intro k af ty fr C n1 n2 n3 n4
   have ab:=Kept.lt C;iterate 9 rw[heap_setCell_other _ _ _ _ (show k≠w.heap.size+1+1 by omega)]
   exact(S k AB (kN E C n1 n2 n3 n4)).trans (A.block k ab)
end
def TJ:Prop:=∀(w:World)(base:Nat)(p:Pl)(M:MV),Mem w base p M->M.Ok->M.nO<=1048576->∀(op d a b h:Nat)(imm:Int),1<=op->op<=28->d<8->a<8->b<8->((op=12∨op=13)->0<=imm/\imm<=63)->
 Ks 84 #[.agg #[Vs p.bR 8 p.cR,.bool M.z,.bool M.c,.bool M.hz,.bool M.hc,.slice p.aH M.nH p.cH,Vi M.pc,Vi M.st,.slice p.aO M.nO p.cO],.agg #[Vi op,Vi d,Vi a,Vi b,Vi imm,Vi h]] w (Bf base w (uq op d a b h imm M))
theorem kV:TJ:=by
 intro w r p M e m q n d a b h c u x l j k o;have s:n=1∨n=2∨n=3∨n=4∨n=5∨n=6∨n=7∨n=8∨n=9∨n=10∨n=11∨n=12∨n=13∨n=14∨n=15∨n=16∨n=17∨n=18∨n=19∨n=20∨n=21∨n=22∨n=23∨n=24∨n=25∨n=26∨n=27∨n=28:=AB;rcases s with rfl|rfl|rfl|rfl|rfl|rfl|rfl|rfl|rfl|rfl|rfl|rfl|rfl|rfl|rfl|rfl|rfl|rfl|rfl|rfl|rfl|rfl|rfl|rfl|rfl|rfl|rfl|rfl
 ·exact LZ e m 1 d a b h c l j k Ad
 ·exact LZ e m 2 d a b h c l j k Ad
 ·exact LZ e m 3 d a b h c l j k Ad
 ·exact LZ e m 4 d a b h c l j k Ad
 ·exact LZ e m 5 d a b h c l j k Ad
 ·exact LZ e m 6 d a b h c l j k Ad
 ·exact LZ e m 7 d a b h c l j k Ad
 ·exact LZ e m 8 d a b h c l j k Ad
 ·exact mG e m d a b h c l j k q
 ·exact LZ e m 10 d a b h c l j k Ad
 ·exact LZ e m 11 d a b h c l j k Ad
 ·exact PI e m 12 d a b h c l j k o Ad
 ·exact PI e m 13 d a b h c l j k o Ad
 ·exact PI e m 14 d a b h c l j k o Ad
 ·exact lN e m d a b h c l j k
 ·exact PI e m 16 d a b h c l j k o Ad
 ·exact PI e m 17 d a b h c l j k o Ad
 ·exact PI e m 18 d a b h c l j k o Ad
 ·exact PI e m 19 d a b h c l j k o Ad
 ·exact PI e m 20 d a b h c l j k o Ad
 ·exact PZ e m 21 d a b h c l j k q Ad
 ·exact PZ e m 22 d a b h c l j k q Ad
 ·exact PZ e m 23 d a b h c l j k q Ad
 ·exact PZ e m 24 d a b h c l j k q Ad
 ·exact PZ e m 25 d a b h c l j k q Ad
 ·exact PZ e m 26 d a b h c l j k q Ad
 ·exact PZ e m 27 d a b h c l j k q Ad
 ·exact PZ e m 28 d a b h c l j k q Ad
end Go.Proofs.YtcjnmdgomocpgaaGreatDoor
