import Derived.Test.YtcjnmdgomocpgaaGreatDoorOfSpecDo
set_option maxHeartbeats 4000000
set_option maxRecDepth 20000
namespace Go.Proofs.YtcjnmdgomocpgaaGreatDoor
open Go.RowKit
variable {x:Int}{k l:Nat}{j w:World}
theorem Di(x:Int):IntKind.u64.wrap x=x%18446744073709551616:=rfl
theorem ED(x y:Int):IntKind.u64.wrap (x+y)=Ih x y 0:=by unfold Ih;rw[Di,Int.add_zero]
theorem MN{y:Int}(a:0<=x)(b:x<=18446744073709551615)(c:0<=y)(d:y<=18446744073709551615):decide (Ih x y 0<x)=(carry x y 0 !=0):=by
 unfold Ih carry;rw[Bool.eq_iff_iff];simp only[decide_eq_true_eq,bne_iff_ne,ne_eq];omega
theorem QW(x y:Int):IntKind.u64.wrap (Ih x y 0+1)=Ih x y 1:=by unfold Ih;rw[Di];omega
theorem UD{y:Int}(a:0<=x)(b:x<=18446744073709551615)(c:0<=y)(d:y<=18446744073709551615):(decide (Ih x y 0<x)||(Ih x y 1==0))=(carry x y 1 !=0):=by
 unfold Ih carry;rw[Bool.eq_iff_iff];simp only[Bool.or_eq_true,decide_eq_true_eq,bne_iff_ne,beq_iff_eq,ne_eq];omega
theorem kG(x y:Int):IntKind.u64.wrap (x-y)=Ep x y:=rfl
theorem IK(x y:Int):decide (x<y)=(borrow x y !=0):=by
 unfold borrow;by_cases h:x<y<;>simp[h]
section
variable{w:World}{base:Nat}{p:Pl}{M:MV}
theorem MR.setF{p:Pl}{M:MV}(h:Mem w l p M)(d:Nat)(v r:Int)(k:Bool)(a:Below w.heap.size (w.setCell ⟨p.bR,d,none⟩ (.int .u64 v)) j):MR l w ((M.setR d v).flags r k) (.returned (xX p ((M.setR d v).flags r k))) j:=
 ⟨p,rfl,(BJ.setCell (by simpa using h.ltR.1) _).trans (a.mono (Nat.le_of_lt (Nat.lt_of_le_of_lt h.ltR.1 h.ltR.2))),((h.setR d v).flagged r k).below (by simpa using a)⟩
theorem MR.flags{p:Pl}{M:MV}(h:Mem w l p M)(r:Int)(k:Bool)(a:Below w.heap.size w j):MR l w (M.flags r k) (.returned (xX p (M.flags r k))) j:=
 ⟨p,rfl,a.mono (Nat.le_of_lt (Nat.lt_of_le_of_lt h.ltR.1 h.ltR.2)),(h.flagged r k).below a⟩
theorem MR.fault{p:Pl}{M:MV}(h:Mem w l p M)(a:Below w.heap.size w j):MR l w M.fault (.returned (xX p M.fault)) j:=
 ⟨p,rfl,a.mono (Nat.le_of_lt (Nat.lt_of_le_of_lt h.ltR.1 h.ltR.2)),h.faulted.below a⟩
theorem Bf.setF{p:Pl}{M:MV}(h:Mem w l p M)(d:Nat)(v r:Int)(k:Bool)(a:Below w.heap.size (w.setCell ⟨p.bR,d,none⟩ (.int .u64 v)) j):Bf l w ((M.setR d v).flags r k) (.returned (xX p ((M.setR d v).flags r k))) j:=⟨MR.setF h d v r k a,Kept.set h d v a⟩
theorem Bf.flags{p:Pl}{M:MV}(h:Mem w l p M)(r:Int)(k:Bool)(a:Below w.heap.size w j):Bf l w (M.flags r k) (.returned (xX p (M.flags r k))) j:=⟨MR.flags h r k a,Kept.below a⟩
theorem Bf.fault{p:Pl}{M:MV}(h:Mem w l p M)(a:Below w.heap.size w j):Bf l w M.fault (.returned (xX p M.fault)) j:=⟨MR.fault h a,Kept.below a⟩
theorem PI(h0:Mem w base p M)(hk:M.Ok)(kk d a b h:Nat)(j:Int)(hd:d<8)(ha:a<8)(hb:b<8)(al:(kk=12∨kk=13)->0<=j/\j<=63)(an:kk=12∨kk=13∨kk=14∨kk=16∨kk=17∨kk=18∨kk=19∨kk=20):
 Ks 84 #[.agg #[Vs p.bR 8 p.cR,.bool M.z,.bool M.c,.bool M.hz,.bool M.hc,.slice p.aH M.nH p.cH,Vi M.pc,Vi M.st,.slice p.aO M.nO p.cO],.agg #[Vi kk,Vi d,Vi a,Vi b,Vi j,Vi h]] w (Bf base w (uq kk d a b h j M)):=by
 have ax:(d:Int)<8:=AB;have av:(a:Int)<8:=AB;have aw:(b:Int)<8:=AB;have ra:=h0.reg ha;have rb:=h0.reg hb;have rd:=h0.reg hd;have fd:=h0.freeR d;have zR:=h0.ltR.2;have pa:=hk.reg a ha;have pb:=hk.reg b hb;obtain⟨ao,ap⟩:=pa;obtain⟨ar,au⟩:=pb;have H0:=hxy h0;clear h0 hk;go_enter Tryz.func84,Tryz.ntmps84;go_upto_region 1 with fail;generalize ab:((w.alloc (.cells #[Vs p.bR 8 p.cR,.bool M.z,.bool M.c,.bool M.hz,.bool M.hc,.slice p.aH M.nH p.cH,Vi M.pc,Vi M.st,.slice p.aO M.nO p.cO] 39)).alloc (.cells #[Vi kk,Vi d,Vi a,Vi b,Vi j,Vi h] 99)).alloc (.cells Zq 39)=w0;have b0:Bw w w0:=by rw[<-ab];exact((Ai).alloc AX _).alloc (by simp;omega) _
 have z0:w0.heap.size=w.heap.size+3:=by rw[<-ab];simp
 have XM:w0.ownsRow w.heap.size 39 9 (Vs w.heap.size 1 1) 1 [Vs p.bR 8 p.cR,.bool M.z,.bool M.c,.bool M.hz,.bool M.hc,.slice p.aH M.nH p.cH,Vi M.pc,Vi M.st,.slice p.aO M.nO p.cO]:=by rw[<-ab];exact((World.ownsRow_lit w #[Vs p.bR 8 p.cR,.bool M.z,.bool M.c,.bool M.hz,.bool M.hc,.slice p.aH M.nH p.cH,Vi M.pc,Vi M.st,.slice p.aO M.nO p.cO] 1 BQ (by unfold maxLen;omega) rfl).alloc _).alloc _
 have XI:w0.ownsRow w.heap.size 99 6 (.slice (some ⟨w.heap.size+1,0,none⟩) 1 1) 1 [Vi kk,Vi d,Vi a,Vi b,Vi j,Vi h]:=by
  rw[<-ab];have:=(World.ownsRow_lit (base:=w.heap.size) (e:=99) (size:=6) (w.alloc (.cells #[Vs p.bR 8 p.cR,.bool M.z,.bool M.c,.bool M.hz,.bool M.hc,.slice p.aH M.nH p.cH,Vi M.pc,Vi M.st,.slice p.aO M.nO p.cO] 39)) #[Vi kk,Vi d,Vi a,Vi b,Vi j,Vi h] 1 AX (by unfold maxLen;omega) rfl).alloc (.cells Zq 39);rw[World.size_alloc]at this;exact this
 have XZ:w0.ownsRow w.heap.size 39 9 (.slice (some ⟨w.heap.size+1+1,0,none⟩) 1 1) 1 Zp:=by
  rw[<-ab];have:=World.ownsRow_lit (base:=w.heap.size) (e:=39) (size:=9) ((w.alloc (.cells #[Vs p.bR 8 p.cR,.bool M.z,.bool M.c,.bool M.hz,.bool M.hc,.slice p.aH M.nH p.cH,Vi M.pc,Vi M.st,.slice p.aO M.nO p.cO] 39)).alloc (.cells #[Vi kk,Vi d,Vi a,Vi b,Vi j,Vi h] 99)) Zq 1 (by simp;omega) (by unfold maxLen;omega) rfl;rw[World.size_alloc,World.size_alloc]at this;exact this
 obtain⟨m0,m1,m2,m3,m4,m5,m6,m7,m8⟩:=Dl XM;obtain⟨i0,i1,i2,i3,i4,i5⟩:=E5 XI;obtain⟨J,K,L,N,O,Q,S,U,X⟩:=Dl XZ;have mf:∀i,w0.frozen? ⟨w.heap.size,i,none⟩=false:=fun i=>XM.frozenAt i
 have sf:∀i,w0.frozen? ⟨w.heap.size+1+1,i,none⟩=false:=fun i=>XZ.frozenAt i
 have ac:=(b0.cell (p:=⟨p.bR,a,none⟩) zR).trans ra;have ad:=(b0.cell (p:=⟨p.bR,b,none⟩) zR).trans rb;have r:=(b0.cell (p:=⟨p.bR,d,none⟩) zR).trans rd;have q:=(b0.frozen (p:=⟨p.bR,d,none⟩) zR).trans fd;have n:p.bR<w0.heap.size:=AB;have Y:w.heap.size<w0.heap.size:=AB;have y1:w.heap.size+1<w0.heap.size:=AB;have Z:w.heap.size+1+1<w0.heap.size:=AB;have n0:p.bR≠w.heap.size:=AB;have n1:p.bR≠w.heap.size+1:=AB;have n2:p.bR≠w.heap.size+1+1:=AB;have o:=hxy b0;clear ab b0 XM XI XZ ra rb rd fd;rcases an with rfl|rfl|rfl|rfl|rfl|rfl|rfl|rfl
 ·obtain⟨t0,t1⟩:=al Ad
  have aa:∀w,Ks 118 #[Vi j] w fun e w'=>e=.returned (.int .u64 ((2:Int)^j.toNat))/\w'=w:=fun w=>by
   have:=Y2 j.toNat w AB;rw[show((j.toNat:Nat):Int)=j by omega]at this;simpa using this
  have am:(0:Int)<2^j.toNat:=Int.pow_pos Ad;have m:uq 12 d a b h j M=M.setR d (IntKind.u64.wrap (M.R a*2^j.toNat)):=by
   unfold uq exec;simp only[show IntKind.u64.wrap j=j by rw[Di];omega]
  have u:Hid _:=m;have ak:Hid _:=aa;clear m aa;go_wp2_with fail;refine(ak _).mono ?_;rintro e l⟨rfl,rfl⟩;go_wp2;refine mY (.agg #[Vs p.bR 8 p.cR,.bool M.z,.bool M.c,.bool M.hz,.bool M.hc,.slice p.aH M.nH p.cH,Vi M.pc,Vi M.st,.slice p.aO M.nO p.cO]) (by simp[results,Tryz.results84,go_sem,J,K,L,N,O,Q,S,U,X]) ?_;rw[u.out];refine Bf.set H0 d _ ?_;iterate 9 refine Below.setCell ?_ (by simp;omega) _
  exact Dp (p:=⟨p.bR,d,none⟩) o zR _
 ·obtain⟨t0,t1⟩:=al Ad
  have aa:∀w,Ks 118 #[Vi j] w fun e w'=>e=.returned (.int .u64 ((2:Int)^j.toNat))/\w'=w:=fun w=>by
   have:=Y2 j.toNat w AB;rw[show((j.toNat:Nat):Int)=j by omega]at this;simpa using this
  have am:(0:Int)<2^j.toNat:=Int.pow_pos Ad;have m:uq 13 d a b h j M=M.setR d (M.R a/2^j.toNat):=by
   unfold uq exec;simp only[show IntKind.u64.wrap j=j by rw[Di];omega]
  have u:Hid _:=m;have ak:Hid _:=aa;clear m aa;go_wp2_with fail;refine(ak _).mono ?_;rintro e l⟨rfl,rfl⟩;go_wp2;refine mY (.agg #[Vs p.bR 8 p.cR,.bool M.z,.bool M.c,.bool M.hz,.bool M.hc,.slice p.aH M.nH p.cH,Vi M.pc,Vi M.st,.slice p.aO M.nO p.cO]) (by simp[results,Tryz.results84,go_sem,J,K,L,N,O,Q,S,U,X]) ?_;rw[u.out];refine Bf.set H0 d _ ?_;iterate 9 refine Below.setCell ?_ (by simp;omega) _
  exact Dp (p:=⟨p.bR,d,none⟩) o zR _
 ·go_wp2_with fail
  refine(Bc _ _ _ _ _ _ _ _ _ _ _ _ _ _ _ (IntKind.u64.wrap (M.R a+M.R b)) (decide (IntKind.u64.wrap (M.R a+M.R b)<M.R a)) _).mono ?_;rintro e l⟨rfl,k⟩;have ag:=c9b k Y m0 m1 m2 m3 m4 m5 m6 m7 m8;have af:=yh k y1 i0 i1 i2 i3 i4 i5;obtain⟨x,y,A,B,C,D,E,F,I⟩:=c9b k Z J K L N O Q S U X;have ah:∀i,l.frozen? ⟨w.heap.size,i,none⟩=false:=fun i=>(k.frozen (p:=⟨w.heap.size,i,none⟩) Y).trans (mf i)
  have aj:∀i,l.frozen? ⟨w.heap.size+1+1,i,none⟩=false:=fun i=>(k.frozen (p:=⟨w.heap.size+1+1,i,none⟩) Z).trans (sf i)
  have ai:=(k.cell (p:=⟨p.bR,d,none⟩) n).trans r;have ae:=(k.frozen (p:=⟨p.bR,d,none⟩) n).trans q;have v0:w.heap.size<l.heap.size:=Ey Y k.size;have v1:w.heap.size+1<l.heap.size:=Ey y1 k.size;have v2:w.heap.size+1+1<l.heap.size:=Ey Z k.size;have vR:p.bR<l.heap.size:=Ey n k.size;have s:Hid (Bw w l):=o.trans (k.mono AB);clear k m0 m1 m2 m3 m4 m5 m6 m7 m8 i0 i1 i2 i3 i4 i5 J K L N O Q S U X mf sf r q ac ad;have m:uq 14 d a b h j M=(M.setR d (IntKind.u64.wrap (M.R a+M.R b))).flags (IntKind.u64.wrap (M.R a+M.R b)) (decide (IntKind.u64.wrap (M.R a+M.R b)<M.R a)):=by
   show((M.setR d (Ih (M.R a) (M.R b) 0)).flags (Ih (M.R a) (M.R b) 0) (carry (M.R a) (M.R b) 0 !=0))=_;rw[ED,MN ao ap ar au];try rfl
  generalize hV:IntKind.u64.wrap (M.R a+M.R b)=V at m⊢;generalize hZ:decide (V=0)=zb;generalize hC:(decide (V<M.R a))=cb at m⊢;have u:Hid _:=m;have HZ:Hid _:=hZ;clear m hV hZ hC;go_wp2;refine mY (.agg #[Vs p.bR 8 p.cR,.bool zb,.bool cb,.bool true,.bool true,.slice p.aH M.nH p.cH,Vi M.pc,Vi M.st,.slice p.aO M.nO p.cO]) (by simp[results,Tryz.results84,go_sem,x,y,A,B,C,D,E,F,I]) ?_;rw[u.out,<-HZ.out];refine Bf.setF H0 d _ _ _ ?_;iterate 9 refine Below.setCell ?_ (by simp;omega) _
  refine Dp (p:=⟨p.bR,d,none⟩) ?_ zR _;iterate 9 refine Below.setCell ?_ AX _
  exact s
 ·go_wp2_with fail
  refine(Bc _ _ _ _ _ _ _ _ _ _ _ _ _ _ _ (IntKind.u64.wrap (M.R a-M.R b)) (decide (M.R a<M.R b)) _).mono ?_;rintro e l⟨rfl,k⟩;have ag:=c9b k Y m0 m1 m2 m3 m4 m5 m6 m7 m8;have af:=yh k y1 i0 i1 i2 i3 i4 i5;obtain⟨x,y,A,B,C,D,E,F,I⟩:=c9b k Z J K L N O Q S U X;have ah:∀i,l.frozen? ⟨w.heap.size,i,none⟩=false:=fun i=>(k.frozen (p:=⟨w.heap.size,i,none⟩) Y).trans (mf i)
  have aj:∀i,l.frozen? ⟨w.heap.size+1+1,i,none⟩=false:=fun i=>(k.frozen (p:=⟨w.heap.size+1+1,i,none⟩) Z).trans (sf i)
  have ai:=(k.cell (p:=⟨p.bR,d,none⟩) n).trans r;have ae:=(k.frozen (p:=⟨p.bR,d,none⟩) n).trans q;have v0:w.heap.size<l.heap.size:=Ey Y k.size;have v1:w.heap.size+1<l.heap.size:=Ey y1 k.size;have v2:w.heap.size+1+1<l.heap.size:=Ey Z k.size;have vR:p.bR<l.heap.size:=Ey n k.size;have s:Hid (Bw w l):=o.trans (k.mono AB);clear k m0 m1 m2 m3 m4 m5 m6 m7 m8 i0 i1 i2 i3 i4 i5 J K L N O Q S U X mf sf r q ac ad;have m:uq 16 d a b h j M=(M.setR d (IntKind.u64.wrap (M.R a-M.R b))).flags (IntKind.u64.wrap (M.R a-M.R b)) (decide (M.R a<M.R b)):=by
   show((M.flags (Ep (M.R a) (M.R b)) (borrow (M.R a) (M.R b) !=0)).setR d (Ep (M.R a) (M.R b)))=_;rw[kG,IK];try rfl
  generalize hV:IntKind.u64.wrap (M.R a-M.R b)=V at m⊢;generalize hZ:decide (V=0)=zb;generalize hC:(decide (M.R a<M.R b))=cb at m⊢;have u:Hid _:=m;have HZ:Hid _:=hZ;clear m hV hZ hC;go_wp2;refine mY (.agg #[Vs p.bR 8 p.cR,.bool zb,.bool cb,.bool true,.bool true,.slice p.aH M.nH p.cH,Vi M.pc,Vi M.st,.slice p.aO M.nO p.cO]) (by simp[results,Tryz.results84,go_sem,x,y,A,B,C,D,E,F,I]) ?_;rw[u.out,<-HZ.out];refine Bf.setF H0 d _ _ _ ?_;iterate 9 refine Below.setCell ?_ (by simp;omega) _
  refine Dp (p:=⟨p.bR,d,none⟩) ?_ zR _;iterate 9 refine Below.setCell ?_ AX _
  exact s
 ·go_wp2_with fail
  refine(Bc _ _ _ _ _ _ _ _ _ _ _ _ _ _ _ (IntKind.u64.wrap (M.R a-M.R b)) (decide (M.R a<M.R b)) _).mono ?_;rintro e l⟨rfl,k⟩;have ag:=c9b k Y m0 m1 m2 m3 m4 m5 m6 m7 m8;have af:=yh k y1 i0 i1 i2 i3 i4 i5;obtain⟨x,y,A,B,C,D,E,F,I⟩:=c9b k Z J K L N O Q S U X;have ah:∀i,l.frozen? ⟨w.heap.size,i,none⟩=false:=fun i=>(k.frozen (p:=⟨w.heap.size,i,none⟩) Y).trans (mf i)
  have aj:∀i,l.frozen? ⟨w.heap.size+1+1,i,none⟩=false:=fun i=>(k.frozen (p:=⟨w.heap.size+1+1,i,none⟩) Z).trans (sf i)
  have ai:=(k.cell (p:=⟨p.bR,d,none⟩) n).trans r;have ae:=(k.frozen (p:=⟨p.bR,d,none⟩) n).trans q;have v0:w.heap.size<l.heap.size:=Ey Y k.size;have v1:w.heap.size+1<l.heap.size:=Ey y1 k.size;have v2:w.heap.size+1+1<l.heap.size:=Ey Z k.size;have vR:p.bR<l.heap.size:=Ey n k.size;have s:Hid (Bw w l):=o.trans (k.mono AB);clear k m0 m1 m2 m3 m4 m5 m6 m7 m8 i0 i1 i2 i3 i4 i5 J K L N O Q S U X mf sf r q ac ad;have m:uq 17 d a b h j M=M.flags (IntKind.u64.wrap (M.R a-M.R b)) (decide (M.R a<M.R b)):=by
   show M.flags (Ep (M.R a) (M.R b)) (borrow (M.R a) (M.R b) !=0)=_;rw[kG,IK]
  generalize hV:IntKind.u64.wrap (M.R a-M.R b)=V at m⊢;generalize hZ:decide (V=0)=zb;generalize hC:(decide (M.R a<M.R b))=cb at m⊢;have u:Hid _:=m;have HZ:Hid _:=hZ;clear m hV hZ hC;go_wp2;refine mY (.agg #[Vs p.bR 8 p.cR,.bool zb,.bool cb,.bool true,.bool true,.slice p.aH M.nH p.cH,Vi M.pc,Vi M.st,.slice p.aO M.nO p.cO]) (by simp[results,Tryz.results84,go_sem,x,y,A,B,C,D,E,F,I]) ?_;rw[u.out,<-HZ.out];refine Bf.flags H0 _ _ ?_;iterate 9 refine Below.setCell ?_ (by simp;omega) _
  exact s
 ·go_wp2_with fail
  refine(Bc _ _ _ _ _ _ _ _ _ _ _ _ _ _ _ (IntKind.u64.wrap (M.R a-IntKind.u64.wrap j)) (decide (M.R a<IntKind.u64.wrap j)) _).mono ?_;rintro e l⟨rfl,k⟩;have ag:=c9b k Y m0 m1 m2 m3 m4 m5 m6 m7 m8;have af:=yh k y1 i0 i1 i2 i3 i4 i5;obtain⟨x,y,A,B,C,D,E,F,I⟩:=c9b k Z J K L N O Q S U X;have ah:∀i,l.frozen? ⟨w.heap.size,i,none⟩=false:=fun i=>(k.frozen (p:=⟨w.heap.size,i,none⟩) Y).trans (mf i)
  have aj:∀i,l.frozen? ⟨w.heap.size+1+1,i,none⟩=false:=fun i=>(k.frozen (p:=⟨w.heap.size+1+1,i,none⟩) Z).trans (sf i)
  have ai:=(k.cell (p:=⟨p.bR,d,none⟩) n).trans r;have ae:=(k.frozen (p:=⟨p.bR,d,none⟩) n).trans q;have v0:w.heap.size<l.heap.size:=Ey Y k.size;have v1:w.heap.size+1<l.heap.size:=Ey y1 k.size;have v2:w.heap.size+1+1<l.heap.size:=Ey Z k.size;have vR:p.bR<l.heap.size:=Ey n k.size;have s:Hid (Bw w l):=o.trans (k.mono AB);clear k m0 m1 m2 m3 m4 m5 m6 m7 m8 i0 i1 i2 i3 i4 i5 J K L N O Q S U X mf sf r q ac ad;have m:uq 18 d a b h j M=M.flags (IntKind.u64.wrap (M.R a-IntKind.u64.wrap j)) (decide (M.R a<IntKind.u64.wrap j)):=by
   show M.flags (Ep (M.R a) (IntKind.u64.wrap j)) (borrow (M.R a) (IntKind.u64.wrap j) !=0)=_;rw[kG,IK]
  generalize hV:IntKind.u64.wrap (M.R a-IntKind.u64.wrap j)=V at m⊢;generalize hZ:decide (V=0)=zb;generalize hC:(decide (M.R a<IntKind.u64.wrap j))=cb at m⊢;have u:Hid _:=m;have HZ:Hid _:=hZ;clear m hV hZ hC;go_wp2;refine mY (.agg #[Vs p.bR 8 p.cR,.bool zb,.bool cb,.bool true,.bool true,.slice p.aH M.nH p.cH,Vi M.pc,Vi M.st,.slice p.aO M.nO p.cO]) (by simp[results,Tryz.results84,go_sem,x,y,A,B,C,D,E,F,I]) ?_;rw[u.out,<-HZ.out];refine Bf.flags H0 _ _ ?_;iterate 9 refine Below.setCell ?_ (by simp;omega) _
  exact s
 ·cases hh:M.hz with
  |false=>
   have m:uq 19 d a b h j M=M.fault:=by unfold uq exec;simp[hh]
   have u:Hid _:=m;clear m;rw[hh]at m3;go_wp2_with fail;refine(A9 _ _ _ _ _ _ _ _ _ _ _ _ _ _ _ _).mono ?_;rintro e l⟨rfl,k⟩;have ag:=c9b k Y m0 m1 m2 m3 m4 m5 m6 m7 m8;have af:=yh k y1 i0 i1 i2 i3 i4 i5;obtain⟨x,y,A,B,C,D,E,F,I⟩:=c9b k Z J K L N O Q S U X;have ah:∀i,l.frozen? ⟨w.heap.size,i,none⟩=false:=fun i=>(k.frozen (p:=⟨w.heap.size,i,none⟩) Y).trans (mf i)
   have aj:∀i,l.frozen? ⟨w.heap.size+1+1,i,none⟩=false:=fun i=>(k.frozen (p:=⟨w.heap.size+1+1,i,none⟩) Z).trans (sf i)
   have ai:=(k.cell (p:=⟨p.bR,d,none⟩) n).trans r;have ae:=(k.frozen (p:=⟨p.bR,d,none⟩) n).trans q;have v0:w.heap.size<l.heap.size:=Ey Y k.size;have v1:w.heap.size+1<l.heap.size:=Ey y1 k.size;have v2:w.heap.size+1+1<l.heap.size:=Ey Z k.size;have vR:p.bR<l.heap.size:=Ey n k.size;have s:Hid (Bw w l):=o.trans (k.mono AB);clear k m0 m1 m2 m3 m4 m5 m6 m7 m8 i0 i1 i2 i3 i4 i5 J K L N O Q S U X mf sf r q ac ad;go_wp2;refine mY (.agg #[Vs p.bR 8 p.cR,.bool M.z,.bool M.c,.bool false,.bool M.hc,.slice p.aH M.nH p.cH,Vi M.pc,Vi 2,.slice p.aO M.nO p.cO]) (by simp[results,Tryz.results84,go_sem,x,y,A,B,C,D,E,F,I]) ?_;rw[u.out,<-hh];refine Bf.fault H0 ?_;iterate 9 refine Below.setCell ?_ (by simp;omega) _
   exact s
  |true=>
   rw[hh]at m3;cases hf:M.z with
   |false=>
    have m:uq 19 d a b h j M=M.setR d (M.R b):=by unfold uq exec;simp[hh,hf]
    have u:Hid _:=m;clear m;rw[hf]at m1;go_wp2;refine mY (.agg #[Vs p.bR 8 p.cR,.bool false,.bool M.c,.bool true,.bool M.hc,.slice p.aH M.nH p.cH,Vi M.pc,Vi M.st,.slice p.aO M.nO p.cO]) (by simp[results,Tryz.results84,go_sem,J,K,L,N,O,Q,S,U,X]) ?_;rw[u.out];rw[show .agg #[Vs p.bR 8 p.cR,.bool false,.bool M.c,.bool true,.bool M.hc,.slice p.aH M.nH p.cH,Vi M.pc,Vi M.st,.slice p.aO M.nO p.cO]=xX p (M.setR d (M.R b))by unfold xX MV.setR;simp only[hh,hf]];refine Bf.set H0 d _ ?_;iterate 9 refine Below.setCell ?_ (by simp;omega) _
    exact Dp (p:=⟨p.bR,d,none⟩) o zR _
   |true=>
    have m:uq 19 d a b h j M=M.setR d (M.R a):=by unfold uq exec;simp[hh,hf]
    have u:Hid _:=m;clear m;rw[hf]at m1;go_wp2;refine mY (.agg #[Vs p.bR 8 p.cR,.bool true,.bool M.c,.bool true,.bool M.hc,.slice p.aH M.nH p.cH,Vi M.pc,Vi M.st,.slice p.aO M.nO p.cO]) (by simp[results,Tryz.results84,go_sem,J,K,L,N,O,Q,S,U,X]) ?_;rw[u.out];rw[show .agg #[Vs p.bR 8 p.cR,.bool true,.bool M.c,.bool true,.bool M.hc,.slice p.aH M.nH p.cH,Vi M.pc,Vi M.st,.slice p.aO M.nO p.cO]=xX p (M.setR d (M.R a))by unfold xX MV.setR;simp only[hh,hf]];refine Bf.set H0 d _ ?_;iterate 9 refine Below.setCell ?_ (by simp;omega) _
    exact Dp (p:=⟨p.bR,d,none⟩) o zR _
 ·cases hh:M.hc with
  |false=>
   have m:uq 20 d a b h j M=M.fault:=by unfold uq exec;simp[hh]
   have u:Hid _:=m;clear m;rw[hh]at m4;go_wp2_with fail;refine(A9 _ _ _ _ _ _ _ _ _ _ _ _ _ _ _ _).mono ?_;rintro e l⟨rfl,k⟩;have ag:=c9b k Y m0 m1 m2 m3 m4 m5 m6 m7 m8;have af:=yh k y1 i0 i1 i2 i3 i4 i5;obtain⟨x,y,A,B,C,D,E,F,I⟩:=c9b k Z J K L N O Q S U X;have ah:∀i,l.frozen? ⟨w.heap.size,i,none⟩=false:=fun i=>(k.frozen (p:=⟨w.heap.size,i,none⟩) Y).trans (mf i)
   have aj:∀i,l.frozen? ⟨w.heap.size+1+1,i,none⟩=false:=fun i=>(k.frozen (p:=⟨w.heap.size+1+1,i,none⟩) Z).trans (sf i)
   have ai:=(k.cell (p:=⟨p.bR,d,none⟩) n).trans r;have ae:=(k.frozen (p:=⟨p.bR,d,none⟩) n).trans q;have v0:w.heap.size<l.heap.size:=Ey Y k.size;have v1:w.heap.size+1<l.heap.size:=Ey y1 k.size;have v2:w.heap.size+1+1<l.heap.size:=Ey Z k.size;have vR:p.bR<l.heap.size:=Ey n k.size;have s:Hid (Bw w l):=o.trans (k.mono AB);clear k m0 m1 m2 m3 m4 m5 m6 m7 m8 i0 i1 i2 i3 i4 i5 J K L N O Q S U X mf sf r q ac ad;go_wp2;refine mY (.agg #[Vs p.bR 8 p.cR,.bool M.z,.bool M.c,.bool M.hz,.bool false,.slice p.aH M.nH p.cH,Vi M.pc,Vi 2,.slice p.aO M.nO p.cO]) (by simp[results,Tryz.results84,go_sem,x,y,A,B,C,D,E,F,I]) ?_;rw[u.out,<-hh];refine Bf.fault H0 ?_;iterate 9 refine Below.setCell ?_ (by simp;omega) _
   exact s
  |true=>
   rw[hh]at m4;cases hf:M.c with
   |false=>
    have m:uq 20 d a b h j M=M.setR d (M.R b):=by unfold uq exec;simp[hh,hf]
    have u:Hid _:=m;clear m;rw[hf]at m2;go_wp2;refine mY (.agg #[Vs p.bR 8 p.cR,.bool M.z,.bool false,.bool M.hz,.bool true,.slice p.aH M.nH p.cH,Vi M.pc,Vi M.st,.slice p.aO M.nO p.cO]) (by simp[results,Tryz.results84,go_sem,J,K,L,N,O,Q,S,U,X]) ?_;rw[u.out];rw[show .agg #[Vs p.bR 8 p.cR,.bool M.z,.bool false,.bool M.hz,.bool true,.slice p.aH M.nH p.cH,Vi M.pc,Vi M.st,.slice p.aO M.nO p.cO]=xX p (M.setR d (M.R b))by unfold xX MV.setR;simp only[hh,hf]];refine Bf.set H0 d _ ?_;iterate 9 refine Below.setCell ?_ (by simp;omega) _
    exact Dp (p:=⟨p.bR,d,none⟩) o zR _
   |true=>
    have m:uq 20 d a b h j M=M.setR d (M.R a):=by unfold uq exec;simp[hh,hf]
    have u:Hid _:=m;clear m;rw[hf]at m2;go_wp2;refine mY (.agg #[Vs p.bR 8 p.cR,.bool M.z,.bool true,.bool M.hz,.bool true,.slice p.aH M.nH p.cH,Vi M.pc,Vi M.st,.slice p.aO M.nO p.cO]) (by simp[results,Tryz.results84,go_sem,J,K,L,N,O,Q,S,U,X]) ?_;rw[u.out];rw[show .agg #[Vs p.bR 8 p.cR,.bool M.z,.bool true,.bool M.hz,.bool true,.slice p.aH M.nH p.cH,Vi M.pc,Vi M.st,.slice p.aO M.nO p.cO]=xX p (M.setR d (M.R a))by unfold xX MV.setR;simp only[hh,hf]];refine Bf.set H0 d _ ?_;iterate 9 refine Below.setCell ?_ (by simp;omega) _
    exact Dp (p:=⟨p.bR,d,none⟩) o zR _
end
structure Off(p:Pl)(nH nO k:Nat):Prop where
 r:k≠p.bR
 h:(Value.slice p.aH nH p.cH).ownBlock≠some k
 d:∀i,i<nH->p.blk i≠k
 o:(Value.slice p.aO nO p.cO).ownBlock≠some k
theorem Mem.setOff{p:Pl}{M:MV}(h:Mem w l p M)(a:Off p M.nH M.nO k)(o:Nat)(v:Value):Mem (w.setCell (Va k o) v) l p M:=
 ⟨ownsRow_setCell_other h.regs (by simpa[Value.ownBlock]using Ne.symm a.r) v,ownsRow_setCell_other h.heaps a.h v,fun i b=>ownsRow_setCell_other (h.data i b) (by simpa[Value.ownBlock]using a.d i b) v,ownsRow_setCell_other h.obs a.o v,h.ne⟩
theorem Dh{p:Pl}{a M:MV}(h:Mem w l p a)(c:M.nH=a.nH){g:Nat}(j:w.heap.size<=k)(e:g≠k)(d:Nat):Off {p with aO:=some ⟨g,0,none⟩,cO:=d} M.nH M.nO k:=by
 refine⟨?_,?_,fun i b=>?_,?_⟩
 ·have:=(h.regs.lt p.bR rfl).2
  show k≠p.bR;omega
 ·intro q
  rw[c]at q;have:=(h.heaps.lt k q).2;omega
 ·rw[c]at b
  have:=((h.data i b).lt (p.blk i) rfl).2;show p.blk i≠k;omega
 ·simpa[Value.ownBlock]using e
section
variable{w:World}{base:Nat}{p:Pl}{M:MV}
theorem mG(h0:Mem w base p M)(B:M.Ok)(d a b h:Nat)(A:Int)(hd:d<8)(ha:a<8)(hb:b<8)(hn:M.nO<=1048576):
 Ks 84 #[.agg #[Vs p.bR 8 p.cR,.bool M.z,.bool M.c,.bool M.hz,.bool M.hc,.slice p.aH M.nH p.cH,Vi M.pc,Vi M.st,.slice p.aO M.nO p.cO],.agg #[Vi 9,Vi d,Vi a,Vi b,Vi A,Vi h]] w (Bf base w (uq 9 d a b h A M)):=by
 have aQ:(d:Int)<8:=AB;have aN:(a:Int)<8:=AB;have aP:(b:Int)<8:=AB;have ra:=h0.reg ha;have rb:=h0.reg hb;have rd:=h0.reg hd;have fd:=h0.freeR d;have zR:=h0.ltR.2;have pa:=B.reg a ha;have pb:=B.reg b hb;obtain⟨aT,aU⟩:=pa;obtain⟨aV,aW⟩:=pb;have u:=hxy h0;clear h0 B;go_enter Tryz.func84,Tryz.ntmps84;go_upto_region 1 with fail;generalize E:((w.alloc (.cells #[Vs p.bR 8 p.cR,.bool M.z,.bool M.c,.bool M.hz,.bool M.hc,.slice p.aH M.nH p.cH,Vi M.pc,Vi M.st,.slice p.aO M.nO p.cO] 39)).alloc (.cells #[Vi 9,Vi d,Vi a,Vi b,Vi A,Vi h] 99)).alloc (.cells Zq 39)=y;have b0:Bw w y:=by rw[<-E];exact((Ai).alloc AX _).alloc (by simp;omega) _
 have z0:y.heap.size=w.heap.size+3:=by rw[<-E];simp
 have XM:y.ownsRow w.heap.size 39 9 (Vs w.heap.size 1 1) 1 [Vs p.bR 8 p.cR,.bool M.z,.bool M.c,.bool M.hz,.bool M.hc,.slice p.aH M.nH p.cH,Vi M.pc,Vi M.st,.slice p.aO M.nO p.cO]:=by rw[<-E];exact((World.ownsRow_lit w #[Vs p.bR 8 p.cR,.bool M.z,.bool M.c,.bool M.hz,.bool M.hc,.slice p.aH M.nH p.cH,Vi M.pc,Vi M.st,.slice p.aO M.nO p.cO] 1 BQ (by unfold maxLen;omega) rfl).alloc _).alloc _
 have XI:y.ownsRow w.heap.size 99 6 (.slice (some ⟨w.heap.size+1,0,none⟩) 1 1) 1 [Vi 9,Vi d,Vi a,Vi b,Vi A,Vi h]:=by
  rw[<-E];have:=(World.ownsRow_lit (base:=w.heap.size) (e:=99) (size:=6) (w.alloc (.cells #[Vs p.bR 8 p.cR,.bool M.z,.bool M.c,.bool M.hz,.bool M.hc,.slice p.aH M.nH p.cH,Vi M.pc,Vi M.st,.slice p.aO M.nO p.cO] 39)) #[Vi 9,Vi d,Vi a,Vi b,Vi A,Vi h] 1 AX (by unfold maxLen;omega) rfl).alloc (.cells Zq 39);rw[World.size_alloc]at this;exact this
 have XZ:y.ownsRow w.heap.size 39 9 (.slice (some ⟨w.heap.size+1+1,0,none⟩) 1 1) 1 Zp:=by
  rw[<-E];have:=World.ownsRow_lit (base:=w.heap.size) (e:=39) (size:=9) ((w.alloc (.cells #[Vs p.bR 8 p.cR,.bool M.z,.bool M.c,.bool M.hz,.bool M.hc,.slice p.aH M.nH p.cH,Vi M.pc,Vi M.st,.slice p.aO M.nO p.cO] 39)).alloc (.cells #[Vi 9,Vi d,Vi a,Vi b,Vi A,Vi h] 99)) Zq 1 (by simp;omega) (by unfold maxLen;omega) rfl;rw[World.size_alloc,World.size_alloc]at this;exact this
 obtain⟨m0,m1,m2,m3,m4,m5,m6,m7,m8⟩:=Dl XM;obtain⟨i0,i1,i2,i3,i4,i5⟩:=E5 XI;obtain⟨s0,s1,s2,s3,s4,s5,s6,s7,s8⟩:=Dl XZ;have mf:∀i,y.frozen? ⟨w.heap.size,i,none⟩=false:=fun i=>XM.frozenAt i
 have sf:∀i,y.frozen? ⟨w.heap.size+1+1,i,none⟩=false:=fun i=>XZ.frozenAt i
 have aF:=(b0.cell (p:=⟨p.bR,a,none⟩) zR).trans ra;have aG:=(b0.cell (p:=⟨p.bR,b,none⟩) zR).trans rb;have ap:=(b0.cell (p:=⟨p.bR,d,none⟩) zR).trans rd;have ao:=(b0.frozen (p:=⟨p.bR,d,none⟩) zR).trans fd;have aC:p.bR<y.heap.size:=AB;have r:w.heap.size<y.heap.size:=AB;have y1:w.heap.size+1<y.heap.size:=AB;have y2:w.heap.size+1+1<y.heap.size:=AB;have n0:p.bR≠w.heap.size:=AB;have n1:p.bR≠w.heap.size+1:=AB;have n2:p.bR≠w.heap.size+1+1:=AB;have aa:=hxy b0;have al:=hxy XM;have am:=hxy XZ;clear E b0 XM XI XZ ra rb rd fd;have ba:=Ub (x:=(M.R a).toNat) AB;have bb:=Ub (x:=(M.R b).toNat) AB;have LA:Hid (∀w,Ks 117 #[.int .u64 (M.R a)] w fun e j=>e=.returned (.int .u64 (DZ (M.R a).toNat))/\j=w):=fun w=>by
  have:=Kh (M.R a).toNat w AB;rwa [show(((M.R a).toNat:Nat):Int)=M.R a by omega]at this
 have LB:Hid (∀w,Ks 117 #[.int .u64 (M.R b)] w fun e j=>e=.returned (.int .u64 (DZ (M.R b).toNat))/\j=w):=fun w=>by
  have:=Kh (M.R b).toNat w AB;rwa [show(((M.R b).toNat:Nat):Int)=M.R b by omega]at this
 have hv:IntKind.u64.wrap (IntKind.u64.wrap (65*(DZ (M.R a).toNat:Int))+(DZ (M.R b).toNat:Int))=(DZ (M.R a).toNat:Int)*65+(DZ (M.R b).toNat:Int):=by rw[Di,Di];omega
 have HV:Hid _:=hv;clear hv;have ak:=hxy (u.below aa);have af:Hid (base<=y.drew.heap.size):=by show base<=y.heap.size;have:=u.ltR;omega
 have no:∀k,w.heap.size<=k->some k≠(Value.slice p.aO M.nO p.cO).ownBlock:=fun k B q=>by have:=(u.obs.lt k q.symm).2;omega
 have l:Hid (some w.heap.size≠(Value.slice p.aO M.nO p.cO).ownBlock):=no _ BQ;have ab:Hid (some (w.heap.size+1+1)≠(Value.slice p.aO M.nO p.cO).ownBlock):=no _ AB;have aD:Hid (some (w.heap.size+1)≠(Value.slice p.aO M.nO p.cO).ownBlock):=no _ AB;have an:Hid (some p.bR≠(Value.slice p.aO M.nO p.cO).ownBlock):=Fu (Aj u.regs u.obs Ad);clear no;obtain⟨S,m⟩:∃S:World->Prop,S=fun j=>j.cell? ⟨w.heap.size,0,none⟩=some (Vs p.bR 8 p.cR)/\j.cell? ⟨w.heap.size,1,none⟩=some (.bool M.z)/\j.cell? ⟨w.heap.size,2,none⟩=some (.bool M.c)/\j.cell? ⟨w.heap.size,3,none⟩=some (.bool M.hz)/\j.cell? ⟨w.heap.size,4,none⟩=some (.bool M.hc)/\j.cell? ⟨w.heap.size,5,none⟩=some (.slice p.aH M.nH p.cH)/\j.cell? ⟨w.heap.size,6,none⟩=some (Vi M.pc)/\j.cell? ⟨w.heap.size,7,none⟩=some (Vi M.st)/\j.cell? ⟨w.heap.size,8,none⟩=some (.slice p.aO M.nO p.cO)/\(∀i,j.frozen? ⟨w.heap.size,i,none⟩=false)/\w.heap.size<j.heap.size:=⟨_,rfl⟩
 have C:∀j,j.cell? ⟨w.heap.size,0,none⟩=some (Vs p.bR 8 p.cR)->j.cell? ⟨w.heap.size,1,none⟩=some (.bool M.z)->j.cell? ⟨w.heap.size,2,none⟩=some (.bool M.c)->j.cell? ⟨w.heap.size,3,none⟩=some (.bool M.hz)->j.cell? ⟨w.heap.size,4,none⟩=some (.bool M.hc)->j.cell? ⟨w.heap.size,5,none⟩=some (.slice p.aH M.nH p.cH)->j.cell? ⟨w.heap.size,6,none⟩=some (Vi M.pc)->j.cell? ⟨w.heap.size,7,none⟩=some (Vi M.st)->j.cell? ⟨w.heap.size,8,none⟩=some (.slice p.aO M.nO p.cO)->(∀i,j.frozen? ⟨w.heap.size,i,none⟩=false)->w.heap.size<j.heap.size->Such S j:=by unfold Such;rw[m];exact fun j a0 a1 a2 a3 a4 a5 a6 a7 a8 a9 b0=>⟨a0,a1,a2,a3,a4,a5,a6,a7,a8,a9,b0⟩
 have N:∀j,Bw y j->Such S j:=fun j h=>C j ((h.cell (p:=⟨w.heap.size,0,none⟩) r).trans m0) ((h.cell (p:=⟨w.heap.size,1,none⟩) r).trans m1) ((h.cell (p:=⟨w.heap.size,2,none⟩) r).trans m2) ((h.cell (p:=⟨w.heap.size,3,none⟩) r).trans m3) ((h.cell (p:=⟨w.heap.size,4,none⟩) r).trans m4) ((h.cell (p:=⟨w.heap.size,5,none⟩) r).trans m5) ((h.cell (p:=⟨w.heap.size,6,none⟩) r).trans m6) ((h.cell (p:=⟨w.heap.size,7,none⟩) r).trans m7) ((h.cell (p:=⟨w.heap.size,8,none⟩) r).trans m8) (fun i=>(h.frozen (p:=⟨w.heap.size,i,none⟩) r).trans (mf i)) (Ey r h.size)
 have j0:∀j,Such S j->j.cell? ⟨w.heap.size,0,none⟩=some (Vs p.bR 8 p.cR):=fun j h=>by unfold Such at h;rw[m]at h;exact h.1
 have j1:∀j,Such S j->j.cell? ⟨w.heap.size,1,none⟩=some (.bool M.z):=fun j h=>by unfold Such at h;rw[m]at h;exact h.2.1
 have j2:∀j,Such S j->j.cell? ⟨w.heap.size,2,none⟩=some (.bool M.c):=fun j h=>by unfold Such at h;rw[m]at h;exact h.2.2.1
 have j3:∀j,Such S j->j.cell? ⟨w.heap.size,3,none⟩=some (.bool M.hz):=fun j h=>by unfold Such at h;rw[m]at h;exact h.2.2.2.1
 have j4:∀j,Such S j->j.cell? ⟨w.heap.size,4,none⟩=some (.bool M.hc):=fun j h=>by unfold Such at h;rw[m]at h;exact h.2.2.2.2.1
 have j5:∀j,Such S j->j.cell? ⟨w.heap.size,5,none⟩=some (.slice p.aH M.nH p.cH):=fun j h=>by unfold Such at h;rw[m]at h;exact h.2.2.2.2.2.1
 have j6:∀j,Such S j->j.cell? ⟨w.heap.size,6,none⟩=some (Vi M.pc):=fun j h=>by unfold Such at h;rw[m]at h;exact h.2.2.2.2.2.2.1
 have j7:∀j,Such S j->j.cell? ⟨w.heap.size,7,none⟩=some (Vi M.st):=fun j h=>by unfold Such at h;rw[m]at h;exact h.2.2.2.2.2.2.2.1
 have j8:∀j,Such S j->j.cell? ⟨w.heap.size,8,none⟩=some (.slice p.aO M.nO p.cO):=fun j h=>by unfold Such at h;rw[m]at h;exact h.2.2.2.2.2.2.2.2.1
 have jf:∀j,Such S j->∀i,j.frozen? ⟨w.heap.size,i,none⟩=false:=fun j h=>by unfold Such at h;rw[m]at h;exact h.2.2.2.2.2.2.2.2.2.1
 have jz:∀j,Such S j->w.heap.size<j.heap.size:=fun j h=>by unfold Such at h;rw[m]at h;exact h.2.2.2.2.2.2.2.2.2.2
 have I:=hxy C;have J:=hxy N;clear m C N;go_upto_region 26 with fail;refine BH (T:=Such S) (s:=8) AV (J _ BJ.drew) (fun hHeld=>?_);refine ve [0,1,4] ?_;refine Ah (i:=2) rfl AV (fun K L=>?_);go_simp;refine(LA _).mono ?_;rintro e wa⟨rfl,rfl⟩;go_wp2_with fail;refine L.out _ _ (by assumption) (fun X=>?_);clear L K;refine Bt 3 ?_;refine Ah (i:=5) rfl AV (fun K L=>?_);go_simp;refine(LB _).mono ?_;rintro e wb⟨rfl,rfl⟩;go_wp2_with fail;refine L.out _ _ (by assumption) (fun Y=>?_);clear L K;refine Bt 6 ?_;refine Ah (i:=7) rfl AV (fun K L=>?_);go_simp;rw[HV.out];refine(Fy base (first (M.nO*2) (Dg M.K M.V)) _ _ _ _ _ _ _ _ _ _ _ _ p.aO M.nO p.cO 3 ((DZ (M.R a).toNat:Int)*65+(DZ (M.R b).toNat:Int)) _ hn af (ak.below BJ.drew).obs).mono ?_;rintro e wc⟨g,O,rfl,oc,gc⟩;have n:∀k o,k<y.heap.size->some k≠(Value.slice p.aO M.nO p.cO).ownBlock->wc.cell? (Va k o)=y.cell? (Va k o):=fun k o h1 h2=>World.cell?_of_block (gc.block k h1 h2)
 have ac:∀k o,k<y.heap.size->some k≠(Value.slice p.aO M.nO p.cO).ownBlock->wc.frozen? (Va k o)=y.frozen? (Va k o):=fun k o h1 h2=>World.frozen?_of_block (gc.block k h1 h2)
 have zc:y.heap.size<=wc.heap.size:=by have:=gc.size;simpa using this
 have SC:Such S wc:=I.out wc ((n _ 0 r l).trans m0) ((n _ 1 r l).trans m1) ((n _ 2 r l).trans m2) ((n _ 3 r l).trans m3) ((n _ 4 r l).trans m4) ((n _ 5 r l).trans m5) ((n _ 6 r l).trans m6) ((n _ 7 r l).trans m7) ((n _ 8 r l).trans m8) (fun i=>(ac _ i r l).trans (mf i)) AB;have U:Hid _:=oc;have D:Hid _:=gc;have F:Hid _:=n;have Q:Hid _:=ac;clear oc gc n ac;go_wp2_with fail;refine L.out _ _ SC (fun Z=>?_);clear L K;refine BD rfl AV AV (fun K L=>?_);go_simp;refine L.out _ _ ?_;clear L K;have gM:g≠w.heap.size:=by
  have:=Fu (Aj U ((al.drew).kept D (.inr l)) Ad);simpa[Value.ownBlock]using this
 have gZ:g≠w.heap.size+1+1:=by
  have:=Fu (Aj U ((am.drew).kept D (.inr ab)) Ad);simpa[Value.ownBlock]using this
 have ag:=hxy gM;have ah:=hxy gZ;clear gM gZ al am;have M1:=(ak.below BJ.drew).see U D;have bc:y.heap.size<=wc.heap.size:=zc;have aj:=hxy M1;have ae:Hid (Below base w wc):=(aa.mono (Nat.le_of_lt (Nat.lt_of_le_of_lt u.ltR.1 u.ltR.2))).trans (BJ.drew.trans (BJ.grown D af (fun k B=>(u.obs.lt k B).1)));have ai:Hid (∀k,k<w.heap.size->some k≠(Value.slice p.aO M.nO p.cO).ownBlock->wc.heap[k]?=w.heap[k]?):=fun k B ho=>(D.block k (by show k<y.heap.size;omega) ho).trans (aa.block k B)
 have aX:wc.cell? ⟨p.bR,d,none⟩=some (.int .u64 (M.R d)):=(F _ _ aC an).trans ap;have aM:wc.frozen? ⟨p.bR,d,none⟩=false:=(Q _ _ aC an).trans ao;have aZ:p.bR<wc.heap.size:=AB;have aI:w.heap.size<wc.heap.size:=AB;have aJ:w.heap.size+1<wc.heap.size:=AB;have aK:w.heap.size+1+1<wc.heap.size:=AB;have e0:=lI (fun o=>F.out _ o r l) m0 m1 m2 m3 m4 m5 m6 m7 m8;have x0:=yT (fun o=>F.out _ o y1 aD) i0 i1 i2 i3 i4 i5;obtain⟨ar,au,av,aw,ax,ay,az,aA,aB⟩:=lI (fun o=>F.out _ o y2 ab) s0 s1 s2 s3 s4 s5 s6 s7 s8;have aS:∀i,wc.frozen? ⟨w.heap.size,i,none⟩=false:=fun i=>(Q _ i r l).trans (mf i)
 have aY:∀i,wc.frozen? ⟨w.heap.size+1+1,i,none⟩=false:=fun i=>(Q _ i y2 ab).trans (sf i)
 clear M1 m0 m1 m2 m3 m4 m5 m6 m7 m8 i0 i1 i2 i3 i4 i5 s0 s1 s2 s3 s4 s5 s6 s7 s8 mf sf ap ao aF aG j0 j1 j2 j3 j4 j5 j6 j7 j8 jf jz I J hHeld X Y Z SC U D F Q LA LB HV;by_cases hz:M.R b=0
 ·go_wp2
  refine mY (.agg #[Vs p.bR 8 p.cR,.bool M.z,.bool M.c,.bool M.hz,.bool M.hc,.slice p.aH M.nH p.cH,Vi M.pc,Vi M.st,Vs g (M.nO+1) O]) (by simp[results,Tryz.results84,go_sem,ar,au,av,aw,ax,ay,az,aA,aB]) ?_;have hE:uq 9 d a b h A M=(M.see 3 ((DZ (M.R a).toNat:Int)*65+(DZ (M.R b).toNat:Int))).setR d (0):=by
   unfold uq exec;simp only[hz,if_true]
  rw[hE];refine⟨⟨{p with aO:=some ⟨g,0,none⟩,cO:=O},rfl,?_,?_⟩,?_⟩
  ·iterate 9 refine Below.setCell ?_ (by simp;have:=u.ltR;omega) _
   refine Below.setCell ?_ (by simpa using u.ltR.1) _;iterate 9 refine Below.setCell ?_ (by simp;have:=u.ltR;omega) _
   exact ae
  ·have oM:=Dh (M:=M.see 3 ((DZ (M.R a).toNat:Int)*65+(DZ (M.R b).toNat:Int))) u rfl BQ ag O
   have oZ:=Dh (M:=M.see 3 ((DZ (M.R a).toNat:Int)*65+(DZ (M.R b).toNat:Int))) u rfl (show w.heap.size<=w.heap.size+1+1 by omega) ah O;iterate 9 refine Mem.setOff (M:=(M.see 3 ((DZ (M.R a).toNat:Int)*65+(DZ (M.R b).toNat:Int))).setR d _) ?_ oZ _ _
   refine Mem.setR (p:={p with aO:=some ⟨g,0,none⟩,cO:=O}) ?_ d _;iterate 9 refine Mem.setOff (M:=M.see 3 ((DZ (M.R a).toNat:Int)*65+(DZ (M.R b).toNat:Int))) ?_ oM _ _
   exact aj
  ·intro k aE ty fr B n1 n2 n3 n4
   have ad:=Kept.lt B;have kR:k≠p.bR:=fun q=>Nh u.regs B n1 (by rw[q];rfl)
   iterate 9 rw[heap_setCell_other _ _ _ _ (show k≠w.heap.size+1+1 by omega)]
   rw[heap_setCell_other _ _ _ _ kR];iterate 9 rw[heap_setCell_other _ _ _ _ (show k≠w.heap.size by omega)]
   exact ai k ad (fun q=>Nh u.obs B n4 q.symm)
 ·have aR:0<M.R b:=AB
  go_wp2;refine mY (.agg #[Vs p.bR 8 p.cR,.bool M.z,.bool M.c,.bool M.hz,.bool M.hc,.slice p.aH M.nH p.cH,Vi M.pc,Vi M.st,Vs g (M.nO+1) O]) (by simp[results,Tryz.results84,go_sem,ar,au,av,aw,ax,ay,az,aA,aB]) ?_;have hE:uq 9 d a b h A M=(M.see 3 ((DZ (M.R a).toNat:Int)*65+(DZ (M.R b).toNat:Int))).setR d (M.R a/M.R b):=by
   unfold uq exec;simp only[hz,if_false]
  rw[hE];refine⟨⟨{p with aO:=some ⟨g,0,none⟩,cO:=O},rfl,?_,?_⟩,?_⟩
  ·iterate 9 refine Below.setCell ?_ (by simp;have:=u.ltR;omega) _
   refine Below.setCell ?_ (by simpa using u.ltR.1) _;iterate 9 refine Below.setCell ?_ (by simp;have:=u.ltR;omega) _
   exact ae
  ·have oM:=Dh (M:=M.see 3 ((DZ (M.R a).toNat:Int)*65+(DZ (M.R b).toNat:Int))) u rfl BQ ag O
   have oZ:=Dh (M:=M.see 3 ((DZ (M.R a).toNat:Int)*65+(DZ (M.R b).toNat:Int))) u rfl (show w.heap.size<=w.heap.size+1+1 by omega) ah O;iterate 9 refine Mem.setOff (M:=(M.see 3 ((DZ (M.R a).toNat:Int)*65+(DZ (M.R b).toNat:Int))).setR d _) ?_ oZ _ _
   refine Mem.setR (p:={p with aO:=some ⟨g,0,none⟩,cO:=O}) ?_ d _;iterate 9 refine Mem.setOff (M:=M.see 3 ((DZ (M.R a).toNat:Int)*65+(DZ (M.R b).toNat:Int))) ?_ oM _ _
   exact aj
  ·intro k aE ty fr B n1 n2 n3 n4
   have ad:=Kept.lt B;have kR:k≠p.bR:=fun q=>Nh u.regs B n1 (by rw[q];rfl)
   iterate 9 rw[heap_setCell_other _ _ _ _ (show k≠w.heap.size+1+1 by omega)]
   rw[heap_setCell_other _ _ _ _ kR];iterate 9 rw[heap_setCell_other _ _ _ _ (show k≠w.heap.size by omega)]
   exact ai k ad (fun q=>Nh u.obs B n4 q.symm)
end
theorem Gu(a:0<=x)(b:x<4611686018427387904):IntKind.i64.wrap x=x:=by
 rw[IntKind.wrap_i64];omega
theorem Pz(M:MV)(h o:Nat)(v:Int):∀k,(M.pokeN h o v k).nO=M.nO
 |0=>rfl
 |k+1=>Pz M h o v k
theorem Pq(M:MV)(h o:Nat)(v:Int):∀k,(M.pokeN h o v k).nH=M.nH
 |0=>rfl
 |k+1=>Pq M h o v k
theorem VL(p:Pl)(M:MV)(h j:Nat)(u:Int):xX p (M.poke h j u)=xX p M:=rfl
theorem KF(p:Pl)(M:MV)(h o:Nat)(v:Int):∀k,xX p (M.pokeN h o v k)=xX p M
 |0=>rfl
 |k+1=>(VL p (M.pokeN h o v k) h (o+k) (v/2^(8*k)%256)).trans (KF p M h o v k)
theorem Tj{p:Pl}{M:MV}{h o q:Nat}{v:Int}(a:Off p M.nH M.nO q):Off p (M.pokeN h o v k).nH (M.pokeN h o v k).nO q:=by
 rw[Pq,Pz];exact a
def I6(n:Nat):Code->Option Code
 |.seq a b=>match a with
  |.region k _ _=>if k=n then some (.seq a b)else I6 n b
  |_=>I6 n b
 |.block _ c=>I6 n c
 |.scope c=>I6 n c
 |_=>none
def mF(f:Func):Code:=(f.body.bind (I6 8)).getD .skip
end Go.Proofs.YtcjnmdgomocpgaaGreatDoor
