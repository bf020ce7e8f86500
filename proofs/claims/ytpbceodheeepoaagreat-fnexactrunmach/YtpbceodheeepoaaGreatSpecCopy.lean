import Derived.Test.YtpbceodheeepoaaGreatOfSpecOff
import Derived.Test.YtpbceodheeepoaaGreatCopyMach
import Derived.Test.YtpbceodheeepoaaGreatAppOwn
set_option maxHeartbeats 4000000
set_option maxRecDepth 20000
namespace Go.Proofs.YtpbceodheeepoaaGreat
open Go.RowKit
theorem putBlk_lt{blk:Nat->Nat}{k C i:Nat}(h:i<k):putBlk blk k C i=blk i:=putBlk_other (by omega)
theorem place_push(Hp:Nat->HeapV)(blk cap:Nat->Nat)(k g c:Nat):first ((k+1)*3) (heapF (place Hp (putBlk blk k g) (putBlk cap k c)))=first (k*3) (heapF (place Hp blk cap))++[.int .u64 (Hp k).base,.bool (Hp k).wr,.slice (some ⟨g,0,none⟩) (Hp k).len c]:=by
 rw[show(k+1)*3=k*3+1+1+1 by omega,first_three];have e0:=heapF_0 (place Hp (putBlk blk k g) (putBlk cap k c)) k;rw[Nat.add_zero]at e0;rw[e0,heapF_1,show k*3+1+1=k*3+2 by omega,heapF_2];simp only[place,putBlk_same];congr 1
 refine first_congr fun p hp=>heapF_congr hp fun i hi=>?_
 simp only[place,putBlk_lt hi]
theorem Mem.push{w11 w12:World}{base:Nat}{R:Nat->Int}{z c hz hc:Bool}{Hp:Nat->HeapV}{pc st:Int}{nO:Nat}{K V:Nat->Int}{bR cR:Nat}{aH:Option Addr}{cH:Nat}{blk cap:Nat->Nat}{aO:Option Addr}{cO:Nat}{k gD cD:Nat}{aH':Option Addr}{cH':Nat}
 (h:Mem w11 base ⟨bR,cR,aH,cH,blk,cap,aO,cO⟩ ⟨R,z,c,hz,hc,k,Hp,pc,st,nO,K,V⟩)
 (hD:w11.ownsRow base 5 1 (.slice (some ⟨gD,0,none⟩) (Hp k).len cD) (Hp k).len (first (Hp k).len (numF .u8 (Hp k).dat)))(hf:∀i,i<k->blk i≠gD)
 (hH:w12.ownsRow base 69 3 (.slice aH' (k+1) cH') (k+1) (first (k*3) (heapF (place Hp blk cap))++[.int .u64 (Hp k).base,.bool (Hp k).wr,.slice (some ⟨gD,0,none⟩) (Hp k).len cD]))
 (hg:w11.grownBy w12 (Value.slice aH k cH).ownBlock):
 Mem w12 base ⟨bR,cR,aH',cH',putBlk blk k gD,putBlk cap k cD,aO,cO⟩ ⟨R,z,c,hz,hc,k+1,Hp,pc,st,nO,K,V⟩:=by
 refine⟨h.regs.kept hg (rows_apart h.regs h.heaps (by decide)),?_,fun i hi=>?_,h.obs.kept hg (rows_apart h.obs h.heaps (by decide)),fun i j hi hj hne=>?_⟩
 ·show w12.ownsRow base 69 3 (.slice aH' (k+1) cH') (k+1) (first ((k+1)*3) (heapF (place Hp (putBlk blk k gD) (putBlk cap k cD))))
  rw[place_push];exact hH
 ·show w12.ownsRow base 5 1 (.slice (some ⟨putBlk blk k gD i,0,none⟩) (Hp i).len (putBlk cap k cD i)) (Hp i).len (first (Hp i).len (numF .u8 (Hp i).dat))
  by_cases hik:i=k
  ·subst hik
   rw[putBlk_same,putBlk_same];exact hD.kept hg (rows_apart hD h.heaps (by decide))
  ·have hlt:i<k:=by have:i<k+1:=hi;omega
   rw[putBlk_lt hlt,putBlk_lt hlt];have:=h.data i hlt;exact this.kept hg (rows_apart this h.heaps (by decide))
 ·show putBlk blk k gD i≠putBlk blk k gD j
  have hi':i<k+1:=hi;have hj':j<k+1:=hj;by_cases hik:i=k
  ·subst hik
   rw[putBlk_same,putBlk_lt (by omega)];exact Ne.symm (hf j (by omega))
  ·by_cases hjk:j=k
   ·subst hjk
    rw[putBlk_same,putBlk_lt (by omega)];exact hf i (by omega)
   ·rw[putBlk_lt (by omega),putBlk_lt (by omega)]
    exact h.ne i j (by show i<k;omega) (by show j<k;omega) hne
theorem l1Copy_any(bR nR:Nat)(R:Nat->Int)(z c hz hc:Bool)(bH nH:Nat)(Hp:Nat->HeapV)(blk0:Nat->Nat)(pc st:Int)(bO nO:Nat)(K V:Nat->Int)(w:World)(hnR:nR=8)(hnH:nH<=8)(hnO:nO<=1048576)(hlen:∀i,i<nH->1<=(Hp i).len/\(Hp i).len<=4096)(hm:MachCp w bR nR R bH nH Hp blk0 bO nO K V):
 Calls Tryz.prog 33 #[.agg #[.slice (some ⟨bR,0,none⟩) nR nR,.bool z,.bool c,.bool hz,.bool hc,.slice (some ⟨bH,0,none⟩) nH nH,.int .i64 pc,.int .i64 st,.slice (some ⟨bO,0,none⟩) nO nO]] w fun e w'=>∃p:Pl,
  e=.returned (.agg #[.slice (some ⟨p.bR,0,none⟩) 8 p.cR,.bool z,.bool c,.bool hz,.bool hc,.slice p.aH nH p.cH,.int .i64 pc,.int .i64 st,.slice p.aO nO p.cO])/\Below w.heap.size w w'/\Mem w' w.heap.size p {R:=R,z:=z,c:=c,hz:=hz,hc:=hc,nH:=nH,Hp:=Hp,pc:=pc,st:=st,nO:=nO,K:=K,V:=V}:=by
 subst hnR;obtain⟨iU,hU,hU0,hU1,hU2⟩:=info_parts info_cU;obtain⟨iO,hO,hO0,hO1,hO2⟩:=info_parts info_cO;have HM:Hid (MachCp w bR 8 R bH nH Hp blk0 bO nO K V):=hm;have HL:Hid (∀i,i<nH->1<=(Hp i).len/\(Hp i).len<=4096):=hlen;clear hm hlen;go_enter Tryz.func33,Tryz.ntmps33;go_upto_region 2 with fail;generalize hw0:((w.alloc (.cells #[.slice (some ⟨bR,0,none⟩) 8 8,.bool z,.bool c,.bool hz,.bool hc,.slice (some ⟨bH,0,none⟩) nH nH,.int .i64 pc,.int .i64 st,.slice (some ⟨bO,0,none⟩) nO nO] 28)).alloc (.cells #[.slice none 0 0,.bool false,.bool false,.bool false,.bool false,.slice none 0 0,.int .i64 0,.int .i64 0,.slice none 0 0] 28)).alloc (.cells #[.slice (some ⟨bR,0,none⟩) 8 8,.bool z,.bool c,.bool hz,.bool hc,.slice (some ⟨bH,0,none⟩) nH nH,.int .i64 pc,.int .i64 st,.slice (some ⟨bO,0,none⟩) nO nO] 28)=w0;have b0:Below w.heap.size w w0:=by rw[<-hw0];exact(((Below.refl _ _).alloc (Nat.le_refl _) _).alloc (by simp) _).alloc (by simp;omega) _
 have z0:w0.heap.size=w.heap.size+3:=by rw[<-hw0];simp
 have XB:w0.ownsRow w.heap.size 28 9 (.slice (some ⟨w.heap.size,0,none⟩) 1 1) 1 [.slice (some ⟨bR,0,none⟩) 8 8,.bool z,.bool c,.bool hz,.bool hc,.slice (some ⟨bH,0,none⟩) nH nH,.int .i64 pc,.int .i64 st,.slice (some ⟨bO,0,none⟩) nO nO]:=by rw[<-hw0];exact((World.ownsRow_lit w #[.slice (some ⟨bR,0,none⟩) 8 8,.bool z,.bool c,.bool hz,.bool hc,.slice (some ⟨bH,0,none⟩) nH nH,.int .i64 pc,.int .i64 st,.slice (some ⟨bO,0,none⟩) nO nO] 1 (Nat.le_refl _) (by unfold maxLen;omega) rfl).alloc _).alloc _
 have XZ:w0.ownsRow w.heap.size 28 9 (.slice (some ⟨w.heap.size+1,0,none⟩) 1 1) 1 [.slice none 0 0,.bool false,.bool false,.bool false,.bool false,.slice none 0 0,.int .i64 0,.int .i64 0,.slice none 0 0]:=by
  rw[<-hw0];have:=(World.ownsRow_lit (base:=w.heap.size) (e:=28) (size:=9) (w.alloc (.cells #[.slice (some ⟨bR,0,none⟩) 8 8,.bool z,.bool c,.bool hz,.bool hc,.slice (some ⟨bH,0,none⟩) nH nH,.int .i64 pc,.int .i64 st,.slice (some ⟨bO,0,none⟩) nO nO] 28)) #[.slice none 0 0,.bool false,.bool false,.bool false,.bool false,.slice none 0 0,.int .i64 0,.int .i64 0,.slice none 0 0] 1 (by simp) (by unfold maxLen;omega) rfl).alloc (.cells #[.slice (some ⟨bR,0,none⟩) 8 8,.bool z,.bool c,.bool hz,.bool hc,.slice (some ⟨bH,0,none⟩) nH nH,.int .i64 pc,.int .i64 st,.slice (some ⟨bO,0,none⟩) nO nO] 28);rw[World.size_alloc]at this;exact this
 have XO:w0.ownsRow w.heap.size 28 9 (.slice (some ⟨w.heap.size+1+1,0,none⟩) 1 1) 1 [.slice (some ⟨bR,0,none⟩) 8 8,.bool z,.bool c,.bool hz,.bool hc,.slice (some ⟨bH,0,none⟩) nH nH,.int .i64 pc,.int .i64 st,.slice (some ⟨bO,0,none⟩) nO nO]:=by
  rw[<-hw0];have:=World.ownsRow_lit (base:=w.heap.size) (e:=28) (size:=9) ((w.alloc (.cells #[.slice (some ⟨bR,0,none⟩) 8 8,.bool z,.bool c,.bool hz,.bool hc,.slice (some ⟨bH,0,none⟩) nH nH,.int .i64 pc,.int .i64 st,.slice (some ⟨bO,0,none⟩) nO nO] 28)).alloc (.cells #[.slice none 0 0,.bool false,.bool false,.bool false,.bool false,.slice none 0 0,.int .i64 0,.int .i64 0,.slice none 0 0] 28)) #[.slice (some ⟨bR,0,none⟩) 8 8,.bool z,.bool c,.bool hz,.bool hc,.slice (some ⟨bH,0,none⟩) nH nH,.int .i64 pc,.int .i64 st,.slice (some ⟨bO,0,none⟩) nO nO] 1 (by simp;omega) (by unfold maxLen;omega) rfl;rw[World.size_alloc,World.size_alloc]at this;exact this
 have HXBw0:Hid (w0.ownsRow w.heap.size 28 9 (.slice (some ⟨w.heap.size,0,none⟩) 1 1) 1 [.slice (some ⟨bR,0,none⟩) 8 8,.bool z,.bool c,.bool hz,.bool hc,.slice (some ⟨bH,0,none⟩) nH nH,.int .i64 pc,.int .i64 st,.slice (some ⟨bO,0,none⟩) nO nO]):=XB;have HXZw0:Hid (w0.ownsRow w.heap.size 28 9 (.slice (some ⟨w.heap.size+1,0,none⟩) 1 1) 1 [.slice none 0 0,.bool false,.bool false,.bool false,.bool false,.slice none 0 0,.int .i64 0,.int .i64 0,.slice none 0 0]):=XZ;have HXOw0:Hid (w0.ownsRow w.heap.size 28 9 (.slice (some ⟨w.heap.size+1+1,0,none⟩) 1 1) 1 [.slice (some ⟨bR,0,none⟩) 8 8,.bool z,.bool c,.bool hz,.bool hc,.slice (some ⟨bH,0,none⟩) nH nH,.int .i64 pc,.int .i64 st,.slice (some ⟨bO,0,none⟩) nO nO]):=XO;have HBw0:Hid (Below w.heap.size w w0):=b0;obtain⟨m0,m1,m2,m3,m4,m5,m6,m7,m8⟩:=cells9 HXBw0.out;obtain⟨o0,o1,o2,o3,o4,o5,o6,o7,o8⟩:=cells9 HXOw0.out;have of:∀i,w0.frozen? ⟨w.heap.size+1+1,i,none⟩=false:=fun i=>HXOw0.out.frozenAt i
 have y0:w.heap.size<w0.heap.size:=by omega
 have y1:w.heap.size+1<w0.heap.size:=by omega
 have y2:w.heap.size+1+1<w0.heap.size:=by omega
 have z0':w.heap.size+3<=w0.heap.size:=by omega
 clear hw0 b0 XB XZ XO z0;go_wp2_with(first|(at_builtin;refine wpList_append_own _ rfl _ _ 24 rfl w0.heap.size 67 iU (.int .u64 0) 1 8 Tryz.underlying24 hU hU0 hU1 hU2 rfl (by decide) _ 0 [] rfl (World.ownsRow_lit w0 #[] 0 (Nat.le_refl _) (by unfold maxLen;omega) rfl) ⟨bR,0,none⟩ 8 8 (first (8*1) (numF .u64 R)) rfl (first_length _ _) ?c1 ?c2 ?c3 ?c4 ?c5 ?_)|go_in)
 case c1=>
  intro j u hj;obtain⟨hm,rfl⟩:=first_get hj;rw[Addr.add_lit,Nat.zero_add];have hA:=(HM.out.below HBw0.out (Nat.le_refl _)).regs;exact(((Below.refl _ _).alloc (Nat.le_refl _) _).cell (p:=⟨bR,j,none⟩) hA.lt).trans (hA.cell (by omega))
 case c2=>
  intro u hu;obtain⟨j,_,rfl⟩:=first_mem hu;exact rfl
 case c3=>unfold maxLen;omega
 case c4=>omega
 case c5=>simp
 intro v1 w1 hown1 hgrow1 _;have B1:Below w0.heap.size w0 w1:=((Below.refl _ _).alloc (Nat.le_refl _) _).trans ((Below.refl _ _).grown hgrow1 (by simp) (by intro k hk;simp[Value.ownBlock]at hk;omega));have hr1:w1.ownsRow w0.heap.size 67 1 v1 8 (first 8 (numF .u64 R)):=by simpa using hown1
 obtain⟨gR,cR,hv1⟩:=row_some hr1 (by decide);subst hv1;have HR1:Hid (w1.ownsRow w0.heap.size 67 1 (.slice (some ⟨gR,0,none⟩) 8 cR) 8 (first 8 (numF .u64 R))):=hr1;have RB1:=row_below HXBw0.out B1;have RZ1:=row_below HXZw0.out B1;have RO1:=row_below HXOw0.out B1;have s01:w0.heap.size<=w1.heap.size:=B1.size;have HBa:Hid (Below w.heap.size w w1):=HBw0.out.trans (B1.mono (by omega));clear hown1 hgrow1 hr1 B1 hU hU0 hU1 hU2 m0 m1 m2 m3 m4 m5 m6 m7 m8 o0 o1 o2 o3 o4 o5 o6 o7 o8 of y0 y1 y2;obtain⟨o0,o1,o2,o3,o4,o5,o6,o7,o8⟩:=cells9 RO1;obtain⟨m0,m1,m2,m3,m4,m5,m6,m7,m8⟩:=cells9 RB1;have of:∀i,w1.frozen? ⟨w.heap.size+1+1,i,none⟩=false:=fun i=>RO1.frozenAt i
 have y0:w.heap.size<w1.heap.size:=by omega
 have y2:w.heap.size+1+1<w1.heap.size:=by omega
 go_upto_region 3 with fail;generalize hw2:w1.setCell ⟨w.heap.size+1+1,0,none⟩ (.slice (some ⟨gR,0,none⟩) 8 cR)=w2;have XB2:w2.ownsRow w.heap.size 28 9 (.slice (some ⟨w.heap.size,0,none⟩) 1 1) 1 [.slice (some ⟨bR,0,none⟩) 8 8,.bool z,.bool c,.bool hz,.bool hc,.slice (some ⟨bH,0,none⟩) nH nH,.int .i64 pc,.int .i64 st,.slice (some ⟨bO,0,none⟩) nO nO]:=by rw[<-hw2];exact ownsRow_setCell_other RB1 (by simp[Value.ownBlock];omega) _
 have XZ2:w2.ownsRow w.heap.size 28 9 (.slice (some ⟨w.heap.size+1,0,none⟩) 1 1) 1 [.slice none 0 0,.bool false,.bool false,.bool false,.bool false,.slice none 0 0,.int .i64 0,.int .i64 0,.slice none 0 0]:=by rw[<-hw2];exact ownsRow_setCell_other RZ1 (by simp[Value.ownBlock]) _
 have XO2:w2.ownsRow w.heap.size 28 9 (.slice (some ⟨w.heap.size+1+1,0,none⟩) 1 1) 1 [.slice (some ⟨gR,0,none⟩) 8 cR,.bool z,.bool c,.bool hz,.bool hc,.slice (some ⟨bH,0,none⟩) nH nH,.int .i64 pc,.int .i64 st,.slice (some ⟨bO,0,none⟩) nO nO]:=by
  rw[<-hw2];exact(RO1.stored 0 _).1
 have HR2:Hid (w2.ownsRow w0.heap.size 67 1 (.slice (some ⟨gR,0,none⟩) 8 cR) 8 (first 8 (numF .u64 R))):=by
  have hl:=HR1.out.lt gR rfl;show w2.ownsRow _ _ _ _ _ _;rw[<-hw2];exact ownsRow_setCell_other HR1.out (by simp[Value.ownBlock];omega) _
 have B2:Below w.heap.size w w2:=by rw[<-hw2];exact HBa.out.setCell (by simp;omega) _
 have z2:w1.heap.size<=w2.heap.size:=by rw[<-hw2];simp
 clear hw2 RB1 RZ1 RO1 HR1 HBa HBw0 HXBw0 HXZw0 HXOw0 m0 m1 m2 m3 m4 m5 m6 m7 m8 o0 o1 o2 o3 o4 o5 o6 o7 o8 of y0 y2;have HXBw2:Hid (w2.ownsRow w.heap.size 28 9 (.slice (some ⟨w.heap.size,0,none⟩) 1 1) 1 [.slice (some ⟨bR,0,none⟩) 8 8,.bool z,.bool c,.bool hz,.bool hc,.slice (some ⟨bH,0,none⟩) nH nH,.int .i64 pc,.int .i64 st,.slice (some ⟨bO,0,none⟩) nO nO]):=XB2;have HXZw2:Hid (w2.ownsRow w.heap.size 28 9 (.slice (some ⟨w.heap.size+1,0,none⟩) 1 1) 1 [.slice none 0 0,.bool false,.bool false,.bool false,.bool false,.slice none 0 0,.int .i64 0,.int .i64 0,.slice none 0 0]):=XZ2;have HXOw2:Hid (w2.ownsRow w.heap.size 28 9 (.slice (some ⟨w.heap.size+1+1,0,none⟩) 1 1) 1 [.slice (some ⟨gR,0,none⟩) 8 cR,.bool z,.bool c,.bool hz,.bool hc,.slice (some ⟨bH,0,none⟩) nH nH,.int .i64 pc,.int .i64 st,.slice (some ⟨bO,0,none⟩) nO nO]):=XO2;have HBw2:Hid (Below w.heap.size w w2):=B2;obtain⟨m0,m1,m2,m3,m4,m5,m6,m7,m8⟩:=cells9 HXBw2.out;obtain⟨o0,o1,o2,o3,o4,o5,o6,o7,o8⟩:=cells9 HXOw2.out;have of:∀i,w2.frozen? ⟨w.heap.size+1+1,i,none⟩=false:=fun i=>HXOw2.out.frozenAt i
 have y0:w.heap.size<w2.heap.size:=by omega
 have y1:w.heap.size+1<w2.heap.size:=by omega
 have y2:w.heap.size+1+1<w2.heap.size:=by omega
 clear XB2 XZ2 XO2 B2;go_wp2_with(first|(at_builtin;refine wpList_append_own _ rfl _ _ 26 rfl w2.heap.size 77 iO (.agg #[.int .i64 0,.int .u64 0]) 2 16 Tryz.underlying26 hO hO0 hO1 hO2 rfl (by decide) _ 0 [] rfl (World.ownsRow_lit w2 #[] 0 (Nat.le_refl _) (by unfold maxLen;omega) rfl) ⟨bO,0,none⟩ nO nO (first (nO*2) (obsF K V)) rfl (first_length _ _) ?c1 ?c2 ?c3 ?c4 ?c5 ?_)|go_in)
 case c1=>
  intro j u hj;obtain⟨hm,rfl⟩:=first_get hj;rw[Addr.add_lit,Nat.zero_add];have hA:=(HM.out.below HBw2.out (Nat.le_refl _)).obs;exact(((Below.refl _ _).alloc (Nat.le_refl _) _).cell (p:=⟨bO,j,none⟩) hA.lt).trans (hA.cell (by omega))
 case c2=>
  intro u hu;obtain⟨j,_,rfl⟩:=first_mem hu;exact obsF_one K V j
 case c3=>unfold maxLen;omega
 case c4=>omega
 case c5=>simp
 intro v3 w3 hown3 hgrow3 _;have B3:Below w2.heap.size w2 w3:=((Below.refl _ _).alloc (Nat.le_refl _) _).trans ((Below.refl _ _).grown hgrow3 (by simp) (by intro k hk;simp[Value.ownBlock]at hk;omega));have hr3:w3.ownsRow w2.heap.size 77 2 v3 nO (first (nO*2) (obsF K V)):=by simpa using hown3
 obtain⟨aO,cO,hv3⟩:=row_slice hr3;subst hv3;have HO3:Hid (w3.ownsRow w2.heap.size 77 2 (.slice aO nO cO) nO (first (nO*2) (obsF K V))):=hr3;have HR3:Hid (w3.ownsRow w0.heap.size 67 1 (.slice (some ⟨gR,0,none⟩) 8 cR) 8 (first 8 (numF .u64 R))):=row_below HR2.out B3;have RB1:=row_below HXBw2.out B3;have RZ1:=row_below HXZw2.out B3;have RO1:=row_below HXOw2.out B3;have s23:w2.heap.size<=w3.heap.size:=B3.size;have HBa:Hid (Below w.heap.size w w3):=HBw2.out.trans (B3.mono (by omega));clear hown3 hgrow3 hr3 B3 hO hO0 hO1 hO2 HR2 m0 m1 m2 m3 m4 m5 m6 m7 m8 o0 o1 o2 o3 o4 o5 o6 o7 o8 of y0 y1 y2;obtain⟨o0,o1,o2,o3,o4,o5,o6,o7,o8⟩:=cells9 RO1;obtain⟨m0,m1,m2,m3,m4,m5,m6,m7,m8⟩:=cells9 RB1;have of:∀i,w3.frozen? ⟨w.heap.size+1+1,i,none⟩=false:=fun i=>RO1.frozenAt i
 have y0:w.heap.size<w3.heap.size:=by omega
 have y2:w.heap.size+1+1<w3.heap.size:=by omega
 go_wp2_with fail;generalize hw4:((w3.setCell ⟨w.heap.size+1+1,8,none⟩ (.slice aO nO cO)).setCell ⟨w.heap.size+1+1,5,none⟩ (.slice (some ⟨w3.heap.size,0,none⟩) 0 0)).alloc (.cells #[] 69)=w4;have XB4:w4.ownsRow w.heap.size 28 9 (.slice (some ⟨w.heap.size,0,none⟩) 1 1) 1 [.slice (some ⟨bR,0,none⟩) 8 8,.bool z,.bool c,.bool hz,.bool hc,.slice (some ⟨bH,0,none⟩) nH nH,.int .i64 pc,.int .i64 st,.slice (some ⟨bO,0,none⟩) nO nO]:=by rw[<-hw4];exact(ownsRow_setCell_other (ownsRow_setCell_other RB1 (by simp[Value.ownBlock];omega) _) (by simp[Value.ownBlock];omega) _).alloc _
 have XZ4:w4.ownsRow w.heap.size 28 9 (.slice (some ⟨w.heap.size+1,0,none⟩) 1 1) 1 [.slice none 0 0,.bool false,.bool false,.bool false,.bool false,.slice none 0 0,.int .i64 0,.int .i64 0,.slice none 0 0]:=by rw[<-hw4];exact(ownsRow_setCell_other (ownsRow_setCell_other RZ1 (by simp[Value.ownBlock]) _) (by simp[Value.ownBlock]) _).alloc _
 have XO4:w4.ownsRow w.heap.size 28 9 (.slice (some ⟨w.heap.size+1+1,0,none⟩) 1 1) 1 [.slice (some ⟨gR,0,none⟩) 8 cR,.bool z,.bool c,.bool hz,.bool hc,.slice (some ⟨w3.heap.size,0,none⟩) 0 0,.int .i64 pc,.int .i64 st,.slice aO nO cO]:=by
  rw[<-hw4];exact(((RO1.stored 8 _).1).stored 5 _).1.alloc _
 have lR:=HR3.out.lt gR rfl;have R4:w4.ownsRow w0.heap.size 67 1 (.slice (some ⟨gR,0,none⟩) 8 cR) 8 (first 8 (numF .u64 R)):=by
  rw[<-hw4];exact(ownsRow_setCell_other (ownsRow_setCell_other HR3.out (by simp[Value.ownBlock];omega) _) (by simp[Value.ownBlock];omega) _).alloc _
 have nO2:(Value.slice aO nO cO).ownBlock≠some (w.heap.size+1+1):=fun q=>by have:=(HO3.out.lt _ q).1;omega
 have O4:w4.ownsRow w2.heap.size 77 2 (.slice aO nO cO) nO (first (nO*2) (obsF K V)):=by
  rw[<-hw4];exact(ownsRow_setCell_other (ownsRow_setCell_other HO3.out nO2 _) nO2 _).alloc _
 have H4:w4.ownsRow w.heap.size 69 3 (.slice (some ⟨w3.heap.size,0,none⟩) 0 0) 0 []:=by
  rw[<-hw4];have:=World.ownsRow_lit (base:=w.heap.size) (e:=69) (size:=3) ((w3.setCell ⟨w.heap.size+1+1,8,none⟩ (.slice aO nO cO)).setCell ⟨w.heap.size+1+1,5,none⟩ (.slice (some ⟨w3.heap.size,0,none⟩) 0 0)) #[] 0 (by simp;omega) (by unfold maxLen;omega) rfl;simpa using this
 have HM4:Hid (Mem w4 w.heap.size ⟨gR,cR,some ⟨w3.heap.size,0,none⟩,0,fun _=>0,fun _=>0,aO,cO⟩ ⟨R,z,c,hz,hc,0,Hp,pc,st,nO,K,V⟩):=
  ⟨R4.mono (by omega),by simpa[first]using H4,fun i hi=>absurd hi (Nat.not_lt_zero _),O4.mono (by omega),fun i j hi=>absurd hi (Nat.not_lt_zero _)⟩
 have HB4:Hid (Below w.heap.size w w4):=by
  show Below w.heap.size w w4;rw[<-hw4];exact((HBa.out.setCell (by simp;omega) _).setCell (by simp;omega) _).alloc (by simp;omega) _
 have HXB4:Hid (w4.ownsRow w.heap.size 28 9 (.slice (some ⟨w.heap.size,0,none⟩) 1 1) 1 [.slice (some ⟨bR,0,none⟩) 8 8,.bool z,.bool c,.bool hz,.bool hc,.slice (some ⟨bH,0,none⟩) nH nH,.int .i64 pc,.int .i64 st,.slice (some ⟨bO,0,none⟩) nO nO]):=XB4;have HXZ4:Hid (w4.ownsRow w.heap.size 28 9 (.slice (some ⟨w.heap.size+1,0,none⟩) 1 1) 1 [.slice none 0 0,.bool false,.bool false,.bool false,.bool false,.slice none 0 0,.int .i64 0,.int .i64 0,.slice none 0 0]):=XZ4;have HXO4:Hid (w4.ownsRow w.heap.size 28 9 (.slice (some ⟨w.heap.size+1+1,0,none⟩) 1 1) 1 [.slice (some ⟨gR,0,none⟩) 8 cR,.bool z,.bool c,.bool hz,.bool hc,.slice (some ⟨w3.heap.size,0,none⟩) 0 0,.int .i64 pc,.int .i64 st,.slice aO nO cO]):=XO4;have z4:w3.heap.size<w4.heap.size:=by rw[<-hw4];simp
 clear hw4 XB4 XZ4 XO4 R4 O4 H4 RB1 RZ1 RO1 HBa HR3 HO3 nO2 lR m0 m1 m2 m3 m4 m5 m6 m7 m8 o0 o1 o2 o3 o4 o5 o6 o7 o8 of y0 y2 HBw2 HXBw2 HXZw2 HXOw2;go_loopw [4](fun i wr=>∃k:Nat,k<=nH/\i=.int .i64 k/\Below w.heap.size w wr/\∃(aH:Option Addr)(cH:Nat)(blk cap:Nat->Nat),wr.ownsRow w.heap.size 28 9 (.slice (some ⟨w.heap.size,0,none⟩) 1 1) 1 [.slice (some ⟨bR,0,none⟩) 8 8,.bool z,.bool c,.bool hz,.bool hc,.slice (some ⟨bH,0,none⟩) nH nH,.int .i64 pc,.int .i64 st,.slice (some ⟨bO,0,none⟩) nO nO]/\wr.ownsRow w.heap.size 28 9 (.slice (some ⟨w.heap.size+1,0,none⟩) 1 1) 1 [.slice none 0 0,.bool false,.bool false,.bool false,.bool false,.slice none 0 0,.int .i64 0,.int .i64 0,.slice none 0 0]/\wr.ownsRow w.heap.size 28 9 (.slice (some ⟨w.heap.size+1+1,0,none⟩) 1 1) 1 [.slice (some ⟨gR,0,none⟩) 8 cR,.bool z,.bool c,.bool hz,.bool hc,.slice aH k cH,.int .i64 pc,.int .i64 st,.slice aO nO cO]/\Mem wr w.heap.size ⟨gR,cR,aH,cH,blk,cap,aO,cO⟩ ⟨R,z,c,hz,hc,k,Hp,pc,st,nO,K,V⟩)(fun i _=>nH-(intOf i).toNat)
 case atStart=>exact⟨0,Nat.zero_le _,rfl,HB4.out,some ⟨w3.heap.size,0,none⟩,0,fun _=>0,fun _=>0,HXB4.out,HXZ4.out,HXO4.out,HM4.out⟩
 case round=>
  obtain⟨k,hk,rfl,hbr,aH,cH,blk,cap,xb,xz,xo,hmr⟩:=hrel;have HBR:Hid (Below w.heap.size w wr):=hbr;have HXB:Hid (wr.ownsRow w.heap.size 28 9 (.slice (some ⟨w.heap.size,0,none⟩) 1 1) 1 [.slice (some ⟨bR,0,none⟩) 8 8,.bool z,.bool c,.bool hz,.bool hc,.slice (some ⟨bH,0,none⟩) nH nH,.int .i64 pc,.int .i64 st,.slice (some ⟨bO,0,none⟩) nO nO]):=xb;have HXZ:Hid (wr.ownsRow w.heap.size 28 9 (.slice (some ⟨w.heap.size+1,0,none⟩) 1 1) 1 [.slice none 0 0,.bool false,.bool false,.bool false,.bool false,.slice none 0 0,.int .i64 0,.int .i64 0,.slice none 0 0]):=xz;have HXO:Hid (wr.ownsRow w.heap.size 28 9 (.slice (some ⟨w.heap.size+1+1,0,none⟩) 1 1) 1 [.slice (some ⟨gR,0,none⟩) 8 cR,.bool z,.bool c,.bool hz,.bool hc,.slice aH k cH,.int .i64 pc,.int .i64 st,.slice aO nO cO]):=xo;have HMR:Hid (Mem wr w.heap.size ⟨gR,cR,aH,cH,blk,cap,aO,cO⟩ ⟨R,z,c,hz,hc,k,Hp,pc,st,nO,K,V⟩):=hmr;have lO:=xo.lt (w.heap.size+1+1) rfl;have y2:=lO.2;have y0:w.heap.size<wr.heap.size:=by omega
  have y1:w.heap.size+1<wr.heap.size:=by omega
  have m5:wr.cell? ⟨w.heap.size,5,none⟩=some (.slice (some ⟨bH,0,none⟩) nH nH):=xb.cellAt 5 (by decide);clear hbr xb xz xo hmr lO;by_cases hlt:k<nH
  ·have hlt':(k:Int)<nH:=by omega
   have hA:=(HM.out.below HBR.out (Nat.le_refl _)).heaps;have hA1:=hA.1;have zH:=hA1.lt;have c0:wr.cell? ⟨bH,k*3,none⟩=some (.int .u64 (Hp k).base):=by
    have:=hA1.cell (i:=k*3+0) (by omega);rw[heapF_0]at this;simpa[HeapV.moved]using this
   have c1:wr.cell? ⟨bH,k*3+1,none⟩=some (.bool (Hp k).wr):=by
    have:=hA1.cell (i:=k*3+1) (by omega);rw[heapF_1]at this;simpa[HeapV.moved]using this
   have c2:wr.cell? ⟨bH,k*3+2,none⟩=some (.slice (some ⟨blk0 k,0,none⟩) (Hp k).len (Hp k).len):=by
    have:=hA1.cell (i:=k*3+2) (by omega);rw[heapF_2]at this
    simpa[HeapV.moved]using this
   have HSRC:Hid (Arr wr (blk0 k) (Hp k).len (numF .u8 (Hp k).dat)):=(hA.2.1 k hlt).2
   have hl:=HL.out k hlt
   obtain⟨hl1,hl2⟩:=hl
   clear hA hA1
   go_upto_region 9 with fail
   generalize hwx:wr.alloc (.cells #[.int .u64 (Hp k).base,.bool (Hp k).wr,.slice (some ⟨blk0 k,0,none⟩) (Hp k).len (Hp k).len] 69)=wx
   have bx:Below wr.heap.size wr wx:=by rw[<-hwx];exact(Below.refl _ _).alloc (Nat.le_refl _) _
   have XI:wx.ownsRow wr.heap.size 69 3 (.slice (some ⟨wr.heap.size,0,none⟩) 1 1) 1 [.int .u64 (Hp k).base,.bool (Hp k).wr,.slice (some ⟨blk0 k,0,none⟩) (Hp k).len (Hp k).len]:=by rw[<-hwx];exact World.ownsRow_lit wr #[.int .u64 (Hp k).base,.bool (Hp k).wr,.slice (some ⟨blk0 k,0,none⟩) (Hp k).len (Hp k).len] 1 (Nat.le_refl _) (by unfold maxLen;omega) rfl
   have yx:wr.heap.size<wx.heap.size:=by rw[<-hwx];simp
   have XO:=row_below HXO.out bx
   have cc:wx.cell? ⟨w.heap.size+1+1,5,none⟩=some (.slice aH k cH)/\wx.cell? ⟨wr.heap.size,0,none⟩=some (.int .u64 (Hp k).base)/\wx.cell? ⟨wr.heap.size,1,none⟩=some (.bool (Hp k).wr)/\wx.cell? ⟨wr.heap.size,2,none⟩=some (.slice (some ⟨blk0 k,0,none⟩) (Hp k).len (Hp k).len):=⟨XO.cellAt 5 (by decide),XI.cellAt 0 (by decide),XI.cellAt 1 (by decide),XI.cellAt 2 (by decide)⟩
   obtain⟨S,hSd⟩:∃S:World->Prop,S=fun w'=>w'.cell? ⟨w.heap.size+1+1,5,none⟩=some (.slice aH k cH)/\w'.cell? ⟨wr.heap.size,0,none⟩=some (.int .u64 (Hp k).base)/\w'.cell? ⟨wr.heap.size,1,none⟩=some (.bool (Hp k).wr)/\w'.cell? ⟨wr.heap.size,2,none⟩=some (.slice (some ⟨blk0 k,0,none⟩) (Hp k).len (Hp k).len):=⟨_,rfl⟩
   have j5:∀w',Such S w'->w'.cell? ⟨w.heap.size+1+1,5,none⟩=some (.slice aH k cH):=fun w' h=>by unfold Such at h;rw[hSd]at h;exact h.1
   have j0:∀w',Such S w'->w'.cell? ⟨wr.heap.size,0,none⟩=some (.int .u64 (Hp k).base):=fun w' h=>by unfold Such at h;rw[hSd]at h;exact h.2.1
   have j1:∀w',Such S w'->w'.cell? ⟨wr.heap.size,1,none⟩=some (.bool (Hp k).wr):=fun w' h=>by unfold Such at h;rw[hSd]at h;exact h.2.2.1
   have j2:∀w',Such S w'->w'.cell? ⟨wr.heap.size,2,none⟩=some (.slice (some ⟨blk0 k,0,none⟩) (Hp k).len (Hp k).len):=fun w' h=>by unfold Such at h;rw[hSd]at h;exact h.2.2.2
   have KEEPG:Hid (∀w':World,w'.heap[w.heap.size+1+1]?=wx.heap[w.heap.size+1+1]?->w'.heap[wr.heap.size]?=wx.heap[wr.heap.size]?->Such S w'):=fun w' h1 h2=>by
    unfold Such;rw[hSd]
    exact⟨(World.cell?_of_block (a:=⟨w.heap.size+1+1,5,none⟩) h1).trans cc.1,(World.cell?_of_block (a:=⟨wr.heap.size,0,none⟩) h2).trans cc.2.1,(World.cell?_of_block (a:=⟨wr.heap.size,1,none⟩) h2).trans cc.2.2.1,(World.cell?_of_block (a:=⟨wr.heap.size,2,none⟩) h2).trans cc.2.2.2⟩
   have KEEPB:Hid (∀w',Below wx.heap.size wx w'->Such S w'):=fun w' h=>KEEPG.out w' (h.block _ (by omega)) (h.block _ yx)
   have HMX:Hid (Mem wx w.heap.size ⟨gR,cR,aH,cH,blk,cap,aO,cO⟩ ⟨R,z,c,hz,hc,k,Hp,pc,st,nO,K,V⟩):=HMR.out.below bx
   have HSX:Hid (Arr wx (blk0 k) (Hp k).len (numF .u8 (Hp k).dat)):=HSRC.out.below bx HSRC.out.lt
   have HBX:Hid (Below wr.heap.size wr wx):=bx
   obtain⟨iB,gB,gB0,gB1,gB2⟩:=info_parts info_cB
   obtain⟨iH,gH,gH0,gH1,gH2⟩:=info_parts info_cH
   have HIB:Hid (_/\_/\_/\_):=⟨gB,gB0,gB1,gB2⟩
   have HIH:Hid (_/\_/\_/\_):=⟨gH,gH0,gH1,gH2⟩
   clear hwx bx XI XO cc hSd c0 c1 c2 HSRC m5 gB gB0 gB1 gB2 gH gH0 gH1 gH2
   refine wp_region_L (T:=Such S) (s:=14) (by kernel_rfl) (KEEPB.out _ (Below.refl _ _).drew) (fun hHeld=>?_)
   refine wpAnyL_tk 0 ?v0 rfl ?y0 ?r0
   case y0=>(intro w hSw;(try dsimp only at hSw);go_simp;try with_reducible rfl)
   try go_frame
   refine wpAnyL_tk 1 ?v1 rfl ?y1 ?r1
   case y1=>(intro w hSw;(try dsimp only at hSw);go_simp;try with_reducible rfl)
   try go_frame
   refine wpAnyL_tk 2 ?v2 rfl ?y2 ?r2
   case y2=>(intro w hSw;(try dsimp only at hSw);go_simp;try with_reducible rfl)
   try go_frame
   refine wpAnyL_tk 3 ?v3 rfl ?y3 ?r3
   case y3=>(intro w hSw;(try dsimp only at hSw);go_simp;try with_reducible rfl)
   try go_frame
   refine wpAnyL_tk 4 ?v4 rfl ?y4 ?r4
   case y4=>(intro w hSw;(try dsimp only at hSw);go_simp;try with_reducible rfl)
   try go_frame
   refine wpAnyL_tk 5 ?v5 rfl ?y5 ?r5
   case y5=>(intro w hSw;(try dsimp only at hSw);go_simp;try with_reducible rfl)
   try go_frame
   refine wpAnyL_tk 7 ?v7 rfl ?y7 ?r7
   case y7=>(intro w hSw;(try dsimp only at hSw);go_simp;try with_reducible rfl)
   try go_frame
   refine wpAnyL_tk 8 ?v8 rfl ?y8 ?r8
   case y8=>(intro w hSw;(try dsimp only at hSw);go_simp;try with_reducible rfl)
   try go_frame
   refine wpAnyL_call (i:=6) rfl (by kernel_rfl) (fun KK hK=>?_)
   go_simp
   generalize hw6:(wx.alloc (.cells #[] 5)).drew=w6
   have b6:Below wx.heap.size wx w6:=by rw[<-hw6];exact((Below.refl _ _).alloc (Nat.le_refl _) _).drew
   have E6:w6.ownsRow wx.heap.size 5 1 (.slice (some ⟨wx.heap.size,0,none⟩) 0 0) 0 []:=by rw[<-hw6];exact(World.ownsRow_lit wx #[] 0 (Nat.le_refl _) (by unfold maxLen;omega) rfl).drew
   have HE6:Hid (w6.ownsRow wx.heap.size 5 1 (.slice (some ⟨wx.heap.size,0,none⟩) 0 0) 0 []):=E6
   have HB6:Hid (Below wx.heap.size wx w6):=b6
   clear hw6 E6
   refine hK.out _ _ (KEEPB.out _ b6) (fun hHeld6=>?_)
   clear hK KK b6
   try go_frame
   refine wpAnyL_call (i:=9) rfl (by kernel_rfl) (fun KK hK=>?_)
   refine step_append_own rfl (.tmp 37) (.tmp 39) 22 rfl wx.heap.size 5 iB (.int .u8 0) 1 1 Tryz.underlying22 HIB.out.1 HIB.out.2.1 HIB.out.2.2.1 HIB.out.2.2.2 rfl (by decide) (.slice (some ⟨wx.heap.size,0,none⟩) 0 0) 0 [] rfl HE6.out ⟨blk0 k,0,none⟩ (Hp k).len (Hp k).len (first ((Hp k).len*1) (numF .u8 (Hp k).dat)) rfl (first_length _ _) ?d1 ?d2 (by unfold maxLen;omega) (by omega) HB6.out.size ?_
   case d1=>
    intro j u hj
    obtain⟨hm,rfl⟩:=first_get hj
    rw[Addr.add_lit,Nat.zero_add]
    exact(HB6.out.cell (p:=⟨blk0 k,j,none⟩) HSX.out.lt).trans (HSX.out.cell (by omega))
   case d2=>
    intro u hu
    obtain⟨j,_,rfl⟩:=first_mem hu
    rfl
   intro vD w9 hownD hgrowD
   have hD:w9.ownsRow wx.heap.size 5 1 vD (Hp k).len (first (Hp k).len (numF .u8 (Hp k).dat)):=by simpa using hownD
   obtain⟨gD,cD,hvD⟩:=row_some hD (by omega)
   subst hvD
   have b9:Below wx.heap.size wx w9:=HB6.out.trans ((Below.refl _ _).grown hgrowD HB6.out.size (by intro k hk;simp[Value.ownBlock]at hk;omega))
   have HD9:Hid (w9.ownsRow wx.heap.size 5 1 (.slice (some ⟨gD,0,none⟩) (Hp k).len cD) (Hp k).len (first (Hp k).len (numF .u8 (Hp k).dat))):=hD
   have HB9:Hid (Below wx.heap.size wx w9):=b9
   clear hownD hgrowD hD HE6 HB6
   refine hK.out _ _ (KEEPB.out _ b9) (fun hHeld9=>?_)
   clear hK KK b9
   try go_frame
   refine wpAnyL_tk 10 ?v10 rfl ?y10 ?r10
   case y10=>(intro w hSw;(try dsimp only at hSw);go_simp;try with_reducible rfl)
   try go_frame
   refine wpAnyL_call (i:=11) rfl (by kernel_rfl) (fun KK hK=>?_)
   go_simp
   generalize hw11:w9.alloc (.cells #[.int .u64 (Hp k).base,.bool (Hp k).wr,.slice (some ⟨gD,0,none⟩) (Hp k).len cD] 69)=w11
   have b11:Below w9.heap.size w9 w11:=by rw[<-hw11];exact(Below.refl _ _).alloc (Nat.le_refl _) _
   have E11:w11.ownsRow w9.heap.size 69 3 (.slice (some ⟨w9.heap.size,0,none⟩) 1 1) 1 [.int .u64 (Hp k).base,.bool (Hp k).wr,.slice (some ⟨gD,0,none⟩) (Hp k).len cD]:=by rw[<-hw11];exact World.ownsRow_lit w9 #[.int .u64 (Hp k).base,.bool (Hp k).wr,.slice (some ⟨gD,0,none⟩) (Hp k).len cD] 1 (Nat.le_refl _) (by unfold maxLen;omega) rfl
   have HE11:Hid (w11.ownsRow w9.heap.size 69 3 (.slice (some ⟨w9.heap.size,0,none⟩) 1 1) 1 [.int .u64 (Hp k).base,.bool (Hp k).wr,.slice (some ⟨gD,0,none⟩) (Hp k).len cD]):=E11
   have B11:Below wx.heap.size wx w11:=HB9.out.trans (b11.mono HB9.out.size)
   have HB11:Hid (Below wx.heap.size wx w11):=B11
   have HD11:Hid (w11.ownsRow wx.heap.size 5 1 (.slice (some ⟨gD,0,none⟩) (Hp k).len cD) (Hp k).len (first (Hp k).len (numF .u8 (Hp k).dat))):=row_below HD9.out b11
   have HM11:Hid (Mem w11 w.heap.size ⟨gR,cR,aH,cH,blk,cap,aO,cO⟩ ⟨R,z,c,hz,hc,k,Hp,pc,st,nO,K,V⟩):=HMX.out.below B11
   clear hw11 b11 E11 HD9 HB9 HMX
   refine hK.out _ _ (KEEPB.out _ B11) (fun hHeld11=>?_)
   clear hK KK B11
   try go_frame
   refine wpAnyL_call (i:=12) rfl (by kernel_rfl) (fun KK hK=>?_)
   refine step_append_own rfl (.tmp 32) (.tmp 42) 25 rfl w.heap.size 69 iH (.agg #[.int .u64 0,.bool false,.slice none 0 0]) 3 40 Tryz.underlying25 HIH.out.1 HIH.out.2.1 HIH.out.2.2.1 HIH.out.2.2.2 rfl (by decide) (.slice aH k cH) k (first (k*3) (heapF (place Hp blk cap))) rfl HM11.out.heaps ⟨w9.heap.size,0,none⟩ 1 1 [.int .u64 (Hp k).base,.bool (Hp k).wr,.slice (some ⟨gD,0,none⟩) (Hp k).len cD] rfl rfl ?d3 ?d4 (by unfold maxLen;omega) (by omega) (by have:=HB11.out.size;omega) ?_
   case d3=>
    intro j u hj
    have hj3:j<3:=by
     have:=(List.getElem?_eq_some_iff.1 hj).1
     simpa using this
    have:=HE11.out.cellAt j (by simpa using hj3)
    rw[Addr.add_lit,Nat.zero_add]
    exact this.trans hj
   case d4=>
    intro u hu
    simp at hu
    rcases hu with rfl|rfl|rfl<;>rfl
   intro vH w12 hownH hgrowH
   obtain⟨aH',cH',hvH⟩:=row_slice hownH
   subst hvH
   have lD:=HD11.out.lt gD rfl
   have HM12:Hid (Mem w12 w.heap.size ⟨gR,cR,aH',cH',putBlk blk k gD,putBlk cap k cD,aO,cO⟩ ⟨R,z,c,hz,hc,k+1,Hp,pc,st,nO,K,V⟩):=Mem.push HM11.out (HD11.out.mono (by omega)) (fun i hi=>by have:=((HMR.out.data i hi).lt (blk i) rfl).2;omega) hownH hgrowH
   have zz:=HB11.out.size
   have XO11:=row_below (row_below HXO.out HBX.out) HB11.out
   have XB11:=row_below (row_below HXB.out HBX.out) HB11.out
   have XZ11:=row_below (row_below HXZ.out HBX.out) HB11.out
   have HXO12:Hid (w12.ownsRow w.heap.size 28 9 (.slice (some ⟨w.heap.size+1+1,0,none⟩) 1 1) 1 [.slice (some ⟨gR,0,none⟩) 8 cR,.bool z,.bool c,.bool hz,.bool hc,.slice aH k cH,.int .i64 pc,.int .i64 st,.slice aO nO cO]):=XO11.kept hgrowH (rows_apart XO11 HM11.out.heaps (by decide))
   have HXB12:Hid (w12.ownsRow w.heap.size 28 9 (.slice (some ⟨w.heap.size,0,none⟩) 1 1) 1 [.slice (some ⟨bR,0,none⟩) 8 8,.bool z,.bool c,.bool hz,.bool hc,.slice (some ⟨bH,0,none⟩) nH nH,.int .i64 pc,.int .i64 st,.slice (some ⟨bO,0,none⟩) nO nO]):=XB11.kept hgrowH (rows_apart XB11 HM11.out.heaps (by decide))
   have HXZ12:Hid (w12.ownsRow w.heap.size 28 9 (.slice (some ⟨w.heap.size+1,0,none⟩) 1 1) 1 [.slice none 0 0,.bool false,.bool false,.bool false,.bool false,.slice none 0 0,.int .i64 0,.int .i64 0,.slice none 0 0]):=XZ11.kept hgrowH (rows_apart XZ11 HM11.out.heaps (by decide))
   have HB12:Hid (Below w.heap.size w w12):=(HBR.out.trans ((HBX.out.trans (HB11.out.mono (by omega))).mono (by omega))).trans ((Below.refl _ _).grown hgrowH (by omega) (fun k hk=>(HM11.out.heaps.lt k hk).1))
   have g1:w12.heap[w.heap.size+1+1]?=wx.heap[w.heap.size+1+1]?:=(hgrowH.block _ (by omega) (apart_some (rows_apart XO11 HM11.out.heaps (by decide)))).trans (HB11.out.block _ (by omega))
   have g2:w12.heap[wr.heap.size]?=wx.heap[wr.heap.size]?:=(hgrowH.block _ (by omega) (fun q=>by have:=(HMR.out.heaps.lt _ q.symm).2;omega)).trans (HB11.out.block _ yx)
   have z12:w11.heap.size<=w12.heap.size:=hgrowH.size
   clear hownH hgrowH XO11 XB11 XZ11 HM11 HD11 HE11 lD
   refine hK.out _ _ (KEEPG.out _ g1 g2) (fun hHeld12=>?_)
   clear hK KK g1 g2
   try go_frame
   refine wpAnyL_tk 13 ?v13 rfl ?y13 ?r13
   case y13=>(intro w hSw;(try dsimp only at hSw);go_simp;try with_reducible rfl)
   try go_frame
   have o5:w12.cell? ⟨w.heap.size+1+1,5,none⟩=some (.slice aH k cH):=HXO12.out.cellAt 5 (by decide)
   have of:∀i,w12.frozen? ⟨w.heap.size+1+1,i,none⟩=false:=fun i=>HXO12.out.frozenAt i
   have y12:w.heap.size+1+1<w12.heap.size:=by omega
   refine wpAnyL_store rfl (by kernel_rfl) (by kernel_rfl) (fun KK hK=>?_)
   go_simp
   refine hK.out _ _ ?_
   clear hK KK
   go_wp2
   go_roundw
   case rel=>
    refine⟨k+1,by omega,by go_num,HB12.out.setCell (by simp;omega) _,aH',cH',putBlk blk k gD,putBlk cap k cD,ownsRow_setCell_other HXB12.out (by simp[Value.ownBlock];omega) _,ownsRow_setCell_other HXZ12.out (by simp[Value.ownBlock]) _,(HXO12.out.stored 5 _).1,?_⟩
    exact Mem.setOff HM12.out (off_row HM12.out HXO12.out) _ _
   case measure=>simp[intOf];omega
  ·obtain rfl:k=nH:=by omega
   have XO:=HXO.out
   have XZ:=HXZ.out
   obtain⟨o0,o1,o2,o3,o4,o5,o6,o7,o8⟩:=cells9 XO
   obtain⟨s0,s1,s2,s3,s4,s5,s6,s7,s8⟩:=cells9 XZ
   have sf:∀i,wr.frozen? ⟨w.heap.size+1,i,none⟩=false:=fun i=>XZ.frozenAt i
   clear XO XZ
   go_wp2
   refine bodyPost_ret (v:=.agg #[.slice (some ⟨gR,0,none⟩) 8 cR,.bool z,.bool c,.bool hz,.bool hc,.slice aH k cH,.int .i64 pc,.int .i64 st,.slice aO nO cO]) (by simp[results,Tryz.results33,go_sem,s0,s1,s2,s3,s4,s5,s6,s7,s8]) rfl ⟨⟨gR,cR,aH,cH,blk,cap,aO,cO⟩,rfl,?_,?_⟩
   ·iterate 9 refine Below.setCell ?_ (by simp) _
    exact HBR.out
   ·iterate 9 refine Mem.setOff ?_ (off_row HMR.out HXZ.out) _ _
    exact HMR.out
end Go.Proofs.YtpbceodheeepoaaGreat
