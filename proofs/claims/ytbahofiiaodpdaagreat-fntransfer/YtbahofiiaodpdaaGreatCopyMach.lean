import Derived.Test.YtbahofiiaodpdaaGreatOfBytes
import Derived.Test.YtbahofiiaodpdaaGreatOfMachCopy2
import Derived.Test.YtbahofiiaodpdaaGreatOfCl
set_option maxHeartbeats 2000000
namespace Go.Proofs.YtbahofiiaodpdaaGreat
open Go.RowKit
theorem row_low{w w':World}{base e size n B:Nat}{v:Value}{xs:List Value}(h:w.ownsRow base e size v n xs)(hl:∀k,v.ownBlock=some k->k<B)(hb:Below B w w'):w'.ownsRow base e size v n xs:=by
 refine⟨h.1,?_⟩;rcases h.2 with hn|⟨g,cap,cur,rfl,h1,hg,rest⟩
 ·exact .inl hn
 ·exact .inr ⟨g,cap,cur,rfl,h1,(hb.block g (hl g rfl)).trans hg,rest⟩
theorem Mem.setLow{w:World}{base:Nat}{p:Pl}{M:MV}(h:Mem w base p M){a:Addr}(ha:a.block<base)(v:Value):Mem (w.setCell a v) base p M:=
 ⟨ownsRow_setCell_below h.regs ha v,ownsRow_setCell_below h.heaps ha v,fun i hi=>ownsRow_setCell_below (h.data i hi) ha v,ownsRow_setCell_below h.obs ha v,h.ne⟩
theorem row_some{w:World}{base e size n:Nat}{v:Value}{xs:List Value}(h:w.ownsRow base e size v n xs)(hn:0<n):∃g c,v=.slice (some ⟨g,0,none⟩) n c:=by
 rcases h.2 with⟨_,rfl⟩|⟨g,cap,cur,rfl,_⟩
 ·omega
 ·exact⟨_,_,rfl⟩
theorem row_slice{w:World}{base e size n:Nat}{v:Value}{xs:List Value}(h:w.ownsRow base e size v n xs):∃a c,v=.slice a n c:=by
 rcases h.2 with⟨rfl,rfl⟩|⟨g,cap,cur,rfl,_⟩
 ·exact⟨_,_,rfl⟩
 ·exact⟨_,_,rfl⟩
def mix(Hp:Nat->HeapV)(hA:Nat->Option Addr)(hC blk cap:Nat->Nat)(k i:Nat):HeapV:=if i<k then place Hp blk cap i else(Hp i).put (hA i) (hC i)
theorem mix_zero(Hp:Nat->HeapV)(hA:Nat->Option Addr)(hC blk cap:Nat->Nat):mix Hp hA hC blk cap 0=fun i=>(Hp i).put (hA i) (hC i):=by
 funext i;simp[mix]
theorem heapF_one(f:Nat->HeapV)(i:Nat):(heapF f i).oneCell'=true:=by
 unfold heapF;split
 ·rfl
 ·split<;>rfl
theorem obsF_one(K V:Nat->Int)(i:Nat):(obsF K V i).oneCell'=true:=by
 unfold obsF;split<;>rfl
theorem mix_step(Hp:Nat->HeapV)(hA:Nat->Option Addr)(hC blk cap:Nat->Nat)(k b c q:Nat):
 (if q=k*3+2 then Value.slice (some ⟨b,0,none⟩) (Hp k).len c else heapF (mix Hp hA hC blk cap k) q)=heapF (mix Hp hA hC (fun i=>if i=k then b else blk i) (fun i=>if i=k then c else cap i) (k+1)) q:=by
 by_cases e:q=k*3+2
 ·subst e
  rw[if_pos rfl,heapF_2];simp[mix,place]
 ·rw[if_neg e]
  unfold heapF;have h3:q/3=k->q%3=0∨q%3=1:=fun h=>by omega
  by_cases hk:q/3=k
  ·rcases h3 hk with h|h<;>simp[h,hk,mix,place,HeapV.put]
  ·have:q/3<k+1↔q/3<k:=by omega
   simp[mix,place,hk,this]
theorem copyMach_any(xR:Option Addr)(yR bR nR:Nat)(R:Nat->Int)(z c hz hc:Bool)(xH:Option Addr)(yH bH nH:Nat)(Hp:Nat->HeapV)(hA:Nat->Option Addr)(hC:Nat->Nat)(pc st:Int)(xO:Option Addr)(yO bO nO:Nat)(K V:Nat->Int)(w:World)(hnR:nR=8)(hnH:nH<=8)(hnO:nO<=1048576)(hlen:∀i,i<nH->1<=(Hp i).len/\(Hp i).len<=4096)(hm:MachG w xR yR bR nR R xH yH bH nH Hp hA hC xO yO bO nO K V):
 Calls Tryz.prog 76 #[.agg #[.slice xR nR yR,.bool z,.bool c,.bool hz,.bool hc,.slice xH nH yH,.int .i64 pc,.int .i64 st,.slice xO nO yO]] w fun e w'=>∃p:Pl,
  e=.returned (.agg #[.slice (some ⟨p.bR,0,none⟩) 8 p.cR,.bool z,.bool c,.bool hz,.bool hc,.slice p.aH nH p.cH,.int .i64 pc,.int .i64 st,.slice p.aO nO p.cO])/\Below w.heap.size w w'/\Mem w' w.heap.size p {R:=R,z:=z,c:=c,hz:=hz,hc:=hc,nH:=nH,Hp:=Hp,pc:=pc,st:=st,nO:=nO,K:=K,V:=V}:=by
 subst hnR;have HM:Hid (MachG w xR yR bR 8 R xH yH bH nH Hp hA hC xO yO bO nO K V):=hm;have HL:Hid (∀i,i<nH->1<=(Hp i).len/\(Hp i).len<=4096):=hlen;clear hm hlen;go_enter Tryz.func76,Tryz.ntmps76;go_wp2_with fail;generalize hw0:(w.alloc (.cells #[.slice xR 8 yR,.bool z,.bool c,.bool hz,.bool hc,.slice xH nH yH,.int .i64 pc,.int .i64 st,.slice xO nO yO] 40)).alloc (.cells #[.slice none 0 0,.bool false,.bool false,.bool false,.bool false,.slice none 0 0,.int .i64 0,.int .i64 0,.slice none 0 0] 40)=w0;have b0:Below w.heap.size w w0:=by rw[<-hw0];exact((Below.refl _ _).alloc (Nat.le_refl _) _).alloc (by simp) _
 have z0:w0.heap.size=w.heap.size+2:=by rw[<-hw0];simp
 refine(copyU_g _ bR 8 _ (numF .u64 R) w0 (by omega) HM.out.eR (HM.out.below b0 (Nat.le_refl _)).regs.at (fun _=>rfl)).mono ?_;rintro e w1⟨v',rfl,o1,b1,_⟩;obtain⟨gR,cR,rfl⟩:=row_shape o1;have HX0:Hid (w0.ownsRow w.heap.size 40 9 (.slice (some ⟨w.heap.size,0,none⟩) 1 1) 1 [.slice xR 8 yR,.bool z,.bool c,.bool hz,.bool hc,.slice xH nH yH,.int .i64 pc,.int .i64 st,.slice xO nO yO]):=by rw[<-hw0];exact(World.ownsRow_lit w #[.slice xR 8 yR,.bool z,.bool c,.bool hz,.bool hc,.slice xH nH yH,.int .i64 pc,.int .i64 st,.slice xO nO yO] 1 (Nat.le_refl _) (by unfold maxLen;omega) rfl).alloc _
 have HZ0:Hid (w0.ownsRow w.heap.size 40 9 (.slice (some ⟨w.heap.size+1,0,none⟩) 1 1) 1 [.slice none 0 0,.bool false,.bool false,.bool false,.bool false,.slice none 0 0,.int .i64 0,.int .i64 0,.slice none 0 0]):=by
  rw[<-hw0];have:=World.ownsRow_lit (base:=w.heap.size) (e:=40) (size:=9) (w.alloc (.cells #[.slice xR 8 yR,.bool z,.bool c,.bool hz,.bool hc,.slice xH nH yH,.int .i64 pc,.int .i64 st,.slice xO nO yO] 40)) #[.slice none 0 0,.bool false,.bool false,.bool false,.bool false,.slice none 0 0,.int .i64 0,.int .i64 0,.slice none 0 0] 1 (by simp) (by unfold maxLen;omega) rfl;rw[World.size_alloc]at this;exact this
 have HX1:Hid (w1.ownsRow w.heap.size 40 9 (.slice (some ⟨w.heap.size,0,none⟩) 1 1) 1 [.slice xR 8 yR,.bool z,.bool c,.bool hz,.bool hc,.slice xH nH yH,.int .i64 pc,.int .i64 st,.slice xO nO yO]):=row_below HX0.out b1;have HZ1:Hid (w1.ownsRow w.heap.size 40 9 (.slice (some ⟨w.heap.size+1,0,none⟩) 1 1) 1 [.slice none 0 0,.bool false,.bool false,.bool false,.bool false,.slice none 0 0,.int .i64 0,.int .i64 0,.slice none 0 0]):=row_below HZ0.out b1;have q0:w1.cell? ⟨w.heap.size,0,none⟩=some (.slice xR 8 yR):=HX1.out.cellAt 0 (by decide);have q5:w1.cell? ⟨w.heap.size,5,none⟩=some (.slice xH nH yH):=HX1.out.cellAt 5 (by decide);have qf:∀i,w1.frozen? ⟨w.heap.size,i,none⟩=false:=fun i=>HX1.out.frozenAt i
 have z1:w.heap.size+2<=w1.heap.size:=by have:=b1.size;omega
 have hzz:w.heap.size<w1.heap.size:=by omega
 have HO1:Hid (w1.ownsRow w0.heap.size 77 1 (.slice (some ⟨gR,0,none⟩) 8 cR) 8 (first (8*1) (numF .u64 R))):=o1;have HB1:Hid (Below w.heap.size w w1):=b0.trans (b1.mono (by omega));have lR:w0.heap.size<=gR/\gR<w1.heap.size:=o1.lt gR rfl;clear o1 b0 b1 HX0 HZ0 hw0;go_wp2_with fail;have HX1':Hid ((w1.setCell ⟨w.heap.size,0,none⟩ (.slice (some ⟨gR,0,none⟩) 8 cR)).ownsRow w.heap.size 40 9 (.slice (some ⟨w.heap.size,0,none⟩) 1 1) 1 [.slice (some ⟨gR,0,none⟩) 8 cR,.bool z,.bool c,.bool hz,.bool hc,.slice xH nH yH,.int .i64 pc,.int .i64 st,.slice xO nO yO]):=(HX1.out.stored 0 _).1;have hg1:=(HX1.out.stored 0 (.slice (some ⟨gR,0,none⟩) 8 cR)).2;have HZ1':Hid ((w1.setCell ⟨w.heap.size,0,none⟩ (.slice (some ⟨gR,0,none⟩) 8 cR)).ownsRow w.heap.size 40 9 (.slice (some ⟨w.heap.size+1,0,none⟩) 1 1) 1 [.slice none 0 0,.bool false,.bool false,.bool false,.bool false,.slice none 0 0,.int .i64 0,.int .i64 0,.slice none 0 0]):=HZ1.out.kept hg1 (.inr (by simp[Value.ownBlock]));have HO1':Hid ((w1.setCell ⟨w.heap.size,0,none⟩ (.slice (some ⟨gR,0,none⟩) 8 cR)).ownsRow w0.heap.size 77 1 (.slice (some ⟨gR,0,none⟩) 8 cR) 8 (first (8*1) (numF .u64 R))):=HO1.out.kept hg1 (.inr (by simp[Value.ownBlock];omega));have HB1':Hid (Below w.heap.size w (w1.setCell ⟨w.heap.size,0,none⟩ (.slice (some ⟨gR,0,none⟩) 8 cR))):=HB1.out.setCell (by simp) _;refine(copyH_g _ bH nH _ (heapF fun i=>(Hp i).put (hA i) (hC i)) _ (by omega) HM.out.eH (HM.out.below HB1'.out (Nat.le_refl _)).heaps.at (heapF_one _)).mono ?_;rintro e w2⟨v',rfl,o2,b2,_⟩;obtain⟨aH,cH,rfl⟩:=row_slice o2;rw[World.size_setCell]at o2 b2;have HX2:Hid (w2.ownsRow w.heap.size 40 9 (.slice (some ⟨w.heap.size,0,none⟩) 1 1) 1 [.slice (some ⟨gR,0,none⟩) 8 cR,.bool z,.bool c,.bool hz,.bool hc,.slice xH nH yH,.int .i64 pc,.int .i64 st,.slice xO nO yO]):=row_below HX1'.out (by simpa using b2);have HZ2:Hid (w2.ownsRow w.heap.size 40 9 (.slice (some ⟨w.heap.size+1,0,none⟩) 1 1) 1 [.slice none 0 0,.bool false,.bool false,.bool false,.bool false,.slice none 0 0,.int .i64 0,.int .i64 0,.slice none 0 0]):=row_below HZ1'.out (by simpa using b2);have HO2:Hid (w2.ownsRow w0.heap.size 77 1 (.slice (some ⟨gR,0,none⟩) 8 cR) 8 (first (8*1) (numF .u64 R))):=row_below HO1'.out (by simpa using b2);have HP2:Hid (w2.ownsRow w1.heap.size 79 3 (.slice aH nH cH) nH (first (nH*3) (heapF fun i=>(Hp i).put (hA i) (hC i)))):=o2;have HB2:Hid (Below w.heap.size w w2):=HB1'.out.trans (b2.mono (by omega));have y5:w2.cell? ⟨w.heap.size,5,none⟩=some (.slice xH nH yH):=HX2.out.cellAt 5 (by decide);have yf:∀i,w2.frozen? ⟨w.heap.size,i,none⟩=false:=fun i=>HX2.out.frozenAt i
 have z2:w1.heap.size<=w2.heap.size:=by have:=b2.size;simpa using this
 have hz2:w.heap.size<w2.heap.size:=by omega
 clear q0 q5 qf o2 b2 hg1 HX1 HZ1 HO1 HB1 HX1' HZ1' HO1' HB1';go_wp2_with fail;generalize hw3:w2.setCell ⟨w.heap.size,5,none⟩ (.slice aH nH cH)=w3;have hg2:=(HX2.out.stored 5 (.slice aH nH cH)).2;rw[hw3]at hg2;have HX3:Hid (w3.ownsRow w.heap.size 40 9 (.slice (some ⟨w.heap.size,0,none⟩) 1 1) 1 [.slice (some ⟨gR,0,none⟩) 8 cR,.bool z,.bool c,.bool hz,.bool hc,.slice aH nH cH,.int .i64 pc,.int .i64 st,.slice xO nO yO]):=by rw[<-hw3];exact(HX2.out.stored 5 _).1
 have HZ3:Hid (w3.ownsRow w.heap.size 40 9 (.slice (some ⟨w.heap.size+1,0,none⟩) 1 1) 1 [.slice none 0 0,.bool false,.bool false,.bool false,.bool false,.slice none 0 0,.int .i64 0,.int .i64 0,.slice none 0 0]):=HZ2.out.kept hg2 (.inr (by simp[Value.ownBlock]));have HO3:Hid (w3.ownsRow w0.heap.size 77 1 (.slice (some ⟨gR,0,none⟩) 8 cR) 8 (first (8*1) (numF .u64 R))):=HO2.out.kept hg2 (.inr (by simp[Value.ownBlock];omega));have HP3:Hid (w3.ownsRow w1.heap.size 79 3 (.slice aH nH cH) nH (first (nH*3) (heapF fun i=>(Hp i).put (hA i) (hC i)))):=HP2.out.kept hg2 (rows_apart HP2.out HX2.out (by decide));have HB3:Hid (Below w.heap.size w w3):=by rw[<-hw3];exact HB2.out.setCell (by simp) _
 have z3:w3.heap.size=w2.heap.size:=by rw[<-hw3];simp
 have HOLD:Hid (∀i,i<nH->∃b,hA i=some ⟨b,0,none⟩/\Arr w3 b (Hp i).len (numF .u8 (Hp i).dat)/\b<w.heap.size/\1<=(Hp i).len/\(Hp i).len<=4096):=fun i hi=>by
  obtain⟨b,e,ha⟩:=HM.out.data i hi (by have:=(HL.out i hi).1;omega);exact⟨b,e,ha.below HB3.out ha.lt,ha.lt,HL.out i hi⟩
 clear hg2 HX2 HZ2 HO2 HP2 HB2 y5 yf hw3;go_loopw [15](fun i wr=>∃k:Nat,k<=nH/\i=.int .i64 k/\Below w1.heap.size w3 wr/\∃blk cap:Nat->Nat,wr.ownsRow w1.heap.size 79 3 (.slice aH nH cH) nH (first (nH*3) (heapF (mix Hp hA hC blk cap k)))/\(∀i,i<k->wr.ownsRow w1.heap.size 5 1 (.slice (some ⟨blk i,0,none⟩) (Hp i).len (cap i)) (Hp i).len (first (Hp i).len (numF .u8 (Hp i).dat)))/\(∀i j,i<k->j<k->i≠j->blk i≠blk j))(fun i _=>nH-(intOf i).toNat)
 case atStart=>exact⟨0,Nat.zero_le _,rfl,Below.refl _ _,fun _=>0,fun _=>0,by rw[mix_zero];exact HP3.out,fun i hi=>absurd hi (by omega),fun i j hi=>absurd hi (by omega)⟩
 case round=>
  obtain⟨k,hk,rfl,hbr,blk,cap,hh,hd,hne⟩:=hrel;have HBR:Hid (Below w1.heap.size w3 wr):=hbr;have HH:Hid (wr.ownsRow w1.heap.size 79 3 (.slice aH nH cH) nH (first (nH*3) (heapF (mix Hp hA hC blk cap k)))):=hh;have HD:Hid ((∀i,i<k->wr.ownsRow w1.heap.size 5 1 (.slice (some ⟨blk i,0,none⟩) (Hp i).len (cap i)) (Hp i).len (first (Hp i).len (numF .u8 (Hp i).dat)))):=hd;have HN:Hid ((∀i j,i<k->j<k->i≠j->blk i≠blk j)):=hne;have XB:Hid (wr.ownsRow w.heap.size 40 9 (.slice (some ⟨w.heap.size,0,none⟩) 1 1) 1 [.slice (some ⟨gR,0,none⟩) 8 cR,.bool z,.bool c,.bool hz,.bool hc,.slice aH nH cH,.int .i64 pc,.int .i64 st,.slice xO nO yO]):=row_low HX3.out (by simp[Value.ownBlock];omega) hbr;have zr:w3.heap.size<=wr.heap.size:=hbr.size;clear hbr hh hd hne;have q5:wr.cell? ⟨w.heap.size,5,none⟩=some (.slice aH nH cH):=XB.out.cellAt 5 (by decide);have hzr:w.heap.size<wr.heap.size:=by omega
  by_cases hlt:k<nH
  ·obtain⟨gH,hgH⟩:∃gH,aH=some ⟨gH,0,none⟩:=by
    obtain⟨g,cap',hv⟩:=row_some HH.out (by omega);simp only[Value.slice.injEq]at hv;exact⟨g,hv.1⟩
   subst hgH;have lH:=HH.out.lt gH rfl;have hzH:=lH.2;have hk3:k*3+2<nH*3:=by omega
   obtain⟨bD,eD,aD,lD,hl1,hl2⟩:=HOLD.out k hlt;have HAD:Hid (Arr w3 bD (Hp k).len (numF .u8 (Hp k).dat)):=aD;have g2:wr.cell? ⟨gH,k*3+2,none⟩=some (.slice (some ⟨bD,0,none⟩) (Hp k).len (hC k)):=by
    rw[HH.out.cellAt (k*3+2) hk3,first_at hk3,heapF_2];simp[mix,HeapV.put,eD]
   clear eD aD;have gf:wr.frozen? ⟨gH,k*3+2,none⟩=false:=HH.out.frozenAt _;have r5:∀w',Below wr.heap.size wr w'->w'.cell? ⟨w.heap.size,5,none⟩=some (.slice (some ⟨gH,0,none⟩) nH cH):=fun w' h=>(h.cell (p:=⟨w.heap.size,5,none⟩) hzr).trans q5
   have r2:∀w',Below wr.heap.size wr w'->w'.cell? ⟨gH,k*3+2,none⟩=some (.slice (some ⟨bD,0,none⟩) (Hp k).len (hC k)):=fun w' h=>(h.cell (p:=⟨gH,k*3+2,none⟩) hzH).trans g2
   have rf:∀w',Below wr.heap.size wr w'->w'.frozen? ⟨gH,k*3+2,none⟩=false:=fun w' h=>(h.frozen (p:=⟨gH,k*3+2,none⟩) hzH).trans gf
   clear q5 g2 gf;go_wp2_with fail;refine wp_region_L (T:=fun w'=>Below wr.heap.size wr w') (s:=12) (by kernel_rfl) ((Below.refl _ _).drew) (fun hHeld=>?_);refine wpAnyL_taT 0 rfl ?_;refine wpAnyL_taT 1 rfl ?_;refine wpAnyL_taT 2 rfl ?_;refine wpAnyL_taT 3 rfl ?_;refine wpAnyL_taT 4 rfl ?_;refine wpAnyL_taT 5 rfl ?_;refine wpAnyL_taT 6 rfl ?_;refine wpAnyL_taT 7 rfl ?_;refine wpAnyL_taT 8 rfl ?_;refine wpAnyL_call (i:=9) rfl (by kernel_rfl) (fun K hK=>?_);go_simp;refine(copyB_at bD 0 (Hp k).len (hC k) (numF .u8 (Hp k).dat) _ (by omega) ?_ (fun _=>rfl)).mono ?_
   ·rw[Nat.mul_one];exact(HAD.out.below (HBR.out.trans ((Below.refl _ _).drew.mono (by omega))) (by omega)).at
   rintro e wc⟨v',rfl,oc,bc,_⟩;have xc:Below wr.heap.size wr wc:=(Below.refl _ _).drew.trans bc;obtain⟨bN,cN,rfl⟩:=row_some oc (by omega);have HOC:Hid (wc.ownsRow wr.heap.size 5 1 (.slice (some ⟨bN,0,none⟩) (Hp k).len cN) (Hp k).len (first ((Hp k).len*1) (numF .u8 (Hp k).dat))):=oc;have HXC:Hid (Below wr.heap.size wr wc):=xc;clear oc bc;go_wp2_with fail;refine hK.out _ _ (xc) (fun hHeld9=>?_);clear hK K;refine wpAnyL_taT 10 rfl ?_;refine wpAnyL_taT 11 rfl ?_;refine wpAnyL_store rfl (by kernel_rfl) (by kernel_rfl) (fun K hK=>?_);go_simp;refine hK.out _ _ ?_;clear hK K;go_wp2;go_roundw
   case rel=>
    have hs:=(row_below HH.out HXC.out).stored (k*3+2) (.slice (some ⟨bN,0,none⟩) (Hp k).len cN);refine⟨k+1,by omega,by go_num,(HBR.out.trans (HXC.out.mono (by omega))).setCell (by simpa using lH.1) _,fun i=>if i=k then bN else blk i,fun i=>if i=k then cN else cap i,?_,?_,?_⟩
    ·have h1:=hs.1
     rw[first_set]at h1;exact(first_congr fun q _=>mix_step Hp hA hC blk cap k bN cN q)▸h1
    ·intro i hi
     by_cases e:i=k
     ·subst e
      have h1:=(HOC.out.kept hs.2 (rows_apart HOC.out (row_below HH.out HXC.out) (by decide))).mono (show w1.heap.size<=wr.heap.size by omega);rw[Nat.mul_one]at h1;simpa using h1
     ·have h1:=row_below (HD.out i (by omega)) HXC.out
      simpa[e]using h1.kept hs.2 (rows_apart h1 (row_below HH.out HXC.out) (by decide))
    ·intro i j hi hj hij
     have lN:=(HOC.out.lt bN rfl).1;have lo:∀t,t<k->blk t<wr.heap.size:=fun t ht=>((HD.out t ht).lt (blk t) rfl).2
     by_cases e:i=k
     ·have hjk:j≠k:=fun q=>hij (e.trans q.symm)
      have:=lo j (by omega);simp only[e,hjk,if_true,if_false];omega
     ·by_cases e2:j=k
      ·have:=lo i (by omega)
       simp only[e,e2,if_true,if_false];omega
      ·simp only[e,e2,if_false]
       exact HN.out i j (by omega) (by omega) hij
   case measure=>simp[intOf];omega
  ·obtain rfl:nH=k:=by omega
   have q8:wr.cell? ⟨w.heap.size,8,none⟩=some (.slice xO nO yO):=XB.out.cellAt 8 (by decide);have qf:∀i,wr.frozen? ⟨w.heap.size,i,none⟩=false:=fun i=>XB.out.frozenAt i
   have HBW:Hid (Below w.heap.size w wr):=HB3.out.trans (HBR.out.mono (by omega));go_wp2_with fail;refine(copyO_g _ bO nO _ (obsF K V) wr hnO HM.out.eO (HM.out.below HBW.out (Nat.le_refl _)).obs.at (obsF_one K V)).mono ?_;rintro e w4⟨v',rfl,o4,b4,_⟩;obtain⟨aO,cO,rfl⟩:=row_slice o4;have X4:Hid (w4.ownsRow w.heap.size 40 9 (.slice (some ⟨w.heap.size,0,none⟩) 1 1) 1 [.slice (some ⟨gR,0,none⟩) 8 cR,.bool z,.bool c,.bool hz,.bool hc,.slice aH nH cH,.int .i64 pc,.int .i64 st,.slice xO nO yO]):=row_below XB.out b4;have Z4:Hid (w4.ownsRow w.heap.size 40 9 (.slice (some ⟨w.heap.size+1,0,none⟩) 1 1) 1 [.slice none 0 0,.bool false,.bool false,.bool false,.bool false,.slice none 0 0,.int .i64 0,.int .i64 0,.slice none 0 0]):=row_below (row_low HZ3.out (by simp[Value.ownBlock];omega) HBR.out) b4;have R4:=row_below (row_low HO3.out (by simp[Value.ownBlock];omega) HBR.out) b4;have H4:=row_below HH.out b4;have D4:=fun i hi=>row_below (HD.out i hi) b4
   have B4:Below w.heap.size w w4:=HBW.out.trans (b4.mono (by omega));have MM:Mem w4 w0.heap.size {bR:=gR,cR:=cR,aH:=aH,cH:=cH,blk:=blk,cap:=cap,aO:=aO,cO:=cO} {R:=R,z:=z,c:=c,hz:=hz,hc:=hc,nH:=nH,Hp:=Hp,pc:=pc,st:=st,nO:=nO,K:=K,V:=V}:=by
    refine⟨R4,?_,fun i hi=>(D4 i hi).mono (by omega),o4.mono (by omega),HN.out⟩;have h1:=H4.mono (show w0.heap.size<=w1.heap.size by omega);have e1:first (nH*3) (heapF (mix Hp hA hC blk cap nH))=first (nH*3) (heapF (place Hp blk cap)):=first_congr fun q hq=>heapF_congr hq fun i hi=>by simp[mix,hi]
    rw[e1]at h1;exact h1
   have HMM:Hid _:=MM;have HB4:Hid (Below w.heap.size w w4):=B4;have z4:w.heap.size+1<w4.heap.size:=by have:=b4.size;omega
   have z4':w.heap.size<w4.heap.size:=by omega
   obtain⟨p0,p1,p2,p3,p4,p5,p6,p7,p8⟩:=cells9 X4.out;obtain⟨s0,s1,s2,s3,s4,s5,s6,s7,s8⟩:=cells9 Z4.out;have pf:∀i,w4.frozen? ⟨w.heap.size,i,none⟩=false:=fun i=>X4.out.frozenAt i
   have zf:∀i,w4.frozen? ⟨w.heap.size+1,i,none⟩=false:=fun i=>Z4.out.frozenAt i
   clear MM B4 R4 H4 D4 o4 b4 q5 q8 qf HM HL HX3 HZ3 HO3 HP3 HOLD HB3 HBR HH HD HN XB;go_wp2;refine bodyPost_ret (v:=.agg #[.slice (some ⟨gR,0,none⟩) 8 cR,.bool z,.bool c,.bool hz,.bool hc,.slice aH nH cH,.int .i64 pc,.int .i64 st,.slice aO nO cO]) (by simp[results,Tryz.results76,go_sem,s0,s1,s2,s3,s4,s5,s6,s7,s8]) rfl ⟨{bR:=gR,cR:=cR,aH:=aH,cH:=cH,blk:=blk,cap:=cap,aO:=aO,cO:=cO},rfl,?_,?_⟩
   ·iterate 10 refine Below.setCell ?_ (by simp) _
    exact HB4.out
   ·refine Mem.mono (base:=w0.heap.size) ?_ (by omega)
    iterate 10 refine Mem.setLow ?_ (by simp;omega) _
    exact HMM.out
end Go.Proofs.YtbahofiiaodpdaaGreat
