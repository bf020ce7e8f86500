import Derived.Test.YtkckomianknjdaaGreatOfCoreF
import Derived.Test.YtkckomianknjdaaGreatOfBytes
import Derived.Test.YtkckomianknjdaaGreatOfMachCopy2
import Derived.Test.YtkckomianknjdaaGreatOfDrawFlat
set_option maxHeartbeats 2000000
set_option maxRecDepth 20000
namespace Go.Proofs.YtkckomianknjdaaGreat
open Go.RowKit
variable {b:Array Value}{d:List Value}{Y e l n p q r s:Nat}{U:Option Addr}{v:Value}{R u u' w:World}
theorem KP{j:World}{B:Nat}(h:w.ownsRow l e s v n d)(q:∀k,v.ownBlock=some k->k<B)(o:Below B w j):j.ownsRow l e s v n d:=by
 refine⟨h.1,?_⟩;rcases h.2 with r|⟨g,b,c,rfl,m,p,a⟩
 ·exact .inl r
 ·exact .inr ⟨g,b,c,rfl,m,(o.block g (q g rfl)).trans p,a⟩
theorem Mem.setLow{p:Pl}{M:MV}(h:Mem w l p M){a:Addr}(b:a.block<l)(v:Value):Mem (w.setCell a v) l p M:=
 ⟨ownsRow_setCell_below h.regs b v,ownsRow_setCell_below h.heaps b v,fun i c=>ownsRow_setCell_below (h.data i c) b v,ownsRow_setCell_below h.obs b v,h.ne⟩
theorem FP(h:w.ownsRow l e s v n d)(j:0<n):∃g c,v=Vs g n c:=by
 rcases h.2 with⟨_,rfl⟩|⟨g,a,b,rfl,_⟩
 ·omega
 ·exact⟨_,_,rfl⟩
theorem JC(h:w.ownsRow l e s v n d):∃a c,v=.slice a n c:=by
 rcases h.2 with⟨rfl,rfl⟩|⟨g,b,j,rfl,_⟩
 ·exact⟨_,_,rfl⟩
 ·exact⟨_,_,rfl⟩
def mix(Hp:Nat->Bj)(hA:Nat->Option Addr)(hC blk cap:Nat->Nat)(k i:Nat):Bj:=if i<k then place Hp blk cap i else(Hp i).put (hA i) (hC i)
theorem Xg(c:Nat->Bj)(d:Nat->Option Addr)(e a b:Nat->Nat):mix c d e a b 0=fun i=>(c i).put (d i) (e i):=by
 funext i;simp[mix]
theorem VU(f:Nat->Bj)(i:Nat):(CO f i).oneCell'=true:=by
 unfold CO;split
 ·rfl
 ·split<;>rfl
theorem Rb(K V:Nat->Int)(i:Nat):(CR K V i).oneCell'=true:=by
 unfold CR;split<;>rfl
theorem XT(j:Nat->Bj)(m:Nat->Option Addr)(n a d:Nat->Nat)(k b c q:Nat):
 (if q=k*3+2 then Vs b (j k).len c else CO (mix j m n a d k) q)=CO (mix j m n (fun i=>if i=k then b else a i) (fun i=>if i=k then c else d i) (k+1)) q:=by
 by_cases e:q=k*3+2
 ·subst e
  rw[if_pos rfl,Ef];simp[mix,place]
 ·rw[if_neg e]
  unfold CO;have o:q/3=k->q%3=0∨q%3=1:=fun h=>by omega
  by_cases l:q/3=k
  ·rcases o l with h|h<;>simp[h,l,mix,place,Bj.put]
  ·have:q/3<k+1↔q/3<k:=AB
   simp[mix,place,l,this]
theorem Pk(Y:Option Addr)(Z bR nR:Nat)(R:Nat->Int)(z c hz hc:Bool)(B:Option Addr)(C bH nH:Nat)(Hp:Nat->Bj)(Q:Nat->Option Addr)(A:Nat->Nat)(pc st:Int)(n:Option Addr)(o bO nO:Nat)(K V:Nat->Int)(w:World)(aP:nR=8)(aU:nH<=8)(aN:nO<=1048576)(ae:∀i,i<nH->1<=(Hp i).len/\(Hp i).len<=4096)(hm:FN w Y Z bR nR R B C bH nH Hp Q A n o bO nO K V):
 Calls Tryz.prog 55 #[.agg #[.slice Y nR Z,.bool z,.bool c,.bool hz,.bool hc,.slice B nH C,.int .i64 pc,.int .i64 st,.slice n nO o]] w fun e l=>∃p:Pl,
  e=.returned (.agg #[.slice (some ⟨p.bR,0,none⟩) 8 p.cR,.bool z,.bool c,.bool hz,.bool hc,.slice p.aH nH p.cH,.int .i64 pc,.int .i64 st,.slice p.aO nO p.cO])/\Below w.heap.size w l/\Mem l w.heap.size p {R:=R,z:=z,c:=c,hz:=hz,hc:=hc,nH:=nH,Hp:=Hp,pc:=pc,st:=st,nO:=nO,K:=K,V:=V}:=by
 subst aP;have HM:Hid (FN w Y Z bR 8 R B C bH nH Hp Q A n o bO nO K V):=hm;have HL:Hid (∀i,i<nH->1<=(Hp i).len/\(Hp i).len<=4096):=ae;clear hm ae;go_enter Tryz.func55,Tryz.ntmps55;go_wp2_with fail;generalize J:(w.alloc (.cells #[.slice Y 8 Z,.bool z,.bool c,.bool hz,.bool hc,.slice B nH C,.int .i64 pc,.int .i64 st,.slice n nO o] 28)).alloc (.cells #[.slice none 0 0,.bool false,.bool false,.bool false,.bool false,.slice none 0 0,.int .i64 0,.int .i64 0,.slice none 0 0] 28)=y;have b0:Bw w y:=by rw[<-J];exact(Al.alloc (Nat.le_refl _) _).alloc AY _
 have z0:y.heap.size=w.heap.size+2:=by rw[<-J];simp
 refine(YM _ bR 8 _ (EH .u64 R) y AB HM.eR (HM.below b0 (Nat.le_refl _)).regs.at (fun _=>rfl)).mono ?_;rintro e a⟨v',rfl,o1,b1,_⟩;obtain⟨d,cR,rfl⟩:=Ht o1;have ar:Hid (y.ownsRow w.heap.size 28 9 (.slice (some ⟨w.heap.size,0,none⟩) 1 1) 1 [.slice Y 8 Z,.bool z,.bool c,.bool hz,.bool hc,.slice B nH C,.int .i64 pc,.int .i64 st,.slice n nO o]):=by rw[<-J];exact(World.ownsRow_lit w #[.slice Y 8 Z,.bool z,.bool c,.bool hz,.bool hc,.slice B nH C,.int .i64 pc,.int .i64 st,.slice n nO o] 1 (Nat.le_refl _) (by unfold maxLen;omega) rfl).alloc _
 have av:Hid (y.ownsRow w.heap.size 28 9 (.slice (some ⟨w.heap.size+1,0,none⟩) 1 1) 1 [.slice none 0 0,.bool false,.bool false,.bool false,.bool false,.slice none 0 0,.int .i64 0,.int .i64 0,.slice none 0 0]):=by
  rw[<-J];have:=World.ownsRow_lit (base:=w.heap.size) (e:=28) (size:=9) (w.alloc (.cells #[.slice Y 8 Z,.bool z,.bool c,.bool hz,.bool hc,.slice B nH C,.int .i64 pc,.int .i64 st,.slice n nO o] 28)) #[.slice none 0 0,.bool false,.bool false,.bool false,.bool false,.slice none 0 0,.int .i64 0,.int .i64 0,.slice none 0 0] 1 AY (by unfold maxLen;omega) rfl;rw[World.size_alloc]at this;exact this
 have u:Hid (a.ownsRow w.heap.size 28 9 (.slice (some ⟨w.heap.size,0,none⟩) 1 1) 1 [.slice Y 8 Z,.bool z,.bool c,.bool hz,.bool hc,.slice B nH C,.int .i64 pc,.int .i64 st,.slice n nO o]):=Am ar b1;have aw:Hid (a.ownsRow w.heap.size 28 9 (.slice (some ⟨w.heap.size+1,0,none⟩) 1 1) 1 [.slice none 0 0,.bool false,.bool false,.bool false,.bool false,.slice none 0 0,.int .i64 0,.int .i64 0,.slice none 0 0]):=Am av b1;have q0:a.cell? ⟨w.heap.size,0,none⟩=some (.slice Y 8 Z):=u.cellAt 0 Aa;have q5:a.cell? ⟨w.heap.size,5,none⟩=some (.slice B nH C):=u.cellAt 5 Aa;have qf:∀i,a.frozen? ⟨w.heap.size,i,none⟩=false:=fun i=>u.frozenAt i
 have z1:w.heap.size+2<=a.heap.size:=by have:=b1.size;omega
 have aW:w.heap.size<a.heap.size:=AB;have am:Hid (a.ownsRow y.heap.size 74 1 (.slice (some ⟨d,0,none⟩) 8 cR) 8 (first (8*1) (EH .u64 R))):=o1;have aj:Hid (Bw w a):=b0.trans (b1.mono AB);have lR:y.heap.size<=d/\d<a.heap.size:=o1.lt d rfl;clear o1 b0 b1 ar av J;go_wp2_with fail;have ac:Hid ((a.setCell ⟨w.heap.size,0,none⟩ (.slice (some ⟨d,0,none⟩) 8 cR)).ownsRow w.heap.size 28 9 (.slice (some ⟨w.heap.size,0,none⟩) 1 1) 1 [.slice (some ⟨d,0,none⟩) 8 cR,.bool z,.bool c,.bool hz,.bool hc,.slice B nH C,.int .i64 pc,.int .i64 st,.slice n nO o]):=(u.stored 0 _).1;have ai:=(u.stored 0 (.slice (some ⟨d,0,none⟩) 8 cR)).2;have ad:Hid ((a.setCell ⟨w.heap.size,0,none⟩ (.slice (some ⟨d,0,none⟩) 8 cR)).ownsRow w.heap.size 28 9 (.slice (some ⟨w.heap.size+1,0,none⟩) 1 1) 1 [.slice none 0 0,.bool false,.bool false,.bool false,.bool false,.slice none 0 0,.int .i64 0,.int .i64 0,.slice none 0 0]):=aw.kept ai (.inr (by simp[Value.ownBlock]));have aa:Hid ((a.setCell ⟨w.heap.size,0,none⟩ (.slice (some ⟨d,0,none⟩) 8 cR)).ownsRow y.heap.size 74 1 (.slice (some ⟨d,0,none⟩) 8 cR) 8 (first (8*1) (EH .u64 R))):=am.kept ai (.inr (by simp[Value.ownBlock];omega));have D:Hid (Bw w (a.setCell ⟨w.heap.size,0,none⟩ (.slice (some ⟨d,0,none⟩) 8 cR))):=aj.setCell AY _;refine(Ye _ bH nH _ (CO fun i=>(Hp i).put (Q i) (A i)) _ AB HM.eH (HM.below D (Nat.le_refl _)).heaps.at (VU _)).mono ?_;rintro e M⟨v',rfl,o2,b2,_⟩;obtain⟨aH,cH,rfl⟩:=JC o2;rw[World.size_setCell]at o2 b2;have x:Hid (M.ownsRow w.heap.size 28 9 (.slice (some ⟨w.heap.size,0,none⟩) 1 1) 1 [.slice (some ⟨d,0,none⟩) 8 cR,.bool z,.bool c,.bool hz,.bool hc,.slice B nH C,.int .i64 pc,.int .i64 st,.slice n nO o]):=Am ac (by simpa using b2);have ax:Hid (M.ownsRow w.heap.size 28 9 (.slice (some ⟨w.heap.size+1,0,none⟩) 1 1) 1 [.slice none 0 0,.bool false,.bool false,.bool false,.bool false,.slice none 0 0,.int .i64 0,.int .i64 0,.slice none 0 0]):=Am ad (by simpa using b2);have an:Hid (M.ownsRow y.heap.size 74 1 (.slice (some ⟨d,0,none⟩) 8 cR) 8 (first (8*1) (EH .u64 R))):=Am aa (by simpa using b2);have ah:Hid (M.ownsRow a.heap.size 76 3 (.slice aH nH cH) nH (first (nH*3) (CO fun i=>(Hp i).put (Q i) (A i)))):=o2;have ak:Hid (Bw w M):=D.trans (b2.mono AB);have y5:M.cell? ⟨w.heap.size,5,none⟩=some (.slice B nH C):=x.cellAt 5 Aa;have yf:∀i,M.frozen? ⟨w.heap.size,i,none⟩=false:=fun i=>x.frozenAt i
 have z2:a.heap.size<=M.heap.size:=by have:=b2.size;simpa using this
 have aV:w.heap.size<M.heap.size:=AB;clear q0 q5 qf o2 b2 ai u aw am aj ac ad aa D;go_wp2_with fail;generalize L:M.setCell ⟨w.heap.size,5,none⟩ (.slice aH nH cH)=N;have I:=(x.stored 5 (.slice aH nH cH)).2;rw[L]at I;have au:Hid (N.ownsRow w.heap.size 28 9 (.slice (some ⟨w.heap.size,0,none⟩) 1 1) 1 [.slice (some ⟨d,0,none⟩) 8 cR,.bool z,.bool c,.bool hz,.bool hc,.slice aH nH cH,.int .i64 pc,.int .i64 st,.slice n nO o]):=by rw[<-L];exact(x.stored 5 _).1
 have ay:Hid (N.ownsRow w.heap.size 28 9 (.slice (some ⟨w.heap.size+1,0,none⟩) 1 1) 1 [.slice none 0 0,.bool false,.bool false,.bool false,.bool false,.slice none 0 0,.int .i64 0,.int .i64 0,.slice none 0 0]):=ax.kept I (.inr (by simp[Value.ownBlock]));have ao:Hid (N.ownsRow y.heap.size 74 1 (.slice (some ⟨d,0,none⟩) 8 cR) 8 (first (8*1) (EH .u64 R))):=an.kept I (.inr (by simp[Value.ownBlock];omega));have ap:Hid (N.ownsRow a.heap.size 76 3 (.slice aH nH cH) nH (first (nH*3) (CO fun i=>(Hp i).put (Q i) (A i)))):=ah.kept I (Ae ah x Aa);have af:Hid (Bw w N):=by rw[<-L];exact ak.setCell AY _
 have z3:N.heap.size=M.heap.size:=by rw[<-L];simp
 have ab:Hid (∀i,i<nH->∃b,Q i=some ⟨b,0,none⟩/\BZ N b (Hp i).len (EH .u8 (Hp i).dat)/\b<w.heap.size/\1<=(Hp i).len/\(Hp i).len<=4096):=fun i m=>by
  obtain⟨b,e,ha⟩:=HM.data i m (by have:=(HL i m).1;omega);exact⟨b,e,ha.below af ha.lt,ha.lt,HL i m⟩
 clear I x ax an ah ak y5 yf L;go_loopw [15](fun i wr=>∃k:Nat,k<=nH/\i=.int .i64 k/\Below a.heap.size N wr/\∃blk cap:Nat->Nat,wr.ownsRow a.heap.size 76 3 (.slice aH nH cH) nH (first (nH*3) (CO (mix Hp Q A blk cap k)))/\(∀i,i<k->wr.ownsRow a.heap.size 5 1 (.slice (some ⟨blk i,0,none⟩) (Hp i).len (cap i)) (Hp i).len (first (Hp i).len (EH .u8 (Hp i).dat)))/\(∀i j,i<k->j<k->i≠j->blk i≠blk j))(fun i _=>nH-(intOf i).toNat)
 case atStart=>exact⟨0,Nat.zero_le _,rfl,Below.refl _ _,fun _=>0,fun _=>0,by rw[Xg];exact ap,fun i m=>absurd m AB,fun i j m=>absurd m AB⟩
 case round=>
  obtain⟨k,hk,rfl,U,blk,cap,hh,hd,aB⟩:=hrel;have r:Hid (Below a.heap.size N wr):=U;have S:Hid (wr.ownsRow a.heap.size 76 3 (.slice aH nH cH) nH (first (nH*3) (CO (mix Hp Q A blk cap k)))):=hh;have HD:Hid ((∀i,i<k->wr.ownsRow a.heap.size 5 1 (.slice (some ⟨blk i,0,none⟩) (Hp i).len (cap i)) (Hp i).len (first (Hp i).len (EH .u8 (Hp i).dat)))):=hd;have HN:Hid ((∀i j,i<k->j<k->i≠j->blk i≠blk j)):=aB;have XB:Hid (wr.ownsRow w.heap.size 28 9 (.slice (some ⟨w.heap.size,0,none⟩) 1 1) 1 [.slice (some ⟨d,0,none⟩) 8 cR,.bool z,.bool c,.bool hz,.bool hc,.slice aH nH cH,.int .i64 pc,.int .i64 st,.slice n nO o]):=KP au (by simp[Value.ownBlock];omega) U;have zr:N.heap.size<=wr.heap.size:=U.size;clear U hh hd aB;have q5:wr.cell? ⟨w.heap.size,5,none⟩=some (.slice aH nH cH):=XB.cellAt 5 Aa;have aQ:w.heap.size<wr.heap.size:=AB;by_cases aM:k<nH
  ·obtain⟨O,aJ⟩:∃O,aH=some ⟨O,0,none⟩:=by
    obtain⟨g,aR,hv⟩:=FP S AB;simp only[Value.slice.injEq]at hv;exact⟨g,hv.1⟩
   subst aJ;have lH:=S.lt O rfl;have aC:=lH.2;have aA:k*3+2<nH*3:=AB;obtain⟨bD,eD,aD,lD,aS,aT⟩:=ab.out k aM;have aF:Hid (BZ N bD (Hp k).len (EH .u8 (Hp k).dat)):=aD;have g2:wr.cell? ⟨O,k*3+2,none⟩=some (.slice (some ⟨bD,0,none⟩) (Hp k).len (A k)):=by
    rw[S.cellAt (k*3+2) aA,DF aA,Ef];simp[mix,Bj.put,eD]
   clear eD aD;have gf:wr.frozen? ⟨O,k*3+2,none⟩=false:=S.frozenAt _;have r5:∀l,Bw wr l->l.cell? ⟨w.heap.size,5,none⟩=some (.slice (some ⟨O,0,none⟩) nH cH):=fun l h=>(h.cell (p:=⟨w.heap.size,5,none⟩) aQ).trans q5
   have r2:∀l,Bw wr l->l.cell? ⟨O,k*3+2,none⟩=some (.slice (some ⟨bD,0,none⟩) (Hp k).len (A k)):=fun l h=>(h.cell (p:=⟨O,k*3+2,none⟩) aC).trans g2
   have rf:∀l,Bw wr l->l.frozen? ⟨O,k*3+2,none⟩=false:=fun l h=>(h.frozen (p:=⟨O,k*3+2,none⟩) aC).trans gf
   clear q5 g2 gf;go_wp2_with fail;refine Ak (T:=fun l=>Bw wr l) (s:=12) Ab (Al.drew) (fun hHeld=>?_);refine lQ [0,1,2,3,4,5,6,7,8] ?_;refine Ac (i:=9) rfl Ab (fun K hK=>?_);go_simp;refine(Xr bD 0 (Hp k).len (A k) (EH .u8 (Hp k).dat) _ AB ?_ (fun _=>rfl)).mono ?_
   ·rw[Nat.mul_one];exact(aF.below (r.trans (Al.drew.mono AB)) AB).at
   rintro e wc⟨v',rfl,oc,bc,_⟩;have xc:Bw wr wc:=Al.drew.trans bc;obtain⟨bN,cN,rfl⟩:=FP oc AB;have ag:Hid (wc.ownsRow wr.heap.size 5 1 (.slice (some ⟨bN,0,none⟩) (Hp k).len cN) (Hp k).len (first ((Hp k).len*1) (EH .u8 (Hp k).dat))):=oc;have E:Hid (Bw wr wc):=xc;clear oc bc;go_wp2_with fail;refine hK.out _ _ (xc) (fun aE=>?_);clear hK K;refine lQ [10,11] ?_;refine Ai rfl Ab Ab (fun K hK=>?_);go_simp;refine hK.out _ _ ?_;clear hK K;go_wp2;go_roundw
   case rel=>
    have hs:=(Am S E).stored (k*3+2) (.slice (some ⟨bN,0,none⟩) (Hp k).len cN);refine⟨k+1,AB,by go_num,(r.trans (E.mono AB)).setCell (by simpa using lH.1) _,fun i=>if i=k then bN else blk i,fun i=>if i=k then cN else cap i,?_,?_,?_⟩
    ·have F:=hs.1
     rw[Ko]at F;exact(EU fun q _=>XT Hp Q A blk cap k bN cN q)▸F
    ·intro i m
     by_cases e:i=k
     ·subst e
      have F:=(ag.kept hs.2 (Ae ag (Am S E) Aa)).mono (show a.heap.size<=wr.heap.size by omega);rw[Nat.mul_one]at F;simpa using F
     ·have F:=Am (HD i AB) E
      simpa[e]using F.kept hs.2 (Ae F (Am S E) Aa)
    ·intro i j m hj az
     have lN:=(ag.lt bN rfl).1;have lo:∀t,t<k->blk t<wr.heap.size:=fun t ht=>((HD t ht).lt (blk t) rfl).2
     by_cases e:i=k
     ·have aK:j≠k:=fun q=>az (e.trans q.symm)
      have:=lo j AB;simp only[e,aK,if_true,if_false];omega
     ·by_cases e2:j=k
      ·have:=lo i AB
       simp only[e,e2,if_true,if_false];omega
      ·simp only[e,e2,if_false]
       exact HN i j AB AB az
   case measure=>simp[intOf];omega
  ·obtain rfl:nH=k:=AB
   have q8:wr.cell? ⟨w.heap.size,8,none⟩=some (.slice n nO o):=XB.cellAt 8 Aa;have qf:∀i,wr.frozen? ⟨w.heap.size,i,none⟩=false:=fun i=>XB.frozenAt i
   have al:Hid (Bw w wr):=af.trans (r.mono AB);go_wp2_with fail;refine(ZE _ bO nO _ (CR K V) wr aN HM.eO (HM.below al (Nat.le_refl _)).obs.at (Rb K V)).mono ?_;rintro e X⟨v',rfl,o4,b4,_⟩;obtain⟨aO,cO,rfl⟩:=JC o4;have X4:Hid (X.ownsRow w.heap.size 28 9 (.slice (some ⟨w.heap.size,0,none⟩) 1 1) 1 [.slice (some ⟨d,0,none⟩) 8 cR,.bool z,.bool c,.bool hz,.bool hc,.slice aH nH cH,.int .i64 pc,.int .i64 st,.slice n nO o]):=Am XB b4;have Z4:Hid (X.ownsRow w.heap.size 28 9 (.slice (some ⟨w.heap.size+1,0,none⟩) 1 1) 1 [.slice none 0 0,.bool false,.bool false,.bool false,.bool false,.slice none 0 0,.int .i64 0,.int .i64 0,.slice none 0 0]):=Am (KP ay (by simp[Value.ownBlock];omega) r) b4;have R4:=Am (KP ao (by simp[Value.ownBlock];omega) r) b4;have H4:=Am S b4;have D4:=fun i m=>Am (HD i m) b4
   have B4:Bw w X:=al.trans (b4.mono AB);have MM:Mem X y.heap.size {bR:=d,cR:=cR,aH:=aH,cH:=cH,blk:=blk,cap:=cap,aO:=aO,cO:=cO} {R:=R,z:=z,c:=c,hz:=hz,hc:=hc,nH:=nH,Hp:=Hp,pc:=pc,st:=st,nO:=nO,K:=K,V:=V}:=by
    refine⟨R4,?_,fun i m=>(D4 i m).mono AB,o4.mono AB,HN⟩;have F:=H4.mono (show y.heap.size<=a.heap.size by omega);have e1:first (nH*3) (CO (mix Hp Q A blk cap nH))=first (nH*3) (CO (place Hp blk cap)):=EU fun q hq=>LJ hq fun i m=>by simp[mix,m]
    rw[e1]at F;exact F
   have aI:Hid _:=MM;have aG:Hid (Bw w X):=B4;have z4:w.heap.size+1<X.heap.size:=by have:=b4.size;omega
   have aX:w.heap.size<X.heap.size:=AB;have p0:=BX X4;obtain⟨s0,s1,s2,s3,s4,s5,s6,s7,s8⟩:=BX Z4;have pf:∀i,X.frozen? ⟨w.heap.size,i,none⟩=false:=fun i=>X4.frozenAt i
   have zf:∀i,X.frozen? ⟨w.heap.size+1,i,none⟩=false:=fun i=>Z4.frozenAt i
   clear MM B4 R4 H4 D4 o4 b4 q5 q8 qf HM HL au ay ao ap ab af r S HD HN XB;go_wp2;refine bodyPost_ret (v:=.agg #[.slice (some ⟨d,0,none⟩) 8 cR,.bool z,.bool c,.bool hz,.bool hc,.slice aH nH cH,.int .i64 pc,.int .i64 st,.slice aO nO cO]) (by simp[results,Tryz.results55,go_sem,s0,s1,s2,s3,s4,s5,s6,s7,s8]) rfl ⟨{bR:=d,cR:=cR,aH:=aH,cH:=cH,blk:=blk,cap:=cap,aO:=aO,cO:=cO},rfl,?_,?_⟩
   ·iterate 10 refine Below.setCell ?_ AY _
    exact aG
   ·refine Mem.mono (base:=y.heap.size) ?_ AB
    iterate 10 refine Mem.setLow ?_ (by simp;omega) _
    exact aI
theorem Ee{P:Program}{p:Region.Mode}{b:Array Oper}{Q:Exit->Act->World->Prop}{T:World->Prop}{s' i:Nat}{z:Array Bool}{a:Act}{j:World}{o:Oper}(s x:Operand){t:TypeId}{u I:Value}(l:b[i]?=some o)(m:Region.ready p b z=[i])(r:Region.wanted o (yielded b a.tmps)=true)
 (d:o.op=.call {callee:=.builtin .append,args:=#[s,x],argTypes:=#[t,t]})(n:a.eval s=v)(y:a.eval x=u)(c:(Builtin.append_ #[t,t] o.type #[v,u]).run P w=.ok I j)(k:T j)(h:T j->wpAnyL P p b Q T s' q (z.setIfInBounds i true) (a.put o.dst I) j):wpAnyL P p b Q T s' (q+1) z a w:=
 Ac l m (fun A e=>by
  rw[if_pos r];unfold Oper.wp execOp;simp only[d,resolve,invoke,builtin,Sem.run_bind,Sem.run_pure,Result.andThen_ok,List.map_toArray,List.map_cons,List.map_nil,n,y,c];exact e _ _ k h)
structure HD where
 base:Int
 wr:Bool
 v:Value
 ds:List Int
def Sw(h:HD):List Value:=[.int .u64 h.base,.bool h.wr,h.v]
def Xv(o:Int×Int):List Value:=[Vi o.1,.int .u64 o.2]
def FV(x:Int):Prop:=0<=x/\x<=18446744073709551615
theorem JD(x:Int):FV (IntKind.u64.wrap x):=by
 unfold FV;rw[IntKind.wrap_u64];omega
structure Md where
 vR:Value
 z:Bool
 c:Bool
 hz:Bool
 hc:Bool
 vH:Value
 pc:Int
 st:Int
 vO:Value
 rs:List Int
 hs:List HD
 os:List (Int×Int)
def G8:Md:=⟨.slice none 0 0,false,false,false,false,.slice none 0 0,0,0,.slice none 0 0,[],[],[]⟩
def Md.a(m:Md):Array Value:=#[m.vR,.bool m.z,.bool m.c,.bool m.hz,.bool m.hc,m.vH,Vi m.pc,Vi m.st,m.vO]
structure DW(w:World)(p:Nat)(ao:Option Addr)(n cap:Nat)(m:Md)(u:World):Prop where
 F:Fw p w u
 K:CG u p ao n cap
 R:u.ownsRow w.heap.size 74 1 m.vR m.rs.length (m.rs.map (.int .u64 ·))
 H:u.ownsRow w.heap.size 76 3 m.vH m.hs.length (m.hs.flatMap Sw)
 O:u.ownsRow w.heap.size 109 2 m.vO m.os.length (m.os.flatMap Xv)
 D:∀h∈m.hs,u.ownsRow w.heap.size 5 1 h.v h.ds.length (h.ds.map (.int .u8 ·))
 rr:∀x∈m.rs,FV x
 hr:∀h∈m.hs,FV h.base/\h.ds.length<=4100/\∀x∈h.ds,0<=x/\x<=255
 pw:p<w.heap.size
theorem DW.fw{m:Md}(h:DW w p U n Y m u)(f:Fw p u u')(c:CG u' p U n Y):DW w p U n Y m u':=
 ⟨h.F.trans f,c,EA h.R f h.pw,EA h.H f h.pw,EA h.O f h.pw,fun x a=>EA (h.D x a) f h.pw,h.rr,h.hr,h.pw⟩
theorem DW.below{m:Md}(h:DW w p U n Y m u)(f:Below u.heap.size u R):DW w p U n Y m R:=h.fw (.of_below f) (h.K.below f)
theorem DW.put{m:Md}(h:DW w p U n Y m u)(B:w.heap.size<=q)(c:u.heap[q]?=some (.cells b 28))(j:Nat)(v:Value):DW w p U n Y m (u.setCell (Va q j) v):=by
 have d:∀{e s C:Nat}{o:Value}{E:List Value},u.ownsRow w.heap.size e s o C E->28≠e->o.ownBlock≠some q:=fun z A a=>by
  rcases z.2 with⟨k,_⟩|⟨g,Y,r,k,_,l,_⟩
  ·rw[k]at a;cases a
  ·rw[k]at a
   have y:=Option.some.inj a;subst y;rw[c]at l;exact A (Obj.cells.inj (Option.some.inj l)).2.1
 exact⟨h.F.put B _ _,h.K.put (by have:=h.pw;omega) _ _,CK h.R (d h.R Aa) _ _,CK h.H (d h.H Aa) _ _,CK h.O (d h.O Aa) _ _,fun x c=>CK (h.D x c) (d (h.D x c) Aa) _ _,h.rr,h.hr,h.pw⟩
structure DX(w:World)(p:Nat)(ao:Option Addr)(n cap:Nat)(q r:Nat)(m:Md)(u:World):Prop where
 W:DW w p ao n cap m u
 X:u.heap[q]?=some (.cells m.a 28)
 Z:u.heap[r]?=some (.cells G8.a 28)
 wq:w.heap.size<=q
 wr:w.heap.size<=r
 ne:q≠r
theorem Gf{o:Obj}(h:u.heap[q]?=some o)(f:Fw p u R)(a:p≠q):R.heap[q]?=some o:=(f.block q (Cj.1 h).1 (fun e=>a e.symm)).trans h
theorem DX.fw{m:Md}(h:DX w p U n Y q r m u)(f:Fw p u R)(c:CG R p U n Y):DX w p U n Y q r m R:=
 ⟨h.W.fw f c,Gf h.X f (by have:=h.W.pw;have:=h.wq;omega),Gf h.Z f (by have:=h.W.pw;have:=h.wr;omega),h.wq,h.wr,h.ne⟩
theorem DX.below{m:Md}(h:DX w p U n Y q r m u)(f:Below u.heap.size u R):DX w p U n Y q r m R:=h.fw (.of_below f) (h.W.K.below f)
theorem DX.set{m:Md}(h:DX w p U n Y q r m u)(b:Md)(j:Nat)(v:Value)(y:m.a.setIfInBounds j v=b.a)(l:b.vR=m.vR)(o:b.vH=m.vH)(s:b.vO=m.vO)(d:b.rs=m.rs)(c:b.hs=m.hs)(x:b.os=m.os):DX w p U n Y q r b (u.setCell (Va q j) v):=by
 have k:=h.W.put h.wq h.X j v;refine⟨⟨k.F,k.K,by rw[l,d];exact k.R,by rw[o,c];exact k.H,by rw[s,x];exact k.O,by rw[c];exact k.D,by rw[d];exact k.rr,by rw[c];exact k.hr,k.pw⟩,?_,?_,h.wq,h.wr,h.ne⟩
 ·rw[<-y];exact BK h.X j v
 ·exact BJ h.Z (fun e=>h.ne e.symm) j v
theorem DX.store{c:Md}(h:DW w p U n Y c u)(X:u.heap[q]?=some (.cells b 28))(Z:u.heap[r]?=some (.cells G8.a 28))(k:w.heap.size<=q)(wr:w.heap.size<=r)(d:q≠r)(j:Nat)(v:Value)(l:b.setIfInBounds j v=c.a):DX w p U n Y q r c (u.setCell (Va q j) v):=
 ⟨h.put k X j v,by rw[<-l];exact BK X j v,BJ Z (fun e=>d e.symm) j v,k,wr,d⟩
theorem Br{D:Option Nat}{o:Obj}(h:u.heap[q]?=some o)(a:u.grownBy R D)(b:D≠some q):R.heap[q]?=some o:=(a.block q (Cj.1 h).1 (fun e=>b e.symm)).trans h
theorem CF{C:Nat}{I:Value}(o:u.heap[q]?=some (.cells b 28))(m:u.ownsRow w.heap.size e s I C d)(n:28≠e):I.ownBlock≠some q:=fun a=>by
 rcases m.2 with⟨c,_⟩|⟨g,j,k,c,_,h,_⟩
 ·rw[c]at a;cases a
 ·rw[c]at a
  have l:=Option.some.inj a;subst l;rw[o]at h;exact n (Obj.cells.inj (Option.some.inj h)).2.1
theorem DW.growR{m:Md}(h:DW w p U n Y m u)(d:Value)(x:Int)(l:FV x)(b:u.grownBy u' m.vR.ownBlock)(j:u'.ownsRow w.heap.size 74 1 d (m.rs.length+1) (m.rs.map (.int .u64 ·)++[.int .u64 x])):DW w p U n Y {m with vR:=d,rs:=m.rs++[x]} u':=by
 refine⟨h.F.grown b (fun k c=>(h.R.lt k c).1),h.K.grown b (fun k c=>by have:=(h.R.lt k c).1;have:=h.pw;omega),?_,h.H.kept b (Ae h.H h.R Aa),h.O.kept b (Ae h.O h.R Aa),fun y a=>(h.D y a).kept b (Ae (h.D y a) h.R Aa),fun y a=>?_,h.hr,h.pw⟩
 ·show u'.ownsRow _ _ _ d (m.rs++[x]).length ((m.rs++[x]).map _)
  rw[List.length_append,List.map_append];exact j
 ·rcases List.mem_append.1 a with a|a
  ·exact h.rr y a
  ·have e:y=x:=by simpa using a
   rw[e];exact l
theorem DW.growH{m:Md}(h:DW w p U n Y m u)(d:Value)(x:HD)(o:FV x.base/\x.ds.length<=4100/\∀y∈x.ds,0<=y/\y<=255)(j:u.ownsRow w.heap.size 5 1 x.v x.ds.length (x.ds.map (.int .u8 ·)))(b:u.grownBy u' m.vH.ownBlock)(l:u'.ownsRow w.heap.size 76 3 d (m.hs.length+1) (m.hs.flatMap Sw++Sw x)):DW w p U n Y {m with vH:=d,hs:=m.hs++[x]} u':=by
 refine⟨h.F.grown b (fun k c=>(h.H.lt k c).1),h.K.grown b (fun k c=>by have:=(h.H.lt k c).1;have:=h.pw;omega),h.R.kept b (Ae h.R h.H Aa),?_,h.O.kept b (Ae h.O h.H Aa),fun y a=>?_,h.rr,fun y a=>?_,h.pw⟩
 ·show u'.ownsRow _ _ _ d (m.hs++[x]).length ((m.hs++[x]).flatMap _)
  rw[List.length_append,List.flatMap_append];simpa using l
 ·rcases List.mem_append.1 a with a|a
  ·exact(h.D y a).kept b (Ae (h.D y a) h.H Aa)
  ·have e:y=x:=by simpa using a
   rw[e];exact j.kept b (Ae j h.H Aa)
 ·rcases List.mem_append.1 a with a|a
  ·exact h.hr y a
  ·have e:y=x:=by simpa using a
   rw[e];exact o
theorem DW.growO{m:Md}(h:DW w p U n Y m u)(c:Value)(x:Int×Int)(a:u.grownBy u' m.vO.ownBlock)(e:u'.ownsRow w.heap.size 109 2 c (m.os.length+1) (m.os.flatMap Xv++Xv x)):DW w p U n Y {m with vO:=c,os:=m.os++[x]} u':=by
 refine⟨h.F.grown a (fun k b=>(h.O.lt k b).1),h.K.grown a (fun k b=>by have:=(h.O.lt k b).1;have:=h.pw;omega),h.R.kept a (Ae h.R h.O Aa),h.H.kept a (Ae h.H h.O Aa),?_,fun y d=>(h.D y d).kept a (Ae (h.D y d) h.O Aa),h.rr,h.hr,h.pw⟩;show u'.ownsRow _ _ _ c (m.os++[x]).length ((m.os++[x]).flatMap _);rw[List.length_append,List.flatMap_append];simpa using e
theorem z9(h:u.heap[r]?=some (.cells G8.a 28)):u.cell? (Va r 0)=some (.slice none 0 0)/\u.cell? (Va r 1)=some (.bool false)/\u.cell? (Va r 2)=some (.bool false)/\u.cell? (Va r 3)=some (.bool false)/\u.cell? (Va r 4)=some (.bool false)/\u.cell? (Va r 5)=some (.slice none 0 0)/\u.cell? (Va r 6)=some (Vi 0)/\u.cell? (Va r 7)=some (Vi 0)/\u.cell? (Va r 8)=some (.slice none 0 0)/\(∀j,u.frozen? (Va r j)=false)/\r<u.heap.size:=
 ⟨AJ h 0,AJ h 1,AJ h 2,AJ h 3,AJ h 4,AJ h 5,AJ h 6,AJ h 7,AJ h 8,CS h,(Cj.1 h).1⟩
theorem DW.put9{m:Md}(h:DW w p U n Y m u)(a:w.heap.size<=q)(s:u.heap[q]?=some (.cells b 28))(c d e j k l o r x:Value):DW w p U n Y m (((((((((u.setCell (Va q 0) c).setCell (Va q 1) d).setCell (Va q 2) e).setCell (Va q 3) j).setCell (Va q 4) k).setCell (Va q 5) l).setCell (Va q 6) o).setCell (Va q 7) r).setCell (Va q 8) x):=by
 have y:=BK s 0 c;have z:=BK y 1 d;have A:=BK z 2 e;have B:=BK A 3 j;have C:=BK B 4 k;have D:=BK C 5 l;have E:=BK D 6 o;have F:=BK E 7 r;exact((((((((h.put a s 0 c).put a y 1 d).put a z 2 e).put a A 3 j).put a B 4 k).put a C 5 l).put a D 6 o).put a E 7 r).put a F 8 x
theorem DX.cells{m:Md}(h:DX w p U n Y q r m u):(u.cell? (Va q 0)=some m.vR/\u.cell? (Va q 1)=some (.bool m.z)/\u.cell? (Va q 2)=some (.bool m.c)/\u.cell? (Va q 3)=some (.bool m.hz)/\u.cell? (Va q 4)=some (.bool m.hc)/\u.cell? (Va q 5)=some m.vH/\u.cell? (Va q 6)=some (Vi m.pc)/\u.cell? (Va q 7)=some (Vi m.st)/\u.cell? (Va q 8)=some m.vO)/\(∀j,u.frozen? (Va q j)=false)/\q<u.heap.size:=
 ⟨⟨AJ h.X 0,AJ h.X 1,AJ h.X 2,AJ h.X 3,AJ h.X 4,AJ h.X 5,AJ h.X 6,AJ h.X 7,AJ h.X 8⟩,CS h.X,(Cj.1 h.X).1⟩
theorem Jg(p:Nat)(b:Option Addr)(n a:Nat)(w:World)(y:CG w p b n a):
 Calls Tryz.prog 68 #[Vq p] w fun e m=>∃x:Int,e=.returned (.int .u64 x)/\FV x/\Fw p w m/\CG m p b n a:=by
 have r:=hxy y;go_enter Tryz.func68,Tryz.ntmps68;go_wp2_with fail;refine(AX p b n a 6 _ AB r).mono ?_;rintro e B⟨k,rfl,z,A,f,c⟩;have q:=hxy f;have o:=hxy c;go_wp2_with fail;refine(AX p b n a 300 _ AB o).mono ?_;rintro e C⟨x,rfl,D,E,f,c⟩;have h:=hxy (q.trans f);have d:=hxy c;by_cases j:k=0
 ·have s:(k==0)=true:=by rw[beq_iff_eq];exact j
  go_wp2_with fail;go_ret;exact⟨_,rfl,⟨AB,AB⟩,h,d⟩
 ·have s:(k==0)=false:=by rw[beq_eq_false_iff_ne];exact j
  by_cases l:k=1
  ·have u:(k==1)=true:=by rw[beq_iff_eq];exact l
   go_wp2_with fail;go_ret;exact⟨_,rfl,⟨AB,AB⟩,h,d⟩
  ·have u:(k==1)=false:=by rw[beq_eq_false_iff_ne];exact l
   go_wp2_with fail;go_ret;exact⟨_,rfl,⟨AB,AB⟩,h,d⟩
theorem Ji(p:Nat)(r:Option Addr)(n b:Nat)(m:Int)(w:World)(m0:0<=m)(m1:m<=4096)(hc:CG w p r n b):
 Calls Tryz.prog 40 #[Vq p,Vi m] w fun e U=>∃(v:Value),e=.returned v/\∃a:List Int,(a.length:Int)=m/\(∀x∈a,0<=x/\x<=255)/\U.ownsRow w.heap.size 5 1 v a.length (a.map (.int .u8 ·))/\Fw p w U/\CG U p r n b:=by
 have lp:=hc.lt;have HC:=hxy hc;obtain⟨A,hi,O,Q,R⟩:=info_parts Ll;have l:Hid (Tryz.prog.info? 5=some A/\A.zero=some (.int .u8 0)/\A.size=1/\A.bytes=1):=⟨hi,O,Q,R⟩
 go_enter Tryz.func40,Tryz.ntmps40;go_wp2_with fail;have f0:Fw p w (w.alloc (.cells #[] 5)):=.of_below Ah;have c0:CG (w.alloc (.cells #[] 5)) p r n b:=HC.below Ah;have o0:(w.alloc (.cells #[] 5)).ownsRow w.heap.size 5 1 (Vs w.heap.size 0 0) 0 []:=World.ownsRow_lit w #[] 0 BP (by unfold maxLen;omega) rfl;go_loopw [5,6](fun ov S wr=>∃(a:List Int),S=Vi (a.length:Int)/\(a.length:Int)<=m/\(∀x∈a,0<=x/\x<=255)/\wr.ownsRow w.heap.size 5 1 ov a.length (a.map (.int .u8 ·))/\Fw p w wr/\CG wr p r n b)(fun _ S _=>(m-intOf S).toNat)
 case atStart=>exact⟨[],rfl,by simpa using m0,fun _ h=>absurd h List.not_mem_nil,o0,f0,c0⟩
 case round=>
  obtain⟨a,K,N,J,ho,hf,I⟩:=hrel;subst K;obtain⟨k,hk⟩:∃k:Int,(a.length:Int)=k:=⟨_,rfl⟩
  have B:=hxy hk;have k0:0<=k:=AB;rw[hk]at N⊢;obtain⟨oa,oc,M⟩:=BA ho;subst M;have Z:=hxy ho;have Y:=hxy hf;have HU:=hxy I;have HD:=hxy J;by_cases aa:k<m
  ·go_wp2_with fail
   refine(GX p r n b wr HU).mono ?_;rintro e q⟨x,rfl,x0,x1,f,c⟩;have X:=hxy (Y.trans f);have C2:=hxy c;have E:=hxy (EA Z f lp);have F:∀o,w.heap.size<=(q.alloc o).heap.size:=fun o=>Nat.le_trans X.size AY
   have D:Hid (∀j u,[Value.int .u8 x][j]?=some u->(q.alloc (.cells #[.int .u8 x] 5)).cell? ((⟨q.heap.size,0,none⟩:Addr).add j)=some u):=Ch q _ _;have OA:Hid (∀o,(q.alloc o).ownsRow w.heap.size 5 1 (.slice oa a.length oc) a.length (a.map (.int .u8 ·))):=fun o=>Aw E Ah
   have ab:a.length<=4096:=by have:=B.out;omega
   go_wp2_with(first|(at_builtin;refine wpList_append_own_at _ rfl _ _ 22 rfl w.heap.size 5 A _ 1 1 Tryz.underlying22 l.1 l.2.1 l.2.2.1 l.2.2.2 rfl Aa _ _ _ rfl (OA _) ⟨q.heap.size,0,none⟩ 1 1 [Value.int .u8 x] rfl rfl D ?c2 ?c3 ?c4 (F _) ?_))
   case c2=>simp[Value.oneCell']
   case c3=>unfold maxLen;omega
   case c4=>omega
   intro v' C s d _ _;have ba:Bw q (q.alloc (.cells #[.int .u8 x] 5)):=Ah;have F3:Hid (Fw p w C):=(X.trans (.of_below ba)).grown d (fun j L=>(E.lt j L).1);have C3:Hid (CG C p r n b):=(C2.below ba).grown d (fun j L=>by have:=(E.lt j L).1;omega);have O3:Hid (C.ownsRow w.heap.size 5 1 v' (a++[x]).length ((a++[x]).map (.int .u8 ·))):=(by rw[List.length_append,List.map_append];exact s:C.ownsRow w.heap.size 5 1 v' (a++[x]).length ((a++[x]).map (.int .u8 ·)))
   go_wp2_with fail;go_roundw
   case rel=>exact⟨a++[x],by have:=B.out;simp;omega,by have:=B.out;simp;omega,fun y z=>by
    rcases List.mem_append.1 z with z|z
    ·exact HD y z
    ·have e:y=x:=by simpa using z
     rw[e];exact⟨x0,x1⟩,O3,F3,C3⟩
   case measure=>simp[intOf];omega
  ·go_wp2_with fail
   go_ret;exact⟨_,rfl,a,by have:=B.out;omega,HD,Z,Y,HU⟩
end Go.Proofs.YtkckomianknjdaaGreat
