import Derived.Test.YtjoppncopoampaaGreatDoorOfCoreReg
import Derived.Test.YtjoppncopoampaaGreatDoorOfTransSame
import Derived.Test.YtjoppncopoampaaGreatDoorTransOpsX
set_option maxHeartbeats 40000000
set_option maxRecDepth 20000
namespace Go.Proofs.YtjoppncopoampaaGreatDoor
open Go.RowKit
def kS(op imm:Int)(a b:VV)(sec:Bool)(fl:Int)(g:HS):VV:=
 if op=19∨op=20 then KW a b fl else if op=21∨op=25 then Al g.s 255 else if op=22∨op=26 then Al g.s (-1)else CQ op imm a b sec
theorem rU{f:FuncId}{d:Array Value}{w:World}{x y:VV}(h:Calls Tryz.prog f d w fun e a=>e=.returned x.v/\Below w.heap.size w a)(e:x=y):Calls Tryz.prog f d w fun e a=>e=.returned y.v/\Below w.heap.size w a:=e▸h
theorem UQ(a i:Int)(w:World)(h:0<=i/\i<=63):Calls Tryz.prog 190 #[Vi a,Vi i] w fun e b=>e=.returned (Vi (Ow a i.toNat))/\b=w:=by
 have e:=TW a i.toNat w AB;rwa [show((i.toNat:Nat):Int)=i by omega]at e
theorem Rj(a i:Int)(w:World)(h:0<=i/\i<=63):Calls Tryz.prog 191 #[Vi a,Vi i] w fun e b=>e=.returned (Vi (Kr a i.toNat))/\b=w:=by
 have e:=SK a i.toNat w AB;rwa [show((i.toNat:Nat):Int)=i by omega]at e
theorem Sg(l d ra rb o:Int)(q:Nat)(a b:VV)(E:Int)(j:Bool)(w:World)(Y:Bd a)(hb:Bd b)(pa:a.k=1->a.s=false)(pb:b.k=1->b.s=false)(C:j=(a.s||b.s||decide (E=2)))(F:l≠19->l≠20->l≠15->E=1)(N:l=10->b.s=false)(bH cH nH:Nat)(S:Nat->HS)(_lH:nH<=1048576)(hq:21<=l->q<nH)(hh:Ak w bH (nH*3) (Ur S))(n0: -1000000<=o)(n1:o<=1000000)(X:l=12∨l=13->0<=o/\o<=63)
 (Q:(1<=l/\l<=16)∨(19<=l/\l<=22)∨l=25∨l=26):
 Calls Tryz.prog 146 #[.agg #[Vi l,Vi d,Vi ra,Vi rb,Vi o,Vi (q:Int)],.agg #[Vi a.k,.bool a.s,Vi a.m,Vi a.h,Vi a.lo,Vi a.hi,Vi b.k,.bool b.s,Vi b.m,Vi b.h,Vi b.lo,Vi b.hi,Vi E,.bool j],Vs bH nH cH] w fun e p=>e=.returned (kS l o a b j E (S q)).v/\Below w.heap.size w p:=by
 obtain⟨x,c⟩:=Au (kS l o a b j E (S q));rw[c];replace c:=EO c;replace Y:=EO Y;replace hb:=EO hb;replace F:=EO F;replace N:=EO N;replace hq:=EO hq;replace hh:=EO hh;replace n0:=EO n0;replace n1:=EO n1;replace X:=EO X;replace Q:=EO Q;replace pa:=EO pa;replace pb:=EO pb;replace C:=EO C;go_enter Tryz.func146,Tryz.ntmps146;go_upto_region 1 with fail;obtain⟨u,hu,pu⟩:=tH w (op:=l) (d:=d) (ra:=ra) (rb:=rb) (imm:=o) (h:=(q:Int)) a b E j;rw[hu];have P0:=EO pu;clear hu pu;have t:=fun p(h:Bw u p)=>Gf (P0.O.below h)
 refine wp_region_held_drew (S:=fun p=>Bw u p) AV BJ.drew (fun hHeld=>?_);refine EX [0,1,3,4] ?_;clear t;refine AO 2 rfl (fun z n=>?_);go_simp;refine(Gw a.k a.s a.m a.h a.lo a.hi _).mono ?_;rintro e v1⟨rfl,h⟩;have J:Bw u v1:=BJ.drew.trans h;clear h hHeld;rw[show AZ ⟨a.k,a.s,a.m,a.h,a.lo,a.hi⟩=AZ a from rfl];go_wp2_with fail;refine n.out _ _ J (fun _=>?_);clear n z;try go_frame
 refine AO 5 rfl (fun z n=>?_);go_simp;refine(Gw b.k b.s b.m b.h b.lo b.hi _).mono ?_;rintro e D⟨rfl,h⟩;have U:=J.trans (h.mono J.size);clear h;rw[show AZ ⟨b.k,b.s,b.m,b.h,b.lo,b.hi⟩=AZ b from rfl];go_wp2_with fail;refine n.out _ _ U (fun _=>?_);clear n z;try go_frame
 refine EX [6,7] ?_
 refine wpAnyH_done AV ?_ _
 have B:=EO (P0.below U)
 clear P0 J U
 have Z:=Aa B.I
 have o0:=Gf B.O
 have K:=B.R.cells
 have L:=B.R.free
 have M:=B.R.lt
 rcases(by have:=Q.out;omega:l=1∨(l=2∨l=4∨l=16∨l=9∨l=3∨l=14∨l=10∨l=19∨l=20∨l=21∨l=22∨l=25∨l=26)∨(l=5∨l=6∨l=7∨l=8)∨(l=11∨l=12∨l=13)∨l=15)with rfl|h|h|h|rfl
 ·obtain rfl:a=x:=c.out
  go_wp2
  exact bodyPost_ret (v:=VV.v a) (by simp[results,Tryz.results146,go_sem,VV.v, *]) rfl ⟨rfl,Ag B.bel B.oR _⟩
 ·rcases h with rfl|rfl|rfl|rfl|rfl|rfl|rfl|rfl|rfl|rfl|rfl|rfl|rfl
  all_goals(
   try(have aa:=hq.out Ad;have c0:D.cell? (Va bH (q*3+1))=some (.bool (S q).s):=by rw[(hh.out.below B.bel hh.out.lt).cell AB,Fb S q 1 AB];rfl)
   go_wp2_with fail
   first
    |refine(rU (y:=x) (EK _ _ _) (by exact c.out)).mono ?_
    |refine(rU (y:=x) (ZG a b E j _ Y.out hb.out) (by have e:=F.out Ad Ad Ad;refine Eq.trans ?_ c.out;rw[C.out,e];exact(by simpa[CQ]using fO a b:sj a b (a.s||b.s||decide ((1:Int)=2))=Mg a b))).mono ?_
    |refine(rU (y:=x) (Xx a b E j o _ Y.out n0.out n1.out) (by have e:=F.out Ad Ad Ad;exact(Zn a b j (fun k=>by rw[C.out,pa.out k,N.out AX,e];rfl)).trans c.out)).mono ?_
    |refine(rU (y:=x) (RN a b E j _) (by have e:=Zd a b E pa.out pb.out;rw[<-C.out]at e;exact e.trans c.out)).mono ?_
   rintro e y1⟨rfl,h⟩
   have r:=EO (B.below h)
   clear h
   clear Z o0 K L M
   have Z:=Aa r.I
   have o0:=Gf r.O
   have K:=r.R.cells
   have L:=r.R.free
   have M:=r.R.lt
   simp only[VV.v]
   go_wp2
   exact bodyPost_ret (v:=VV.v x) (by simp[results,Tryz.results146,go_sem,VV.v, *]) rfl ⟨rfl,Ag r.bel r.oR _⟩)
 all_goals(have qa:=Nf Y.out;have qb:=Nf hb.out)
 ·rcases h with rfl|rfl|rfl|rfl
  all_goals(
   go_wp2_with fail
   clear Z o0 K L M
   have t:=fun p(h:Bw D p)=>(Gf (B.O.below h)).2.2.2.2.2.2.2.2.2.2.2.2.2
   have t4:=fun p(h:Bw D p)=>(Aa (B.I.below h)).2.2.2.2.1
   refine BH (T:=fun p=>Bw D p) (s:=6) AV BJ.drew (fun hHeld=>?_)
   refine NU [0,1,2,3] ?_
   clear t t4
   refine Ah (i:=4) rfl AV (fun z n=>?_)
   go_simp
   first
    |refine(OZ _ _ _ qa.1 qa.2 qb.1 qb.2).mono ?_
    |refine(Jr _ _ _).mono ?_
    |refine(U3 _ _ _ qa qb).mono ?_
   rintro e p⟨rfl,h⟩
   rw[h]
   clear h
   go_wp2_with fail
   refine n.out _ _ BJ.drew (fun _=>?_)
   clear n z
   try go_frame
   refine Ah (i:=5) rfl AV (fun z n=>?_)
   go_simp
   refine(rU (y:=x) (EK j _ _) (by first|exact(jY (i:=o) a b j).trans c.out|exact(Zw (i:=o) a b j).trans c.out|exact(Xg (i:=o) a b j 7 Ad).trans c.out|exact(Xg (i:=o) a b j 8 Ad).trans c.out)).mono ?_
   rintro e v3⟨rfl,h⟩
   have A:Bw D v3:=BJ.drew.trans h
   have r:=EO (B.below A)
   simp only[VV.v]
   go_wp2_with fail
   refine n.out _ _ A (fun _=>?_)
   clear n z h A hHeld
   try go_frame
   have K:=r.R.cells
   have L:=r.R.free
   have M:=r.R.lt
   refine BD rfl AV AV (fun z n=>?_)
   go_simp
   refine n.out _ _ ?_
   clear n z
   go_wp2
   exact bodyPost_ret (v:=VV.v x) (by simp[results,Tryz.results146,go_sem,VV.v, *]) rfl ⟨rfl,Ag r.bel r.oR _⟩)
 ·rcases h with rfl|rfl|rfl
  all_goals(
   go_wp2_with fail
   clear Z o0 K L M
   have t:=fun p(h:Bw D p)=>(Gf (B.O.below h)).2.2.2.2.2.2.2.2.2.2.2.2.2
   have t4:=fun p(h:Bw D p)=>(Aa (B.I.below h)).2.2.2.2.1
   refine BH (T:=fun p=>Bw D p) (s:=7) AV BJ.drew (fun hHeld=>?_)
   refine NU [0,1,2,3,4] ?_
   clear t t4
   refine Ah (i:=5) rfl AV (fun z n=>?_)
   go_simp
   first
    |refine(Jr _ _ _).mono ?_
    |refine(UQ _ _ _ (X.out Ad)).mono ?_
    |refine(Rj _ _ _ (X.out Ad)).mono ?_
   rintro e p⟨rfl,h⟩
   rw[h]
   clear h
   go_wp2_with fail
   refine n.out _ _ BJ.drew (fun _=>?_)
   clear n z
   try go_frame
   refine Ah (i:=6) rfl AV (fun z n=>?_)
   go_simp
   refine(rU (y:=x) (EK j _ _) (by first|exact(Yj (i:=o) a b j).trans c.out|exact(jM a b j (X.out Ad).1).trans c.out|exact(Zi a b j (X.out Ad).1 (X.out Ad).2).trans c.out)).mono ?_
   rintro e v3⟨rfl,h⟩
   have A:Bw D v3:=BJ.drew.trans h
   have r:=EO (B.below A)
   simp only[VV.v]
   go_wp2_with fail
   refine n.out _ _ A (fun _=>?_)
   clear n z h A hHeld
   try go_frame
   have K:=r.R.cells
   have L:=r.R.free
   have M:=r.R.lt
   refine BD rfl AV AV (fun z n=>?_)
   go_simp
   refine n.out _ _ ?_
   clear n z
   go_wp2
   exact bodyPost_ret (v:=VV.v x) (by simp[results,Tryz.results146,go_sem,VV.v, *]) rfl ⟨rfl,Ag r.bel r.oR _⟩)
 ·have qc: -1<=Ho (AZ a) (AZ b)/\Ho (AZ a) (AZ b)<=2199023255552:=by unfold Ho;split<;>constructor<;>omega
  go_wp2_with fail
  clear Z o0 K L M
  have t:=fun p(h:Bw D p)=>(Gf (B.O.below h)).2.2.2.2.2.2.2.2.2.2.2.2.2
  have t4:=fun p(h:Bw D p)=>(Aa (B.I.below h)).2.2.2.2.1
  refine BH (T:=fun p=>Bw D p) (s:=7) AV BJ.drew (fun hHeld=>?_)
  refine NU [0,1,2,3] ?_
  clear t t4
  refine Ah (i:=4) rfl AV (fun z n=>?_)
  go_simp
  first
   |refine(Ip _ _ _ qa.1 AB AB qb.2).mono ?_
  rintro e p⟨rfl,h⟩
  rw[h]
  clear h
  go_wp2_with fail
  refine n.out _ _ BJ.drew (fun _=>?_)
  clear n z
  try go_frame
  refine Ah (i:=5) rfl AV (fun z n=>?_)
  go_simp
  first
   |refine(Ip _ 1 _ qc.1 qc.2 AB AB).mono ?_
  rintro e p⟨rfl,h⟩
  rw[h]
  clear h
  go_wp2_with fail
  refine n.out _ _ BJ.drew (fun _=>?_)
  clear n z
  try go_frame
  refine Ah (i:=6) rfl AV (fun z n=>?_)
  go_simp
  refine(rU (y:=x) (EK j _ _) (by first|exact(gJ (i:=o) a b j).trans c.out)).mono ?_
  rintro e v3⟨rfl,h⟩
  have A:Bw D v3:=BJ.drew.trans h
  have r:=EO (B.below A)
  simp only[VV.v]
  go_wp2_with fail
  refine n.out _ _ A (fun _=>?_)
  clear n z h A hHeld
  try go_frame
  have K:=r.R.cells
  have L:=r.R.free
  have M:=r.R.lt
  refine BD rfl AV AV (fun z n=>?_)
  go_simp
  refine n.out _ _ ?_
  clear n z
  go_wp2
  exact bodyPost_ret (v:=VV.v x) (by simp[results,Tryz.results146,go_sem,VV.v, *]) rfl ⟨rfl,Ag r.bel r.oR _⟩
end Go.Proofs.YtjoppncopoampaaGreatDoor
