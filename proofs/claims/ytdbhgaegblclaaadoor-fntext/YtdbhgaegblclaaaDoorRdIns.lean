import Derived.Test.YtdbhgaegblclaaaDoorRdFit
set_option maxHeartbeats 6400000
set_option maxRecDepth 20000
namespace Go.Proofs.YtdbhgaegblclaaaDoor
open Go.RowKit
def InsR(r:Option NV)(e:Ending):Prop:=
 match r with
 |some x=>e=.returned (.tuple #[.bool true,.agg (nvA x)])
 |none=>e=.returned (.tuple #[.bool false,.agg (nvA nv0)])
structure IX(w:World)(p:Nat)(v:World):Prop where
 bel:Below w.heap.size w v
 P:v.heap[p]?=some (.cells (nvA nv0) 56)
 N:v.heap[p+1]?=some (.cells (nmT.map Value.string).toArray 9)
theorem IX.below{w v v':World}{p:Nat}(h:IX w p v)(hb:Below v.heap.size v v'):IX w p v':=
 ⟨h.bel.trans (hb.mono h.bel.size),(hb.block p (Array.getElem?_eq_some_iff.1 h.P).1).trans h.P,(hb.block (p+1) (Array.getElem?_eq_some_iff.1 h.N).1).trans h.N⟩
theorem IX.sz{w v:World}{p:Nat}(h:IX w p v):p<v.heap.size/\p+1<v.heap.size:=⟨(Array.getElem?_eq_some_iff.1 h.P).1,(Array.getElem?_eq_some_iff.1 h.N).1⟩
theorem nmT_at(op:Nat)(h:op<35):((nmT.map Value.string).toArray)[op]?=some (.string (nmS op)):=by
 have hl:nmT.length=35:=rfl;rw[List.getElem?_toArray,List.getElem?_map,List.getElem?_eq_getElem (by omega)];unfold nmS;rw[List.getD_eq_getElem?_getD];simp only[Int.toNat_natCast];rw[List.getElem?_eq_getElem (by omega)];rfl
theorem ext_take(s:ByteArray)(n:Nat):(s.extract 0 n).data.toList=s.data.toList.take n:=by
 simp[ByteArray.data_extract]
theorem ext_drop(s:ByteArray)(n:Nat):(s.extract n s.size).data.toList=s.data.toList.drop n:=by
 simp only[ByteArray.data_extract,Array.toList_extract];rw[List.extract_eq_take_drop,List.take_of_length_le];simp
theorem sh_no78(d op:Int)(h1:1<=op)(h2:op<=34)(hd:d=0∨d=1):∀c∈(shpS d op).data.toList,c≠78:=by
 have h:∀k:Nat,k<34->((shpS 0 ((k:Int)+1)).data.toList.all fun c=>c !=78)=true/\((shpS 1 ((k:Int)+1)).data.toList.all fun c=>c !=78)=true:=by decide
 have hk:=h (op-1).toNat (by omega);rw[show(((op-1).toNat:Nat):Int)+1=op by omega]at hk;intro c hc;rcases hd with rfl|rfl
 ·simpa using List.all_eq_true.1 hk.1 c hc
 ·simpa using List.all_eq_true.1 hk.2 c hc
theorem beg_list(d op:Int):(begS d op).data.toList=frL d op:=by
 unfold begS frL nmL shL;rw[empty_list];by_cases h:(shpS d op).data.toList=[]
 ·rw[if_pos (by simp[h]),if_pos h];simp
 ·rw[if_neg (by simpa using h),if_neg h];simp
theorem ins_any(s:ByteArray)(d:Int)(w:World)(hs:(s.size:Int)<=200000)(hd:d=0∨d=1):
 Calls Tryd.prog 52 #[.string s,.int .i64 d] w fun e w'=>InsR (insL d s.data.toList) e/\Below w.heap.size w w':=by
 have HD:Hid (d=0∨d=1):=hd
 have HLS:Hid (s.data.toList.length=s.size):=(by simp:s.data.toList.length=s.size)
 clear hd
 go_enter Tryd.func52,Tryd.ntmps52
 go_upto_region 1 with fail
 go_wp2_with fail
 refine(names_any _).mono ?_
 rintro e w1⟨rfl,hw1⟩
 obtain⟨p,hp⟩:∃p,w.heap.size=p:=⟨_,rfl⟩
 have ix:IX w p w1:=by
  have h1:Below w.heap.size w (w.alloc (.cells (nvA nv0) 56)):=(Below.refl _ _).alloc (Nat.le_refl _) _
  have e1:(w.alloc (.cells (nvA nv0) 56)).heap.size=p+1:=by simp[hp]
  have h2:Below (w.alloc (.cells (nvA nv0) 56)).heap.size (w.alloc (.cells (nvA nv0) 56)) w1:=by rw[hw1];exact(Below.refl _ _).alloc (Nat.le_refl _) _
  refine⟨h1.trans (h2.mono h1.size),?_,?_⟩
  ·rw[h2.block p (by omega),<-hp];exact heap_alloc_newB w _
  ·rw[<-e1,hw1];exact heap_alloc_newB _ _
 have I1:Hid (IX w p w1):=ix
 have HP:Hid (w.heap.size=p):=hp
 have e1:(w.alloc (.cells #[.int .i64 0,.int .i64 0,.int .i64 0,.int .i64 0,.int .i64 0,.int .i64 0] 56)).heap.size=p+1:=by simp[hp]
 try rw[e1]
 try rw[hp]
 clear hw1 ix hp e1
 go_wp2_with fail
 go_loopw [7,8,9,10,11](fun ov _ _ _ _ wr=>∃op:Nat,1<=op/\op<=35/\ov=.int .i64 op/\IX w p wr/\∀o:Int,1<=o->o<op->hitO d o s.data.toList=none)(fun ov _ _ _ _ _=>35-(intOf ov).toNat)
 case atStart=>exact⟨1,by omega,by omega,rfl,I1.out,fun o h1 h2=>by omega⟩
 case round=>
  clear I1
  obtain⟨op,ho1,ho2,rfl,hix,hno⟩:=hrel
  have I:Hid (IX w p wr):=hix
  have NO:Hid (∀o:Int,1<=o->o<op->hitO d o s.data.toList=none):=hno
  have hpz:=hix.sz
  clear hix hno
  by_cases hlt:op<35
  rotate_left
  ·obtain rfl:op=35:=by omega
   have hin:insL d s.data.toList=none:=insL_none fun o h1 h2=>NO.out o h1 (by omega)
   have HIN:Hid (insL d s.data.toList=none):=hin
   have p0:=hp_cell I.out.P 0
   have p1:=hp_cell I.out.P 1
   have p2:=hp_cell I.out.P 2
   have p3:=hp_cell I.out.P 3
   have p4:=hp_cell I.out.P 4
   have p5:=hp_cell I.out.P 5
   have pf:=hp_free I.out.P
   simp only[nvA,List.getElem?_toArray,List.getElem?_cons_zero,List.getElem?_cons_succ]at p0 p1 p2 p3 p4 p5
   clear hin
   go_wp2_with fail
   refine bodyPost_ret (v:=.tuple #[.bool false,.agg (nvA nv0)]) (by simp[results,Tryd.results52,go_sem,nvA,nv0, *]) rfl ⟨?_,?_⟩
   ·rw[HIN.out];rfl
   ·have hp:w.heap.size<=p:=Nat.le_of_eq HP.out
    exact(((((I.out.bel.setCell hp _).setCell hp _).setCell hp _).setCell hp _).setCell hp _).setCell hp _
  have hl1:(op:Int)<35:=by omega
  have hnc:wr.cell? ⟨p+1,op,none⟩=some (.string (nmS op)):=(hp_cell I.out.N op).trans (nmT_at op hlt)
  go_upto_region 5 with fail
  go_wp2_with fail
  refine(shape_any op d wr (by omega) (by omega) HD.out).mono ?_
  rintro e w2⟨rfl,hb2⟩
  have I2:Hid (IX w p w2):=I.out.below hb2
  have hnc2:w2.cell? ⟨p+1,op,none⟩=some (.string (nmS op)):=(hp_cell I2.out.N op).trans (nmT_at op hlt)
  obtain⟨sh,hsh⟩:∃sh,shpS d op=sh:=⟨_,rfl⟩
  obtain⟨nm,hnm⟩:∃nm,nmS op=nm:=⟨_,rfl⟩
  have hnz:nm.size<=10:=by rw[<-hnm];exact nmS_size op
  have hsz:sh.size<=30:=by rw[<-hsh];exact shpS_size d op
  have HSH:Hid (shpS d op=sh):=hsh
  have HNM:Hid (nmS op=nm):=hnm
  rw[hsh]
  rw[hnm]at hnc2
  clear hsh hnm hnc hb2 I
  have hz0:¬9223372036854775807<nm.size+1:=by omega
  go_upto_if 27 with fail
  go_cut [9](fun s9 wx=>wx=w2/\s9=.string (begS d op))
  case first=>
   cases hse:sh.toList.isEmpty with
   |true=>
    go_wp2_with fail
    go_meet
    exact⟨rfl,by rw[begS,HSH.out,HNM.out,hse];rfl⟩
   |false=>
    go_wp2_with fail
    go_meet
    exact⟨rfl,by rw[begS,HSH.out,HNM.out,hse];rfl⟩
  case rest=>
  obtain⟨hw,rfl⟩:=hcut
  rw[hw]
  clear hw hnc2 hz0
  obtain⟨fr,hfr⟩:∃fr,begS d op=fr:=⟨_,rfl⟩
  have hfl:fr.data.toList=frL d op:=by rw[<-hfr];exact beg_list d op
  have HFL:Hid (fr.data.toList=frL d op):=hfl
  have hfz:fr.size<=11:=by
   have h1:fr.size=(frL d op).length:=by rw[<-hfl];simp
   rw[h1]
   unfold frL nmL
   rw[HNM.out,List.length_append]
   have h2:nm.data.toList.length=nm.size:=by simp
   rw[h2]
   split
   ·simp;omega
   ·simp;omega
  rw[hfr]
  clear hfr hfl
  go_upto_region 9 with fail
  obtain⟨ht,hht⟩:∃b,decide (s.data.toList.take (frL d op).length=frL d op)=b:=⟨_,rfl⟩
  have HHT:Hid (decide (s.data.toList.take (frL d op).length=frL d op)=ht):=hht
  clear hht
  go_cut [42](fun b wx=>wx=w2/\b=.bool ht)
  case first=>
   by_cases hfs:fr.size<=s.size
   ·have hf1:(fr.size:Int)<=s.size:=by omega
    go_wp2_with fail
    go_meet
    refine⟨rfl,congrArg Value.bool ?_⟩
    rw[<-HHT.out,ByteArray.toList_eq,ByteArray.toList_eq,ext_take,HFL.out]
    have:fr.size=(frL d op).length:=by rw[<-HFL.out];simp
    rw[this,Bool.eq_iff_iff]
    simp
   ·have hf1:¬(fr.size:Int)<=s.size:=by omega
    have hf2:¬s.data.toList.take (frL d op).length=frL d op:=by
     intro h
     have h3:=congrArg List.length h
     rw[List.length_take,HLS.out]at h3
     have:fr.size=(frL d op).length:=by rw[<-HFL.out];simp
     omega
    have HF2:Hid (¬s.data.toList.take (frL d op).length=frL d op):=hf2
    clear hf2
    go_wp2_with fail
    go_meet
    exact⟨rfl,congrArg Value.bool (by rw[<-HHT.out];simp[HF2.out])⟩
  case rest=>
  obtain⟨hw,rfl⟩:=hcut
  rw[hw]
  clear hw
  have HIT:Hid (hitO d op s.data.toList=if s.data.toList.take (frL d op).length=frL d op then fit (shL d op) (s.data.toList.drop (frL d op).length) nv0 else none):=(hit_same d op (by omega) (by omega) HD.out s.data.toList nv0).symm
  cases ht with
  |false=>
   have hnn:hitO d op s.data.toList=none:=by rw[HIT.out,if_neg (by simpa using HHT.out)]
   have HNN:Hid (hitO d op s.data.toList=none):=hnn
   clear hnn
   go_wp2_with fail
   go_roundw
   case rel=>
    refine⟨op+1,by omega,by omega,by go_num,I2.out,fun o h1 h2=>?_⟩
    by_cases e:o=op
    ·rw[e];exact HNN.out
    ·exact NO.out o h1 (by omega)
   case measure=>simp[intOf];omega
  |true=>
   have htk:s.data.toList.take (frL d op).length=frL d op:=by simpa using HHT.out
   have hfe:fr.size=(frL d op).length:=by rw[<-HFL.out];simp
   have hfs:fr.size<=s.size:=by
    have h3:=congrArg List.length htk
    rw[List.length_take,HLS.out]at h3
    omega
   have hf1:(fr.size:Int)<=s.size:=by omega
   have HI2:Hid (hitO d op s.data.toList=fit sh.data.toList (s.extract fr.size s.size).data.toList nv0):=(by rw[HIT.out,if_pos htk,ext_drop,hfe,<-HSH.out];rfl:hitO d op s.data.toList=fit sh.data.toList (s.extract fr.size s.size).data.toList nv0)
   obtain⟨s',hs'⟩:∃s',s.extract fr.size s.size=s':=⟨_,rfl⟩
   have hs2:(s'.size:Int)<=200000:=by
    rw[<-hs',ByteArray.size_extract];omega
   have HS':Hid (s.extract fr.size s.size=s'):=hs'
   have H78:Hid (∀c∈sh.data.toList,c≠78):=(by rw[<-HSH.out];exact sh_no78 d op (by omega) (by omega) HD.out:∀c∈sh.data.toList,c≠78)
   rw[hs']at HI2
   clear hs' htk HIT HHT hfe
   go_upto_region 10 with fail
   go_wp2_with fail
   rw[HS'.out]
   refine(fit_any s' sh w2 hs2 (by omega) H78.out).mono ?_
   rintro e w3⟨hfr,hb3⟩
   have I3:Hid (IX w p w3):=I2.out.below hb3
   clear hb3 I2
   rcases hft:fit sh.data.toList s'.data.toList nv0 with _|x
   ·rw[hft]at hfr
    obtain⟨x,rfl⟩:=hfr
    have HNN:Hid (hitO d op s.data.toList=none):=(HI2.out.trans hft:hitO d op s.data.toList=none)
    clear hft HI2
    unfold nvA
    have BA:Hid (∀o,IX w p (w3.alloc o)):=fun o=>I3.out.below ((Below.refl _ _).alloc (Nat.le_refl _) _)
    go_wp2_with fail
    go_roundw
    case rel=>
     refine⟨op+1,by omega,by omega,by go_num,BA.out _,fun o h1 h2=>?_⟩
     by_cases e:o=op
     ·rw[e];exact HNN.out
     ·exact NO.out o h1 (by omega)
    case measure=>simp[intOf];omega
   ·rw[hft]at hfr
    have hfr':e=.returned (.tuple #[.bool true,.agg (nvA x)]):=hfr
    subst hfr'
    have HYY:Hid (insL d s.data.toList=some {x with op:=op}):=insL_hit (by omega) (by omega) (HI2.out.trans hft)
    clear hft HI2 hfr
    unfold nvA
    go_upto_region 13 with fail
    obtain⟨w4,hw4,hI4,hX4⟩:∃v,w3.alloc (.cells #[.int .i64 op,.int .i64 x.d,.int .i64 x.a,.int .i64 x.b,.int .i64 x.imm,.int .i64 x.h] 56)=v/\IX w p v/\v.heap[w3.heap.size]?=some (.cells #[.int .i64 op,.int .i64 x.d,.int .i64 x.a,.int .i64 x.b,.int .i64 x.imm,.int .i64 x.h] 56):=
     ⟨_,rfl,I3.out.below ((Below.refl _ _).alloc (Nat.le_refl _) _),heap_alloc_newB w3 _⟩
    rw[hw4]
    obtain⟨qb,hqb⟩:∃q,w3.heap.size=q:=⟨_,rfl⟩
    rw[hqb]at hX4⊢
    have hpz:p<w4.heap.size/\qb<w4.heap.size:=⟨hI4.sz.1,(Array.getElem?_eq_some_iff.1 hX4).1⟩
    have q0:=hp_cell hX4 0
    have q1:=hp_cell hX4 1
    have q2:=hp_cell hX4 2
    have q3:=hp_cell hX4 3
    have q4:=hp_cell hX4 4
    have q5:=hp_cell hX4 5
    have p0:=hp_cell hI4.P 0
    have p1:=hp_cell hI4.P 1
    have p2:=hp_cell hI4.P 2
    have p3:=hp_cell hI4.P 3
    have p4:=hp_cell hI4.P 4
    have p5:=hp_cell hI4.P 5
    have pf:=hp_free hI4.P
    have BF:Hid (∀(v0 v1 v2 v3 v4 v5:Value),Below w.heap.size w ((((((w4.setCell ⟨p,0,none⟩ v0).setCell ⟨p,1,none⟩ v1).setCell ⟨p,2,none⟩ v2).setCell ⟨p,3,none⟩ v3).setCell ⟨p,4,none⟩ v4).setCell ⟨p,5,none⟩ v5)):=fun v0 v1 v2 v3 v4 v5=>by
     have hp:w.heap.size<=p:=Nat.le_of_eq HP.out
     exact(((((hI4.bel.setCell hp _).setCell hp _).setCell hp _).setCell hp _).setCell hp _).setCell hp _
    simp only[nvA,List.getElem?_toArray,List.getElem?_cons_zero,List.getElem?_cons_succ]at q0 q1 q2 q3 q4 q5 p0 p1 p2 p3 p4 p5
    clear hw4 hqb hI4 hX4
    have r0:∀w',Below w4.heap.size w4 w'->w'.cell? ⟨qb,0,none⟩=some (.int .i64 (op:Int)):=fun w' h=>(h.cell (p:=⟨qb,0,none⟩) hpz.2).trans q0
    have r1:∀w',Below w4.heap.size w4 w'->w'.cell? ⟨qb,1,none⟩=some (.int .i64 x.d):=fun w' h=>(h.cell (p:=⟨qb,1,none⟩) hpz.2).trans q1
    have r2:∀w',Below w4.heap.size w4 w'->w'.cell? ⟨qb,2,none⟩=some (.int .i64 x.a):=fun w' h=>(h.cell (p:=⟨qb,2,none⟩) hpz.2).trans q2
    have r3:∀w',Below w4.heap.size w4 w'->w'.cell? ⟨qb,3,none⟩=some (.int .i64 x.b):=fun w' h=>(h.cell (p:=⟨qb,3,none⟩) hpz.2).trans q3
    have r4:∀w',Below w4.heap.size w4 w'->w'.cell? ⟨qb,4,none⟩=some (.int .i64 x.imm):=fun w' h=>(h.cell (p:=⟨qb,4,none⟩) hpz.2).trans q4
    have r5:∀w',Below w4.heap.size w4 w'->w'.cell? ⟨qb,5,none⟩=some (.int .i64 x.h):=fun w' h=>(h.cell (p:=⟨qb,5,none⟩) hpz.2).trans q5
    refine wp_region_L (T:=fun w'=>Below w4.heap.size w4 w') (s:=2) (by kernel_rfl) (Below.refl _ _).drew (fun hHeld=>?_)
    refine wpAnyL_tk 0 ?k1v rfl ?k1y ?k1r
    case k1y=>(intro w hSw;(try dsimp only at hSw);go_simp;try with_reducible rfl)
    try simp only[Act.put,List.getElem_toArray,List.getElem_cons_zero,List.setIfInBounds_toArray,List.set_cons_zero,List.set_cons_succ]
    refine wpAnyL_tk 1 ?k2v rfl ?k2y ?k2r
    case k2y=>(intro w hSw;(try dsimp only at hSw);go_simp;try with_reducible rfl)
    try simp only[Act.put,List.getElem_toArray,List.getElem_cons_zero,List.getElem_cons_succ,List.setIfInBounds_toArray,List.set_cons_zero,List.set_cons_succ]
    have d0:w4.drew.cell? ⟨p,0,none⟩=some (.int .i64 0):=p0
    have d1:w4.drew.cell? ⟨p,1,none⟩=some (.int .i64 0):=p1
    have d2:w4.drew.cell? ⟨p,2,none⟩=some (.int .i64 0):=p2
    have d3:w4.drew.cell? ⟨p,3,none⟩=some (.int .i64 0):=p3
    have d4:w4.drew.cell? ⟨p,4,none⟩=some (.int .i64 0):=p4
    have d5:w4.drew.cell? ⟨p,5,none⟩=some (.int .i64 0):=p5
    have df:∀j,w4.drew.frozen? ⟨p,j,none⟩=false:=pf
    have dz:p<w4.drew.heap.size:=hpz.1
    refine wpAnyL_store rfl (by kernel_rfl) (by kernel_rfl) (fun KK hK=>?_)
    go_simp
    refine hK.out _ _ ?_
    clear hK KK hHeld r0 r1 r2 r3 r4 r5
    go_wp2_with fail
    refine bodyPost_ret (v:=.tuple #[.bool true,.agg (nvA {x with op:=op})]) (by simp[results,Tryd.results52,go_sem,nvA, *]) rfl ⟨?_,?_⟩
    ·rw[HYY.out];rfl
    ·exact((BF.out _ _ _ _ _ _).drew:Below w.heap.size w _)
end Go.Proofs.YtdbhgaegblclaaaDoor
