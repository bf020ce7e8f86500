import Derived.Test.YtblfmpgdhpbffaaGreatDoorOfPzL5
import Derived.Test.YtblfmpgdhpbffaaGreatDoorOfPzStm0
set_option maxHeartbeats 6400000
set_option maxRecDepth 20000
namespace Go.Proofs.YtblfmpgdhpbffaaGreatDoor
open Go.RowKit Go.Proofs
theorem innermost_nil(rb n c:Nat)(a:Option Addr)(w:World)(hn:n=0)(hc:w.cell? ⟨rb,13,none⟩=some (.slice a n c)):
 Calls Tryz.prog 60 #[.pointer (some ⟨rb,0,none⟩)] w fun e w'=>e=.returned (.tuple #[.pointer none,.pointer none,.int .i64 0])/\w'=w:=by
 subst hn;have e0:(((0:Nat):Int)==0)=true:=by decide
 go_enter Tryz.func60,Tryz.ntmps60;go_wp2_with fail;go_ret3;exact⟨rfl,rfl⟩
theorem innermost_any(rb gO m cO g k cP gB n cB at':Nat)(w:World)(hm:m<1000000)(hk:k<1000000)(hn:n<=1000000)(ha:at'<n)(c13:w.cell? ⟨rb,13,none⟩=some (.slice (some ⟨gO,0,none⟩) (m+1) cO))(c3:w.cell? ⟨rb,3,none⟩=some (.slice (some ⟨g,0,none⟩) (k+1) cP))(ho:w.cell? ⟨gO,m*2,none⟩=some (.int .i64 (at':Int)))(hb:w.cell? ⟨g,k,none⟩=some (.slice (some ⟨gB,0,none⟩) n cB)):
 Calls Tryz.prog 60 #[.pointer (some ⟨rb,0,none⟩)] w fun e w'=>e=.returned (.tuple #[.pointer (some ⟨gO,m*2,none⟩),.pointer (some ⟨gB,at'*11,none⟩),.int .i64 ((n:Int)-at'-1)])/\Below w.heap.size w w':=by
 have e0:((m:Int)+1==0)=false:=by rw[beq_eq_false_iff_ne];omega
 have ea:((m+1:Nat):Int)-1=(m:Int):=by omega
 have ew:IntKind.i64.wrap (m:Int)=(m:Int):=by rw[IntKind.wrap_i64];omega
 have eb:(m:Int)<(m:Int)+1:=by omega
 have ec:(at':Int)<(n:Int):=by omega
 have ed:IntKind.i64.wrap ((n:Int)-at')=(n:Int)-at':=by rw[IntKind.wrap_i64];omega
 have ee:IntKind.i64.wrap ((n:Int)-at'-1)=(n:Int)-at'-1:=by rw[IntKind.wrap_i64];omega
 have l1:=World.block_lt_of_cell? _ _ c13
 have l2:=World.block_lt_of_cell? _ _ ho
 have l3:=World.block_lt_of_cell? _ _ hb
 have C13:Hid (w.cell? ⟨rb,13,none⟩=some (.slice (some ⟨gO,0,none⟩) (m+1) cO)):=c13
 have C3:Hid (w.cell? ⟨rb,3,none⟩=some (.slice (some ⟨g,0,none⟩) (k+1) cP)):=c3
 go_enter Tryz.func60,Tryz.ntmps60
 go_upto_region 3 with fail
 have r0:∀w':World,Below w.heap.size w w'->w'.cell? ⟨rb,13,none⟩=some (.slice (some ⟨gO,0,none⟩) (m+1) cO):=fun w' h=>(h.cell (p:=⟨rb,13,none⟩) l1).trans C13.out
 have r1:∀w':World,Below w.heap.size w w'->w'.cell? ⟨g,k,none⟩=some (.slice (some ⟨gB,0,none⟩) n cB):=fun w' h=>(h.cell (p:=⟨g,k,none⟩) l3).trans hb
 have r2:∀w':World,Below w.heap.size w w'->w'.cell? ⟨gO,m*2,none⟩=some (.int .i64 (at':Int)):=fun w' h=>(h.cell (p:=⟨gO,m*2,none⟩) l2).trans ho
 clear c13 c3
 refine wp_region_held_drew (S:=fun w'=>Below w.heap.size w w') (by kernel_rfl) (Below.refl _ _).drew (fun hHeld=>?_)
 generalize w.drew=t0 at hHeld⊢
 refine wpAnyH_tk 0 ?k1v rfl ?k1y ?k1r
 case k1y=>(intro w hSw;(try dsimp only at hSw);go_simp;try with_reducible rfl)
 try go_frame
 refine wpAnyH_tk 1 ?k2v rfl ?k2y ?k2r
 case k2y=>(intro w hSw;(try dsimp only at hSw);go_simp;try with_reducible rfl)
 try go_frame
 refine wpAnyH_tk 2 ?k3v rfl ?k3y ?k3r
 case k3y=>(intro w hSw;(try dsimp only at hSw);go_simp;try with_reducible rfl)
 try go_frame
 refine wpAnyH_tk 3 ?k4v rfl ?k4y ?k4r
 case k4y=>(intro w hSw;(try dsimp only at hSw);go_simp;try with_reducible rfl)
 try go_frame
 refine wpAnyH_tk 4 ?k5v rfl ?k5y ?k5r
 case k5y=>(intro w hSw;(try dsimp only at hSw);go_simp;try with_reducible rfl)
 try go_frame
 refine wpAnyH_tk 5 ?k6v rfl ?k6y ?k6r
 case k6y=>(intro w hSw;(try dsimp only at hSw);go_simp;try with_reducible rfl)
 try go_frame
 refine wpAnyH_tk 6 ?k7v rfl ?k7y ?k7r
 case k7y=>(intro w hSw;(try dsimp only at hSw);go_simp;try with_reducible rfl)
 try go_frame
 refine wpAnyH_tk 7 ?k8v rfl ?k8y ?k8r
 case k8y=>(intro w hSw;(try dsimp only at hSw);go_simp;try with_reducible rfl)
 try go_frame
 refine wpAnyH_tk 8 ?k9v rfl ?k9y ?k9r
 case k9y=>(intro w hSw;(try dsimp only at hSw);go_simp;try with_reducible rfl)
 try go_frame
 refine wpAnyH_tk 9 ?k10v rfl ?k10y ?k10r
 case k10y=>(intro w hSw;(try dsimp only at hSw);go_simp;try with_reducible rfl)
 try go_frame
 refine wpAnyH_tk 10 ?k11v rfl ?k11y ?k11r
 case k11y=>(intro w hSw;(try dsimp only at hSw);go_simp;try with_reducible rfl)
 try go_frame
 refine wpAnyH_tk 11 ?k12v rfl ?k12y ?k12r
 case k12y=>(intro w hSw;(try dsimp only at hSw);go_simp;try with_reducible rfl)
 try go_frame
 refine wpAnyH_ready (rs:=[12]) (by kernel_rfl) (by simp) ?_
 refine AllReadyH.cons rfl (fun KK hK=>?_) AllReadyH.nil
 go_simp
 refine(body_any rb g k cP t0 hk ((hHeld.cell (p:=⟨rb,3,none⟩) l1).trans C3.out)).mono ?_
 rintro e t1⟨rfl,hb1⟩
 have hB1:Below w.heap.size w t1:=hHeld.trans (hb1.mono hHeld.size)
 clear hb1
 refine hK.out _ _ hB1 (fun hHeld1=>?_)
 clear hK KK
 refine wpAnyH_tk 13 ?k13v rfl ?k13y ?k13r
 case k13y=>(intro w hSw;(try dsimp only at hSw);go_simp;try with_reducible rfl)
 try go_frame
 refine wpAnyH_tk 14 ?k14v rfl ?k14y ?k14r
 case k14y=>(intro w hSw;(try dsimp only at hSw);go_simp;try with_reducible rfl)
 try go_frame
 refine wpAnyH_tk 15 ?k15v rfl ?k15y ?k15r
 case k15y=>(intro w hSw;(try dsimp only at hSw);go_simp;try with_reducible rfl)
 try go_frame
 refine wpAnyH_tk 16 ?k16v rfl ?k16y ?k16r
 case k16y=>(intro w hSw;(try dsimp only at hSw);go_simp;try with_reducible rfl)
 try go_frame
 refine wpAnyH_done (by kernel_rfl) ?_ _
 go_upto_region 4 with fail
 have H1:Hid (Below w.heap.size w t1):=hB1
 clear hHeld hHeld1 hB1
 refine wp_region_held_drew (S:=fun w'=>Below w.heap.size w w') (by kernel_rfl) (H1.out.trans ((Below.refl _ _).drew)) (fun hHeld=>?_)
 have hb2:Below w.heap.size w t1.drew:=hHeld
 generalize t1.drew=t2 at hHeld hb2⊢
 refine wpAnyH_tk 0 ?k17v rfl ?k17y ?k17r
 case k17y=>(intro w hSw;(try dsimp only at hSw);go_simp;try with_reducible rfl)
 try go_frame
 refine wpAnyH_tk 1 ?k18v rfl ?k18y ?k18r
 case k18y=>(intro w hSw;(try dsimp only at hSw);go_simp;try with_reducible rfl)
 try go_frame
 refine wpAnyH_tk 2 ?k19v rfl ?k19y ?k19r
 case k19y=>(intro w hSw;(try dsimp only at hSw);go_simp;try with_reducible rfl)
 try go_frame
 refine wpAnyH_tk 3 ?k20v rfl ?k20y ?k20r
 case k20y=>(intro w hSw;(try dsimp only at hSw);go_simp;try with_reducible rfl)
 try go_frame
 refine wpAnyH_tk 4 ?k21v rfl ?k21y ?k21r
 case k21y=>(intro w hSw;(try dsimp only at hSw);go_simp;try with_reducible rfl)
 try go_frame
 refine wpAnyH_tk 5 ?k22v rfl ?k22y ?k22r
 case k22y=>(intro w hSw;(try dsimp only at hSw);go_simp;try with_reducible rfl)
 try go_frame
 refine wpAnyH_tk 6 ?k23v rfl ?k23y ?k23r
 case k23y=>(intro w hSw;(try dsimp only at hSw);go_simp;try with_reducible rfl)
 try go_frame
 refine wpAnyH_tk 7 ?k24v rfl ?k24y ?k24r
 case k24y=>(intro w hSw;(try dsimp only at hSw);go_simp;try with_reducible rfl)
 try go_frame
 refine wpAnyH_tk 8 ?k25v rfl ?k25y ?k25r
 case k25y=>(intro w hSw;(try dsimp only at hSw);go_simp;try with_reducible rfl)
 try go_frame
 refine wpAnyH_tk 9 ?k26v rfl ?k26y ?k26r
 case k26y=>(intro w hSw;(try dsimp only at hSw);go_simp;try with_reducible rfl)
 try go_frame
 refine wpAnyH_tk 10 ?k27v rfl ?k27y ?k27r
 case k27y=>(intro w hSw;(try dsimp only at hSw);go_simp;try with_reducible rfl)
 try go_frame
 refine wpAnyH_tk 11 ?k28v rfl ?k28y ?k28r
 case k28y=>(intro w hSw;(try dsimp only at hSw);go_simp;try with_reducible rfl)
 try go_frame
 refine wpAnyH_tk 12 ?k29v rfl ?k29y ?k29r
 case k29y=>(intro w hSw;(try dsimp only at hSw);go_simp;try with_reducible rfl)
 try go_frame
 refine wpAnyH_tk 13 ?k30v rfl ?k30y ?k30r
 case k30y=>(intro w hSw;(try dsimp only at hSw);go_simp;try with_reducible rfl)
 try go_frame
 refine wpAnyH_tk 14 ?k31v rfl ?k31y ?k31r
 case k31y=>(intro w hSw;(try dsimp only at hSw);go_simp;try with_reducible rfl)
 try go_frame
 refine wpAnyH_tk 15 ?k32v rfl ?k32y ?k32r
 case k32y=>(intro w hSw;(try dsimp only at hSw);go_simp;try with_reducible rfl)
 try go_frame
 refine wpAnyH_tk 16 ?k33v rfl ?k33y ?k33r
 case k33y=>(intro w hSw;(try dsimp only at hSw);go_simp;try with_reducible rfl)
 try go_frame
 refine wpAnyH_tk 17 ?k34v rfl ?k34y ?k34r
 case k34y=>(intro w hSw;(try dsimp only at hSw);go_simp;try with_reducible rfl)
 try go_frame
 refine wpAnyH_done (by kernel_rfl) ?_ _
 have H2:Hid (Below w.heap.size w t2):=hb2
 clear r0 r1 r2 hHeld hb2 ho hb
 go_wp2_with fail
 go_ret3
 exact⟨rfl,H2.out⟩
theorem Rws.setO{w:World}{B g c m:Nat}{S:PS}{hs:List HS}{rg:List VV}{PL:List (List SV)}{vH vR vP:Value}{bv:List Value}{o:OV}{os:List OV}(h:Rws w B (srcR (exP S (.slice (some ⟨g,0,none⟩) m c)) hs rg PL vH vR vP bv))(hop:S.op=o::os)(th:Int):
 Rws (w.setCell ⟨g,os.length*2+1,none⟩ (.bool true)) B (srcR (exP {S with op:=⟨o.at',th,true⟩::os} (.slice (some ⟨g,0,none⟩) m c)) hs rg PL vH vR vP bv)/\w.grownBy (w.setCell ⟨g,os.length*2+1,none⟩ (.bool true)) (some g)/\w.ownsRow B 117 2 (.slice (some ⟨g,0,none⟩) m c) S.op.length (S.op.reverse.flatMap obL):=by
 have ho:w.ownsRow B 117 2 (.slice (some ⟨g,0,none⟩) m c) S.op.length (S.op.reverse.flatMap obL):=h.own 0 _ rfl;have hm:=row_n ho;subst hm;obtain⟨s1,s2⟩:=ho.stored (os.length*2+1) (.bool true);have e:(S.op.reverse.flatMap obL).set (os.length*2+1) (.bool true)=((⟨o.at',th,true⟩:OV)::os).reverse.flatMap obL:=by
  rw[hop,List.reverse_cons,fm_set obL 2 (fun _=>rfl) (os.reverse++[o]) os.length 1 o ⟨o.at',th,true⟩ _ (get_last _ _ _ (by simp)) (by omega) rfl,set_last _ _ _ _ (by simp),List.reverse_cons]
 rw[e]at s1;refine⟨?_,s2,ho⟩;have q:=h.grow (j:=0) (r:=⟨117,2,.slice (some ⟨g,0,none⟩) S.op.length c,S.op.length,S.op.reverse.flatMap obL⟩) (r':=⟨117,2,.slice (some ⟨g,0,none⟩) S.op.length c,((⟨o.at',th,true⟩:OV)::os).length,((⟨o.at',th,true⟩:OV)::os).reverse.flatMap obL⟩) rfl s2 (by unfold Rw.own;rw[hop]at s1⊢;exact s1) (.inl rfl);exact q
theorem Rws.popO{w:World}{B g c m:Nat}{S:PS}{hs:List HS}{rg:List VV}{PL:List (List SV)}{vH vR vP:Value}{bv:List Value}{o:OV}{os:List OV}(h:Rws w B (srcR (exP S (.slice (some ⟨g,0,none⟩) m c)) hs rg PL vH vR vP bv))(hop:S.op=o::os)(S':PS)(hS:S'.op=os):
 Rws w B (srcR (exP S' (.slice (some ⟨g,0,none⟩) os.length c)) hs rg PL vH vR vP bv):=by
 have ho:w.ownsRow B 117 2 (.slice (some ⟨g,0,none⟩) m c) S.op.length (S.op.reverse.flatMap obL):=h.own 0 _ rfl;have hm:=row_n ho;subst hm;have ho2:=ho;rw[hop,List.reverse_cons,List.flatMap_append]at ho2;have s1:w.ownsRow B 117 2 (.slice (some ⟨g,0,none⟩) os.length c) os.length (os.reverse.flatMap obL):=ownsRow_pop (by rw[fm_len obL 2 (fun _=>rfl)];simp) ho2;have q:=h.grow (w':=w) (j:=0) (r:=⟨117,2,.slice (some ⟨g,0,none⟩) S.op.length c,S.op.length,S.op.reverse.flatMap obL⟩) (r':=⟨117,2,.slice (some ⟨g,0,none⟩) os.length c,S'.op.length,S'.op.reverse.flatMap obL⟩) rfl (gr_reflZ _ _) (by unfold Rw.own;rw[hS];exact s1) (.inl rfl);exact q
theorem PR.apart{w:World}{B:Nat}{S:PS}{rb sb nb ob mf km:Nat}{sH sR sP sO:Sl}{bv:List Value}{o:OV}{os:List OV}(h:PR w B S rb sb nb ob mf km sH sR sP sO bv)(hop:S.op=o::os):
 S.st=3/\∃(ib:List Value)(g gB gO cB:Nat),bv=ib++[.slice (some ⟨gB,0,none⟩) (bodS S).length cB]/\ppl S=S.ps.dropLast++[pat S.op (bodS S)]/\ib.length=S.ps.dropLast.length/\sP.a=some ⟨g,0,none⟩/\sP.n=ib.length+1/\w.cell? ⟨g,ib.length,none⟩=some (.slice (some ⟨gB,0,none⟩) (bodS S).length cB)/\sO.a=some ⟨gO,0,none⟩/\sO.n=os.length+1/\os.length<=sO.c/\w.cell? ⟨gO,os.length*2,none⟩=some (.int .i64 (o.at':Int))/\w.cell? ⟨gO,os.length*2+1,none⟩=some (.bool o.els)/\(∀j,j<11->w.cell? ⟨gB,o.at'*11+j,none⟩=(stL ((pat S.op (bodS S)).getD o.at' sv0))[j]?)/\(∀i,w.frozen? ⟨gB,i,none⟩=false)/\(∀i,w.frozen? ⟨gO,i,none⟩=false)/\gB<w.heap.size/\gO<w.heap.size/\o.at'<(bodS S).length:=by
 have h3:S.st=3:=by
  by_cases h3:S.st=3
  ·exact h3
  ·have:=h.I.op h3;rw[hop]at this;cases this
 have hol:=h.I.ol o (by rw[hop];simp);obtain⟨ib,g,aB,cB,h1,h2,h4,h5,h6,h7,h8,h9⟩:=h.last h3;have hR:=h.R;rw[h2,h1]at hR;have oB:w.ownsRow B 93 11 (.slice aB (bodS S).length cB) (bodS S).length (cs (pat S.op (bodS S))):=by have q:=hR.own _ _ (srcR_last h4);unfold Rw.own at q;rw[pat_len]at q;exact q
 obtain⟨gB,cB',eB,_,lB,_⟩:=row_someZ oB (by omega);injection eB with eB1 eB2 eB3;subst eB1;have oO:w.ownsRow B 117 2 (.slice sO.a sO.n sO.c) S.op.length (S.op.reverse.flatMap obL):=h.R.own 0 _ rfl;have hol2:S.op.length=os.length+1:=by rw[hop];rfl
 rw[hol2]at oO;obtain⟨gO,cO',eO,_,lO,lcO⟩:=row_someZ oO (by omega);injection eO with eO1 eO2 eO3;rw[eO1,eO2]at oO;have key:∀j,j<2->w.cell? ⟨gO,os.length*2+j,none⟩=(obL o)[j]?:=fun j hj=>by
  rw[oO.cellAt _ (by omega),hop,List.reverse_cons];exact fm_get obL 2 (fun _=>rfl) (os.reverse++[o]) os.length j o (get_last _ _ _ (by simp)) hj
 exact⟨h3,ib,g,gB,gO,cB,h1,h2,h4,h5,h6,h8,eO1,eO2,by omega,key 0 (by omega),key 1 (by omega),fun j hj=>by rw[oB.cellAt _ (by omega)];exact cs_get j (by rw[pat_len];exact hol) hj,fun i=>oB.frozenAt i,fun i=>oO.frozenAt i,lB,lO,hol⟩
theorem Inv.els{S:PS}{o o':OV}{os:List OV}(h:Inv S)(hop:S.op=o::os)(ha:o'.at'=o.at'):Inv {S with op:=o'::os}:=by
 have hol:=h.ol;have hod:=h.od;rw[hop]at hol hod;refine⟨h.st,h.d,h.hs,h.rg,h.gv,h.ps,fun e=>(by have:=h.op e;rw[hop]at this;cases this),fun q hq=>?_,List.Pairwise.cons (fun q hq=>by rw[ha];exact(List.pairwise_cons.1 hod).1 q hq) (List.pairwise_cons.1 hod).2⟩;rcases List.mem_cons.1 hq with rfl|hq
 ·rw[ha];exact hol o (by simp)
 ·exact hol q (by simp[hq])
theorem pat_at{S:PS}{o:OV}{os:List OV}(hI:Inv S)(hop:S.op=o::os):(pat os (bodS S)).getD o.at' sv0=(bodS S).getD o.at' sv0/\(pat S.op (bodS S)).getD o.at' sv0=(if o.els=true then{(bodS S).getD o.at' sv0 with thn:=o.th}else(bodS S).getD o.at' sv0)/\(∀q∈os,q.at'≠o.at'):=by
 have hod:=hI.od;rw[hop]at hod;have hne:∀q∈os,q.at'≠o.at':=fun q hq=>by have:=(List.pairwise_cons.1 hod).1 q hq;omega
 have e1:=getD_eq sv0 (pat_get os (bodS S) o.at' hne);refine⟨e1,?_,hne⟩;rw[hop];show(if o.els=true then(pat os (bodS S)).set o.at' _ else pat os (bodS S)).getD o.at' sv0=_;split
 ·have hol:=hI.ol o (by rw[hop];simp)
  rw[List.getD_eq_getElem?_getD,List.getElem?_set,if_pos rfl,if_pos (by rw[pat_len];exact hol),e1];rfl
 ·exact e1
theorem elseLine_any(B:Nat)(S:PS)(rb sb nb ob mf km:Nat)(sH sR sP sO:Sl)(bv:List Value)(f:List (List UInt8))(fb fc:Nat)(w:World)(hB:B<=w.heap.size)(hm:PR w B S rb sb nb ob mf km sH sR sP sO bv)(hbd:Bnd S 100000):
 Calls Tryz.prog 34 #[.pointer (some ⟨rb,0,none⟩),.slice (some ⟨fb,0,none⟩) f.length fc] w fun e w'=>PA B w rb sb nb ob mf km (elsS S f) e w':=by
 obtain⟨RR,hRR⟩:∃y,elsS S f=y:=⟨_,rfl⟩
 rw[hRR];have HRR:Hid (elsS S f=RR):=hRR;clear hRR;cases hop:S.op with
 |nil=>
  have HN:Hid (RR=none):=(by rw[<-HRR.out];unfold elsS;rw[hop]:RR=none)
  have h13:w.cell? ⟨rb,13,none⟩=some (.slice sO.a sO.n sO.c):=hm.cells.2.2.2.2.2.1;have hn0:sO.n=0:=by rw[(pk_row hm).2.2.2,hop];rfl
  have HN0:Hid (sO.n=0):=hn0;have H13:Hid (w.cell? ⟨rb,13,none⟩=some (.slice sO.a sO.n sO.c)):=h13;clear hm hop h13 hn0 hbd;go_enter Tryz.func34,Tryz.ntmps34;go_wp2_with fail;refine(innermost_nil rb sO.n sO.c sO.a w HN0.out H13.out).mono ?_;rintro e u⟨rfl,hu⟩;rw[hu];clear hu;by_cases h1:f.length=1
  ·have e1:((f.length:Int) !=1)=false:=by rw[bne_eq_false_iff_eq];omega
   clear h1;go_wp2_with fail;go_ret;rw[HN.out];exact⟨Fm.refl _ _ _,rfl,fun _ h=>(by cases h)⟩
  ·have e1:((f.length:Int) !=1)=true:=by rw[bne_iff_ne];omega
   clear h1;go_wp2_with fail;go_ret;rw[HN.out];exact⟨Fm.refl _ _ _,rfl,fun _ h=>(by cases h)⟩
 |cons o os=>
  have HOP:Hid (S.op=o::os):=hop;obtain⟨h3,ib,g,gB,gO,cB,hbv,hpp,hil,hPa,hPn,hcl,hOa,hOn,hOc,ho0,ho1,hcb,hfb,hfo,lB,lO,hol⟩:=hm.apart hop;obtain⟨aP,nP,cP⟩:=sP;obtain⟨aO,nO,cO⟩:=sO;dsimp only at hPa hPn hOa hOn hOc hm⊢;subst hPa hPn hOa hOn hbv;have M:Hid (PR w B S rb sb nb ob mf km sH sR ⟨some ⟨g,0,none⟩,ib.length+1,cP⟩ ⟨some ⟨gO,0,none⟩,os.length+1,cO⟩ (ib++[Value.slice (some ⟨gB,0,none⟩) (bodS S).length cB])):=hm;have hi6:ib.length<1000000:=by have h1:=hm.L;have:=hbd.ps;simp at h1;omega
  have hl6:(bodS S).length<=1000000:=by have:=hbd.bd;omega
  have ho6:os.length<1000000:=by have:=hbd.op;rw[hop]at this;simp at this;omega
  have hth:=hbd.th o (by rw[hop];simp);obtain⟨c0,c1,c2,c3,c4,c13,c14,c15,c5,cf⟩:=hm.cells;have HPP:Hid (ppl S=S.ps.dropLast++[pat S.op (bodS S)]):=hpp;have HIL:Hid (ib.length=S.ps.dropLast.length):=hil;have HPT:Hid _:=pat_at hm.I hop;have HNE:Hid (S.ps≠[]):=hm.I.ps h3;obtain⟨cur,hcur⟩:∃y,(bodS S).getD o.at' sv0=y:=⟨_,rfl⟩
  have HCUR:Hid ((bodS S).getD o.at' sv0=cur):=hcur;rw[(pat_at hm.I hop).2.1,hcur]at hcb;have H3:Hid (S.st=3):=h3;have HCL:Hid (w.cell? ⟨g,ib.length,none⟩=some (.slice (some ⟨gB,0,none⟩) (bodS S).length cB)):=hcl;have C13:Hid _:=c13;have C3:Hid _:=c3;have HO0:Hid (w.cell? ⟨gO,os.length*2,none⟩=some (.int .i64 (o.at':Int))):=ho0;have HO1:Hid (w.cell? ⟨gO,os.length*2+1,none⟩=some (.bool o.els)):=ho1;have HCB:Hid (∀j,j<11->w.cell? ⟨gB,o.at'*11+j,none⟩=(stL (if o.els=true then{cur with thn:=o.th}else cur))[j]?):=hcb;have HFB:Hid (∀i,w.frozen? ⟨gB,i,none⟩=false):=hfb;have HFO:Hid (∀i,w.frozen? ⟨gO,i,none⟩=false):=hfo;obtain⟨nn,hnn⟩:∃y:Int,((bodS S).length:Int)-(o.at':Int)-1=y:=⟨_,rfl⟩
  have HNN:Hid (((bodS S).length:Int)-(o.at':Int)-1=nn):=hnn;have nn0:0<=nn:=by omega
  have nn1:nn<=1000000:=by omega
  clear hm hop hpp hil hcur h3 hcl c0 c1 c2 c3 c4 c13 c14 c15 c5 cf ho0 ho1 hcb hfb hfo hbd hnn;obtain⟨at',th,oe⟩:=o;dsimp only at *;go_enter Tryz.func34,Tryz.ntmps34;go_wp2_with fail;refine(innermost_any rb gO os.length cO g ib.length cP gB (bodS S).length cB at' w ho6 hi6 hl6 hol C13.out C3.out HO0.out HCL.out).mono ?_;rintro e u⟨rfl,hb⟩;rw[HNN.out];have M1:Hid (PR u B S rb sb nb ob mf km sH sR ⟨some ⟨g,0,none⟩,ib.length+1,cP⟩ ⟨some ⟨gO,0,none⟩,os.length+1,cO⟩ (ib++[Value.slice (some ⟨gB,0,none⟩) (bodS S).length cB])):=M.out.below hb;have F1:Hid (Fm tsP B w u):=Fm.of_below hb hB;have hBu:B<=u.heap.size:=by have:=hb.size;omega
  have k0:u.cell? ⟨gB,at'*11,none⟩=some (.int .i64 cur.k):=(hb.cell (p:=⟨gB,at'*11,none⟩) lB).trans ((HCB.out 0 (by omega)).trans (by split<;>rfl));have k1:u.cell? ⟨gO,os.length*2+1,none⟩=some (.bool oe):=(hb.cell (p:=⟨gO,os.length*2+1,none⟩) lO).trans HO1.out;have kfB:∀i,u.frozen? ⟨gB,i,none⟩=false:=fun i=>(hb.frozen (p:=⟨gB,i,none⟩) lB).trans (HFB.out i)
  have kfO:∀i,u.frozen? ⟨gO,i,none⟩=false:=fun i=>(hb.frozen (p:=⟨gO,i,none⟩) lO).trans (HFO.out i)
  have K8:Hid (u.cell? ⟨gB,at'*11+8,none⟩=some (.int .i64 (if oe=true then th else cur.thn))):=((hb.cell (p:=⟨gB,at'*11+8,none⟩) lB).trans ((HCB.out 8 (by omega)).trans (by split<;>rfl)):u.cell? ⟨gB,at'*11+8,none⟩=some (.int .i64 (if oe=true then th else cur.thn)))
  have K9:Hid (u.cell? ⟨gB,at'*11+9,none⟩=some (.int .i64 cur.els)):=((hb.cell (p:=⟨gB,at'*11+9,none⟩) lB).trans ((HCB.out 9 (by omega)).trans (by split<;>rfl)):u.cell? ⟨gB,at'*11+9,none⟩=some (.int .i64 cur.els))
  have hRn:=M1.out.R;rw[HPP.out]at hRn;have hne:¬gO=gB:=fun e=>hRn.dis 0 (1+(ib.length+3)) _ _ (by omega) rfl (srcR_last (ex:=exP S (.slice (some ⟨gO,0,none⟩) (os.length+1) cO)) HIL.out) gO rfl (by rw[e];rfl)
  have hne2:¬gB=gO:=fun e=>hne e.symm
  have OB:Hid (u.ownsRow B 93 11 (.slice (some ⟨gB,0,none⟩) (bodS S).length cB) (pat S.op (bodS S)).length (cs (pat S.op (bodS S)))):=hRn.own _ _ (srcR_last (ex:=exP S (.slice (some ⟨gO,0,none⟩) (os.length+1) cO)) HIL.out);clear hRn;clear hb HCB HFB HFO HO0 HO1 C13 C3 HCL;by_cases h1:f.length=1
  rotate_left
  ·have e1:((f.length:Int) !=1)=true:=by rw[bne_iff_ne];omega
   have HN:Hid (RR=none):=(by rw[<-HRR.out];unfold elsS;rw[HOP.out];simp only;rw[if_neg (fun h=>h1 h.1)]:RR=none)
   clear h1;go_wp2_with fail;go_ret;rw[HN.out];exact⟨F1.out,rfl,fun _ h=>(by cases h)⟩
  have e1:((f.length:Int) !=1)=false:=by rw[bne_eq_false_iff_eq];omega
  have HF1:Hid (f.length=1):=h1;clear h1;by_cases hk:cur.k=2
  rotate_left
  ·have e5:(cur.k !=2)=true:=by rw[bne_iff_ne];exact hk
   have HN:Hid (RR=none):=(by rw[<-HRR.out];unfold elsS;rw[HOP.out];simp only;rw[if_neg (fun h=>hk (by have:=h.2.2;rw[HCUR.out]at this;exact this))]:RR=none)
   clear hk;go_wp2_with fail;go_ret;rw[HN.out];exact⟨F1.out,rfl,fun _ h=>(by cases h)⟩
  have e5:(cur.k !=2)=false:=by rw[bne_eq_false_iff_eq];exact hk
  have HK2:Hid (cur.k=2):=hk;clear hk;cases oe with
  |true=>
   have HN:Hid (RR=none):=(by rw[<-HRR.out];unfold elsS;rw[HOP.out];simp only;rw[if_neg (fun h=>by cases h.2.1)]:RR=none)
   go_wp2_with fail;go_ret;rw[HN.out];exact⟨F1.out,rfl,fun _ h=>(by cases h)⟩
  |false=>
   have HN:Hid (RR=some {S with op:=⟨at',nn,true⟩::os}):=(by rw[<-HRR.out];unfold elsS;rw[HOP.out];simp only;rw[if_pos ⟨HF1.out,(by first|rfl|trivial),by rw[HCUR.out];exact HK2.out⟩,HNN.out]:RR=some {S with op:=⟨at',nn,true⟩::os})
   have k8:=K8.out;rw[if_neg (by decide)]at k8;go_upto_region 5 with fail;have hR:=M1.out.R;rw[HPP.out]at hR;dsimp only at hR;obtain⟨q1,q2⟩:=hR.bodySet (b':=pat (⟨at',nn,true⟩::os) (bodS S)) (j:=at'*11+8) (u:=.int .i64 nn) HIL.out (by rw[pat_len,pat_len]) (by
    have hp:=HPT.out;rw[HOP.out];show(cs (pat os (bodS S))).set (at'*11+8) _=cs ((pat os (bodS S)).set at' {(pat os (bodS S)).getD at' sv0 with thn:=nn});exact cs_set 8 (by rw[pat_len];exact hol) (by omega) _ _ rfl)
   obtain⟨q3,q4,q5⟩:=q1.setO HOP.out nn;have f2:Fm tsP B u (u.setCell ⟨gB,at'*11+8,none⟩ (.int .i64 nn)):=Fm.of_grow OB.out (Nat.le_refl _) q2 hBu (by decide);have f3:Fm tsP B (u.setCell ⟨gB,at'*11+8,none⟩ (.int .i64 nn)) ((u.setCell ⟨gB,at'*11+8,none⟩ (.int .i64 nn)).setCell ⟨gO,os.length*2+1,none⟩ (.bool true)):=Fm.of_grow q5 (Nat.le_refl _) q4 (by simpa using hBu) (by decide);have pk:=(M1.out.pk.fm f2).fm f3;have cc:((u.setCell ⟨gB,at'*11+8,none⟩ (.int .i64 nn)).setCell ⟨gO,os.length*2+1,none⟩ (.bool true)).heap[rb]?=some (.cells (rcL S sH sR ⟨some ⟨g,0,none⟩,ib.length+1,cP⟩ ⟨some ⟨gO,0,none⟩,os.length+1,cO⟩ sb km).toArray 60):=keep_c (keep_c M1.out.C OB.out (by decide) q2) q5 (by decide) q4;have M2:Hid (PR ((u.setCell ⟨gB,at'*11+8,none⟩ (.int .i64 nn)).setCell ⟨gO,os.length*2+1,none⟩ (.bool true)) B {S with op:=⟨at',nn,true⟩::os} rb sb nb ob mf km sH sR ⟨some ⟨g,0,none⟩,ib.length+1,cP⟩ ⟨some ⟨gO,0,none⟩,os.length+1,cO⟩ (ib++[Value.slice (some ⟨gB,0,none⟩) (bodS S).length cB])):=(⟨cc,(by rw[ppl_last (S:={S with op:=⟨at',nn,true⟩::os}) HNE.out];exact q3),M1.out.L,M1.out.I.els HOP.out rfl,pk.SC,pk.OA,pk.K,pk.E,pk.b,pk.m,pk.p⟩:PR ((u.setCell ⟨gB,at'*11+8,none⟩ (.int .i64 nn)).setCell ⟨gO,os.length*2+1,none⟩ (.bool true)) B {S with op:=⟨at',nn,true⟩::os} rb sb nb ob mf km sH sR ⟨some ⟨g,0,none⟩,ib.length+1,cP⟩ ⟨some ⟨gO,0,none⟩,os.length+1,cO⟩ (ib++[Value.slice (some ⟨gB,0,none⟩) (bodS S).length cB]))
   have F2:Hid (Fm tsP B w ((u.setCell ⟨gB,at'*11+8,none⟩ (.int .i64 nn)).setCell ⟨gO,os.length*2+1,none⟩ (.bool true))):=(F1.out.trans f2).trans f3;clear f2 f3 pk cc q1 q2 q3 q4 q5 hR k0 k1 k8 kfB kfO OB M1;generalize(u.setCell ⟨gB,at'*11+8,none⟩ (.int .i64 nn)).setCell ⟨gO,os.length*2+1,none⟩ (.bool true)=u2 at M2 F2⊢;go_wp2_with fail;go_ret;rw[HN.out];exact⟨F2.out,rfl,fun _ h=>by cases h;exact⟨_,_,_,_,_,M2.out⟩⟩
theorem endLine_any(B:Nat)(S:PS)(rb sb nb ob mf km:Nat)(sH sR sP sO:Sl)(bv:List Value)(f:List (List UInt8))(fb fc:Nat)(w:World)(hB:B<=w.heap.size)(hm:PR w B S rb sb nb ob mf km sH sR sP sO bv)(hbd:Bnd S 100000):
 Calls Tryz.prog 35 #[.pointer (some ⟨rb,0,none⟩),.slice (some ⟨fb,0,none⟩) f.length fc] w fun e w'=>PA B w rb sb nb ob mf km (endS S f) e w':=by
 obtain⟨RR,hRR⟩:∃y,endS S f=y:=⟨_,rfl⟩
 rw[hRR]
 have HRR:Hid (endS S f=RR):=hRR
 clear hRR
 cases hop:S.op with
 |nil=>
  have HN:Hid (RR=none):=(by rw[<-HRR.out];unfold endS;rw[hop]:RR=none)
  have h13:w.cell? ⟨rb,13,none⟩=some (.slice sO.a sO.n sO.c):=hm.cells.2.2.2.2.2.1
  have hn0:sO.n=0:=by rw[(pk_row hm).2.2.2,hop];rfl
  have HN0:Hid (sO.n=0):=hn0
  have H13:Hid (w.cell? ⟨rb,13,none⟩=some (.slice sO.a sO.n sO.c)):=h13
  clear hm hop h13 hn0 hbd
  go_enter Tryz.func35,Tryz.ntmps35
  go_wp2_with fail
  refine(innermost_nil rb sO.n sO.c sO.a w HN0.out H13.out).mono ?_
  rintro e u⟨rfl,hu⟩
  rw[hu]
  clear hu
  by_cases h1:f.length=1
  ·have e1:((f.length:Int) !=1)=false:=by rw[bne_eq_false_iff_eq];omega
   clear h1
   go_wp2_with fail
   go_ret
   rw[HN.out]
   exact⟨Fm.refl _ _ _,rfl,fun _ h=>(by cases h)⟩
  ·have e1:((f.length:Int) !=1)=true:=by rw[bne_iff_ne];omega
   clear h1
   go_wp2_with fail
   go_ret
   rw[HN.out]
   exact⟨Fm.refl _ _ _,rfl,fun _ h=>(by cases h)⟩
 |cons o os=>
  have HOP:Hid (S.op=o::os):=hop
  obtain⟨h3,ib,g,gB,gO,cB,hbv,hpp,hil,hPa,hPn,hcl,hOa,hOn,hOc,ho0,ho1,hcb,hfb,hfo,lB,lO,hol⟩:=hm.apart hop
  obtain⟨aP,nP,cP⟩:=sP
  obtain⟨aO,nO,cO⟩:=sO
  dsimp only at hPa hPn hOa hOn hOc hm⊢
  subst hPa hPn hOa hOn hbv
  have M:Hid (PR w B S rb sb nb ob mf km sH sR ⟨some ⟨g,0,none⟩,ib.length+1,cP⟩ ⟨some ⟨gO,0,none⟩,os.length+1,cO⟩ (ib++[Value.slice (some ⟨gB,0,none⟩) (bodS S).length cB])):=hm
  have hi6:ib.length<1000000:=by have h1:=hm.L;have:=hbd.ps;simp at h1;omega
  have hl6:(bodS S).length<=1000000:=by have:=hbd.bd;omega
  have ho6:os.length<1000000:=by have:=hbd.op;rw[hop]at this;simp at this;omega
  have hth:=hbd.th o (by rw[hop];simp)
  obtain⟨c0,c1,c2,c3,c4,c13,c14,c15,c5,cf⟩:=hm.cells
  have HPP:Hid (ppl S=S.ps.dropLast++[pat S.op (bodS S)]):=hpp
  have HIL:Hid (ib.length=S.ps.dropLast.length):=hil
  have HPT:Hid _:=pat_at hm.I hop
  have HNE:Hid (S.ps≠[]):=hm.I.ps h3
  obtain⟨cur,hcur⟩:∃y,(bodS S).getD o.at' sv0=y:=⟨_,rfl⟩
  have HCUR:Hid ((bodS S).getD o.at' sv0=cur):=hcur
  rw[(pat_at hm.I hop).2.1,hcur]at hcb
  have H3:Hid (S.st=3):=h3
  have HCL:Hid (w.cell? ⟨g,ib.length,none⟩=some (.slice (some ⟨gB,0,none⟩) (bodS S).length cB)):=hcl
  have C13:Hid _:=c13
  have C3:Hid _:=c3
  have HO0:Hid (w.cell? ⟨gO,os.length*2,none⟩=some (.int .i64 (o.at':Int))):=ho0
  have HO1:Hid (w.cell? ⟨gO,os.length*2+1,none⟩=some (.bool o.els)):=ho1
  have HCB:Hid (∀j,j<11->w.cell? ⟨gB,o.at'*11+j,none⟩=(stL (if o.els=true then{cur with thn:=o.th}else cur))[j]?):=hcb
  have HFB:Hid (∀i,w.frozen? ⟨gB,i,none⟩=false):=hfb
  have HFO:Hid (∀i,w.frozen? ⟨gO,i,none⟩=false):=hfo
  obtain⟨nn,hnn⟩:∃y:Int,((bodS S).length:Int)-(o.at':Int)-1=y:=⟨_,rfl⟩
  have HNN:Hid (((bodS S).length:Int)-(o.at':Int)-1=nn):=hnn
  have nn0:0<=nn:=by omega
  have nn1:nn<=1000000:=by omega
  clear hm hop hpp hil hcur h3 hcl c0 c1 c2 c3 c4 c13 c14 c15 c5 cf ho0 ho1 hcb hfb hfo hbd hnn
  obtain⟨at',th,oe⟩:=o
  dsimp only at *
  go_enter Tryz.func35,Tryz.ntmps35
  go_wp2_with fail
  refine(innermost_any rb gO os.length cO g ib.length cP gB (bodS S).length cB at' w ho6 hi6 hl6 hol C13.out C3.out HO0.out HCL.out).mono ?_
  rintro e u⟨rfl,hb⟩
  rw[HNN.out]
  have M1:Hid (PR u B S rb sb nb ob mf km sH sR ⟨some ⟨g,0,none⟩,ib.length+1,cP⟩ ⟨some ⟨gO,0,none⟩,os.length+1,cO⟩ (ib++[Value.slice (some ⟨gB,0,none⟩) (bodS S).length cB])):=M.out.below hb
  have F1:Hid (Fm tsP B w u):=Fm.of_below hb hB
  have hBu:B<=u.heap.size:=by have:=hb.size;omega
  have k0:u.cell? ⟨gB,at'*11,none⟩=some (.int .i64 cur.k):=(hb.cell (p:=⟨gB,at'*11,none⟩) lB).trans ((HCB.out 0 (by omega)).trans (by split<;>rfl))
  have k1:u.cell? ⟨gO,os.length*2+1,none⟩=some (.bool oe):=(hb.cell (p:=⟨gO,os.length*2+1,none⟩) lO).trans HO1.out
  have kfB:∀i,u.frozen? ⟨gB,i,none⟩=false:=fun i=>(hb.frozen (p:=⟨gB,i,none⟩) lB).trans (HFB.out i)
  have kfO:∀i,u.frozen? ⟨gO,i,none⟩=false:=fun i=>(hb.frozen (p:=⟨gO,i,none⟩) lO).trans (HFO.out i)
  have K8:Hid (u.cell? ⟨gB,at'*11+8,none⟩=some (.int .i64 (if oe=true then th else cur.thn))):=((hb.cell (p:=⟨gB,at'*11+8,none⟩) lB).trans ((HCB.out 8 (by omega)).trans (by split<;>rfl)):u.cell? ⟨gB,at'*11+8,none⟩=some (.int .i64 (if oe=true then th else cur.thn)))
  have K9:Hid (u.cell? ⟨gB,at'*11+9,none⟩=some (.int .i64 cur.els)):=((hb.cell (p:=⟨gB,at'*11+9,none⟩) lB).trans ((HCB.out 9 (by omega)).trans (by split<;>rfl)):u.cell? ⟨gB,at'*11+9,none⟩=some (.int .i64 cur.els))
  have hRn:=M1.out.R
  rw[HPP.out]at hRn
  have hne:¬gO=gB:=fun e=>hRn.dis 0 (1+(ib.length+3)) _ _ (by omega) rfl (srcR_last (ex:=exP S (.slice (some ⟨gO,0,none⟩) (os.length+1) cO)) HIL.out) gO rfl (by rw[e];rfl)
  have hne2:¬gB=gO:=fun e=>hne e.symm
  have OB:Hid (u.ownsRow B 93 11 (.slice (some ⟨gB,0,none⟩) (bodS S).length cB) (pat S.op (bodS S)).length (cs (pat S.op (bodS S)))):=hRn.own _ _ (srcR_last (ex:=exP S (.slice (some ⟨gO,0,none⟩) (os.length+1) cO)) HIL.out)
  clear hRn
  clear hb HCB HFB HFO HO0 HO1 C13 C3 HCL
  by_cases h1:f.length=1
  rotate_left
  ·have e1:((f.length:Int) !=1)=true:=by rw[bne_iff_ne];omega
   have HN:Hid (RR=none):=(by rw[<-HRR.out];unfold endS;rw[HOP.out];simp only;rw[if_neg (fun h=>h1 h)]:RR=none)
   clear h1
   go_wp2_with fail
   go_ret
   rw[HN.out]
   exact⟨F1.out,rfl,fun _ h=>(by cases h)⟩
  have e1:((f.length:Int) !=1)=false:=by rw[bne_eq_false_iff_eq];omega
  have HF1:Hid (f.length=1):=h1
  clear h1
  cases oe with
  |true=>
   have e8:IntKind.i64.wrap (nn-th)=nn-th:=by rw[IntKind.wrap_i64];omega
   have HN:Hid (RR=some {putS S ((bodS S).set at' {cur with thn:=th,els:=nn-th})with op:=os}):=(by rw[<-HRR.out];unfold endS;rw[HOP.out];simp only;rw[if_pos HF1.out,HCUR.out,HNN.out];rfl:RR=some {putS S ((bodS S).set at' {cur with thn:=th,els:=nn-th})with op:=os})
   have k8:=K8.out
   rw[if_pos rfl]at k8
   have k9:=K9.out
   go_upto_region 7 with fail
   have hR:=M1.out.R
   rw[HPP.out]at hR
   dsimp only at hR
   obtain⟨q1,q2⟩:=hR.bodySet (b':=pat os ((bodS S).set at' {cur with thn:=th,els:=nn-th})) (j:=at'*11+9) (u:=.int .i64 (nn-th)) HIL.out (by rw[pat_len,pat_len,List.length_set]) (by
    have hp:=HPT.out
    try dsimp only at hp
    rw[HOP.out,pat_set _ _ _ _ hp.2.2]
    show(cs ((pat os (bodS S)).set at' {(pat os (bodS S)).getD at' sv0 with thn:=th})).set (at'*11+9) _=_
    rw[cs_set 9 (by rw[List.length_set,pat_len];exact hol) (by omega) {cur with thn:=th,els:=nn-th} _ (by rw[List.getD_eq_getElem?_getD,List.getElem?_set,if_pos rfl,if_pos (by rw[pat_len];exact hol),hp.1,HCUR.out];rfl),List.set_set])
   have f2:Fm tsP B u (u.setCell ⟨gB,at'*11+9,none⟩ (.int .i64 (nn-th))):=Fm.of_grow OB.out (Nat.le_refl _) q2 hBu (by decide)
   have pk:=M1.out.pk.fm f2
   have cc:(u.setCell ⟨gB,at'*11+9,none⟩ (.int .i64 (nn-th))).heap[rb]?=some (.cells (rcL S sH sR ⟨some ⟨g,0,none⟩,ib.length+1,cP⟩ ⟨some ⟨gO,0,none⟩,os.length+1,cO⟩ sb km).toArray 60):=keep_c M1.out.C OB.out (by decide) q2
   have hB2:B<=(u.setCell ⟨gB,at'*11+9,none⟩ (.int .i64 (nn-th))).heap.size:=by simpa using hBu
   have R2:Hid (Rws (u.setCell ⟨gB,at'*11+9,none⟩ (.int .i64 (nn-th))) B (srcR (exP {putS S ((bodS S).set at' {cur with thn:=th,els:=nn-th})with op:=os} (.slice (some ⟨gO,0,none⟩) os.length cO)) S.hs S.rg (ppl {putS S ((bodS S).set at' {cur with thn:=th,els:=nn-th})with op:=os}) (.slice sH.a sH.n sH.c) (.slice sR.a sR.n sR.c) (.slice (some ⟨g,0,none⟩) (ib.length+1) cP) (ib++[Value.slice (some ⟨gB,0,none⟩) (bodS S).length cB]))):=(by
    have q:=q1.popO (S:=S) HOP.out {putS S ((bodS S).set at' {cur with thn:=th,els:=nn-th})with op:=os} rfl
    rw[ppl_last (S:={putS S ((bodS S).set at' {cur with thn:=th,els:=nn-th})with op:=os}) (by simp[putS])]
    have e1:bodS {putS S ((bodS S).set at' {cur with thn:=th,els:=nn-th})with op:=os}=((bodS S).set at' {cur with thn:=th,els:=nn-th}):=bod_put S _
    have e2:({putS S ((bodS S).set at' {cur with thn:=th,els:=nn-th})with op:=os}:PS).ps.dropLast=S.ps.dropLast:=by show(S.ps.dropLast++[_]).dropLast=_;simp
    rw[e1,e2]
    exact q:Rws (u.setCell ⟨gB,at'*11+9,none⟩ (.int .i64 (nn-th))) B (srcR (exP {putS S ((bodS S).set at' {cur with thn:=th,els:=nn-th})with op:=os} (.slice (some ⟨gO,0,none⟩) os.length cO)) S.hs S.rg (ppl {putS S ((bodS S).set at' {cur with thn:=th,els:=nn-th})with op:=os}) (.slice sH.a sH.n sH.c) (.slice sR.a sR.n sR.c) (.slice (some ⟨g,0,none⟩) (ib.length+1) cP) (ib++[Value.slice (some ⟨gB,0,none⟩) (bodS S).length cB])))
   have C2:Hid ((u.setCell ⟨gB,at'*11+9,none⟩ (.int .i64 (nn-th))).heap[rb]?=some (.cells (rcL S sH sR ⟨some ⟨g,0,none⟩,ib.length+1,cP⟩ ⟨some ⟨gO,0,none⟩,os.length+1,cO⟩ sb km).toArray 60)):=cc
   have K2:Hid (PK (u.setCell ⟨gB,at'*11+9,none⟩ (.int .i64 (nn-th))) B rb sb nb ob mf km):=pk
   have F2:Hid (Fm tsP B w (u.setCell ⟨gB,at'*11+9,none⟩ (.int .i64 (nn-th)))):=F1.out.trans f2
   have HIV:Hid (Inv {putS S ((bodS S).set at' {cur with thn:=th,els:=nn-th})with op:=os}):=M1.out.I.put ((bodS S).set at' {cur with thn:=th,els:=nn-th}) os H3.out (fun q hq=>by rw[List.length_set];exact M1.out.I.ol q (by rw[HOP.out];simp[hq])) (by have h:=M1.out.I.od;rw[HOP.out]at h;exact(List.pairwise_cons.1 h).2)
   have HLV:Hid ((ib++[Value.slice (some ⟨gB,0,none⟩) (bodS S).length cB]).length=({putS S ((bodS S).set at' {cur with thn:=th,els:=nn-th})with op:=os}:PS).ps.length):=(by show _=(S.ps.dropLast++[_]).length;rw[List.length_append,List.length_append,HIL.out];rfl:(ib++[Value.slice (some ⟨gB,0,none⟩) (bodS S).length cB]).length=({putS S ((bodS S).set at' {cur with thn:=th,els:=nn-th})with op:=os}:PS).ps.length)
   have HGL:Hid (S.gv.length=8):=M1.out.I.gv
   clear f2 pk cc q1 q2 hR k0 k1 k8 k9 kfB kfO OB M1 F1
   generalize u.setCell ⟨gB,at'*11+9,none⟩ (.int .i64 (nn-th))=u2 at R2 C2 K2 F2 hB2⊢
   have r0:∀w':World,w'.heap[rb]?=some (.cells (rcL S sH sR ⟨some ⟨g,0,none⟩,ib.length+1,cP⟩ ⟨some ⟨gO,0,none⟩,os.length+1,cO⟩ sb km).toArray 60)->w'.cell? ⟨rb,13,none⟩=some (.slice (some ⟨gO,0,none⟩) (os.length+1) cO):=fun w' h=>(hp_cell h 13).trans (rc13 S sH sR ⟨some ⟨g,0,none⟩,ib.length+1,cP⟩ ⟨some ⟨gO,0,none⟩,os.length+1,cO⟩ sb km HGL.out)
   have ea:((os.length+1:Nat):Int)-1=(os.length:Int):=by omega
   have ew:IntKind.i64.wrap (os.length:Int)=(os.length:Int):=by rw[IntKind.wrap_i64];omega
   have C3:Hid (u2.drew.heap[rb]?=some (.cells (rcL S sH sR ⟨some ⟨g,0,none⟩,ib.length+1,cP⟩ ⟨some ⟨gO,0,none⟩,os.length+1,cO⟩ sb km).toArray 60)):=C2.out
   have R3:Hid _:=R2.out.below (Below.refl u2.heap.size u2).drew
   have K3:Hid (PK u2.drew B rb sb nb ob mf km):=K2.out.fm (Fm.of_below (Below.refl u2.heap.size u2).drew hB2)
   have F3:Hid (Fm tsP B w u2.drew):=F2.out.below (Below.refl _ _).drew hB2
   refine wp_region_L (T:=fun w'=>w'.heap[rb]?=some (.cells (rcL S sH sR ⟨some ⟨g,0,none⟩,ib.length+1,cP⟩ ⟨some ⟨gO,0,none⟩,os.length+1,cO⟩ sb km).toArray 60)) (s:=14) (by kernel_rfl) C3.out (fun hHeld=>?_)
   clear R2 C2 K2 F2
   generalize u2.drew=t0 at hHeld R3 C3 K3 F3⊢
   refine wpAnyL_tk 0 ?k1v rfl ?k1y ?k1r
   case k1y=>(intro w hSw;(try dsimp only at hSw);go_simp;try with_reducible rfl)
   try simp only[Act.put,List.getElem_toArray,List.getElem_cons_zero,List.setIfInBounds_toArray,List.set_cons_zero,List.set_cons_succ]
   refine wpAnyL_tk 1 ?k2v rfl ?k2y ?k2r
   case k2y=>(intro w hSw;(try dsimp only at hSw);go_simp;try with_reducible rfl)
   try simp only[Act.put,List.getElem_toArray,List.getElem_cons_zero,List.getElem_cons_succ,List.setIfInBounds_toArray,List.set_cons_zero,List.set_cons_succ]
   refine wpAnyL_tk 2 ?k3v rfl ?k3y ?k3r
   case k3y=>(intro w hSw;(try dsimp only at hSw);go_simp;try with_reducible rfl)
   try simp only[Act.put,List.getElem_toArray,List.getElem_cons_zero,List.getElem_cons_succ,List.setIfInBounds_toArray,List.set_cons_zero,List.set_cons_succ]
   refine wpAnyL_tk 3 ?k4v rfl ?k4y ?k4r
   case k4y=>(intro w hSw;(try dsimp only at hSw);go_simp;try with_reducible rfl)
   try simp only[Act.put,List.getElem_toArray,List.getElem_cons_zero,List.getElem_cons_succ,List.setIfInBounds_toArray,List.set_cons_zero,List.set_cons_succ]
   refine wpAnyL_tk 4 ?k5v rfl ?k5y ?k5r
   case k5y=>(intro w hSw;(try dsimp only at hSw);go_simp;try with_reducible rfl)
   try simp only[Act.put,List.getElem_toArray,List.getElem_cons_zero,List.getElem_cons_succ,List.setIfInBounds_toArray,List.set_cons_zero,List.set_cons_succ]
   refine wpAnyL_tk 5 ?k6v rfl ?k6y ?k6r
   case k6y=>(intro w hSw;(try dsimp only at hSw);go_simp;try with_reducible rfl)
   try simp only[Act.put,List.getElem_toArray,List.getElem_cons_zero,List.getElem_cons_succ,List.setIfInBounds_toArray,List.set_cons_zero,List.set_cons_succ]
   refine wpAnyL_tk 6 ?k7v rfl ?k7y ?k7r
   case k7y=>(intro w hSw;(try dsimp only at hSw);go_simp;try with_reducible rfl)
   try simp only[Act.put,List.getElem_toArray,List.getElem_cons_zero,List.getElem_cons_succ,List.setIfInBounds_toArray,List.set_cons_zero,List.set_cons_succ]
   refine wpAnyL_tk 7 ?k8v rfl ?k8y ?k8r
   case k8y=>(intro w hSw;(try dsimp only at hSw);go_simp;try with_reducible rfl)
   try simp only[Act.put,List.getElem_toArray,List.getElem_cons_zero,List.getElem_cons_succ,List.setIfInBounds_toArray,List.set_cons_zero,List.set_cons_succ]
   refine wpAnyL_tk 8 ?k9v rfl ?k9y ?k9r
   case k9y=>(intro w hSw;(try dsimp only at hSw);go_simp;try with_reducible rfl)
   try simp only[Act.put,List.getElem_toArray,List.getElem_cons_zero,List.getElem_cons_succ,List.setIfInBounds_toArray,List.set_cons_zero,List.set_cons_succ]
   refine wpAnyL_tk 9 ?k10v rfl ?k10y ?k10r
   case k10y=>(intro w hSw;(try dsimp only at hSw);go_simp;try with_reducible rfl)
   try simp only[Act.put,List.getElem_toArray,List.getElem_cons_zero,List.getElem_cons_succ,List.setIfInBounds_toArray,List.set_cons_zero,List.set_cons_succ]
   refine wpAnyL_tk 10 ?k11v rfl ?k11y ?k11r
   case k11y=>(intro w hSw;(try dsimp only at hSw);go_simp;try with_reducible rfl)
   try simp only[Act.put,List.getElem_toArray,List.getElem_cons_zero,List.getElem_cons_succ,List.setIfInBounds_toArray,List.set_cons_zero,List.set_cons_succ]
   refine wpAnyL_tk 11 ?k12v rfl ?k12y ?k12r
   case k12y=>(intro w hSw;(try dsimp only at hSw);go_simp;try with_reducible rfl)
   try simp only[Act.put,List.getElem_toArray,List.getElem_cons_zero,List.getElem_cons_succ,List.setIfInBounds_toArray,List.set_cons_zero,List.set_cons_succ]
   refine wpAnyL_tkT 12 ?k13v rfl ?k13y ?k13r
   case k13y=>(intro w hSw;(try dsimp only at hSw);go_simp;try with_reducible rfl)
   try simp only[Act.put,List.getElem_toArray,List.getElem_cons_zero,List.getElem_cons_succ,List.setIfInBounds_toArray,List.set_cons_zero,List.set_cons_succ]
   refine wpAnyL_tk 13 ?k14v rfl ?k14y ?k14r
   case k14y=>(intro w hSw;(try dsimp only at hSw);go_simp;try with_reducible rfl)
   try simp only[Act.put,List.getElem_toArray,List.getElem_cons_zero,List.getElem_cons_succ,List.setIfInBounds_toArray,List.set_cons_zero,List.set_cons_succ]
   obtain⟨m6,f6⟩:=PR.set (S':={putS S ((bodS S).set at' {cur with thn:=th,els:=nn-th})with op:=os}) (sO':=⟨some ⟨gO,0,none⟩,os.length,cO⟩) C3.out (rcL_set13 S {putS S ((bodS S).set at' {cur with thn:=th,els:=nn-th})with op:=os} sH sR ⟨some ⟨g,0,none⟩,ib.length+1,cP⟩ ⟨some ⟨gO,0,none⟩,os.length+1,cO⟩ ⟨some ⟨gO,0,none⟩,os.length,cO⟩ sb km HGL.out rfl rfl rfl) R3.out HLV.out HIV.out K3.out
   have M6:Hid _:=m6
   have F6:Hid _:=F3.out.trans f6
   have y1:=r0 t0 C3.out
   have yf:=hp_frz C3.out
   clear m6 f6 r0 hHeld
   refine wpAnyL_store rfl (by kernel_rfl) (by kernel_rfl) (fun KK hK=>?_)
   go_simp
   refine hK.out _ _ ?_
   clear hK KK y1 yf
   go_wp2_with fail
   go_ret
   rw[HN.out]
   exact⟨F6.out,rfl,fun _ h=>by cases h;exact⟨_,_,_,_,_,M6.out⟩⟩
  |false=>
   have HN:Hid (RR=some {putS S ((bodS S).set at' {cur with thn:=nn})with op:=os}):=(by rw[<-HRR.out];unfold endS;rw[HOP.out];simp only;rw[if_pos HF1.out,HCUR.out,HNN.out];rfl:RR=some {putS S ((bodS S).set at' {cur with thn:=nn})with op:=os})
   have k8:=K8.out
   rw[if_neg (by decide)]at k8
   have k9:=K9.out
   go_upto_region 7 with fail
   have hR:=M1.out.R
   rw[HPP.out]at hR
   dsimp only at hR
   obtain⟨q1,q2⟩:=hR.bodySet (b':=pat os ((bodS S).set at' {cur with thn:=nn})) (j:=at'*11+8) (u:=.int .i64 nn) HIL.out (by rw[pat_len,pat_len,List.length_set]) (by
    have hp:=HPT.out
    try dsimp only at hp
    rw[HOP.out,pat_set _ _ _ _ hp.2.2]
    show(cs (pat os (bodS S))).set (at'*11+8) _=_
    exact cs_set 8 (by rw[pat_len];exact hol) (by omega) _ _ (by rw[hp.1,HCUR.out];rfl))
   have f2:Fm tsP B u (u.setCell ⟨gB,at'*11+8,none⟩ (.int .i64 nn)):=Fm.of_grow OB.out (Nat.le_refl _) q2 hBu (by decide)
   have pk:=M1.out.pk.fm f2
   have cc:(u.setCell ⟨gB,at'*11+8,none⟩ (.int .i64 nn)).heap[rb]?=some (.cells (rcL S sH sR ⟨some ⟨g,0,none⟩,ib.length+1,cP⟩ ⟨some ⟨gO,0,none⟩,os.length+1,cO⟩ sb km).toArray 60):=keep_c M1.out.C OB.out (by decide) q2
   have hB2:B<=(u.setCell ⟨gB,at'*11+8,none⟩ (.int .i64 nn)).heap.size:=by simpa using hBu
   have R2:Hid (Rws (u.setCell ⟨gB,at'*11+8,none⟩ (.int .i64 nn)) B (srcR (exP {putS S ((bodS S).set at' {cur with thn:=nn})with op:=os} (.slice (some ⟨gO,0,none⟩) os.length cO)) S.hs S.rg (ppl {putS S ((bodS S).set at' {cur with thn:=nn})with op:=os}) (.slice sH.a sH.n sH.c) (.slice sR.a sR.n sR.c) (.slice (some ⟨g,0,none⟩) (ib.length+1) cP) (ib++[Value.slice (some ⟨gB,0,none⟩) (bodS S).length cB]))):=(by
    have q:=q1.popO (S:=S) HOP.out {putS S ((bodS S).set at' {cur with thn:=nn})with op:=os} rfl
    rw[ppl_last (S:={putS S ((bodS S).set at' {cur with thn:=nn})with op:=os}) (by simp[putS])]
    have e1:bodS {putS S ((bodS S).set at' {cur with thn:=nn})with op:=os}=((bodS S).set at' {cur with thn:=nn}):=bod_put S _
    have e2:({putS S ((bodS S).set at' {cur with thn:=nn})with op:=os}:PS).ps.dropLast=S.ps.dropLast:=by show(S.ps.dropLast++[_]).dropLast=_;simp
    rw[e1,e2]
    exact q:Rws (u.setCell ⟨gB,at'*11+8,none⟩ (.int .i64 nn)) B (srcR (exP {putS S ((bodS S).set at' {cur with thn:=nn})with op:=os} (.slice (some ⟨gO,0,none⟩) os.length cO)) S.hs S.rg (ppl {putS S ((bodS S).set at' {cur with thn:=nn})with op:=os}) (.slice sH.a sH.n sH.c) (.slice sR.a sR.n sR.c) (.slice (some ⟨g,0,none⟩) (ib.length+1) cP) (ib++[Value.slice (some ⟨gB,0,none⟩) (bodS S).length cB])))
   have C2:Hid ((u.setCell ⟨gB,at'*11+8,none⟩ (.int .i64 nn)).heap[rb]?=some (.cells (rcL S sH sR ⟨some ⟨g,0,none⟩,ib.length+1,cP⟩ ⟨some ⟨gO,0,none⟩,os.length+1,cO⟩ sb km).toArray 60)):=cc
   have K2:Hid (PK (u.setCell ⟨gB,at'*11+8,none⟩ (.int .i64 nn)) B rb sb nb ob mf km):=pk
   have F2:Hid (Fm tsP B w (u.setCell ⟨gB,at'*11+8,none⟩ (.int .i64 nn))):=F1.out.trans f2
   have HIV:Hid (Inv {putS S ((bodS S).set at' {cur with thn:=nn})with op:=os}):=M1.out.I.put ((bodS S).set at' {cur with thn:=nn}) os H3.out (fun q hq=>by rw[List.length_set];exact M1.out.I.ol q (by rw[HOP.out];simp[hq])) (by have h:=M1.out.I.od;rw[HOP.out]at h;exact(List.pairwise_cons.1 h).2)
   have HLV:Hid ((ib++[Value.slice (some ⟨gB,0,none⟩) (bodS S).length cB]).length=({putS S ((bodS S).set at' {cur with thn:=nn})with op:=os}:PS).ps.length):=(by show _=(S.ps.dropLast++[_]).length;rw[List.length_append,List.length_append,HIL.out];rfl:(ib++[Value.slice (some ⟨gB,0,none⟩) (bodS S).length cB]).length=({putS S ((bodS S).set at' {cur with thn:=nn})with op:=os}:PS).ps.length)
   have HGL:Hid (S.gv.length=8):=M1.out.I.gv
   clear f2 pk cc q1 q2 hR k0 k1 k8 k9 kfB kfO OB M1 F1
   generalize u.setCell ⟨gB,at'*11+8,none⟩ (.int .i64 nn)=u2 at R2 C2 K2 F2 hB2⊢
   have r0:∀w':World,w'.heap[rb]?=some (.cells (rcL S sH sR ⟨some ⟨g,0,none⟩,ib.length+1,cP⟩ ⟨some ⟨gO,0,none⟩,os.length+1,cO⟩ sb km).toArray 60)->w'.cell? ⟨rb,13,none⟩=some (.slice (some ⟨gO,0,none⟩) (os.length+1) cO):=fun w' h=>(hp_cell h 13).trans (rc13 S sH sR ⟨some ⟨g,0,none⟩,ib.length+1,cP⟩ ⟨some ⟨gO,0,none⟩,os.length+1,cO⟩ sb km HGL.out)
   have ea:((os.length+1:Nat):Int)-1=(os.length:Int):=by omega
   have ew:IntKind.i64.wrap (os.length:Int)=(os.length:Int):=by rw[IntKind.wrap_i64];omega
   have C3:Hid (u2.drew.heap[rb]?=some (.cells (rcL S sH sR ⟨some ⟨g,0,none⟩,ib.length+1,cP⟩ ⟨some ⟨gO,0,none⟩,os.length+1,cO⟩ sb km).toArray 60)):=C2.out
   have R3:Hid _:=R2.out.below (Below.refl u2.heap.size u2).drew
   have K3:Hid (PK u2.drew B rb sb nb ob mf km):=K2.out.fm (Fm.of_below (Below.refl u2.heap.size u2).drew hB2)
   have F3:Hid (Fm tsP B w u2.drew):=F2.out.below (Below.refl _ _).drew hB2
   refine wp_region_L (T:=fun w'=>w'.heap[rb]?=some (.cells (rcL S sH sR ⟨some ⟨g,0,none⟩,ib.length+1,cP⟩ ⟨some ⟨gO,0,none⟩,os.length+1,cO⟩ sb km).toArray 60)) (s:=14) (by kernel_rfl) C3.out (fun hHeld=>?_)
   clear R2 C2 K2 F2
   generalize u2.drew=t0 at hHeld R3 C3 K3 F3⊢
   refine wpAnyL_tk 0 ?k15v rfl ?k15y ?k15r
   case k15y=>(intro w hSw;(try dsimp only at hSw);go_simp;try with_reducible rfl)
   try simp only[Act.put,List.getElem_toArray,List.getElem_cons_zero,List.setIfInBounds_toArray,List.set_cons_zero,List.set_cons_succ]
   refine wpAnyL_tk 1 ?k16v rfl ?k16y ?k16r
   case k16y=>(intro w hSw;(try dsimp only at hSw);go_simp;try with_reducible rfl)
   try simp only[Act.put,List.getElem_toArray,List.getElem_cons_zero,List.getElem_cons_succ,List.setIfInBounds_toArray,List.set_cons_zero,List.set_cons_succ]
   refine wpAnyL_tk 2 ?k17v rfl ?k17y ?k17r
   case k17y=>(intro w hSw;(try dsimp only at hSw);go_simp;try with_reducible rfl)
   try simp only[Act.put,List.getElem_toArray,List.getElem_cons_zero,List.getElem_cons_succ,List.setIfInBounds_toArray,List.set_cons_zero,List.set_cons_succ]
   refine wpAnyL_tk 3 ?k18v rfl ?k18y ?k18r
   case k18y=>(intro w hSw;(try dsimp only at hSw);go_simp;try with_reducible rfl)
   try simp only[Act.put,List.getElem_toArray,List.getElem_cons_zero,List.getElem_cons_succ,List.setIfInBounds_toArray,List.set_cons_zero,List.set_cons_succ]
   refine wpAnyL_tk 4 ?k19v rfl ?k19y ?k19r
   case k19y=>(intro w hSw;(try dsimp only at hSw);go_simp;try with_reducible rfl)
   try simp only[Act.put,List.getElem_toArray,List.getElem_cons_zero,List.getElem_cons_succ,List.setIfInBounds_toArray,List.set_cons_zero,List.set_cons_succ]
   refine wpAnyL_tk 5 ?k20v rfl ?k20y ?k20r
   case k20y=>(intro w hSw;(try dsimp only at hSw);go_simp;try with_reducible rfl)
   try simp only[Act.put,List.getElem_toArray,List.getElem_cons_zero,List.getElem_cons_succ,List.setIfInBounds_toArray,List.set_cons_zero,List.set_cons_succ]
   refine wpAnyL_tk 6 ?k21v rfl ?k21y ?k21r
   case k21y=>(intro w hSw;(try dsimp only at hSw);go_simp;try with_reducible rfl)
   try simp only[Act.put,List.getElem_toArray,List.getElem_cons_zero,List.getElem_cons_succ,List.setIfInBounds_toArray,List.set_cons_zero,List.set_cons_succ]
   refine wpAnyL_tk 7 ?k22v rfl ?k22y ?k22r
   case k22y=>(intro w hSw;(try dsimp only at hSw);go_simp;try with_reducible rfl)
   try simp only[Act.put,List.getElem_toArray,List.getElem_cons_zero,List.getElem_cons_succ,List.setIfInBounds_toArray,List.set_cons_zero,List.set_cons_succ]
   refine wpAnyL_tk 8 ?k23v rfl ?k23y ?k23r
   case k23y=>(intro w hSw;(try dsimp only at hSw);go_simp;try with_reducible rfl)
   try simp only[Act.put,List.getElem_toArray,List.getElem_cons_zero,List.getElem_cons_succ,List.setIfInBounds_toArray,List.set_cons_zero,List.set_cons_succ]
   refine wpAnyL_tk 9 ?k24v rfl ?k24y ?k24r
   case k24y=>(intro w hSw;(try dsimp only at hSw);go_simp;try with_reducible rfl)
   try simp only[Act.put,List.getElem_toArray,List.getElem_cons_zero,List.getElem_cons_succ,List.setIfInBounds_toArray,List.set_cons_zero,List.set_cons_succ]
   refine wpAnyL_tk 10 ?k25v rfl ?k25y ?k25r
   case k25y=>(intro w hSw;(try dsimp only at hSw);go_simp;try with_reducible rfl)
   try simp only[Act.put,List.getElem_toArray,List.getElem_cons_zero,List.getElem_cons_succ,List.setIfInBounds_toArray,List.set_cons_zero,List.set_cons_succ]
   refine wpAnyL_tk 11 ?k26v rfl ?k26y ?k26r
   case k26y=>(intro w hSw;(try dsimp only at hSw);go_simp;try with_reducible rfl)
   try simp only[Act.put,List.getElem_toArray,List.getElem_cons_zero,List.getElem_cons_succ,List.setIfInBounds_toArray,List.set_cons_zero,List.set_cons_succ]
   refine wpAnyL_tkT 12 ?k27v rfl ?k27y ?k27r
   case k27y=>(intro w hSw;(try dsimp only at hSw);go_simp;try with_reducible rfl)
   try simp only[Act.put,List.getElem_toArray,List.getElem_cons_zero,List.getElem_cons_succ,List.setIfInBounds_toArray,List.set_cons_zero,List.set_cons_succ]
   refine wpAnyL_tk 13 ?k28v rfl ?k28y ?k28r
   case k28y=>(intro w hSw;(try dsimp only at hSw);go_simp;try with_reducible rfl)
   try simp only[Act.put,List.getElem_toArray,List.getElem_cons_zero,List.getElem_cons_succ,List.setIfInBounds_toArray,List.set_cons_zero,List.set_cons_succ]
   obtain⟨m6,f6⟩:=PR.set (S':={putS S ((bodS S).set at' {cur with thn:=nn})with op:=os}) (sO':=⟨some ⟨gO,0,none⟩,os.length,cO⟩) C3.out (rcL_set13 S {putS S ((bodS S).set at' {cur with thn:=nn})with op:=os} sH sR ⟨some ⟨g,0,none⟩,ib.length+1,cP⟩ ⟨some ⟨gO,0,none⟩,os.length+1,cO⟩ ⟨some ⟨gO,0,none⟩,os.length,cO⟩ sb km HGL.out rfl rfl rfl) R3.out HLV.out HIV.out K3.out
   have M6:Hid _:=m6
   have F6:Hid _:=F3.out.trans f6
   have y1:=r0 t0 C3.out
   have yf:=hp_frz C3.out
   clear m6 f6 r0 hHeld
   refine wpAnyL_store rfl (by kernel_rfl) (by kernel_rfl) (fun KK hK=>?_)
   go_simp
   refine hK.out _ _ ?_
   clear hK KK y1 yf
   go_wp2_with fail
   go_ret
   rw[HN.out]
   exact⟨F6.out,rfl,fun _ h=>by cases h;exact⟨_,_,_,_,_,M6.out⟩⟩
end Go.Proofs.YtblfmpgdhpbffaaGreatDoor
