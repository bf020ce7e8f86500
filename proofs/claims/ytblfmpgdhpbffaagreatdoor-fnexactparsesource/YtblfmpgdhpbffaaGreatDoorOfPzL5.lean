import Derived.Test.YtblfmpgdhpbffaaGreatDoorOfPzL2
import Derived.Test.YtblfmpgdhpbffaaGreatDoorPzPut
set_option maxHeartbeats 6400000
set_option maxRecDepth 20000
namespace Go.Proofs.YtblfmpgdhpbffaaGreatDoor
open Go.RowKit Go.Proofs
theorem body_any(rb g k cP:Nat)(w:World)(hk:k<1000000)(hc:w.cell? ⟨rb,3,none⟩=some (.slice (some ⟨g,0,none⟩) (k+1) cP)):
 Calls Tryz.prog 97 #[.pointer (some ⟨rb,0,none⟩)] w fun e w'=>e=.returned (.pointer (some ⟨g,k,none⟩))/\Below w.heap.size w w':=by
 have ea:((k+1:Nat):Int)-1=(k:Int):=by omega
 have ew:IntKind.i64.wrap (k:Int)=(k:Int):=by rw[IntKind.wrap_i64];omega
 have eb:(k:Int)<(k:Int)+1:=by omega
 go_enter Tryz.func97,Tryz.ntmps97
 go_upto_region 1 with fail
 have r0:∀w':World,Below w.heap.size w w'->w'.cell? ⟨rb,3,none⟩=some (.slice (some ⟨g,0,none⟩) (k+1) cP):=fun w' h=>(h.cell (p:=⟨rb,3,none⟩) (World.block_lt_of_cell? _ _ hc)).trans hc
 refine wp_region_held_drew (S:=fun w'=>Below w.heap.size w w') (by kernel_rfl) (Below.refl _ _).drew (fun hHeld=>?_)
 have hb:Below w.heap.size w w.drew:=hHeld
 generalize w.drew=t0 at hHeld hb⊢
 refine wpAnyH_tk 0 ?k1v rfl ?k1y ?k1r
 case k1y=>(intro w hSw;(try dsimp only at hSw);go_simp;try with_reducible rfl)
 try simp only[Act.put,List.getElem_toArray,List.getElem_cons_zero,List.setIfInBounds_toArray,List.set_cons_zero,List.set_cons_succ]
 refine wpAnyH_tk 1 ?k2v rfl ?k2y ?k2r
 case k2y=>(intro w hSw;(try dsimp only at hSw);go_simp;try with_reducible rfl)
 try simp only[Act.put,List.getElem_toArray,List.getElem_cons_zero,List.getElem_cons_succ,List.setIfInBounds_toArray,List.set_cons_zero,List.set_cons_succ]
 refine wpAnyH_tk 2 ?k3v rfl ?k3y ?k3r
 case k3y=>(intro w hSw;(try dsimp only at hSw);go_simp;try with_reducible rfl)
 try simp only[Act.put,List.getElem_toArray,List.getElem_cons_zero,List.getElem_cons_succ,List.setIfInBounds_toArray,List.set_cons_zero,List.set_cons_succ]
 refine wpAnyH_tk 3 ?k4v rfl ?k4y ?k4r
 case k4y=>(intro w hSw;(try dsimp only at hSw);go_simp;try with_reducible rfl)
 try simp only[Act.put,List.getElem_toArray,List.getElem_cons_zero,List.getElem_cons_succ,List.setIfInBounds_toArray,List.set_cons_zero,List.set_cons_succ]
 refine wpAnyH_tk 4 ?k5v rfl ?k5y ?k5r
 case k5y=>(intro w hSw;(try dsimp only at hSw);go_simp;try with_reducible rfl)
 try simp only[Act.put,List.getElem_toArray,List.getElem_cons_zero,List.getElem_cons_succ,List.setIfInBounds_toArray,List.set_cons_zero,List.set_cons_succ]
 refine wpAnyH_tk 5 ?k6v rfl ?k6y ?k6r
 case k6y=>(intro w hSw;(try dsimp only at hSw);go_simp;try with_reducible rfl)
 try simp only[Act.put,List.getElem_toArray,List.getElem_cons_zero,List.getElem_cons_succ,List.setIfInBounds_toArray,List.set_cons_zero,List.set_cons_succ]
 refine wpAnyH_tk 6 ?k7v rfl ?k7y ?k7r
 case k7y=>(intro w hSw;(try dsimp only at hSw);go_simp;try with_reducible rfl)
 try simp only[Act.put,List.getElem_toArray,List.getElem_cons_zero,List.getElem_cons_succ,List.setIfInBounds_toArray,List.set_cons_zero,List.set_cons_succ]
 refine wpAnyH_tk 7 ?k8v rfl ?k8y ?k8r
 case k8y=>(intro w hSw;(try dsimp only at hSw);go_simp;try with_reducible rfl)
 try simp only[Act.put,List.getElem_toArray,List.getElem_cons_zero,List.getElem_cons_succ,List.setIfInBounds_toArray,List.set_cons_zero,List.set_cons_succ]
 refine wpAnyH_tk 8 ?k9v rfl ?k9y ?k9r
 case k9y=>(intro w hSw;(try dsimp only at hSw);go_simp;try with_reducible rfl)
 try simp only[Act.put,List.getElem_toArray,List.getElem_cons_zero,List.getElem_cons_succ,List.setIfInBounds_toArray,List.set_cons_zero,List.set_cons_succ]
 refine wpAnyH_tk 9 ?k10v rfl ?k10y ?k10r
 case k10y=>(intro w hSw;(try dsimp only at hSw);go_simp;try with_reducible rfl)
 try simp only[Act.put,List.getElem_toArray,List.getElem_cons_zero,List.getElem_cons_succ,List.setIfInBounds_toArray,List.set_cons_zero,List.set_cons_succ]
 refine wpAnyH_tk 10 ?k11v rfl ?k11y ?k11r
 case k11y=>(intro w hSw;(try dsimp only at hSw);go_simp;try with_reducible rfl)
 try simp only[Act.put,List.getElem_toArray,List.getElem_cons_zero,List.getElem_cons_succ,List.setIfInBounds_toArray,List.set_cons_zero,List.set_cons_succ]
 refine wpAnyH_tk 11 ?k12v rfl ?k12y ?k12r
 case k12y=>(intro w hSw;(try dsimp only at hSw);go_simp;try with_reducible rfl)
 try simp only[Act.put,List.getElem_toArray,List.getElem_cons_zero,List.getElem_cons_succ,List.setIfInBounds_toArray,List.set_cons_zero,List.set_cons_succ]
 refine wpAnyH_tk 12 ?k13v rfl ?k13y ?k13r
 case k13y=>(intro w hSw;(try dsimp only at hSw);go_simp;try with_reducible rfl)
 try simp only[Act.put,List.getElem_toArray,List.getElem_cons_zero,List.getElem_cons_succ,List.setIfInBounds_toArray,List.set_cons_zero,List.set_cons_succ]
 refine wpAnyH_tk 13 ?k14v rfl ?k14y ?k14r
 case k14y=>(intro w hSw;(try dsimp only at hSw);go_simp;try with_reducible rfl)
 try simp only[Act.put,List.getElem_toArray,List.getElem_cons_zero,List.getElem_cons_succ,List.setIfInBounds_toArray,List.set_cons_zero,List.set_cons_succ]
 refine wpAnyH_tk 14 ?k15v rfl ?k15y ?k15r
 case k15y=>(intro w hSw;(try dsimp only at hSw);go_simp;try with_reducible rfl)
 try simp only[Act.put,List.getElem_toArray,List.getElem_cons_zero,List.getElem_cons_succ,List.setIfInBounds_toArray,List.set_cons_zero,List.set_cons_succ]
 refine wpAnyH_done (by kernel_rfl) ?_ _
 clear r0
 go_wp2_with fail
 go_ret
 exact⟨rfl,hb⟩
theorem PR.last{w:World}{B:Nat}{S:PS}{rb sb nb ob mf km:Nat}{sH sR sP sO:Sl}{bv:List Value}(h:PR w B S rb sb nb ob mf km sH sR sP sO bv)(h3:S.st=3):
 ∃(ib:List Value)(g:Nat)(aB:Option Addr)(cB:Nat),bv=ib++[.slice aB (bodS S).length cB]/\ppl S=S.ps.dropLast++[pat S.op (bodS S)]/\ib.length=S.ps.dropLast.length/\sP.a=some ⟨g,0,none⟩/\sP.n=ib.length+1/\sP.n<=sP.c/\w.cell? ⟨g,ib.length,none⟩=some (.slice aB (bodS S).length cB)/\g<w.heap.size:=by
 have hne:=h.I.ps h3;have e:=ppl_last hne;have hR:=h.R;rw[e]at hR;obtain⟨ib,g,aB,cB,h1,h2,h4,h5,h6,h7,h8,h9⟩:=hR.last (by rw[h.L,<-ppl_len,e]) (by simp);have el:(S.ps.dropLast++[pat S.op (bodS S)]).getLastD []=pat S.op (bodS S):=by simp
 rw[el,pat_len]at h1 h8;rw[List.dropLast_concat]at h4;exact⟨ib,g,aB,cB,h1,e,h4,h5,h6,h7,h8,h9⟩
theorem ppl_add{S:PS}(s:SV)(hI:Inv S):ppl (addS S s)=S.ps.dropLast++[pat S.op (bodS S)++[s]]:=by
 rw[ppl_last (by simp[addS,putS])];have e1:bodS (addS S s)=bodS S++[s]:=bod_put S _;have e2:(addS S s).ps.dropLast=S.ps.dropLast:=by show(S.ps.dropLast++[_]).dropLast=_;simp
 have e3:(addS S s).op=S.op:=rfl;rw[e1,e2,e3,pat_app _ _ _ (fun o ho=>hI.ol o ho)]
theorem addStmt_any(B:Nat)(S:PS)(rb sb nb ob mf km:Nat)(sH sR sP sO:Sl)(bv:List Value)(s:SV)(w:World)(hB:B<=w.heap.size)(hm:PR w B S rb sb nb ob mf km sH sR sP sO bv)(hbd:Bnd S 100000):
 Calls Tryz.prog 61 #[.pointer (some ⟨rb,0,none⟩),.agg #[.int .i64 s.k,.int .i64 s.op,.int .i64 s.d,.int .i64 s.a,.int .i64 s.b,.int .i64 s.imm,.int .i64 s.h,.int .i64 s.cond,.int .i64 s.thn,.int .i64 s.els,.int .i64 s.proc]] w fun e w'=>PA B w rb sb nb ob mf km (if S.st=3 then some (addS S s)else none) e w':=by
 by_cases h3:S.st=3
 rotate_left
 ·rw[if_neg h3]
  have e1:((S.st:Int) !=3)=true:=by rw[bne_iff_ne];omega
  have hz:rb<w.heap.size:=(Array.getElem?_eq_some_iff.1 hm.C).1;obtain⟨c0,c1,c2,c3,c4,c13,c14,c15,c5,cf⟩:=hm.cells;have F0:Hid (Fm tsP B w (w.alloc (.cells #[.int .i64 s.k,.int .i64 s.op,.int .i64 s.d,.int .i64 s.a,.int .i64 s.b,.int .i64 s.imm,.int .i64 s.h,.int .i64 s.cond,.int .i64 s.thn,.int .i64 s.els,.int .i64 s.proc] 93))):=Fm.of_below ((Below.refl _ _).alloc (Nat.le_refl _) _) hB;clear hm h3 c0 c1 c2 c3 c13 c14 c15 c5 cf hbd;go_enter Tryz.func61,Tryz.ntmps61;go_wp2_with fail;go_ret;exact⟨F0.out,rfl,fun _ h=>(by cases h)⟩
 rw[if_pos h3];obtain⟨ib,g,aB,cB,hbv,hpp,hil,hPa,hPn,hPc,hcl,hg⟩:=hm.last h3;obtain⟨aP,nP,cP⟩:=sP;dsimp only at hPa hPn hPc⊢;subst hPa hPn hbv;have e1:((S.st:Int) !=3)=false:=by rw[bne_eq_false_iff_eq];omega
 have hi6:ib.length<1000000:=by have h1:=hm.L;have:=hbd.ps;simp at h1;omega
 have hl6:(bodS S).length<=1000000:=by have:=hbd.bd;omega
 have M:Hid (PR w B S rb sb nb ob mf km sH sR ⟨some ⟨g,0,none⟩,ib.length+1,cP⟩ sO (ib++[.slice aB (bodS S).length cB])):=hm;have H3:Hid (S.st=3):=h3;have HPP:Hid (ppl S=S.ps.dropLast++[pat S.op (bodS S)]):=hpp;have HIL:Hid (ib.length=S.ps.dropLast.length):=hil;obtain⟨iS,gS,gS0,gS1,gS2⟩:=info4 info_stmtZ;have HIS:Hid (_/\_/\_/\_):=⟨gS,gS0,gS1,gS2⟩
 clear hm h3 hpp hil gS gS0 gS1 gS2 hbd hPc;go_enter Tryz.func61,Tryz.ntmps61;go_upto_region 1 with fail;obtain⟨u,hu,hb,hc⟩:∃y,w.alloc (.cells #[.int .i64 s.k,.int .i64 s.op,.int .i64 s.d,.int .i64 s.a,.int .i64 s.b,.int .i64 s.imm,.int .i64 s.h,.int .i64 s.cond,.int .i64 s.thn,.int .i64 s.els,.int .i64 s.proc] 93)=y/\Below w.heap.size w y/\Cl y w.heap.size [.int .i64 s.k,.int .i64 s.op,.int .i64 s.d,.int .i64 s.a,.int .i64 s.b,.int .i64 s.imm,.int .i64 s.h,.int .i64 s.cond,.int .i64 s.thn,.int .i64 s.els,.int .i64 s.proc]:=⟨_,rfl,(Below.refl _ _).alloc (Nat.le_refl _) _,Cl.new⟩
 rw[hu];obtain⟨xb,hxb⟩:∃y,w.heap.size=y:=⟨_,rfl⟩
 rw[hxb]at hc⊢;have HXB:Hid (w.heap.size=xb):=hxb;have BU:Hid (Below w.heap.size w u):=hb;have CU:Hid (Cl u xb [.int .i64 s.k,.int .i64 s.op,.int .i64 s.d,.int .i64 s.a,.int .i64 s.b,.int .i64 s.imm,.int .i64 s.h,.int .i64 s.cond,.int .i64 s.thn,.int .i64 s.els,.int .i64 s.proc]):=hc;have MU:Hid (PR u B S rb sb nb ob mf km sH sR ⟨some ⟨g,0,none⟩,ib.length+1,cP⟩ sO (ib++[.slice aB (bodS S).length cB])):=M.out.below hb;obtain⟨c0,c1,c2,c3,c4,c13,c14,c15,c5,cf⟩:=MU.out.cells;clear hu hc hxb c0 c1 c2 c13 c14 c15 c5 cf hb;go_wp2_with fail;refine(body_any rb g ib.length cP u hi6 c3).mono ?_;rintro e u2⟨rfl,hb2⟩;have B2:Hid (Below w.heap.size w u2):=BU.out.trans (hb2.mono BU.out.size);have M2:Hid (PR u2 B S rb sb nb ob mf km sH sR ⟨some ⟨g,0,none⟩,ib.length+1,cP⟩ sO (ib++[.slice aB (bodS S).length cB])):=M.out.below B2.out;have C2:Hid (Cl u2 xb [.int .i64 s.k,.int .i64 s.op,.int .i64 s.d,.int .i64 s.a,.int .i64 s.b,.int .i64 s.imm,.int .i64 s.h,.int .i64 s.cond,.int .i64 s.thn,.int .i64 s.els,.int .i64 s.proc]):=CU.out.below hb2;have F2:Hid (Fm tsP B w u2):=Fm.of_below B2.out hB;have G2:Hid (u2.cell? ⟨g,ib.length,none⟩=some (.slice aB (bodS S).length cB)):=(B2.out.cell (p:=⟨g,ib.length,none⟩) hg).trans hcl;have hB2:B<=u2.heap.size:=by have:=B2.out.size;omega
 have hg2:g<u2.heap.size:=Nat.lt_of_lt_of_le hg B2.out.size;have NE:Hid (∀k,(Value.slice aB (bodS S).length cB).ownBlock=some k->k<xb):=(fun k hk=>by
  have hR:=M.out.R;rw[HPP.out]at hR;have:=(hR.own _ _ (srcR_last HIL.out)).lt k hk;have:=HXB.out;omega:∀k,(Value.slice aB (bodS S).length cB).ownBlock=some k->k<xb)
 have hgx:g<xb:=by have:=HXB.out;omega
 clear hb2 c3 c4 hcl hg BU CU MU;go_upto_region 4 with fail;have r0:∀w':World,(w'.heap[rb]?=some (.cells (rcL S sH sR ⟨some ⟨g,0,none⟩,ib.length+1,cP⟩ sO sb km).toArray 60)/\Cl w' xb [.int .i64 s.k,.int .i64 s.op,.int .i64 s.d,.int .i64 s.a,.int .i64 s.b,.int .i64 s.imm,.int .i64 s.h,.int .i64 s.cond,.int .i64 s.thn,.int .i64 s.els,.int .i64 s.proc]/\w'.cell? ⟨g,ib.length,none⟩=some (.slice aB (bodS S).length cB))->w'.cell? ⟨g,ib.length,none⟩=some (.slice aB (bodS S).length cB):=fun w' h=>h.2.2
 have r1:∀w':World,(w'.heap[rb]?=some (.cells (rcL S sH sR ⟨some ⟨g,0,none⟩,ib.length+1,cP⟩ sO sb km).toArray 60)/\Cl w' xb [.int .i64 s.k,.int .i64 s.op,.int .i64 s.d,.int .i64 s.a,.int .i64 s.b,.int .i64 s.imm,.int .i64 s.h,.int .i64 s.cond,.int .i64 s.thn,.int .i64 s.els,.int .i64 s.proc]/\w'.cell? ⟨g,ib.length,none⟩=some (.slice aB (bodS S).length cB))->w'.cell? ⟨xb,0,none⟩=some (.int .i64 s.k):=fun w' h=>h.2.1.2 0 (by simp)
 have r2:∀w':World,(w'.heap[rb]?=some (.cells (rcL S sH sR ⟨some ⟨g,0,none⟩,ib.length+1,cP⟩ sO sb km).toArray 60)/\Cl w' xb [.int .i64 s.k,.int .i64 s.op,.int .i64 s.d,.int .i64 s.a,.int .i64 s.b,.int .i64 s.imm,.int .i64 s.h,.int .i64 s.cond,.int .i64 s.thn,.int .i64 s.els,.int .i64 s.proc]/\w'.cell? ⟨g,ib.length,none⟩=some (.slice aB (bodS S).length cB))->w'.cell? ⟨xb,1,none⟩=some (.int .i64 s.op):=fun w' h=>h.2.1.2 1 (by simp)
 have r3:∀w':World,(w'.heap[rb]?=some (.cells (rcL S sH sR ⟨some ⟨g,0,none⟩,ib.length+1,cP⟩ sO sb km).toArray 60)/\Cl w' xb [.int .i64 s.k,.int .i64 s.op,.int .i64 s.d,.int .i64 s.a,.int .i64 s.b,.int .i64 s.imm,.int .i64 s.h,.int .i64 s.cond,.int .i64 s.thn,.int .i64 s.els,.int .i64 s.proc]/\w'.cell? ⟨g,ib.length,none⟩=some (.slice aB (bodS S).length cB))->w'.cell? ⟨xb,2,none⟩=some (.int .i64 s.d):=fun w' h=>h.2.1.2 2 (by simp)
 have r4:∀w':World,(w'.heap[rb]?=some (.cells (rcL S sH sR ⟨some ⟨g,0,none⟩,ib.length+1,cP⟩ sO sb km).toArray 60)/\Cl w' xb [.int .i64 s.k,.int .i64 s.op,.int .i64 s.d,.int .i64 s.a,.int .i64 s.b,.int .i64 s.imm,.int .i64 s.h,.int .i64 s.cond,.int .i64 s.thn,.int .i64 s.els,.int .i64 s.proc]/\w'.cell? ⟨g,ib.length,none⟩=some (.slice aB (bodS S).length cB))->w'.cell? ⟨xb,3,none⟩=some (.int .i64 s.a):=fun w' h=>h.2.1.2 3 (by simp)
 have r5:∀w':World,(w'.heap[rb]?=some (.cells (rcL S sH sR ⟨some ⟨g,0,none⟩,ib.length+1,cP⟩ sO sb km).toArray 60)/\Cl w' xb [.int .i64 s.k,.int .i64 s.op,.int .i64 s.d,.int .i64 s.a,.int .i64 s.b,.int .i64 s.imm,.int .i64 s.h,.int .i64 s.cond,.int .i64 s.thn,.int .i64 s.els,.int .i64 s.proc]/\w'.cell? ⟨g,ib.length,none⟩=some (.slice aB (bodS S).length cB))->w'.cell? ⟨xb,4,none⟩=some (.int .i64 s.b):=fun w' h=>h.2.1.2 4 (by simp)
 have r6:∀w':World,(w'.heap[rb]?=some (.cells (rcL S sH sR ⟨some ⟨g,0,none⟩,ib.length+1,cP⟩ sO sb km).toArray 60)/\Cl w' xb [.int .i64 s.k,.int .i64 s.op,.int .i64 s.d,.int .i64 s.a,.int .i64 s.b,.int .i64 s.imm,.int .i64 s.h,.int .i64 s.cond,.int .i64 s.thn,.int .i64 s.els,.int .i64 s.proc]/\w'.cell? ⟨g,ib.length,none⟩=some (.slice aB (bodS S).length cB))->w'.cell? ⟨xb,5,none⟩=some (.int .i64 s.imm):=fun w' h=>h.2.1.2 5 (by simp)
 have r7:∀w':World,(w'.heap[rb]?=some (.cells (rcL S sH sR ⟨some ⟨g,0,none⟩,ib.length+1,cP⟩ sO sb km).toArray 60)/\Cl w' xb [.int .i64 s.k,.int .i64 s.op,.int .i64 s.d,.int .i64 s.a,.int .i64 s.b,.int .i64 s.imm,.int .i64 s.h,.int .i64 s.cond,.int .i64 s.thn,.int .i64 s.els,.int .i64 s.proc]/\w'.cell? ⟨g,ib.length,none⟩=some (.slice aB (bodS S).length cB))->w'.cell? ⟨xb,6,none⟩=some (.int .i64 s.h):=fun w' h=>h.2.1.2 6 (by simp)
 have r8:∀w':World,(w'.heap[rb]?=some (.cells (rcL S sH sR ⟨some ⟨g,0,none⟩,ib.length+1,cP⟩ sO sb km).toArray 60)/\Cl w' xb [.int .i64 s.k,.int .i64 s.op,.int .i64 s.d,.int .i64 s.a,.int .i64 s.b,.int .i64 s.imm,.int .i64 s.h,.int .i64 s.cond,.int .i64 s.thn,.int .i64 s.els,.int .i64 s.proc]/\w'.cell? ⟨g,ib.length,none⟩=some (.slice aB (bodS S).length cB))->w'.cell? ⟨xb,7,none⟩=some (.int .i64 s.cond):=fun w' h=>h.2.1.2 7 (by simp)
 have r9:∀w':World,(w'.heap[rb]?=some (.cells (rcL S sH sR ⟨some ⟨g,0,none⟩,ib.length+1,cP⟩ sO sb km).toArray 60)/\Cl w' xb [.int .i64 s.k,.int .i64 s.op,.int .i64 s.d,.int .i64 s.a,.int .i64 s.b,.int .i64 s.imm,.int .i64 s.h,.int .i64 s.cond,.int .i64 s.thn,.int .i64 s.els,.int .i64 s.proc]/\w'.cell? ⟨g,ib.length,none⟩=some (.slice aB (bodS S).length cB))->w'.cell? ⟨xb,8,none⟩=some (.int .i64 s.thn):=fun w' h=>h.2.1.2 8 (by simp)
 have r10:∀w':World,(w'.heap[rb]?=some (.cells (rcL S sH sR ⟨some ⟨g,0,none⟩,ib.length+1,cP⟩ sO sb km).toArray 60)/\Cl w' xb [.int .i64 s.k,.int .i64 s.op,.int .i64 s.d,.int .i64 s.a,.int .i64 s.b,.int .i64 s.imm,.int .i64 s.h,.int .i64 s.cond,.int .i64 s.thn,.int .i64 s.els,.int .i64 s.proc]/\w'.cell? ⟨g,ib.length,none⟩=some (.slice aB (bodS S).length cB))->w'.cell? ⟨xb,9,none⟩=some (.int .i64 s.els):=fun w' h=>h.2.1.2 9 (by simp)
 have r11:∀w':World,(w'.heap[rb]?=some (.cells (rcL S sH sR ⟨some ⟨g,0,none⟩,ib.length+1,cP⟩ sO sb km).toArray 60)/\Cl w' xb [.int .i64 s.k,.int .i64 s.op,.int .i64 s.d,.int .i64 s.a,.int .i64 s.b,.int .i64 s.imm,.int .i64 s.h,.int .i64 s.cond,.int .i64 s.thn,.int .i64 s.els,.int .i64 s.proc]/\w'.cell? ⟨g,ib.length,none⟩=some (.slice aB (bodS S).length cB))->w'.cell? ⟨xb,10,none⟩=some (.int .i64 s.proc):=fun w' h=>h.2.1.2 10 (by simp)
 have TD:u2.drew.heap[rb]?=some (.cells (rcL S sH sR ⟨some ⟨g,0,none⟩,ib.length+1,cP⟩ sO sb km).toArray 60)/\Cl u2.drew xb [.int .i64 s.k,.int .i64 s.op,.int .i64 s.d,.int .i64 s.a,.int .i64 s.b,.int .i64 s.imm,.int .i64 s.h,.int .i64 s.cond,.int .i64 s.thn,.int .i64 s.els,.int .i64 s.proc]/\u2.drew.cell? ⟨g,ib.length,none⟩=some (.slice aB (bodS S).length cB):=⟨M2.out.C,C2.out.below (Below.refl _ _).drew,G2.out⟩
 have MD:Hid (PR u2.drew B S rb sb nb ob mf km sH sR ⟨some ⟨g,0,none⟩,ib.length+1,cP⟩ sO (ib++[.slice aB (bodS S).length cB])):=M2.out.below (Below.refl _ _).drew
 have FD:Hid (Fm tsP B w u2.drew):=F2.out.below (Below.refl _ _).drew hB2
 have hBd:B<=u2.drew.heap.size:=hB2
 have hgd:g<u2.drew.heap.size:=hg2
 refine wp_region_L (T:=fun w'=>w'.heap[rb]?=some (.cells (rcL S sH sR ⟨some ⟨g,0,none⟩,ib.length+1,cP⟩ sO sb km).toArray 60)/\Cl w' xb [.int .i64 s.k,.int .i64 s.op,.int .i64 s.d,.int .i64 s.a,.int .i64 s.b,.int .i64 s.imm,.int .i64 s.h,.int .i64 s.cond,.int .i64 s.thn,.int .i64 s.els,.int .i64 s.proc]/\w'.cell? ⟨g,ib.length,none⟩=some (.slice aB (bodS S).length cB)) (s:=8) (by kernel_rfl) TD (fun hHeld=>?_)
 clear TD M2 F2 C2 G2
 generalize u2.drew=t0 at hHeld MD FD hBd hgd⊢
 refine wpAnyL_tk 0 ?k16v rfl ?k16y ?k16r
 case k16y=>(intro w hSw;(try dsimp only at hSw);go_simp;try with_reducible rfl)
 try simp only[Act.put,List.getElem_toArray,List.getElem_cons_zero,List.setIfInBounds_toArray,List.set_cons_zero,List.set_cons_succ]
 refine wpAnyL_tk 1 ?k17v rfl ?k17y ?k17r
 case k17y=>(intro w hSw;(try dsimp only at hSw);go_simp;try with_reducible rfl)
 try simp only[Act.put,List.getElem_toArray,List.getElem_cons_zero,List.getElem_cons_succ,List.setIfInBounds_toArray,List.set_cons_zero,List.set_cons_succ]
 refine wpAnyL_tk 2 ?k18v rfl ?k18y ?k18r
 case k18y=>(intro w hSw;(try dsimp only at hSw);go_simp;try with_reducible rfl)
 try simp only[Act.put,List.getElem_toArray,List.getElem_cons_zero,List.getElem_cons_succ,List.setIfInBounds_toArray,List.set_cons_zero,List.set_cons_succ]
 refine wpAnyL_tk 3 ?k19v rfl ?k19y ?k19r
 case k19y=>(intro w hSw;(try dsimp only at hSw);go_simp;try with_reducible rfl)
 try simp only[Act.put,List.getElem_toArray,List.getElem_cons_zero,List.getElem_cons_succ,List.setIfInBounds_toArray,List.set_cons_zero,List.set_cons_succ]
 refine wpAnyL_tk 4 ?k20v rfl ?k20y ?k20r
 case k20y=>(intro w hSw;(try dsimp only at hSw);go_simp;try with_reducible rfl)
 try simp only[Act.put,List.getElem_toArray,List.getElem_cons_zero,List.getElem_cons_succ,List.setIfInBounds_toArray,List.set_cons_zero,List.set_cons_succ]
 refine wpAnyL_call (i:=5) rfl (by kernel_rfl) (fun KK hK=>?_)
 go_simp
 obtain⟨t2,ht2,hbA,hnw⟩:∃y,t0.alloc (.cells #[.int .i64 s.k,.int .i64 s.op,.int .i64 s.d,.int .i64 s.a,.int .i64 s.b,.int .i64 s.imm,.int .i64 s.h,.int .i64 s.cond,.int .i64 s.thn,.int .i64 s.els,.int .i64 s.proc] 93)=y/\Below t0.heap.size t0 y/\(∀j u,(stL s)[j]?=some u->y.cell? ((⟨t0.heap.size,0,none⟩:Addr).add j)=some u):=⟨_,rfl,(Below.refl _ _).alloc (Nat.le_refl _) _,cells_newZ _ _ _⟩
 rw[ht2]
 have M2:Hid (PR t2 B S rb sb nb ob mf km sH sR ⟨some ⟨g,0,none⟩,ib.length+1,cP⟩ sO (ib++[.slice aB (bodS S).length cB])):=MD.out.below hbA
 have F2:Hid (Fm tsP B w t2):=FD.out.below hbA hBd
 have T2:t2.heap[rb]?=some (.cells (rcL S sH sR ⟨some ⟨g,0,none⟩,ib.length+1,cP⟩ sO sb km).toArray 60)/\Cl t2 xb [.int .i64 s.k,.int .i64 s.op,.int .i64 s.d,.int .i64 s.a,.int .i64 s.b,.int .i64 s.imm,.int .i64 s.h,.int .i64 s.cond,.int .i64 s.thn,.int .i64 s.els,.int .i64 s.proc]/\t2.cell? ⟨g,ib.length,none⟩=some (.slice aB (bodS S).length cB):=⟨M2.out.C,hHeld.2.1.below hbA,(hbA.cell (p:=⟨g,ib.length,none⟩) hgd).trans hHeld.2.2⟩
 have hBt2:B<=t2.heap.size:=by have:=hbA.size;omega
 have NW:Hid _:=hnw
 clear ht2 hbA hnw MD FD
 refine hK.out _ _ T2 (fun hHeld1=>?_)
 clear hK KK
 try simp only[Act.put,List.getElem_toArray,List.getElem_cons_zero,List.getElem_cons_succ,List.setIfInBounds_toArray,List.set_cons_zero,List.set_cons_succ]
 have hR2:=M2.out.R
 rw[HPP.out]at hR2
 have OH:Hid (t2.ownsRow B 93 11 (.slice aB (bodS S).length cB) (bodS S).length (cs (pat S.op (bodS S)))):=(by have h:=hR2.own _ _ (srcR_last HIL.out);unfold Rw.own at h;rw[pat_len]at h;exact h:t2.ownsRow B 93 11 (.slice aB (bodS S).length cB) (bodS S).length (cs (pat S.op (bodS S))))
 obtain⟨v',w5,hrun,hown,hgrow,_,hat⟩:=run_append_own_at (P:=Tryz.prog) t2 B 66 66 93 iS _ 11 88 Tryz.underlying66 HIS.out.1 HIS.out.2.1 HIS.out.2.2.1 HIS.out.2.2.2 rfl (by decide) (.slice aB (bodS S).length cB) (bodS S).length (cs (pat S.op (bodS S))) OH.out ⟨t0.heap.size,0,none⟩ 1 1 (stL s) rfl NW.out (by simp[stL,Value.oneCell']) (by unfold maxLen;omega) (by omega) hBt2
 have f5:Fm tsP B t2 w5:=Fm.of_grow OH.out (Nat.le_refl _) hgrow hBt2 (by decide)
 have hB5:B<=w5.heap.size:=by have:=hgrow.size;omega
 have HO5:w5.ownsRow B 93 11 v' (pat S.op (bodS S)++[s]).length (cs (pat S.op (bodS S)++[s])):=by rw[List.length_append,cs_app,cs_one,pat_len];exact hown
 obtain⟨q1,q2,q3,q4,q5,q6⟩:=hR2.body HIL.out hgrow HO5 (hat.elim .inl (fun e=>.inr ⟨_,e,Nat.le_refl _⟩))
 have T5:w5.heap[rb]?=some (.cells (rcL S sH sR ⟨some ⟨g,0,none⟩,ib.length+1,cP⟩ sO sb km).toArray 60)/\Cl w5 xb [.int .i64 s.k,.int .i64 s.op,.int .i64 s.d,.int .i64 s.a,.int .i64 s.b,.int .i64 s.imm,.int .i64 s.h,.int .i64 s.cond,.int .i64 s.thn,.int .i64 s.els,.int .i64 s.proc]/\w5.cell? ⟨g,ib.length,none⟩=some (.slice aB (bodS S).length cB):=⟨keep_c T2.1 OH.out (by decide) hgrow,⟨Nat.lt_of_lt_of_le T2.2.1.1 hgrow.size,fun i hi=>(World.cell?_of_block (a:=⟨xb,i,none⟩) (hgrow.block xb T2.2.1.1 (fun e=>by have:=NE.out xb e.symm;omega))).trans (T2.2.1.2 i hi)⟩,q2⟩
 refine wpAnyL_appendZ (.tmp 16) (.tmp 18) (i:=6) rfl (by kernel_rfl) (by kernel_rfl) rfl rfl rfl hrun T5 (fun hHeld5=>?_)
 try simp only[Act.put,List.getElem_toArray,List.getElem_cons_zero,List.getElem_cons_succ,List.setIfInBounds_toArray,List.set_cons_zero,List.set_cons_succ]
 refine wpAnyL_tk 7 ?k21v rfl ?k21y ?k21r
 case k21y=>(intro w hSw;(try dsimp only at hSw);go_simp;try with_reducible rfl)
 try simp only[Act.put,List.getElem_toArray,List.getElem_cons_zero,List.getElem_cons_succ,List.setIfInBounds_toArray,List.set_cons_zero,List.set_cons_succ]
 obtain⟨ao5,cz5,hv5⟩:=row_sliceZ hown
 subst hv5
 have f6:Fm tsP B w5 (w5.setCell ⟨g,ib.length,none⟩ (.slice ao5 ((bodS S).length+1) cz5)):=Fm.of_grow q6 (Nat.le_refl _) q5 hB5 (by decide)
 have k6:=(M2.out.pk.fm f5).fm f6
 have c6:(w5.setCell ⟨g,ib.length,none⟩ (.slice ao5 ((bodS S).length+1) cz5)).heap[rb]?=some (.cells (rcL S sH sR ⟨some ⟨g,0,none⟩,ib.length+1,cP⟩ sO sb km).toArray 60):=keep_c T5.1 q6 (by decide) q5
 have M6:Hid (PR (w5.setCell ⟨g,ib.length,none⟩ (.slice ao5 ((bodS S).length+1) cz5)) B (addS S s) rb sb nb ob mf km sH sR ⟨some ⟨g,0,none⟩,ib.length+1,cP⟩ sO (ib++[.slice ao5 ((bodS S).length+1) cz5])):=(⟨c6,(by rw[ppl_add s M2.out.I];exact q1),(by show _=(S.ps.dropLast++[_]).length;rw[List.length_append,List.length_append,HIL.out];rfl),M2.out.I.add s H3.out,k6.SC,k6.OA,k6.K,k6.E,k6.b,k6.m,k6.p⟩:PR (w5.setCell ⟨g,ib.length,none⟩ (.slice ao5 ((bodS S).length+1) cz5)) B (addS S s) rb sb nb ob mf km sH sR ⟨some ⟨g,0,none⟩,ib.length+1,cP⟩ sO (ib++[.slice ao5 ((bodS S).length+1) cz5]))
 have F6:Hid (Fm tsP B w (w5.setCell ⟨g,ib.length,none⟩ (.slice ao5 ((bodS S).length+1) cz5))):=(F2.out.trans f5).trans f6
 clear hown hgrow hat hrun OH f5 HO5 T5 hHeld5 T2 M2 F2 NW hHeld hHeld1 r0 r1 r2 r3 r4 r5 r6 r7 r8 r9 r10 r11 q1 q4 q5 q6 f6 k6 c6 hR2 HIS
 refine wpAnyL_store rfl (by kernel_rfl) (by kernel_rfl) (fun KK hK=>?_)
 go_simp
 refine hK.out _ _ ?_
 clear hK KK q2 q3
 generalize w5.setCell ⟨g,ib.length,none⟩ (.slice ao5 ((bodS S).length+1) cz5)=u6 at M6 F6⊢
 go_wp2_with fail
 go_ret
 exact⟨F6.out,rfl,fun _ h=>by cases h;exact⟨_,_,_,_,_,M6.out⟩⟩
theorem callLine_any(B:Nat)(S:PS)(rb sb nb ob mf km:Nat)(sH sR sP sO:Sl)(bv:List Value)(f:List (List UInt8))(fb fc:Nat)(w:World)(hB:B<=w.heap.size)(hm:PR w B S rb sb nb ob mf km sH sR sP sO bv)(hf:FA w fb f)(hl:∀i,((stB (fd f i)).size:Int)<=200000)(hbd:Bnd S 100000):
 Calls Tryz.prog 36 #[.pointer (some ⟨rb,0,none⟩),.slice (some ⟨fb,0,none⟩) f.length fc] w fun e w'=>PA B w rb sb nb ob mf km ((if S.st=3 then calS S f else none)) e w':=by
 obtain⟨RR,hRR⟩:∃y,(if S.st=3 then calS S f else none)=y:=⟨_,rfl⟩
 rw[hRR];have HRR:Hid ((if S.st=3 then calS S f else none)=RR):=hRR;have M:Hid (PR w B S rb sb nb ob mf km sH sR sP sO bv):=hm;have HBD:Hid (Bnd S 100000):=hbd;have HL:Hid (∀i,((stB (fd f i)).size:Int)<=200000):=hl;have HF:Hid (FA w fb f):=hf;have hz:rb<w.heap.size:=(Array.getElem?_eq_some_iff.1 hm.C).1;have hBb:=hm.b;obtain⟨c0,c1,c2,c3,c4,c13,c14,c15,c5,cf⟩:=hm.cells;have HC5:Hid (∀k,k<8->w.cell? ⟨rb,5+k,none⟩=some (.bool (S.gv.getD k false))):=c5;clear hm hf hl hRR c5 hbd;go_enter Tryz.func36,Tryz.ntmps36;by_cases h2:f.length=2
 rotate_left
 ·have e2:((f.length:Int) !=2)=true:=by rw[bne_iff_ne];omega
  have HN:Hid (RR=none):=(by rw[<-HRR.out];unfold calS;rw[if_neg h2];split<;>rfl:RR=none)
  clear h2;go_wp2_with fail;go_ret;rw[HN.out];exact⟨Fm.refl _ _ _,rfl,fun _ h=>(by cases h)⟩
 have e2:((f.length:Int) !=2)=false:=by rw[bne_eq_false_iff_eq];omega
 have e3:(1:Int)<(f.length:Int):=by omega
 have H2:Hid (f.length=2):=h2;obtain⟨s1,hs1⟩:∃y,stB (fd f 1)=y:=⟨_,rfl⟩
 have g1:w.cell? ⟨fb,1,none⟩=some (.string s1):=(HF.out.cell 1 (by omega)).trans (by rw[hs1]);have hz1:(s1.size:Int)<=200000:=by rw[<-hs1];exact HL.out 1
 have HW:Hid (rdNum 0 s1.data.toList=numW false (fd f 1)):=(by rw[<-hs1,show(0:Int)=(if false=true then -9999999999999 else 0)from rfl,rdNum_same];simp[stB]:rdNum 0 s1.data.toList=numW false (fd f 1))
 clear hs1 h2;go_wp2_with fail;refine(readNumber_any s1 0 w M.out.E hB hz1).mono ?_;rintro e u⟨j,rfl,hj,hb⟩;rw[HW.out]at hj⊢;have M1:Hid (PR u B S rb sb nb ob mf km sH sR sP sO bv):=M.out.below hb;have F1:Hid (Fm tsP B w u):=Fm.of_below hb hB;have hBu:B<=u.heap.size:=by have:=hb.size;omega
 clear hb c0 c1 c2 c3 c4 c13 c14 c15 cf g1;cases hn:numW false (fd f 1)with
 |none=>
  have HN:Hid (RR=none):=(by rw[<-HRR.out];unfold calS;rw[if_pos H2.out,hn];split<;>rfl:RR=none)
  simp only[Option.isSome_none];clear hn hj;go_wp2_with fail;go_ret;rw[HN.out];exact⟨F1.out,rfl,fun _ h=>(by cases h)⟩
 |some v=>
  obtain rfl:=hj v hn;simp only[Option.isSome_some];have HN:Hid (RR=if S.st=3 then some (addS S ⟨4,0,0,0,0,0,0,0,0,0,j⟩)else none):=(by rw[<-HRR.out];unfold calS;rw[if_pos H2.out,hn];rfl:RR=if S.st=3 then some (addS S ⟨4,0,0,0,0,0,0,0,0,0,j⟩)else none)
  clear hn hj;go_wp2_with fail;refine(addStmt_any B S rb sb nb ob mf km sH sR sP sO bv ⟨4,0,0,0,0,0,0,0,0,0,j⟩ u hBu M1.out HBD.out).mono ?_;rintro e u2⟨hf2,rfl,hp⟩;rw[<-HN.out]at hp⊢;have F2:Hid (Fm tsP B w u2):=F1.out.trans hf2;have HP:Hid (∀S',RR=some S'->∃(sH sR sP sO:Sl)(bv:List Value),PR u2 B S' rb sb nb ob mf km sH sR sP sO bv):=hp;obtain⟨bb,hbb⟩:∃y,RR.isSome=y:=⟨_,rfl⟩
  rw[hbb];have HBB:Hid (RR.isSome=bb):=hbb;clear hf2 hp hbb;go_wp2_with fail;go_ret;exact⟨F2.out,by rw[HBB.out];rfl,HP.out⟩
theorem info_openP:(Tryz.prog.info? 117).map (fun i=>(i.zero,i.size,i.bytes))=some (some (.agg #[.int .i64 0,.bool false]),2,16):=by kernel_rfl
theorem cnd_place(l:List UInt8):(if l=[122]then(0:Int)else if l=[110,122]then 1 else if l=[99]then 2 else if l=[110,99]then 3 else -1)+1=cndW l:=by
 unfold cndW;split
 ·rfl
 ·split
  ·rfl
  ·split
   ·rfl
   ·split<;>rfl
theorem cnd_ok(l:List UInt8):condB (cndW l)=decide (cndW l≠0):=by
 unfold cndW condB;split
 ·decide
 ·split
  ·decide
  ·split
   ·decide
   ·split<;>decide
theorem cnd_bnd(l:List UInt8):0<=cndW l/\cndW l<=4:=by
 unfold cndW;split
 ·decide
 ·split
  ·decide
  ·split
   ·decide
   ·split<;>decide
theorem rc13(S:PS)(sH sR sP sO:Sl)(sb km:Nat)(hg:S.gv.length=8):(rcL S sH sR sP sO sb km).toArray[13]?=some (.slice sO.a sO.n sO.c):=by
 rw[List.getElem?_toArray];unfold rcL;rw[List.getElem?_append_right (by simp),List.getElem?_append_right (by simp[hg])];simp[hg]
theorem ppl_open{S:PS}(o:OV)(ho:o.els=false):ppl {S with op:=o::S.op}=ppl S:=by
 unfold ppl;have e:pat (o::S.op) (bodS S)=pat S.op (bodS S):=by
  show(if o.els=true then _ else pat S.op (bodS S))=_;rw[if_neg (by rw[ho];decide)]
 show(if S.ps=[]then[]else S.ps.dropLast++[pat (o::S.op) (bodS S)])=_;rw[e]
theorem openLine_any(B:Nat)(S:PS)(rb sb nb ob mf km:Nat)(sH sR sP sO:Sl)(bv:List Value)(kd:Int)(f:List (List UInt8))(fb fc:Nat)(w:World)(hB:B<=w.heap.size)(hm:PR w B S rb sb nb ob mf km sH sR sP sO bv)(hf:FA w fb f)(hbd:Bnd S 100000):
 Calls Tryz.prog 59 #[.pointer (some ⟨rb,0,none⟩),.int .i64 kd,.slice (some ⟨fb,0,none⟩) f.length fc] w fun e w'=>PA B w rb sb nb ob mf km (if S.st=3 then opnS S kd f else none) e w':=by
 obtain⟨RR,hRR⟩:∃y,(if S.st=3 then opnS S kd f else none)=y:=⟨_,rfl⟩
 rw[hRR]
 have HRR:Hid ((if S.st=3 then opnS S kd f else none)=RR):=hRR
 have M:Hid (PR w B S rb sb nb ob mf km sH sR sP sO bv):=hm
 have HBD:Hid (Bnd S 100000):=hbd
 have HF:Hid (FA w fb f):=hf
 have hz:rb<w.heap.size:=(Array.getElem?_eq_some_iff.1 hm.C).1
 clear hm hf hRR hbd
 go_enter Tryz.func59,Tryz.ntmps59
 by_cases h2:f.length=2
 rotate_left
 ·have e2:((f.length:Int) !=2)=true:=by rw[bne_iff_ne];omega
  have HN:Hid (RR=none):=(by rw[<-HRR.out,show opnS S kd f=none by unfold opnS;rw[if_neg (fun h=>h2 h.1)]];split<;>rfl:RR=none)
  clear h2
  go_wp2_with fail
  go_ret
  rw[HN.out]
  exact⟨Fm.refl _ _ _,rfl,fun _ h=>(by cases h)⟩
 have e2:((f.length:Int) !=2)=false:=by rw[bne_eq_false_iff_eq];omega
 have e3:(1:Int)<(f.length:Int):=by omega
 have H2:Hid (f.length=2):=h2
 obtain⟨s1,hs1⟩:∃y,stB (fd f 1)=y:=⟨_,rfl⟩
 have HS1:Hid (stB (fd f 1)=s1):=hs1
 have g1:w.cell? ⟨fb,1,none⟩=some (.string s1):=(HF.out.cell 1 (by omega)).trans (by rw[hs1])
 clear hs1 h2
 go_wp2_with fail
 refine(placeIn_any ⟨#[122,32,110,122,32,99,32,110,99]⟩ [[122],[110,122],[99],[110,99]] s1 w M.out.E (by decide) (by decide) (by kernel_rfl) (by decide)).mono ?_
 rintro e u⟨rfl,hb⟩
 rw[idx4 _ _ _ _ (fd f 1) s1 HS1.out]
 obtain⟨pv,hpv⟩:∃y:Int,(if fd f 1=[122]then(0:Int)else if fd f 1=[110,122]then 1 else if fd f 1=[99]then 2 else if fd f 1=[110,99]then 3 else -1)=y:=⟨_,rfl⟩
 rw[hpv]
 have hcv:=cnd_place (fd f 1)
 rw[hpv]at hcv
 obtain⟨cv,hce⟩:∃y,cndW (fd f 1)=y:=⟨_,rfl⟩
 rw[hce]at hcv
 have hcb:=cnd_bnd (fd f 1)
 rw[hce]at hcb
 have HCE:Hid (cndW (fd f 1)=cv):=hce
 have ew:IntKind.i64.wrap (pv+1)=cv:=by rw[hcv,IntKind.wrap_i64];omega
 have M1:Hid (PR u B S rb sb nb ob mf km sH sR sP sO bv):=M.out.below hb
 have F1:Hid (Fm tsP B w u):=Fm.of_below hb hB
 have hBu:B<=u.heap.size:=by have:=hb.size;omega
 have HCV:Hid (pv+1=cv):=hcv
 clear hb hpv hce g1 hcv
 go_upto_region 4 with fail
 try simp only[HCV.out]
 go_wp2_with fail
 refine(validCond_any cv u).mono ?_
 rintro e u1⟨rfl,hu1⟩
 rw[hu1,show condB cv=decide (cv≠0)by rw[<-HCE.out];exact cnd_ok _]
 clear hu1
 by_cases hc0:cv=0
 ·subst hc0
  have HN:Hid (RR=none):=(by rw[<-HRR.out,show opnS S kd f=none by unfold opnS;rw[if_neg (fun h=>h.2 HCE.out)]];split<;>rfl:RR=none)
  rw[show decide ((0:Int)≠0)=false by decide]
  go_wp2_with fail
  go_ret
  rw[HN.out]
  exact⟨F1.out,rfl,fun _ h=>(by cases h)⟩
 rw[show decide (cv≠0)=true by simp[hc0]]
 have HN:Hid (RR=if S.st=3 then some {addS S ⟨kd,0,0,0,0,0,0,cv,0,0,0⟩with op:=⟨(bodS S).length,0,false⟩::S.op}else none):=(by rw[<-HRR.out,show opnS S kd f=some {addS S ⟨kd,0,0,0,0,0,0,cv,0,0,0⟩with op:=⟨(bodS S).length,0,false⟩::S.op}by unfold opnS;rw[if_pos ⟨H2.out,by rw[HCE.out];exact hc0⟩,HCE.out];rfl]:RR=if S.st=3 then some {addS S ⟨kd,0,0,0,0,0,0,cv,0,0,0⟩with op:=⟨(bodS S).length,0,false⟩::S.op}else none)
 clear hc0
 go_wp2_with fail
 refine(addStmt_any B S rb sb nb ob mf km sH sR sP sO bv ⟨kd,0,0,0,0,0,0,cv,0,0,0⟩ u hBu M1.out HBD.out).mono ?_
 rintro e u2⟨hf2,rfl,hp⟩
 have F2:Hid (Fm tsP B w u2):=F1.out.trans hf2
 by_cases h3:S.st=3
 rotate_left
 ·rw[if_neg h3]
  have HN2:Hid (RR=none):=(by rw[HN.out,if_neg h3]:RR=none)
  clear hp h3 hf2
  go_wp2_with fail
  go_ret
  rw[HN2.out]
  exact⟨F2.out,rfl,fun _ h=>(by cases h)⟩
 rw[if_pos h3]at hp⊢
 obtain⟨qH,qR,qP,qO,bq,m2⟩:=hp _ rfl
 have HN2:Hid (RR=some {addS S ⟨kd,0,0,0,0,0,0,cv,0,0,0⟩with op:=⟨(bodS S).length,0,false⟩::S.op}):=(by rw[HN.out,if_pos h3]:RR=some {addS S ⟨kd,0,0,0,0,0,0,cv,0,0,0⟩with op:=⟨(bodS S).length,0,false⟩::S.op})
 have HI2:Hid (Inv {addS S ⟨kd,0,0,0,0,0,0,cv,0,0,0⟩with op:=⟨(bodS S).length,0,false⟩::S.op}):=M.out.I.put (bodS S++[(⟨kd,0,0,0,0,0,0,cv,0,0,0⟩:SV)]) (⟨(bodS S).length,0,false⟩::S.op) h3 (fun q hq=>by
  rcases List.mem_cons.1 hq with rfl|hq
  ·simp
  ·have:=M.out.I.ol q hq;simp;omega) (List.Pairwise.cons (fun q hq=>M.out.I.ol q hq) M.out.I.od)
 obtain⟨S1,hS1⟩:∃y,addS S ⟨kd,0,0,0,0,0,0,cv,0,0,0⟩=y:=⟨_,rfl⟩
 have e13:S1.st=3:=by rw[<-hS1];exact h3
 have ebl:(bodS S1).length=(bodS S).length+1:=by rw[<-hS1];show(bodS (putS S _)).length=_;rw[bod_put];simp
 have eop:S1.op=S.op:=by rw[<-hS1];rfl
 have hbl6:(bodS S).length<=1000000:=by have:=HBD.out.bd;omega
 have hop6:S1.op.length<=1000000:=by rw[eop];have:=HBD.out.op;omega
 rw[hS1]at m2 HN2 HI2
 have HPL:Hid (S1.ps.length<=100001):=(by rw[<-hS1];show(S.ps.dropLast++[_]).length<=_;rw[List.length_append,List.length_dropLast];have:=HBD.out.ps;simp;omega:S1.ps.length<=100001)
 have HGL:Hid (S1.gv.length=8):=(by rw[<-hS1];exact M.out.I.gv:S1.gv.length=8)
 have HEQ:Hid ((bodS S1).length=(bodS S).length+1/\S1.op=S.op/\S1.st=3):=⟨ebl,eop,e13⟩
 clear hp h3 hf2 hS1 e13 ebl eop M M1 F1 HN HRR
 obtain⟨ib,g,aB,cB,hbv,hpp,hil,hPa,hPn,hPc,hcl,hg⟩:=m2.last HEQ.out.2.2
 have hi6:ib.length<1000000:=by
  have h1:=m2.L
  rw[hbv]at h1
  simp at h1
  have h2:S1.ps.length<=100001:=HPL.out
  omega
 have M2:Hid (PR u2 B S1 rb sb nb ob mf km qH qR qP qO bq):=m2
 have hB2:B<=u2.heap.size:=by have:=F2.out.b.size;omega
 have hz2:rb<u2.heap.size:=(Array.getElem?_eq_some_iff.1 m2.C).1
 have HPA:Hid (qP.a=some ⟨g,0,none⟩/\qP.n=ib.length+1):=⟨hPa,hPn⟩
 have hcl':u2.cell? ⟨g,ib.length,none⟩=some (.slice aB ((bodS S).length+1) cB):=by rw[<-HEQ.out.1];exact hcl
 have G2:Hid (u2.cell? ⟨g,ib.length,none⟩=some (.slice aB ((bodS S).length+1) cB)):=hcl'
 clear m2 hbv hpp hil hPa hPn hPc hcl hcl'
 go_upto_region 6 with fail
 have r0:∀w':World,(w'.heap[rb]?=some (.cells (rcL S1 qH qR qP qO sb km).toArray 60)/\w'.cell? ⟨g,ib.length,none⟩=some (.slice aB ((bodS S).length+1) cB))->w'.cell? ⟨rb,13,none⟩=some (.slice qO.a qO.n qO.c):=fun w' h=>(hp_cell h.1 13).trans (rc13 S1 qH qR qP qO sb km HGL.out)
 have r1:∀w':World,(w'.heap[rb]?=some (.cells (rcL S1 qH qR qP qO sb km).toArray 60)/\w'.cell? ⟨g,ib.length,none⟩=some (.slice aB ((bodS S).length+1) cB))->w'.cell? ⟨g,ib.length,none⟩=some (.slice aB ((bodS S).length+1) cB):=fun w' h=>h.2
 obtain⟨iS,gS,gS0,gS1,gS2⟩:=info4 info_openP
 have HIS:Hid (_/\_/\_/\_):=⟨gS,gS0,gS1,gS2⟩
 clear gS gS0 gS1 gS2
 have TD:u2.drew.heap[rb]?=some (.cells (rcL S1 qH qR qP qO sb km).toArray 60)/\u2.drew.cell? ⟨g,ib.length,none⟩=some (.slice aB ((bodS S).length+1) cB):=⟨M2.out.C,G2.out⟩
 have MD:Hid (PR u2.drew B S1 rb sb nb ob mf km qH qR qP qO bq):=M2.out.below (Below.refl _ _).drew
 have FD:Hid (Fm tsP B w u2.drew):=F2.out.below (Below.refl _ _).drew hB2
 have hBd:B<=u2.drew.heap.size:=hB2
 have hgd:g<u2.drew.heap.size:=hg
 have ea:(((bodS S).length+1:Nat):Int)-1=((bodS S).length:Int):=by omega
 have ew2:IntKind.i64.wrap ((bodS S).length:Int)=((bodS S).length:Int):=by rw[IntKind.wrap_i64];omega
 refine wp_region_L (T:=fun w'=>w'.heap[rb]?=some (.cells (rcL S1 qH qR qP qO sb km).toArray 60)/\w'.cell? ⟨g,ib.length,none⟩=some (.slice aB ((bodS S).length+1) cB)) (s:=16) (by kernel_rfl) TD (fun hHeld=>?_)
 clear TD M2 F2 G2
 generalize u2.drew=t0 at hHeld MD FD hBd hgd⊢
 refine wpAnyL_tk 0 ?k1v rfl ?k1y ?k1r
 case k1y=>(intro w hSw;(try dsimp only at hSw);go_simp;try with_reducible rfl)
 try go_frame
 refine wpAnyL_tk 1 ?k2v rfl ?k2y ?k2r
 case k2y=>(intro w hSw;(try dsimp only at hSw);go_simp;try with_reducible rfl)
 try go_frame
 refine wpAnyL_tk 2 ?k3v rfl ?k3y ?k3r
 case k3y=>(intro w hSw;(try dsimp only at hSw);go_simp;try with_reducible rfl)
 try go_frame
 refine wpAnyL_tk 3 ?k4v rfl ?k4y ?k4r
 case k4y=>(intro w hSw;(try dsimp only at hSw);go_simp;try with_reducible rfl)
 try go_frame
 refine wpAnyL_tk 4 ?k5v rfl ?k5y ?k5r
 case k5y=>(intro w hSw;(try dsimp only at hSw);go_simp;try with_reducible rfl)
 try go_frame
 refine wpAnyL_tk 5 ?k6v rfl ?k6y ?k6r
 case k6y=>(intro w hSw;(try dsimp only at hSw);go_simp;try with_reducible rfl)
 try go_frame
 refine wpAnyL_call (i:=6) rfl (by kernel_rfl) (fun KK hK=>?_)
 go_simp
 refine(body_any rb g ib.length qP.c t0 hi6 (by have h:=hp_cell hHeld.1 3;rw[h];show some (Value.slice qP.a qP.n qP.c)=_;rw[HPA.out.1,HPA.out.2])).mono ?_
 rintro e t1⟨rfl,hb1⟩
 have M1:Hid (PR t1 B S1 rb sb nb ob mf km qH qR qP qO bq):=MD.out.below hb1
 have F1:Hid (Fm tsP B w t1):=FD.out.below hb1 hBd
 have T1:t1.heap[rb]?=some (.cells (rcL S1 qH qR qP qO sb km).toArray 60)/\t1.cell? ⟨g,ib.length,none⟩=some (.slice aB ((bodS S).length+1) cB):=⟨M1.out.C,(hb1.cell (p:=⟨g,ib.length,none⟩) hgd).trans hHeld.2⟩
 have hB1:B<=t1.heap.size:=by have:=hb1.size;omega
 have hg1:g<t1.heap.size:=by have:=hb1.size;omega
 clear hb1 MD FD
 refine hK.out _ _ T1 (fun hHeld1=>?_)
 clear hK KK
 refine wpAnyL_tk 7 ?k7v rfl ?k7y ?k7r
 case k7y=>(intro w hSw;(try dsimp only at hSw);go_simp;try with_reducible rfl)
 try go_frame
 refine wpAnyL_tk 8 ?k8v rfl ?k8y ?k8r
 case k8y=>(intro w hSw;(try dsimp only at hSw);go_simp;try with_reducible rfl)
 try go_frame
 refine wpAnyL_tk 9 ?k9v rfl ?k9y ?k9r
 case k9y=>(intro w hSw;(try dsimp only at hSw);go_simp;try with_reducible rfl)
 try go_frame
 refine wpAnyL_tk 10 ?k10v rfl ?k10y ?k10r
 case k10y=>(intro w hSw;(try dsimp only at hSw);go_simp;try with_reducible rfl)
 try go_frame
 refine wpAnyL_tk 11 ?k11v rfl ?k11y ?k11r
 case k11y=>(intro w hSw;(try dsimp only at hSw);go_simp;try with_reducible rfl)
 try go_frame
 refine wpAnyL_call (i:=12) rfl (by kernel_rfl) (fun KK hK=>?_)
 go_simp
 obtain⟨t2,ht2,hbA,hnw⟩:∃y,t1.alloc (.cells #[.int .i64 ((bodS S).length:Int),.bool false] 117)=y/\Below t1.heap.size t1 y/\(∀j u,(obL ⟨(bodS S).length,0,false⟩)[j]?=some u->y.cell? ((⟨t1.heap.size,0,none⟩:Addr).add j)=some u):=⟨_,rfl,(Below.refl _ _).alloc (Nat.le_refl _) _,cells_newZ _ _ _⟩
 rw[ht2]
 have M2:Hid (PR t2 B S1 rb sb nb ob mf km qH qR qP qO bq):=M1.out.below hbA
 have F2:Hid (Fm tsP B w t2):=F1.out.below hbA hB1
 have T2:t2.heap[rb]?=some (.cells (rcL S1 qH qR qP qO sb km).toArray 60)/\t2.cell? ⟨g,ib.length,none⟩=some (.slice aB ((bodS S).length+1) cB):=⟨M2.out.C,(hbA.cell (p:=⟨g,ib.length,none⟩) hg1).trans T1.2⟩
 have hBt2:B<=t2.heap.size:=by have:=hbA.size;omega
 have hg2:g<t2.heap.size:=by have:=hbA.size;omega
 have NW:Hid _:=hnw
 clear ht2 hbA hnw
 refine hK.out _ _ T2 (fun hHeld2=>?_)
 clear hK KK
 try go_frame
 have OH:Hid (t2.ownsRow B 117 2 (.slice qO.a qO.n qO.c) S1.op.length (S1.op.reverse.flatMap obL)):=M2.out.R.own 0 _ rfl
 obtain⟨v',w5,hrun,hown,hgrow,_,hat⟩:=run_append_own_at (P:=Tryz.prog) t2 B 56 56 117 iS _ 2 16 Tryz.underlying56 HIS.out.1 HIS.out.2.1 HIS.out.2.2.1 HIS.out.2.2.2 rfl (by decide) (.slice qO.a qO.n qO.c) S1.op.length (S1.op.reverse.flatMap obL) OH.out ⟨t1.heap.size,0,none⟩ 1 1 (obL ⟨(bodS S).length,0,false⟩) rfl NW.out (by simp[obL,Value.oneCell']) (by unfold maxLen;omega) (by omega) hBt2
 have f5:Fm tsP B t2 w5:=Fm.of_grow OH.out (Nat.le_refl _) hgrow hBt2 (by decide)
 have T5:w5.heap[rb]?=some (.cells (rcL S1 qH qR qP qO sb km).toArray 60)/\w5.cell? ⟨g,ib.length,none⟩=some (.slice aB ((bodS S).length+1) cB):=⟨keep_c T2.1 OH.out (by decide) hgrow,(World.cell?_of_block (a:=⟨g,ib.length,none⟩) (hgrow.block g hg2 (fun e=>M2.out.R.dis 0 3 _ _ (by omega) rfl rfl g e.symm (by show(Value.slice qP.a qP.n qP.c).ownBlock=some g;rw[HPA.out.1];rfl)))).trans T2.2⟩
 refine wpAnyL_appendZ (.tmp 31) (.tmp 39) (i:=13) rfl (by kernel_rfl) (by kernel_rfl) rfl rfl rfl hrun T5 (fun hHeld5=>?_)
 try go_frame
 refine wpAnyL_tkT 14 ?k12v rfl ?k12y ?k12r
 case k12y=>(intro w hSw;(try dsimp only at hSw);go_simp;try with_reducible rfl)
 try go_frame
 refine wpAnyL_tk 15 ?k13v rfl ?k13y ?k13r
 case k13y=>(intro w hSw;(try dsimp only at hSw);go_simp;try with_reducible rfl)
 try go_frame
 obtain⟨ao5,cz5,hv5⟩:=row_sliceZ hown
 subst hv5
 have r5:Rws w5 B (srcR (exP {S1 with op:=⟨(bodS S).length,0,false⟩::S1.op} (.slice ao5 (S1.op.length+1) cz5)) S1.hs S1.rg (ppl {S1 with op:=⟨(bodS S).length,0,false⟩::S1.op}) (.slice qH.a qH.n qH.c) (.slice qR.a qR.n qR.c) (.slice qP.a qP.n qP.c) bq):=by
  rw[ppl_open _ rfl]
  have q:=M2.out.R.grow (j:=0) (r:=⟨117,2,.slice qO.a qO.n qO.c,S1.op.length,S1.op.reverse.flatMap obL⟩) (r':=⟨117,2,.slice ao5 (S1.op.length+1) cz5,((⟨(bodS S).length,0,false⟩:OV)::S1.op).length,((⟨(bodS S).length,0,false⟩:OV)::S1.op).reverse.flatMap obL⟩) rfl hgrow (by unfold Rw.own;rw[List.reverse_cons,List.flatMap_append];simpa using hown) (hat.elim .inl (fun e=>.inr ⟨_,e,Nat.le_refl _⟩))
  exact q
 obtain⟨m6,f6⟩:=PR.set (S':={S1 with op:=⟨(bodS S).length,0,false⟩::S1.op}) (sO':=⟨ao5,S1.op.length+1,cz5⟩) T5.1 (rcL_set13 S1 {S1 with op:=⟨(bodS S).length,0,false⟩::S1.op} qH qR qP qO ⟨ao5,S1.op.length+1,cz5⟩ sb km HGL.out rfl rfl rfl) r5 M2.out.L (by rw[HEQ.out.2.1];exact HI2.out) (M2.out.pk.fm f5)
 have M6:Hid (PR (w5.setCell ⟨rb,13,none⟩ (.slice ao5 (S1.op.length+1) cz5)) B {S1 with op:=⟨(bodS S).length,0,false⟩::S.op} rb sb nb ob mf km qH qR qP ⟨ao5,S1.op.length+1,cz5⟩ bq):=(by rw[HEQ.out.2.1]at m6⊢;exact m6:PR (w5.setCell ⟨rb,13,none⟩ (.slice ao5 (S1.op.length+1) cz5)) B {S1 with op:=⟨(bodS S).length,0,false⟩::S.op} rb sb nb ob mf km qH qR qP ⟨ao5,S1.op.length+1,cz5⟩ bq)
 have F6:Hid (Fm tsP B w (w5.setCell ⟨rb,13,none⟩ (.slice ao5 (S1.op.length+1) cz5))):=(F2.out.trans f5).trans f6
 have y1:w5.cell? ⟨rb,13,none⟩=some (.slice qO.a qO.n qO.c):=r0 w5 T5
 have yf:=hp_frz T5.1
 clear hown hgrow hat hrun OH NW T1 T2 hHeld hHeld1 hHeld2 hHeld5 r0 r1 T5 f5 r5 m6 f6 HIS M1 M2 F1 F2
 refine wpAnyL_store rfl (by kernel_rfl) (by kernel_rfl) (fun KK hK=>?_)
 go_simp
 refine hK.out _ _ ?_
 clear hK KK y1 yf
 generalize w5.setCell ⟨rb,13,none⟩ (.slice ao5 (S1.op.length+1) cz5)=u6 at M6 F6⊢
 go_wp2_with fail
 go_ret
 rw[HN2.out]
 exact⟨F6.out,rfl,fun _ h=>by cases h;exact⟨_,_,_,_,_,M6.out⟩⟩
theorem ifLine_any(B:Nat)(S:PS)(rb sb nb ob mf km:Nat)(sH sR sP sO:Sl)(bv:List Value)(f:List (List UInt8))(fb fc:Nat)(w:World)(hB:B<=w.heap.size)(hm:PR w B S rb sb nb ob mf km sH sR sP sO bv)(hf:FA w fb f)(hbd:Bnd S 100000):
 Calls Tryz.prog 32 #[.pointer (some ⟨rb,0,none⟩),.slice (some ⟨fb,0,none⟩) f.length fc] w fun e w'=>PA B w rb sb nb ob mf km (if S.st=3 then opnS S 2 f else none) e w':=by
 obtain⟨RR,hRR⟩:∃y,(if S.st=3 then opnS S 2 f else none)=y:=⟨_,rfl⟩
 rw[hRR];have C:=openLine_any B S rb sb nb ob mf km sH sR sP sO bv 2 f fb fc w hB hm hf hbd;rw[hRR]at C;have HC:Hid _:=C;clear C hm hf hbd hRR;go_enter Tryz.func32,Tryz.ntmps32;go_wp2_with fail;refine Calls.mono HC.out ?_;rintro e u2⟨hf2,rfl,hp⟩;have F2:Hid (Fm tsP B w u2):=hf2;have HP:Hid (∀S',RR=some S'->∃(sH sR sP sO:Sl)(bv:List Value),PR u2 B S' rb sb nb ob mf km sH sR sP sO bv):=hp;obtain⟨bb,hbb⟩:∃y,RR.isSome=y:=⟨_,rfl⟩
 rw[hbb];have HBB:Hid (RR.isSome=bb):=hbb;clear hf2 hp hbb HC;go_wp2_with fail;go_ret;exact⟨F2.out,by rw[HBB.out];rfl,HP.out⟩
theorem whileLine_any(B:Nat)(S:PS)(rb sb nb ob mf km:Nat)(sH sR sP sO:Sl)(bv:List Value)(f:List (List UInt8))(fb fc:Nat)(w:World)(hB:B<=w.heap.size)(hm:PR w B S rb sb nb ob mf km sH sR sP sO bv)(hf:FA w fb f)(hbd:Bnd S 100000):
 Calls Tryz.prog 33 #[.pointer (some ⟨rb,0,none⟩),.slice (some ⟨fb,0,none⟩) f.length fc] w fun e w'=>PA B w rb sb nb ob mf km (if S.st=3 then opnS S 3 f else none) e w':=by
 obtain⟨RR,hRR⟩:∃y,(if S.st=3 then opnS S 3 f else none)=y:=⟨_,rfl⟩
 rw[hRR];have C:=openLine_any B S rb sb nb ob mf km sH sR sP sO bv 3 f fb fc w hB hm hf hbd;rw[hRR]at C;have HC:Hid _:=C;clear C hm hf hbd hRR;go_enter Tryz.func33,Tryz.ntmps33;go_wp2_with fail;refine Calls.mono HC.out ?_;rintro e u2⟨hf2,rfl,hp⟩;have F2:Hid (Fm tsP B w u2):=hf2;have HP:Hid (∀S',RR=some S'->∃(sH sR sP sO:Sl)(bv:List Value),PR u2 B S' rb sb nb ob mf km sH sR sP sO bv):=hp;obtain⟨bb,hbb⟩:∃y,RR.isSome=y:=⟨_,rfl⟩
 rw[hbb];have HBB:Hid (RR.isSome=bb):=hbb;clear hf2 hp hbb HC;go_wp2_with fail;go_ret;exact⟨F2.out,by rw[HBB.out];rfl,HP.out⟩
end Go.Proofs.YtblfmpgdhpbffaaGreatDoor
