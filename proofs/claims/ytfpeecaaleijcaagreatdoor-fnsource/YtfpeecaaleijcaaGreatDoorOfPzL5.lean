import Derived.Test.YtfpeecaaleijcaaGreatDoorOfCl
import Derived.Test.YtfpeecaaleijcaaGreatDoorOfPzL2
import Derived.Test.YtfpeecaaleijcaaGreatDoorOfPzSpec
set_option maxHeartbeats 6400000
set_option maxRecDepth 20000
namespace Go.Proofs.YtfpeecaaleijcaaGreatDoor
open Go.RowKit Go.Proofs
theorem MQ(rb g k cP:Nat)(w:World)(hk:k<1000000)(hc:w.cell? (Va rb 3)=some (Vs g (k+1) cP)):
 Calls Tryz.prog 124 #[Vq rb] w fun e w'=>e=.returned (.pointer (some ⟨g,k,none⟩))/\Below w.heap.size w w':=by
 have ea:((k+1:Nat):Int)-1=(k:Int):=by omega
 have ew:IntKind.i64.wrap (k:Int)=(k:Int):=by rw[IntKind.wrap_i64];omega
 have eb:(k:Int)<(k:Int)+1:=by omega
 go_enter Tryz.func124,Tryz.ntmps124;go_upto_region 1 with fail;have r0:∀w':World,Below w.heap.size w w'->w'.cell? (Va rb 3)=some (Vs g (k+1) cP):=fun w' h=>(h.cell (p:=Va rb 3) (World.block_lt_of_cell? _ _ hc)).trans hc
 refine wp_region_held_drew (S:=fun w'=>Below w.heap.size w w') (by kernel_rfl) (Below.refl _ _).drew (fun hHeld=>?_);have hb:Below w.heap.size w w.drew:=hHeld;generalize w.drew=t0 at hHeld hb⊢;refine AB 0 rfl ?_;refine AB 1 rfl ?_;refine AB 2 rfl ?_;refine AB 3 rfl ?_;refine AB 4 rfl ?_;refine AB 5 rfl ?_;refine AB 6 rfl ?_;refine AB 7 rfl ?_;refine AB 8 rfl ?_;refine AB 9 rfl ?_;refine AB 10 rfl ?_;refine AB 11 rfl ?_;refine AB 12 rfl ?_;refine AB 13 rfl ?_;refine AB 14 rfl ?_;refine wpAnyH_done (by kernel_rfl) ?_ _;clear r0;go_wp2_with fail;go_ret;exact⟨rfl,hb⟩
theorem PR.last{w:World}{B:Nat}{S:PS}{rb sb nb ob mf km:Nat}{sH sR sP sO:Sl}{bv:List Value}(h:PR w B S rb sb nb ob mf km sH sR sP sO bv)(h3:S.st=3):
 ∃(ib:List Value)(g:Nat)(aB:Option Addr)(cB:Nat),bv=ib++[.slice aB (Ac S).length cB]/\LZ S=S.ps.dropLast++[pat S.op (Ac S)]/\ib.length=S.ps.dropLast.length/\sP.a=some ⟨g,0,none⟩/\sP.n=ib.length+1/\sP.n<=sP.c/\w.cell? ⟨g,ib.length,none⟩=some (.slice aB (Ac S).length cB)/\g<w.heap.size:=by
 have hne:=h.I.ps h3;have e:=Hg hne;have hR:=h.R;rw[e]at hR;obtain⟨ib,g,aB,cB,h1,h2,h4,h5,h6,h7,h8,h9⟩:=hR.last (by rw[h.L,<-VT,e]) (by simp);have el:(S.ps.dropLast++[pat S.op (Ac S)]).getLastD []=pat S.op (Ac S):=by simp
 rw[el,Cf]at h1 h8;rw[List.dropLast_concat]at h4;exact⟨ib,g,aB,cB,h1,e,h4,h5,h6,h7,h8,h9⟩
theorem ZT{S:PS}(s:SV)(hI:Inv S):LZ (Dw S s)=S.ps.dropLast++[pat S.op (Ac S)++[s]]:=by
 rw[Hg (by simp[Dw,Cv])];have e1:Ac (Dw S s)=Ac S++[s]:=IC S _;have e2:(Dw S s).ps.dropLast=S.ps.dropLast:=by show(S.ps.dropLast++[_]).dropLast=_;simp
 have e3:(Dw S s).op=S.op:=rfl;rw[e1,e2,e3,VW _ _ _ (fun o ho=>hI.ol o ho)]
theorem FY(B:Nat)(S:PS)(rb sb nb ob mf km:Nat)(sH sR sP sO:Sl)(bv:List Value)(s:SV)(w:World)(hB:B<=w.heap.size)(hm:PR w B S rb sb nb ob mf km sH sR sP sO bv)(hbd:Ie S 100000):
 Calls Tryz.prog 91 #[Vq rb,.agg #[Vi s.k,Vi s.op,Vi s.d,Vi s.a,Vi s.b,Vi s.imm,Vi s.h,Vi s.cond,Vi s.thn,Vi s.els,Vi s.proc]] w fun e w'=>PA B w rb sb nb ob mf km (if S.st=3 then some (Dw S s)else none) e w':=by
 by_cases h3:S.st=3
 rotate_left
 ·rw[if_neg h3]
  have e1:((S.st:Int) !=3)=true:=by rw[bne_iff_ne];omega
  have hz:rb<w.heap.size:=(jH.1 hm.C).1;obtain⟨c0,c1,c2,c3,c4,c13,c14,c15,c5,cf⟩:=hm.cells;have F0:Hid (Fm GL B w (w.alloc (.cells #[Vi s.k,Vi s.op,Vi s.d,Vi s.a,Vi s.b,Vi s.imm,Vi s.h,Vi s.cond,Vi s.thn,Vi s.els,Vi s.proc] 89))):=Fm.of_below Ak hB;clear hm h3 c0 c1 c2 c3 c13 c14 c15 c5 cf hbd;go_enter Tryz.func91,Tryz.ntmps91;go_wp2_with fail;go_ret;exact⟨F0.out,rfl,fun _ h=>(by cases h)⟩
 rw[if_pos h3];obtain⟨ib,g,aB,cB,hbv,hpp,hil,hPa,hPn,hPc,hcl,hg⟩:=hm.last h3;obtain⟨aP,nP,cP⟩:=sP;dsimp only at hPa hPn hPc⊢;subst hPa hPn hbv;have e1:((S.st:Int) !=3)=false:=by rw[bne_eq_false_iff_eq];omega
 have hi6:ib.length<1000000:=by have h1:=hm.L;have:=hbd.ps;simp at h1;omega
 have hl6:(Ac S).length<=1000000:=by have:=hbd.bd;omega
 have M:=hxy hm;have H3:=hxy h3;have HPP:=hxy hpp;have HIL:=hxy hil;obtain⟨iS,gS,gS0,gS1,gS2⟩:=VL TQ;have HIS:Hid (_/\_/\_/\_):=⟨gS,gS0,gS1,gS2⟩
 clear hm h3 hpp hil gS gS0 gS1 gS2 hbd hPc;go_enter Tryz.func91,Tryz.ntmps91;go_upto_region 1 with fail;obtain⟨u,hu,hb,hc⟩:∃y,w.alloc (.cells #[Vi s.k,Vi s.op,Vi s.d,Vi s.a,Vi s.b,Vi s.imm,Vi s.h,Vi s.cond,Vi s.thn,Vi s.els,Vi s.proc] 89)=y/\Below w.heap.size w y/\Cl y w.heap.size [Vi s.k,Vi s.op,Vi s.d,Vi s.a,Vi s.b,Vi s.imm,Vi s.h,Vi s.cond,Vi s.thn,Vi s.els,Vi s.proc]:=⟨_,rfl,Ak,Cl.new⟩
 rw[hu];obtain⟨xb,hxb⟩:=Ae w.heap.size;rw[hxb]at hc⊢;have HXB:=hxy hxb;have BU:=hxy hb;have CU:=hxy hc;have MU:=hxy (M.out.below hb);obtain⟨c0,c1,c2,c3,c4,c13,c14,c15,c5,cf⟩:=MU.out.cells;clear hu hc hxb c0 c1 c2 c13 c14 c15 c5 cf hb;go_wp2_with fail;refine(MQ rb g ib.length cP u hi6 c3).mono ?_;rintro e u2⟨rfl,hb2⟩;have B2:=hxy (BU.out.trans (hb2.mono BU.out.size));have M2:=hxy (M.out.below B2.out);have C2:=hxy (CU.out.below hb2);have F2:Hid (Fm GL B w u2):=Fm.of_below B2.out hB;have G2:Hid (u2.cell? ⟨g,ib.length,none⟩=some (.slice aB (Ac S).length cB)):=(B2.out.cell (p:=⟨g,ib.length,none⟩) hg).trans hcl;have hB2:B<=u2.heap.size:=by have:=B2.out.size;omega
 have hg2:g<u2.heap.size:=jI hg B2.out.size;have NE:Hid (∀k,(Value.slice aB (Ac S).length cB).ownBlock=some k->k<xb):=(fun k hk=>by
  have hR:=M.out.R;rw[HPP.out]at hR;have:=(hR.own _ _ (DZ HIL.out)).lt k hk;have:=HXB.out;omega:∀k,(Value.slice aB (Ac S).length cB).ownBlock=some k->k<xb)
 have hgx:g<xb:=by have:=HXB.out;omega
 clear hb2 c3 c4 hcl hg BU CU MU;go_upto_region 4 with fail;have r0:∀w':World,(w'.heap[rb]?=some (.cells (EA S sH sR ⟨some ⟨g,0,none⟩,ib.length+1,cP⟩ sO sb km).toArray 85)/\Cl w' xb [Vi s.k,Vi s.op,Vi s.d,Vi s.a,Vi s.b,Vi s.imm,Vi s.h,Vi s.cond,Vi s.thn,Vi s.els,Vi s.proc]/\w'.cell? ⟨g,ib.length,none⟩=some (.slice aB (Ac S).length cB))->w'.cell? ⟨g,ib.length,none⟩=some (.slice aB (Ac S).length cB):=fun w' h=>h.2.2
 have r1:∀w':World,(w'.heap[rb]?=some (.cells (EA S sH sR ⟨some ⟨g,0,none⟩,ib.length+1,cP⟩ sO sb km).toArray 85)/\Cl w' xb [Vi s.k,Vi s.op,Vi s.d,Vi s.a,Vi s.b,Vi s.imm,Vi s.h,Vi s.cond,Vi s.thn,Vi s.els,Vi s.proc]/\w'.cell? ⟨g,ib.length,none⟩=some (.slice aB (Ac S).length cB))->w'.cell? (Va xb 0)=some (Vi s.k):=fun w' h=>h.2.1.2 0 (by simp)
 have r2:∀w':World,(w'.heap[rb]?=some (.cells (EA S sH sR ⟨some ⟨g,0,none⟩,ib.length+1,cP⟩ sO sb km).toArray 85)/\Cl w' xb [Vi s.k,Vi s.op,Vi s.d,Vi s.a,Vi s.b,Vi s.imm,Vi s.h,Vi s.cond,Vi s.thn,Vi s.els,Vi s.proc]/\w'.cell? ⟨g,ib.length,none⟩=some (.slice aB (Ac S).length cB))->w'.cell? (Va xb 1)=some (Vi s.op):=fun w' h=>h.2.1.2 1 (by simp)
 have r3:∀w':World,(w'.heap[rb]?=some (.cells (EA S sH sR ⟨some ⟨g,0,none⟩,ib.length+1,cP⟩ sO sb km).toArray 85)/\Cl w' xb [Vi s.k,Vi s.op,Vi s.d,Vi s.a,Vi s.b,Vi s.imm,Vi s.h,Vi s.cond,Vi s.thn,Vi s.els,Vi s.proc]/\w'.cell? ⟨g,ib.length,none⟩=some (.slice aB (Ac S).length cB))->w'.cell? (Va xb 2)=some (Vi s.d):=fun w' h=>h.2.1.2 2 (by simp)
 have r4:∀w':World,(w'.heap[rb]?=some (.cells (EA S sH sR ⟨some ⟨g,0,none⟩,ib.length+1,cP⟩ sO sb km).toArray 85)/\Cl w' xb [Vi s.k,Vi s.op,Vi s.d,Vi s.a,Vi s.b,Vi s.imm,Vi s.h,Vi s.cond,Vi s.thn,Vi s.els,Vi s.proc]/\w'.cell? ⟨g,ib.length,none⟩=some (.slice aB (Ac S).length cB))->w'.cell? (Va xb 3)=some (Vi s.a):=fun w' h=>h.2.1.2 3 (by simp)
 have r5:∀w':World,(w'.heap[rb]?=some (.cells (EA S sH sR ⟨some ⟨g,0,none⟩,ib.length+1,cP⟩ sO sb km).toArray 85)/\Cl w' xb [Vi s.k,Vi s.op,Vi s.d,Vi s.a,Vi s.b,Vi s.imm,Vi s.h,Vi s.cond,Vi s.thn,Vi s.els,Vi s.proc]/\w'.cell? ⟨g,ib.length,none⟩=some (.slice aB (Ac S).length cB))->w'.cell? (Va xb 4)=some (Vi s.b):=fun w' h=>h.2.1.2 4 (by simp)
 have r6:∀w':World,(w'.heap[rb]?=some (.cells (EA S sH sR ⟨some ⟨g,0,none⟩,ib.length+1,cP⟩ sO sb km).toArray 85)/\Cl w' xb [Vi s.k,Vi s.op,Vi s.d,Vi s.a,Vi s.b,Vi s.imm,Vi s.h,Vi s.cond,Vi s.thn,Vi s.els,Vi s.proc]/\w'.cell? ⟨g,ib.length,none⟩=some (.slice aB (Ac S).length cB))->w'.cell? (Va xb 5)=some (Vi s.imm):=fun w' h=>h.2.1.2 5 (by simp)
 have r7:∀w':World,(w'.heap[rb]?=some (.cells (EA S sH sR ⟨some ⟨g,0,none⟩,ib.length+1,cP⟩ sO sb km).toArray 85)/\Cl w' xb [Vi s.k,Vi s.op,Vi s.d,Vi s.a,Vi s.b,Vi s.imm,Vi s.h,Vi s.cond,Vi s.thn,Vi s.els,Vi s.proc]/\w'.cell? ⟨g,ib.length,none⟩=some (.slice aB (Ac S).length cB))->w'.cell? (Va xb 6)=some (Vi s.h):=fun w' h=>h.2.1.2 6 (by simp)
 have r8:∀w':World,(w'.heap[rb]?=some (.cells (EA S sH sR ⟨some ⟨g,0,none⟩,ib.length+1,cP⟩ sO sb km).toArray 85)/\Cl w' xb [Vi s.k,Vi s.op,Vi s.d,Vi s.a,Vi s.b,Vi s.imm,Vi s.h,Vi s.cond,Vi s.thn,Vi s.els,Vi s.proc]/\w'.cell? ⟨g,ib.length,none⟩=some (.slice aB (Ac S).length cB))->w'.cell? (Va xb 7)=some (Vi s.cond):=fun w' h=>h.2.1.2 7 (by simp)
 have r9:∀w':World,(w'.heap[rb]?=some (.cells (EA S sH sR ⟨some ⟨g,0,none⟩,ib.length+1,cP⟩ sO sb km).toArray 85)/\Cl w' xb [Vi s.k,Vi s.op,Vi s.d,Vi s.a,Vi s.b,Vi s.imm,Vi s.h,Vi s.cond,Vi s.thn,Vi s.els,Vi s.proc]/\w'.cell? ⟨g,ib.length,none⟩=some (.slice aB (Ac S).length cB))->w'.cell? (Va xb 8)=some (Vi s.thn):=fun w' h=>h.2.1.2 8 (by simp)
 have r10:∀w':World,(w'.heap[rb]?=some (.cells (EA S sH sR ⟨some ⟨g,0,none⟩,ib.length+1,cP⟩ sO sb km).toArray 85)/\Cl w' xb [Vi s.k,Vi s.op,Vi s.d,Vi s.a,Vi s.b,Vi s.imm,Vi s.h,Vi s.cond,Vi s.thn,Vi s.els,Vi s.proc]/\w'.cell? ⟨g,ib.length,none⟩=some (.slice aB (Ac S).length cB))->w'.cell? (Va xb 9)=some (Vi s.els):=fun w' h=>h.2.1.2 9 (by simp)
 have r11:∀w':World,(w'.heap[rb]?=some (.cells (EA S sH sR ⟨some ⟨g,0,none⟩,ib.length+1,cP⟩ sO sb km).toArray 85)/\Cl w' xb [Vi s.k,Vi s.op,Vi s.d,Vi s.a,Vi s.b,Vi s.imm,Vi s.h,Vi s.cond,Vi s.thn,Vi s.els,Vi s.proc]/\w'.cell? ⟨g,ib.length,none⟩=some (.slice aB (Ac S).length cB))->w'.cell? (Va xb 10)=some (Vi s.proc):=fun w' h=>h.2.1.2 10 (by simp)
 have TD:u2.drew.heap[rb]?=some (.cells (EA S sH sR ⟨some ⟨g,0,none⟩,ib.length+1,cP⟩ sO sb km).toArray 85)/\Cl u2.drew xb [Vi s.k,Vi s.op,Vi s.d,Vi s.a,Vi s.b,Vi s.imm,Vi s.h,Vi s.cond,Vi s.thn,Vi s.els,Vi s.proc]/\u2.drew.cell? ⟨g,ib.length,none⟩=some (.slice aB (Ac S).length cB):=⟨M2.out.C,C2.out.below (Below.refl _ _).drew,G2.out⟩
 have MD:Hid (PR u2.drew B S rb sb nb ob mf km sH sR ⟨some ⟨g,0,none⟩,ib.length+1,cP⟩ sO (ib++[.slice aB (Ac S).length cB])):=M2.out.below (Below.refl _ _).drew;have FD:Hid (Fm GL B w u2.drew):=F2.out.below (Below.refl _ _).drew hB2;have hBd:B<=u2.drew.heap.size:=hB2;have hgd:g<u2.drew.heap.size:=hg2;refine BF (T:=fun w'=>w'.heap[rb]?=some (.cells (EA S sH sR ⟨some ⟨g,0,none⟩,ib.length+1,cP⟩ sO sb km).toArray 85)/\Cl w' xb [Vi s.k,Vi s.op,Vi s.d,Vi s.a,Vi s.b,Vi s.imm,Vi s.h,Vi s.cond,Vi s.thn,Vi s.els,Vi s.proc]/\w'.cell? ⟨g,ib.length,none⟩=some (.slice aB (Ac S).length cB)) (s:=8) (by kernel_rfl) TD (fun hHeld=>?_);clear TD M2 F2 C2 G2;generalize u2.drew=t0 at hHeld MD FD hBd hgd⊢;refine AJ 0 rfl ?_;refine AJ 1 rfl ?_;refine AJ 2 rfl ?_;refine AJ 3 rfl ?_;refine AJ 4 rfl ?_;refine Aq (i:=5) rfl (by kernel_rfl) (fun KK hK=>?_);go_simp;obtain⟨t2,ht2,hbA,hnw⟩:∃y,t0.alloc (.cells #[Vi s.k,Vi s.op,Vi s.d,Vi s.a,Vi s.b,Vi s.imm,Vi s.h,Vi s.cond,Vi s.thn,Vi s.els,Vi s.proc] 89)=y/\Below t0.heap.size t0 y/\(∀j u,(Yt s)[j]?=some u->y.cell? ((⟨t0.heap.size,0,none⟩:Addr).add j)=some u):=⟨_,rfl,Ak,Gf _ _ _⟩
 rw[ht2];have M2:=hxy (MD.out.below hbA);have F2:=hxy (FD.out.below hbA hBd);have T2:t2.heap[rb]?=some (.cells (EA S sH sR ⟨some ⟨g,0,none⟩,ib.length+1,cP⟩ sO sb km).toArray 85)/\Cl t2 xb [Vi s.k,Vi s.op,Vi s.d,Vi s.a,Vi s.b,Vi s.imm,Vi s.h,Vi s.cond,Vi s.thn,Vi s.els,Vi s.proc]/\t2.cell? ⟨g,ib.length,none⟩=some (.slice aB (Ac S).length cB):=⟨M2.out.C,hHeld.2.1.below hbA,(hbA.cell (p:=⟨g,ib.length,none⟩) hgd).trans hHeld.2.2⟩
 have hBt2:B<=t2.heap.size:=by have:=hbA.size;omega
 have NW:Hid _:=hnw;clear ht2 hbA hnw MD FD;refine hK.out _ _ T2 (fun hHeld1=>?_);clear hK KK;try simp only[Act.put,BP,BN,BK,BQ,BS,BM]
 have hR2:=M2.out.R;rw[HPP.out]at hR2;have OH:Hid (t2.ownsRow B 89 11 (.slice aB (Ac S).length cB) (Ac S).length (cs (pat S.op (Ac S)))):=(by have h:=hR2.own _ _ (DZ HIL.out);unfold Rw.own at h;rw[Cf]at h;exact h:t2.ownsRow B 89 11 (.slice aB (Ac S).length cB) (Ac S).length (cs (pat S.op (Ac S))))
 obtain⟨v',w5,hrun,hown,hgrow,_,hat⟩:=run_append_own_at (P:=Tryz.prog) t2 B 36 36 89 iS _ 11 88 Tryz.underlying36 HIS.out.1 HIS.out.2.1 HIS.out.2.2.1 HIS.out.2.2.2 rfl (by decide) (.slice aB (Ac S).length cB) (Ac S).length (cs (pat S.op (Ac S))) OH.out ⟨t0.heap.size,0,none⟩ 1 1 (Yt s) rfl NW.out (by simp[Yt,Value.oneCell']) (by unfold maxLen;omega) (by omega) hBt2;have f5:Fm GL B t2 w5:=Fm.of_grow OH.out jG hgrow hBt2 (by decide);have hB5:B<=w5.heap.size:=by have:=hgrow.size;omega
 have HO5:w5.ownsRow B 89 11 v' (pat S.op (Ac S)++[s]).length (cs (pat S.op (Ac S)++[s])):=by rw[List.length_append,bO,bJ,Cf];exact hown
 obtain⟨q1,q2,q3,q4,q5,q6⟩:=hR2.body HIL.out hgrow HO5 (hat.elim .inl (fun e=>.inr ⟨_,e,jG⟩));have T5:w5.heap[rb]?=some (.cells (EA S sH sR ⟨some ⟨g,0,none⟩,ib.length+1,cP⟩ sO sb km).toArray 85)/\Cl w5 xb [Vi s.k,Vi s.op,Vi s.d,Vi s.a,Vi s.b,Vi s.imm,Vi s.h,Vi s.cond,Vi s.thn,Vi s.els,Vi s.proc]/\w5.cell? ⟨g,ib.length,none⟩=some (.slice aB (Ac S).length cB):=⟨GR T2.1 OH.out (by decide) hgrow,⟨jI T2.2.1.1 hgrow.size,fun i hi=>(World.cell?_of_block (a:=Va xb i) (hgrow.block xb T2.2.1.1 (fun e=>by have:=NE.out xb e.symm;omega))).trans (T2.2.1.2 i hi)⟩,q2⟩
 refine FP (.tmp 16) (.tmp 18) (i:=6) rfl (by kernel_rfl) (by kernel_rfl) rfl rfl rfl hrun T5 (fun hHeld5=>?_)
 try simp only[Act.put,BP,BN,BK,BQ,BS,BM]
 refine AJ 7 rfl ?_
 obtain⟨ao5,cz5,hv5⟩:=Dr hown
 subst hv5
 have f6:Fm GL B w5 (w5.setCell ⟨g,ib.length,none⟩ (.slice ao5 ((Ac S).length+1) cz5)):=Fm.of_grow q6 jG q5 hB5 (by decide)
 have k6:=(M2.out.pk.fm f5).fm f6
 have c6:(w5.setCell ⟨g,ib.length,none⟩ (.slice ao5 ((Ac S).length+1) cz5)).heap[rb]?=some (.cells (EA S sH sR ⟨some ⟨g,0,none⟩,ib.length+1,cP⟩ sO sb km).toArray 85):=GR T5.1 q6 (by decide) q5
 have M6:Hid (PR (w5.setCell ⟨g,ib.length,none⟩ (.slice ao5 ((Ac S).length+1) cz5)) B (Dw S s) rb sb nb ob mf km sH sR ⟨some ⟨g,0,none⟩,ib.length+1,cP⟩ sO (ib++[.slice ao5 ((Ac S).length+1) cz5])):=(⟨c6,(by rw[ZT s M2.out.I];exact q1),(by show _=(S.ps.dropLast++[_]).length;rw[List.length_append,List.length_append,HIL.out];rfl),M2.out.I.add s H3.out,k6.SC,k6.OA,k6.K,k6.E,k6.b,k6.m,k6.p⟩:PR (w5.setCell ⟨g,ib.length,none⟩ (.slice ao5 ((Ac S).length+1) cz5)) B (Dw S s) rb sb nb ob mf km sH sR ⟨some ⟨g,0,none⟩,ib.length+1,cP⟩ sO (ib++[.slice ao5 ((Ac S).length+1) cz5]))
 have F6:=hxy ((F2.out.trans f5).trans f6)
 clear hown hgrow hat hrun OH f5 HO5 T5 hHeld5 T2 M2 F2 NW hHeld hHeld1 r0 r1 r2 r3 r4 r5 r6 r7 r8 r9 r10 r11 q1 q4 q5 q6 f6 k6 c6 hR2 HIS
 refine A7 rfl (by kernel_rfl) (by kernel_rfl) (fun KK hK=>?_)
 go_simp
 refine hK.out _ _ ?_
 clear hK KK q2 q3
 generalize w5.setCell ⟨g,ib.length,none⟩ (.slice ao5 ((Ac S).length+1) cz5)=u6 at M6 F6⊢
 go_wp2_with fail
 go_ret
 exact⟨F6.out,rfl,fun _ h=>by cases h;exact⟨_,_,_,_,_,M6.out⟩⟩
theorem Qj(B:Nat)(S:PS)(rb sb nb ob mf km:Nat)(sH sR sP sO:Sl)(bv:List Value)(f:List (List UInt8))(fb fc:Nat)(w:World)(hB:B<=w.heap.size)(hm:PR w B S rb sb nb ob mf km sH sR sP sO bv)(hf:FA w fb f)(hl:∀i,((Ck (fd f i)).size:Int)<=200000)(hbd:Ie S 100000):
 Calls Tryz.prog 61 #[Vq rb,Vs fb f.length fc] w fun e w'=>PA B w rb sb nb ob mf km ((if S.st=3 then NF S f else none)) e w':=by
 obtain⟨RR,hRR⟩:=Ae ((if S.st=3 then NF S f else none));rw[hRR];have HRR:=hxy hRR;have M:=hxy hm;have HBD:=hxy hbd;have HL:=hxy hl;have HF:=hxy hf;have hz:rb<w.heap.size:=(jH.1 hm.C).1;have hBb:=hm.b;obtain⟨c0,c1,c2,c3,c4,c13,c14,c15,c5,cf⟩:=hm.cells;have HC5:=hxy c5;clear hm hf hl hRR c5 hbd;go_enter Tryz.func61,Tryz.ntmps61;by_cases h2:f.length=2
 rotate_left
 ·have e2:((f.length:Int) !=2)=true:=by rw[bne_iff_ne];omega
  have HN:Hid (RR=none):=(by rw[<-HRR.out];unfold NF;rw[if_neg h2];split<;>rfl:RR=none)
  clear h2;go_wp2_with fail;go_ret;rw[HN.out];exact⟨Fm.refl _ _ _,rfl,fun _ h=>(by cases h)⟩
 have e2:((f.length:Int) !=2)=false:=by rw[bne_eq_false_iff_eq];omega
 have e3:(1:Int)<(f.length:Int):=by omega
 have H2:=hxy h2;obtain⟨s1,hs1⟩:=Ae (Ck (fd f 1));have g1:w.cell? (Va fb 1)=some (.string s1):=(HF.out.cell 1 (by omega)).trans (by rw[hs1]);have hz1:(s1.size:Int)<=200000:=by rw[<-hs1];exact HL.out 1
 have HW:Hid (rdNum 0 s1.data.toList=Bc false (fd f 1)):=(by rw[<-hs1,show(0:Int)=(if false=true then -9999999999999 else 0)from rfl,FQ];simp[Ck]:rdNum 0 s1.data.toList=Bc false (fd f 1))
 clear hs1 h2;go_wp2_with fail;refine(Co s1 0 w M.out.E hB hz1).mono ?_;rintro e u⟨j,rfl,hj,hb⟩;rw[HW.out]at hj⊢;have M1:=hxy (M.out.below hb);have F1:Hid (Fm GL B w u):=Fm.of_below hb hB;have hBu:B<=u.heap.size:=by have:=hb.size;omega
 clear hb c0 c1 c2 c3 c4 c13 c14 c15 cf g1;cases hn:Bc false (fd f 1)with
 |none=>
  have HN:Hid (RR=none):=(by rw[<-HRR.out];unfold NF;rw[if_pos H2.out,hn];split<;>rfl:RR=none)
  simp only[Option.isSome_none];clear hn hj;go_wp2_with fail;go_ret;rw[HN.out];exact⟨F1.out,rfl,fun _ h=>(by cases h)⟩
 |some v=>
  obtain rfl:=hj v hn;simp only[Option.isSome_some];have HN:Hid (RR=if S.st=3 then some (Dw S ⟨4,0,0,0,0,0,0,0,0,0,j⟩)else none):=(by rw[<-HRR.out];unfold NF;rw[if_pos H2.out,hn];rfl:RR=if S.st=3 then some (Dw S ⟨4,0,0,0,0,0,0,0,0,0,j⟩)else none)
  clear hn hj;go_wp2_with fail;refine(FY B S rb sb nb ob mf km sH sR sP sO bv ⟨4,0,0,0,0,0,0,0,0,0,j⟩ u hBu M1.out HBD.out).mono ?_;rintro e u2⟨hf2,rfl,hp⟩;rw[<-HN.out]at hp⊢;have F2:=hxy (F1.out.trans hf2);have HP:=hxy hp;obtain⟨bb,hbb⟩:=Ae RR.isSome;rw[hbb];have HBB:=hxy hbb;clear hf2 hp hbb;go_wp2_with fail;go_ret;exact⟨F2.out,by rw[HBB.out];rfl,HP.out⟩
theorem UZ:(Tryz.prog.info? 179).map (fun i=>(i.zero,i.size,i.bytes))=some (some (.agg #[Vi 0,.bool false]),2,16):=by kernel_rfl
theorem Wn(l:List UInt8):(if l=[122]then(0:Int)else if l=[110,122]then 1 else if l=[99]then 2 else if l=[110,99]then 3 else -1)+1=Ju l:=by
 unfold Ju;split
 ·rfl
 ·split
  ·rfl
  ·split
   ·rfl
   ·split<;>rfl
theorem dU(l:List UInt8):Mk (Ju l)=decide (Ju l≠0):=by
 unfold Ju Mk;split
 ·decide
 ·split
  ·decide
  ·split
   ·decide
   ·split<;>decide
theorem Z4(l:List UInt8):0<=Ju l/\Ju l<=4:=by
 unfold Ju;split
 ·decide
 ·split
  ·decide
  ·split
   ·decide
   ·split<;>decide
theorem bN(S:PS)(sH sR sP sO:Sl)(sb km:Nat)(hg:S.gv.length=8):(EA S sH sR sP sO sb km).toArray[13]?=some (.slice sO.a sO.n sO.c):=by
 rw[List.getElem?_toArray];unfold EA;rw[List.getElem?_append_right (by simp),List.getElem?_append_right (by simp[hg])];simp[hg]
theorem ZC{S:PS}(o:OV)(ho:o.els=false):LZ {S with op:=o::S.op}=LZ S:=by
 unfold LZ;have e:pat (o::S.op) (Ac S)=pat S.op (Ac S):=by
  show(if o.els=true then _ else pat S.op (Ac S))=_;rw[if_neg (by rw[ho];decide)]
 show(if S.ps=[]then[]else S.ps.dropLast++[pat (o::S.op) (Ac S)])=_;rw[e]
theorem J8(B:Nat)(S:PS)(rb sb nb ob mf km:Nat)(sH sR sP sO:Sl)(bv:List Value)(kd:Int)(f:List (List UInt8))(fb fc:Nat)(w:World)(hB:B<=w.heap.size)(hm:PR w B S rb sb nb ob mf km sH sR sP sO bv)(hf:FA w fb f)(hbd:Ie S 100000):
 Calls Tryz.prog 89 #[Vq rb,Vi kd,Vs fb f.length fc] w fun e w'=>PA B w rb sb nb ob mf km (if S.st=3 then Ez S kd f else none) e w':=by
 obtain⟨RR,hRR⟩:=Ae ((if S.st=3 then Ez S kd f else none));rw[hRR];have HRR:=hxy hRR;have M:=hxy hm;have HBD:=hxy hbd;have HF:=hxy hf;have hz:rb<w.heap.size:=(jH.1 hm.C).1;clear hm hf hRR hbd;go_enter Tryz.func89,Tryz.ntmps89;by_cases h2:f.length=2
 rotate_left
 ·have e2:((f.length:Int) !=2)=true:=by rw[bne_iff_ne];omega
  have HN:Hid (RR=none):=(by rw[<-HRR.out,show Ez S kd f=none by unfold Ez;rw[if_neg (fun h=>h2 h.1)]];split<;>rfl:RR=none)
  clear h2;go_wp2_with fail;go_ret;rw[HN.out];exact⟨Fm.refl _ _ _,rfl,fun _ h=>(by cases h)⟩
 have e2:((f.length:Int) !=2)=false:=by rw[bne_eq_false_iff_eq];omega
 have e3:(1:Int)<(f.length:Int):=by omega
 have H2:=hxy h2;obtain⟨s1,hs1⟩:=Ae (Ck (fd f 1));have HS1:=hxy hs1;have g1:w.cell? (Va fb 1)=some (.string s1):=(HF.out.cell 1 (by omega)).trans (by rw[hs1]);clear hs1 h2;go_wp2_with fail;refine(EM ⟨#[122,32,110,122,32,99,32,110,99]⟩ [[122],[110,122],[99],[110,99]] s1 w M.out.E (by decide) (by decide) (by kernel_rfl) (by decide)).mono ?_;rintro e u⟨rfl,hb⟩;rw[iK _ _ _ _ (fd f 1) s1 HS1.out];obtain⟨pv,hpv⟩:∃y:Int,(if fd f 1=[122]then(0:Int)else if fd f 1=[110,122]then 1 else if fd f 1=[99]then 2 else if fd f 1=[110,99]then 3 else -1)=y:=⟨_,rfl⟩
 rw[hpv];have hcv:=Wn (fd f 1);rw[hpv]at hcv;obtain⟨cv,hce⟩:=Ae (Ju (fd f 1));rw[hce]at hcv;have hcb:=Z4 (fd f 1);rw[hce]at hcb;have HCE:=hxy hce;have ew:IntKind.i64.wrap (pv+1)=cv:=by rw[hcv,IntKind.wrap_i64];omega
 have M1:=hxy (M.out.below hb);have F1:Hid (Fm GL B w u):=Fm.of_below hb hB;have hBu:B<=u.heap.size:=by have:=hb.size;omega
 have HCV:=hxy hcv;clear hb hpv hce g1 hcv;go_upto_region 4 with fail;try simp only[HCV.out]
 go_wp2_with fail;refine(Fh cv u).mono ?_;rintro e u1⟨rfl,hu1⟩;rw[hu1,show Mk cv=decide (cv≠0)by rw[<-HCE.out];exact dU _];clear hu1;by_cases hc0:cv=0
 ·subst hc0
  have HN:Hid (RR=none):=(by rw[<-HRR.out,show Ez S kd f=none by unfold Ez;rw[if_neg (fun h=>h.2 HCE.out)]];split<;>rfl:RR=none)
  rw[show decide ((0:Int)≠0)=false by decide];go_wp2_with fail;go_ret;rw[HN.out];exact⟨F1.out,rfl,fun _ h=>(by cases h)⟩
 rw[show decide (cv≠0)=true by simp[hc0]];have HN:Hid (RR=if S.st=3 then some {Dw S ⟨kd,0,0,0,0,0,0,cv,0,0,0⟩with op:=⟨(Ac S).length,0,false⟩::S.op}else none):=(by rw[<-HRR.out,show Ez S kd f=some {Dw S ⟨kd,0,0,0,0,0,0,cv,0,0,0⟩with op:=⟨(Ac S).length,0,false⟩::S.op}by unfold Ez;rw[if_pos ⟨H2.out,by rw[HCE.out];exact hc0⟩,HCE.out];rfl]:RR=if S.st=3 then some {Dw S ⟨kd,0,0,0,0,0,0,cv,0,0,0⟩with op:=⟨(Ac S).length,0,false⟩::S.op}else none)
 clear hc0;go_wp2_with fail;refine(FY B S rb sb nb ob mf km sH sR sP sO bv ⟨kd,0,0,0,0,0,0,cv,0,0,0⟩ u hBu M1.out HBD.out).mono ?_;rintro e u2⟨hf2,rfl,hp⟩;have F2:=hxy (F1.out.trans hf2);by_cases h3:S.st=3
 rotate_left
 ·rw[if_neg h3]
  have HN2:Hid (RR=none):=(by rw[HN.out,if_neg h3]:RR=none)
  clear hp h3 hf2;go_wp2_with fail;go_ret;rw[HN2.out];exact⟨F2.out,rfl,fun _ h=>(by cases h)⟩
 rw[if_pos h3]at hp⊢;obtain⟨qH,qR,qP,qO,bq,m2⟩:=hp _ rfl;have HN2:Hid (RR=some {Dw S ⟨kd,0,0,0,0,0,0,cv,0,0,0⟩with op:=⟨(Ac S).length,0,false⟩::S.op}):=(by rw[HN.out,if_pos h3]:RR=some {Dw S ⟨kd,0,0,0,0,0,0,cv,0,0,0⟩with op:=⟨(Ac S).length,0,false⟩::S.op})
 have HI2:Hid (Inv {Dw S ⟨kd,0,0,0,0,0,0,cv,0,0,0⟩with op:=⟨(Ac S).length,0,false⟩::S.op}):=M.out.I.put (Ac S++[(⟨kd,0,0,0,0,0,0,cv,0,0,0⟩:SV)]) (⟨(Ac S).length,0,false⟩::S.op) h3 (fun q hq=>by
  rcases List.mem_cons.1 hq with rfl|hq
  ·simp
  ·have:=M.out.I.ol q hq;simp;omega) (List.Pairwise.cons (fun q hq=>M.out.I.ol q hq) M.out.I.od)
 obtain⟨S1,hS1⟩:=Ae (Dw S ⟨kd,0,0,0,0,0,0,cv,0,0,0⟩);have e13:S1.st=3:=by rw[<-hS1];exact h3
 have ebl:(Ac S1).length=(Ac S).length+1:=by rw[<-hS1];show(Ac (Cv S _)).length=_;rw[IC];simp
 have eop:S1.op=S.op:=by rw[<-hS1];rfl
 have hbl6:(Ac S).length<=1000000:=by have:=HBD.out.bd;omega
 have hop6:S1.op.length<=1000000:=by rw[eop];have:=HBD.out.op;omega
 rw[hS1]at m2 HN2 HI2;have HPL:Hid (S1.ps.length<=100001):=(by rw[<-hS1];show(S.ps.dropLast++[_]).length<=_;rw[List.length_append,List.length_dropLast];have:=HBD.out.ps;simp;omega:S1.ps.length<=100001)
 have HGL:Hid (S1.gv.length=8):=(by rw[<-hS1];exact M.out.I.gv:S1.gv.length=8)
 have HEQ:Hid ((Ac S1).length=(Ac S).length+1/\S1.op=S.op/\S1.st=3):=⟨ebl,eop,e13⟩
 clear hp h3 hf2 hS1 e13 ebl eop M M1 F1 HN HRR;obtain⟨ib,g,aB,cB,hbv,hpp,hil,hPa,hPn,hPc,hcl,hg⟩:=m2.last HEQ.out.2.2;have hi6:ib.length<1000000:=by
  have h1:=m2.L;rw[hbv]at h1;simp at h1;have h2:=HPL.out;omega
 have M2:=hxy m2;have hB2:B<=u2.heap.size:=by have:=F2.out.b.size;omega
 have hz2:rb<u2.heap.size:=(jH.1 m2.C).1;have HPA:Hid (qP.a=some ⟨g,0,none⟩/\qP.n=ib.length+1):=⟨hPa,hPn⟩
 have hcl':u2.cell? ⟨g,ib.length,none⟩=some (.slice aB ((Ac S).length+1) cB):=by rw[<-HEQ.out.1];exact hcl
 have G2:=hxy hcl';clear m2 hbv hpp hil hPa hPn hPc hcl hcl';go_upto_region 6 with fail;have r0:∀w':World,(w'.heap[rb]?=some (.cells (EA S1 qH qR qP qO sb km).toArray 85)/\w'.cell? ⟨g,ib.length,none⟩=some (.slice aB ((Ac S).length+1) cB))->w'.cell? (Va rb 13)=some (.slice qO.a qO.n qO.c):=fun w' h=>(AV h.1 13).trans (bN S1 qH qR qP qO sb km HGL.out)
 have r1:∀w':World,(w'.heap[rb]?=some (.cells (EA S1 qH qR qP qO sb km).toArray 85)/\w'.cell? ⟨g,ib.length,none⟩=some (.slice aB ((Ac S).length+1) cB))->w'.cell? ⟨g,ib.length,none⟩=some (.slice aB ((Ac S).length+1) cB):=fun w' h=>h.2
 obtain⟨iS,gS,gS0,gS1,gS2⟩:=VL UZ;have HIS:Hid (_/\_/\_/\_):=⟨gS,gS0,gS1,gS2⟩
 clear gS gS0 gS1 gS2;have TD:u2.drew.heap[rb]?=some (.cells (EA S1 qH qR qP qO sb km).toArray 85)/\u2.drew.cell? ⟨g,ib.length,none⟩=some (.slice aB ((Ac S).length+1) cB):=⟨M2.out.C,G2.out⟩
 have MD:Hid (PR u2.drew B S1 rb sb nb ob mf km qH qR qP qO bq):=M2.out.below (Below.refl _ _).drew;have FD:Hid (Fm GL B w u2.drew):=F2.out.below (Below.refl _ _).drew hB2;have hBd:B<=u2.drew.heap.size:=hB2;have hgd:g<u2.drew.heap.size:=hg;have ea:(((Ac S).length+1:Nat):Int)-1=((Ac S).length:Int):=by omega
 have ew2:IntKind.i64.wrap ((Ac S).length:Int)=((Ac S).length:Int):=by rw[IntKind.wrap_i64];omega
 refine BF (T:=fun w'=>w'.heap[rb]?=some (.cells (EA S1 qH qR qP qO sb km).toArray 85)/\w'.cell? ⟨g,ib.length,none⟩=some (.slice aB ((Ac S).length+1) cB)) (s:=16) (by kernel_rfl) TD (fun hHeld=>?_);clear TD M2 F2 G2;generalize u2.drew=t0 at hHeld MD FD hBd hgd⊢;refine AJ 0 rfl ?_;refine AJ 1 rfl ?_;refine AJ 2 rfl ?_;refine AJ 3 rfl ?_;refine AJ 4 rfl ?_;refine AJ 5 rfl ?_;refine Aq (i:=6) rfl (by kernel_rfl) (fun KK hK=>?_);go_simp;refine(MQ rb g ib.length qP.c t0 hi6 (by have h:=AV hHeld.1 3;rw[h];show some (Value.slice qP.a qP.n qP.c)=_;rw[HPA.out.1,HPA.out.2])).mono ?_;rintro e t1⟨rfl,hb1⟩;have M1:=hxy (MD.out.below hb1);have F1:=hxy (FD.out.below hb1 hBd);have T1:t1.heap[rb]?=some (.cells (EA S1 qH qR qP qO sb km).toArray 85)/\t1.cell? ⟨g,ib.length,none⟩=some (.slice aB ((Ac S).length+1) cB):=⟨M1.out.C,(hb1.cell (p:=⟨g,ib.length,none⟩) hgd).trans hHeld.2⟩
 have hB1:B<=t1.heap.size:=by have:=hb1.size;omega
 have hg1:g<t1.heap.size:=by have:=hb1.size;omega
 clear hb1 MD FD;refine hK.out _ _ T1 (fun hHeld1=>?_);clear hK KK;refine AJ 7 rfl ?_;refine AJ 8 rfl ?_;refine AJ 9 rfl ?_;refine AJ 10 rfl ?_;refine AJ 11 rfl ?_;refine Aq (i:=12) rfl (by kernel_rfl) (fun KK hK=>?_)
 go_simp
 obtain⟨t2,ht2,hbA,hnw⟩:∃y,t1.alloc (.cells #[Vi ((Ac S).length:Int),.bool false] 179)=y/\Below t1.heap.size t1 y/\(∀j u,(Lh ⟨(Ac S).length,0,false⟩)[j]?=some u->y.cell? ((⟨t1.heap.size,0,none⟩:Addr).add j)=some u):=⟨_,rfl,Ak,Gf _ _ _⟩
 rw[ht2]
 have M2:=hxy (M1.out.below hbA)
 have F2:=hxy (F1.out.below hbA hB1)
 have T2:t2.heap[rb]?=some (.cells (EA S1 qH qR qP qO sb km).toArray 85)/\t2.cell? ⟨g,ib.length,none⟩=some (.slice aB ((Ac S).length+1) cB):=⟨M2.out.C,(hbA.cell (p:=⟨g,ib.length,none⟩) hg1).trans T1.2⟩
 have hBt2:B<=t2.heap.size:=by have:=hbA.size;omega
 have hg2:g<t2.heap.size:=by have:=hbA.size;omega
 have NW:Hid _:=hnw
 clear ht2 hbA hnw
 refine hK.out _ _ T2 (fun hHeld2=>?_)
 clear hK KK
 try simp only[Act.put,BP,BN,BK,BQ,BS,BM]
 have OH:Hid (t2.ownsRow B 179 2 (.slice qO.a qO.n qO.c) S1.op.length (S1.op.reverse.flatMap Lh)):=M2.out.R.own 0 _ rfl
 obtain⟨v',w5,hrun,hown,hgrow,_,hat⟩:=run_append_own_at (P:=Tryz.prog) t2 B 82 82 179 iS _ 2 16 Tryz.underlying82 HIS.out.1 HIS.out.2.1 HIS.out.2.2.1 HIS.out.2.2.2 rfl (by decide) (.slice qO.a qO.n qO.c) S1.op.length (S1.op.reverse.flatMap Lh) OH.out ⟨t1.heap.size,0,none⟩ 1 1 (Lh ⟨(Ac S).length,0,false⟩) rfl NW.out (by simp[Lh,Value.oneCell']) (by unfold maxLen;omega) (by omega) hBt2
 have f5:Fm GL B t2 w5:=Fm.of_grow OH.out jG hgrow hBt2 (by decide)
 have T5:w5.heap[rb]?=some (.cells (EA S1 qH qR qP qO sb km).toArray 85)/\w5.cell? ⟨g,ib.length,none⟩=some (.slice aB ((Ac S).length+1) cB):=⟨GR T2.1 OH.out (by decide) hgrow,(World.cell?_of_block (a:=⟨g,ib.length,none⟩) (hgrow.block g hg2 (fun e=>M2.out.R.dis 0 3 _ _ (by omega) rfl rfl g e.symm (by show(Value.slice qP.a qP.n qP.c).ownBlock=some g;rw[HPA.out.1];rfl)))).trans T2.2⟩
 refine FP (.tmp 31) (.tmp 39) (i:=13) rfl (by kernel_rfl) (by kernel_rfl) rfl rfl rfl hrun T5 (fun hHeld5=>?_)
 try simp only[Act.put,BP,BN,BK,BQ,BS,BM]
 refine C9 14 rfl ?_
 refine AJ 15 rfl ?_
 obtain⟨ao5,cz5,hv5⟩:=Dr hown
 subst hv5
 have r5:Et w5 B (Df (MB {S1 with op:=⟨(Ac S).length,0,false⟩::S1.op} (.slice ao5 (S1.op.length+1) cz5)) S1.hs S1.rg (LZ {S1 with op:=⟨(Ac S).length,0,false⟩::S1.op}) (.slice qH.a qH.n qH.c) (.slice qR.a qR.n qR.c) (.slice qP.a qP.n qP.c) bq):=by
  rw[ZC _ rfl]
  have q:=M2.out.R.grow (j:=0) (r:=⟨179,2,.slice qO.a qO.n qO.c,S1.op.length,S1.op.reverse.flatMap Lh⟩) (r':=⟨179,2,.slice ao5 (S1.op.length+1) cz5,((⟨(Ac S).length,0,false⟩:OV)::S1.op).length,((⟨(Ac S).length,0,false⟩:OV)::S1.op).reverse.flatMap Lh⟩) rfl hgrow (by unfold Rw.own;rw[List.reverse_cons,List.flatMap_append];simpa using hown) (hat.elim .inl (fun e=>.inr ⟨_,e,jG⟩))
  exact q
 obtain⟨m6,f6⟩:=PR.set (S':={S1 with op:=⟨(Ac S).length,0,false⟩::S1.op}) (sO':=⟨ao5,S1.op.length+1,cz5⟩) T5.1 (KS S1 {S1 with op:=⟨(Ac S).length,0,false⟩::S1.op} qH qR qP qO ⟨ao5,S1.op.length+1,cz5⟩ sb km HGL.out rfl rfl rfl) r5 M2.out.L (by rw[HEQ.out.2.1];exact HI2.out) (M2.out.pk.fm f5)
 have M6:Hid (PR (w5.setCell (Va rb 13) (.slice ao5 (S1.op.length+1) cz5)) B {S1 with op:=⟨(Ac S).length,0,false⟩::S.op} rb sb nb ob mf km qH qR qP ⟨ao5,S1.op.length+1,cz5⟩ bq):=(by rw[HEQ.out.2.1]at m6⊢;exact m6:PR (w5.setCell (Va rb 13) (.slice ao5 (S1.op.length+1) cz5)) B {S1 with op:=⟨(Ac S).length,0,false⟩::S.op} rb sb nb ob mf km qH qR qP ⟨ao5,S1.op.length+1,cz5⟩ bq)
 have F6:=hxy ((F2.out.trans f5).trans f6)
 have y1:=r0 w5 T5
 have yf:=CQ T5.1
 clear hown hgrow hat hrun OH NW T1 T2 hHeld hHeld1 hHeld2 hHeld5 r0 r1 T5 f5 r5 m6 f6 HIS M1 M2 F1 F2
 refine A7 rfl (by kernel_rfl) (by kernel_rfl) (fun KK hK=>?_)
 go_simp
 refine hK.out _ _ ?_
 clear hK KK y1 yf
 generalize w5.setCell (Va rb 13) (.slice ao5 (S1.op.length+1) cz5)=u6 at M6 F6⊢
 go_wp2_with fail
 go_ret
 rw[HN2.out]
 exact⟨F6.out,rfl,fun _ h=>by cases h;exact⟨_,_,_,_,_,M6.out⟩⟩
theorem UB(B:Nat)(S:PS)(rb sb nb ob mf km:Nat)(sH sR sP sO:Sl)(bv:List Value)(f:List (List UInt8))(fb fc:Nat)(w:World)(hB:B<=w.heap.size)(hm:PR w B S rb sb nb ob mf km sH sR sP sO bv)(hf:FA w fb f)(hbd:Ie S 100000):
 Calls Tryz.prog 57 #[Vq rb,Vs fb f.length fc] w fun e w'=>PA B w rb sb nb ob mf km (if S.st=3 then Ez S 2 f else none) e w':=by
 obtain⟨RR,hRR⟩:=Ae ((if S.st=3 then Ez S 2 f else none));rw[hRR];have C:=J8 B S rb sb nb ob mf km sH sR sP sO bv 2 f fb fc w hB hm hf hbd;rw[hRR]at C;have HC:Hid _:=C;clear C hm hf hbd hRR;go_enter Tryz.func57,Tryz.ntmps57;go_wp2_with fail;refine Calls.mono HC.out ?_;rintro e u2⟨hf2,rfl,hp⟩;have F2:=hxy hf2;have HP:=hxy hp;obtain⟨bb,hbb⟩:=Ae RR.isSome;rw[hbb];have HBB:=hxy hbb;clear hf2 hp hbb HC;go_wp2_with fail;go_ret;exact⟨F2.out,by rw[HBB.out];rfl,HP.out⟩
theorem Nu(B:Nat)(S:PS)(rb sb nb ob mf km:Nat)(sH sR sP sO:Sl)(bv:List Value)(f:List (List UInt8))(fb fc:Nat)(w:World)(hB:B<=w.heap.size)(hm:PR w B S rb sb nb ob mf km sH sR sP sO bv)(hf:FA w fb f)(hbd:Ie S 100000):
 Calls Tryz.prog 58 #[Vq rb,Vs fb f.length fc] w fun e w'=>PA B w rb sb nb ob mf km (if S.st=3 then Ez S 3 f else none) e w':=by
 obtain⟨RR,hRR⟩:=Ae ((if S.st=3 then Ez S 3 f else none));rw[hRR];have C:=J8 B S rb sb nb ob mf km sH sR sP sO bv 3 f fb fc w hB hm hf hbd;rw[hRR]at C;have HC:Hid _:=C;clear C hm hf hbd hRR;go_enter Tryz.func58,Tryz.ntmps58;go_wp2_with fail;refine Calls.mono HC.out ?_;rintro e u2⟨hf2,rfl,hp⟩;have F2:=hxy hf2;have HP:=hxy hp;obtain⟨bb,hbb⟩:=Ae RR.isSome;rw[hbb];have HBB:=hxy hbb;clear hf2 hp hbb HC;go_wp2_with fail;go_ret;exact⟨F2.out,by rw[HBB.out];rfl,HP.out⟩
end Go.Proofs.YtfpeecaaleijcaaGreatDoor
