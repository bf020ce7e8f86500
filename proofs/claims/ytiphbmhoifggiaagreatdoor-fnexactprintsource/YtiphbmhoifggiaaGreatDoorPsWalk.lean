import Derived.Test.YtiphbmhoifggiaaGreatDoorPsImpl
import Derived.Test.YtiphbmhoifggiaaGreatDoorPsSpecB
import Derived.Test.YtiphbmhoifggiaaGreatDoorPsMark
set_option maxHeartbeats 32000000
set_option maxRecDepth 20000
namespace Go.Proofs.YtiphbmhoifggiaaGreatDoor
open Go.RowKit
def BC(w:World)(g:Nat)(t:List UInt8):Prop:=g<w.heap.size/\(∀i,i<t.length->w.cell? ⟨g,i,none⟩=some (.int .u8 ((t.getD i 0).toNat:Int)))/\(∀i,i<t.length->w.frozen? ⟨g,i,none⟩=false)
theorem BC.keep{w w':World}{g:Nat}{t:List UInt8}(h:BC w g t)(hs:w.heap.size<=w'.heap.size)(hb:w'.heap[g]?=w.heap[g]?):BC w' g t:=
 ⟨Nat.lt_of_lt_of_le h.1 hs,fun i hi=>(World.cell?_of_block (a:=⟨g,i,none⟩) hb).trans (h.2.1 i hi),fun i hi=>(World.frozen?_of_block (a:=⟨g,i,none⟩) hb).trans (h.2.2 i hi)⟩
theorem BC.below{w w':World}{g:Nat}{t:List UInt8}(h:BC w g t)(hb:Below w.heap.size w w'):BC w' g t:=h.keep hb.size (hb.block g h.1)
theorem BC.by{w:World}{g cap:Nat}{t:List UInt8}(h:BC w g t):ByA w 0 (.slice (some ⟨g,0,none⟩) t.length cap) t:=⟨g,cap,rfl,Nat.zero_le _,h⟩
theorem WrR.fz{lo hi:Nat}{w w':World}{ao:Option Addr}{n:Nat}{f:Nat->Value}(h:WrR w ao n f)(hf:Fz lo hi w w')(hn:∀q,Blk ao n q->q<lo∨hi<=q):WrR w' ao n f:=by
 by_cases h0:n=0
 ·exact .inl h0
 ·rcases h with h|⟨b,rfl,h⟩
  ·exact absurd h h0
  ·have hb:=hf.block b h.lt (hn b ⟨h0,rfl⟩)
   exact .inr ⟨b,rfl,Nat.lt_of_lt_of_le h.lt hf.size,fun i=>(World.frozen?_of_block (a:=⟨b,i,none⟩) hb).trans (h.free i),fun i hi=>(World.cell?_of_block (a:=⟨b,i,none⟩) hb).trans (h.cell hi)⟩
theorem Fr.under{S:Nat->Prop}{B:Nat}{w w':World}(h:Fr S w w')(hB:B<=w.heap.size)(hs:∀k,k<B->¬S k):Below B w w':=⟨h.os,h.tape,h.output,h.size,fun k hk=>h.block k (by omega) (hs k hk)⟩
theorem srcT_small{d:Int}{nH nR np:Nat}{S:Nat->HS}{V:Nat->VV}{Pv:Nat->PV}:(if srcOK d nH S nR V np Pv=true then srcT d nH S V np Pv else[]).length<=6100000:=by
 split
 ·rename_i h
  exact(src_good h).2.len d (Nat.le_refl _) (Nat.le_refl _) (Nat.le_refl _)
 ·simp
theorem src_c{u:World}{x:Nat}{d:Int}{a b c:Value}(h:Cl u x [.int .i64 d,a,b,c]):u.cell? ⟨x,0,none⟩=some (.int .i64 d)/\u.cell? ⟨x,1,none⟩=some a/\u.cell? ⟨x,2,none⟩=some b/\u.cell? ⟨x,3,none⟩=some c:=
 ⟨h.2 0 (by simp),h.2 1 (by simp),h.2 2 (by simp),h.2 3 (by simp)⟩
theorem lawSrc_walk(d:Int)(aoH:Option Addr)(nH cH:Nat)(S:Nat->HS)(aoR:Option Addr)(nR cR:Nat)(V:Nat->VV)(aoP:Option Addr)(np cP:Nat)(Q:Nat->PI)(w:World)(mH:nH<=maxLen)(mR:nR<=maxLen)(mP:np<=maxLen)(hs:SigIn w aoH nH S aoR nR V)(hp:InRow w aoP np (piF Q))(hq:∀i,i<np->(Q i).len<=maxLen/\InRow w (Q i).ao ((Q i).len*11) (stF (Q i).L))
 (ht1:Lib.TabIs Tryz.prog w "internal/strconv.uint64pow10" .u64 Lib.pow10Tab)(ht2:Lib.TabIs Tryz.prog w "strings.asciiSpace" .u8 Lib.asciiSpaceTab):
 Calls Tryz.prog 3 #[.agg #[.int .i64 d,.slice aoH nH cH,.slice aoR nR cR,.slice aoP np cP]] w fun e w'=>e=.returned (.bool true)/\Below w.heap.size w w':=by
 have T1:Hid (Lib.TabBelow Tryz.prog w.heap.size w "internal/strconv.uint64pow10" .u64 Lib.pow10Tab):=Lib.tabBelow_of_tabIs ht1;have T2:Hid (Lib.TabBelow Tryz.prog w.heap.size w "strings.asciiSpace" .u8 Lib.asciiSpaceTab):=Lib.tabBelow_of_tabIs ht2;have HSI:Hid (SigIn w aoH nH S aoR nR V):=hs;have HP:Hid (InRow w aoP np (piF Q)):=hp;have HQ:Hid (∀i,i<np->(Q i).len<=maxLen/\InRow w (Q i).ao ((Q i).len*11) (stF (Q i).L)):=hq;obtain⟨Pv,hPv⟩:∃x:Nat->PV,(fun i=>(Q i).pv)=x:=⟨_,rfl⟩
 have HPv:Hid ((fun i=>(Q i).pv)=Pv):=hPv;obtain⟨t,ht⟩:∃x,(if srcOK d nH S nR V np Pv=true then srcT d nH S V np Pv else[])=x:=⟨_,rfl⟩
 have HT:Hid ((if srcOK d nH S nR V np Pv=true then srcT d nH S V np Pv else[])=t):=ht;have hl:(t.length:Int)<=1099511627776:=by
  have:=srcT_small (d:=d) (nH:=nH) (nR:=nR) (np:=np) (S:=S) (V:=V) (Pv:=Pv);rw[ht]at this;omega
 have TO:Hid (nH<=1048576->nR<=1048576->np<=1048576->(∀i,i<np->(Q i).len<=1048576)->∀u,Below w.heap.size w u->Calls Tryz.prog 6 #[.agg #[.int .i64 d,.slice aoH nH cH,.slice aoR nR cR,.slice aoP np cP]] u fun e w'=>∃(bH bR bp:Nat)(blk:Nat->Nat),e=.returned (.agg #[.int .i64 d,.slice (some ⟨bH,0,none⟩) nH nH,.slice (some ⟨bR,0,none⟩) nR nR,.slice (some ⟨bp,0,none⟩) np np])/\Below u.heap.size u w'/\SrcCp w' bH nH S bR nR V bp np Pv blk/\Pord bp np blk/\u.heap.size<=bH/\u.heap.size<=bR/\bH<bp/\bR<bp):=(fun a1 a2 a3 a4 u hu=>by
  have h:=toSource_in d aoH nH cH S aoR nR cR V aoP np cP Q u a1 a2 a3 (HSI.out.below hu (Nat.le_refl _)) (HP.out.below hu (Nat.le_refl _)) (fun i hi=>⟨a4 i hi,(HQ.out i hi).2.below hu (Nat.le_refl _)⟩);rw[HPv.out]at h;exact h:nH<=1048576->nR<=1048576->np<=1048576->(∀i,i<np->(Q i).len<=1048576)->∀u,Below w.heap.size w u->Calls Tryz.prog 6 #[.agg #[.int .i64 d,.slice aoH nH cH,.slice aoR nR cR,.slice aoP np cP]] u fun e w'=>∃(bH bR bp:Nat)(blk:Nat->Nat),e=.returned (.agg #[.int .i64 d,.slice (some ⟨bH,0,none⟩) nH nH,.slice (some ⟨bR,0,none⟩) nR nR,.slice (some ⟨bp,0,none⟩) np np])/\Below u.heap.size u w'/\SrcCp w' bH nH S bR nR V bp np Pv blk/\Pord bp np blk/\u.heap.size<=bH/\u.heap.size<=bR/\bH<bp/\bR<bp)
 clear hs hp hq ht1 ht2 hPv ht;go_enter Tryz.func3,Tryz.ntmps3;go_upto_region 2 with fail;obtain⟨u0,hu0,hb0,hc0⟩:∃y,w.alloc (.cells #[.int .i64 d,.slice aoH nH cH,.slice aoR nR cR,.slice aoP np cP] 28)=y/\Below w.heap.size w y/\Cl y w.heap.size [.int .i64 d,.slice aoH nH cH,.slice aoR nR cR,.slice aoP np cP]:=⟨_,rfl,(Below.refl _ _).alloc (Nat.le_refl _) _,Cl.new⟩
 rw[hu0];obtain⟨bx,hbx⟩:∃y,w.heap.size=y:=⟨_,rfl⟩
 rw[hbx]at hc0⊢;have BW:Hid (Below w.heap.size w u0):=hb0;have C0:Hid (Cl u0 bx [.int .i64 d,.slice aoH nH cH,.slice aoR nR cR,.slice aoP np cP]):=hc0;have wz:=hb0.size;obtain⟨q0,q1,q2,q3⟩:=src_c hc0;clear hu0 hb0 hc0 hbx;go_wp2_with fail;refine(szSource_any d aoH nH cH aoR nR cR aoP np cP Q u0 mH mR mP (HP.out.below BW.out (Nat.le_refl _)) (fun i hi=>(HQ.out i hi).1)).mono ?_;rintro e u1⟨r,rfl,hr,hb1⟩;have B1:Hid (Below u0.heap.size u0 u1):=hb1;clear hb1 q0 q1 q2 q3;rcases hr with rfl|⟨r0,lS,lP,hl4⟩
 ·go_wp2
  go_ret;exact⟨rfl,BW.out.trans (B1.out.mono wz)⟩
 have LQ:Hid (∀i,i<np->(Q i).len<=1048576):=hl4;have LB:Hid (∀i,i<np->(Pv i).n<=1048576):=(by rw[<-HPv.out];exact hl4:∀i,i<np->(Pv i).n<=1048576)
 have lH:nH<=1048576:=by omega
 have lR:nR<=1048576:=by omega
 have hr':¬r<0:=by omega
 clear hl4 HQ;have TO2:Hid (∀u,Below u0.heap.size u0 u->Calls Tryz.prog 6 #[.agg #[.int .i64 d,.slice aoH nH cH,.slice aoR nR cR,.slice aoP np cP]] u fun e w'=>∃(bH bR bp:Nat)(blk:Nat->Nat),e=.returned (.agg #[.int .i64 d,.slice (some ⟨bH,0,none⟩) nH nH,.slice (some ⟨bR,0,none⟩) nR nR,.slice (some ⟨bp,0,none⟩) np np])/\Below u.heap.size u w'/\SrcCp w' bH nH S bR nR V bp np Pv blk/\Pord bp np blk/\u.heap.size<=bH/\u.heap.size<=bR/\bH<bp/\bR<bp):=fun u hu=>TO.out lH lR lP LQ.out u (BW.out.trans (hu.mono wz))
 clear TO;obtain⟨q0,q1,q2,q3⟩:=src_c (C0.out.below B1.out);go_wp2_with fail;refine(TO2.out u1 B1.out).mono ?_;rintro e u2⟨bH,bR,bp,blk,rfl,hb2,sc2,_,_,_,_,_⟩;have B2:Hid (Below u0.heap.size u0 u2):=B1.out.trans (hb2.mono B1.out.size);have X2:Hid (SrcCp u2 bH nH S bR nR V bp np Pv blk):=sc2;clear hb2 sc2 q0 q1 q2 q3;go_wp2_with fail;refine(specSrc_any bH nH nH S bR nR nR V bp np np Pv blk d u2 lH lR lP LB.out X2.out.s X2.out.p).mono ?_;rintro e u3⟨vs,rfl,hby,hb3⟩;rw[HT.out]at hby;obtain⟨gs,cs',hvs,hgs,hbc⟩:=hby;subst hvs;have B3:Hid (Below u0.heap.size u0 u3):=B2.out.trans (hb3.mono B2.out.size);have S3:Hid (BC u3 gs t):=hbc;have gz:u0.heap.size<=gs:=Nat.le_trans B2.out.size hgs;clear hb3 hbc X2 hgs;obtain⟨q0,q1,q2,q3⟩:=src_c (C0.out.below B3.out);go_wp2_with fail;refine(TO2.out u3 B3.out).mono ?_;rintro e u4⟨bH',bR',bp',blk',rfl,hb4,sc4,po4,z1,z2,z3,z4⟩;have B4:Hid (Below u0.heap.size u0 u4):=B3.out.trans (hb4.mono B3.out.size);have X4:Hid (SrcCp u4 bH' nH S bR' nR V bp' np Pv blk'):=sc4;have PO:Hid (Pord bp' np blk'):=po4;have HH:Hid (∀i,i<np->blk' i<u4.heap.size):=fun i hi=>(sc4.p.b i hi).lt
 have S4:Hid (BC u4 gs t):=S3.out.below hb4;have gs3:gs<u3.heap.size:=S3.out.1;have zp:bp'<u4.heap.size:=sc4.p.r.lt;have z34:=hb4.size;have zu3:=B3.out.size;clear hb4 sc4 po4 q0 q1 q2 q3 S3;go_upto_region 7 with fail;obtain⟨u5,hu5,hb5,hc5⟩:∃y,u4.alloc (.cells #[.int .i64 d,.slice (some ⟨bH',0,none⟩) nH nH,.slice (some ⟨bR',0,none⟩) nR nR,.slice (some ⟨bp',0,none⟩) np np] 38)=y/\Below u4.heap.size u4 y/\Cl y u4.heap.size [.int .i64 d,.slice (some ⟨bH',0,none⟩) nH nH,.slice (some ⟨bR',0,none⟩) nR nR,.slice (some ⟨bp',0,none⟩) np np]:=⟨_,rfl,(Below.refl _ _).alloc (Nat.le_refl _) _,Cl.new⟩
 rw[hu5];obtain⟨xb,hxb⟩:∃y,u4.heap.size=y:=⟨_,rfl⟩
 rw[hxb]at hc5 HH zp z34⊢;have B5:Hid (Below u0.heap.size u0 u5):=B4.out.trans (hb5.mono B4.out.size);have X5:Hid (SrcCp u5 bH' nH S bR' nR V bp' np Pv blk'):=X4.out.below hb5;have S5:Hid (BC u5 gs t):=S4.out.below hb5;have C5:Hid (Cl u5 xb [.int .i64 d,.slice (some ⟨bH',0,none⟩) nH nH,.slice (some ⟨bR',0,none⟩) nR nR,.slice (some ⟨bp',0,none⟩) np np]):=hc5;have zx5:=hc5.1;obtain⟨q0,q1,q2,q3⟩:=src_c hc5;clear hu5 hb5 hc5 hxb X4 S4;go_wp2_with fail;refine(implSrc_any bH' nH nH S bR' nR nR V bp' np np Pv blk' d u5 lH lR lP LB.out X5.out.s X5.out.p (T1.out _ (BW.out.trans (B5.out.mono wz))) (T2.out _ (BW.out.trans (B5.out.mono wz)))).mono ?_;rintro e u6⟨vg,rfl,ho6,hb6⟩;rw[HT.out]at ho6;obtain⟨_,aog,cg,hvg,hg6,hbg⟩:=row_wr ho6;subst hvg;have B6:Hid (Below u0.heap.size u0 u6):=B5.out.trans (hb6.mono B5.out.size);have X6:Hid (SrcCp u6 bH' nH S bR' nR V bp' np Pv blk'):=X5.out.below hb6;have S6:Hid (BC u6 gs t):=S5.out.below hb6;have C6:Hid (Cl u6 xb [.int .i64 d,.slice (some ⟨bH',0,none⟩) nH nH,.slice (some ⟨bR',0,none⟩) nR nR,.slice (some ⟨bp',0,none⟩) np np]):=C5.out.below hb6;have G6:Hid (WrR u6 aog t.length (numF .u8 (bF t))):=hg6;have KG:Hid (∀q,Blk aog t.length q->u5.heap.size<=q):=fun q hq=>(hbg q hq).1
 have z56:=hb6.size;clear hb6 ho6 hg6 hbg q0 q1 q2 q3 X5 S5 C5;go_wp2_with fail;refine(eqByteS_by u6 hl G6.out S6.out.by).mono ?_;rintro e u7⟨rfl,hb7⟩;have B7:Hid (Below u0.heap.size u0 u7):=B6.out.trans (hb7.mono B6.out.size);have X7:Hid (SrcCp u7 bH' nH S bR' nR V bp' np Pv blk'):=X6.out.below hb7;have S7:Hid (BC u7 gs t):=S6.out.below hb7;have C7:Hid (Cl u7 xb [.int .i64 d,.slice (some ⟨bH',0,none⟩) nH nH,.slice (some ⟨bR',0,none⟩) nR nR,.slice (some ⟨bp',0,none⟩) np np]):=C6.out.below hb7;have G7:Hid (WrR u7 aog t.length (numF .u8 (bF t))):=G6.out.below hb7;have z67:=hb7.size;clear hb7 X6 S6 C6 G6
 go_upto_region 10 with fail
 have D7:Hid (Cl u7 bx [.int .i64 d,.slice aoH nH cH,.slice aoR nR cR,.slice aoP np cP]):=C0.out.below B7.out
 have r0:∀w',Below u7.heap.size u7 w'->w'.cell? ⟨bx,0,none⟩=some (.int .i64 d):=fun w' h=>(src_c (D7.out.below h)).1
 have r1:∀w',Below u7.heap.size u7 w'->w'.cell? ⟨bx,1,none⟩=some (.slice aoH nH cH):=fun w' h=>(src_c (D7.out.below h)).2.1
 have r2:∀w',Below u7.heap.size u7 w'->w'.cell? ⟨bx,2,none⟩=some (.slice aoR nR cR):=fun w' h=>(src_c (D7.out.below h)).2.2.1
 have r3:∀w',Below u7.heap.size u7 w'->w'.cell? ⟨bx,3,none⟩=some (.slice aoP np cP):=fun w' h=>(src_c (D7.out.below h)).2.2.2
 have s0:∀w',Below u7.heap.size u7 w'->w'.cell? ⟨xb,0,none⟩=some (.int .i64 d):=fun w' h=>(src_c (C7.out.below h)).1
 have s1:∀w',Below u7.heap.size u7 w'->w'.cell? ⟨xb,1,none⟩=some (.slice (some ⟨bH',0,none⟩) nH nH):=fun w' h=>(src_c (C7.out.below h)).2.1
 have s2:∀w',Below u7.heap.size u7 w'->w'.cell? ⟨xb,2,none⟩=some (.slice (some ⟨bR',0,none⟩) nR nR):=fun w' h=>(src_c (C7.out.below h)).2.2.1
 have s3:∀w',Below u7.heap.size u7 w'->w'.cell? ⟨xb,3,none⟩=some (.slice (some ⟨bp',0,none⟩) np np):=fun w' h=>(src_c (C7.out.below h)).2.2.2
 refine wp_region_held_drew (S:=fun w'=>Below u7.heap.size u7 w') (by kernel_rfl) (Below.refl _ _).drew (fun _=>?_)
 refine wpAnyH_tk 0 ?k1v rfl ?k1y ?k1r
 case k1y=>(intro w hSw;(try dsimp only at hSw);go_simp;try with_reducible rfl)
 try simp only[Act.put,List.getElem_toArray,List.getElem_cons_zero,List.setIfInBounds_toArray,List.set_cons_zero,List.set_cons_succ]
 refine wpAnyH_tk 1 ?k2v rfl ?k2y ?k2r
 case k2y=>(intro w hSw;(try dsimp only at hSw);go_simp;try with_reducible rfl)
 try simp only[Act.put,List.getElem_toArray,List.getElem_cons_zero,List.getElem_cons_succ,List.setIfInBounds_toArray,List.set_cons_zero,List.set_cons_succ]
 obtain⟨v0,hv0,hbd⟩:∃y,u7.drew=y/\Below u7.heap.size u7 y:=⟨_,rfl,(Below.refl _ _).drew⟩
 rw[hv0]
 clear hv0
 refine wpAnyH_ready (rs:=[2]) (by kernel_rfl) (by simp) ?_
 refine AllReadyH.cons rfl (fun KK hK=>?_) AllReadyH.nil
 go_simp
 refine(TO2.out v0 (B7.out.trans (hbd.mono B7.out.size))).mono ?_
 rintro e v1⟨bH2,bR2,bp2,blk2,rfl,hb,sc,_,_,_,_,_⟩
 have hB1:Below u7.heap.size u7 v1:=hbd.trans (hb.mono hbd.size)
 have Y1:Hid (SrcCp v1 bH2 nH S bR2 nR V bp2 np Pv blk2):=sc
 refine hK.out _ _ hB1 (fun _=>?_)
 clear hK KK hb hbd sc
 try simp only[Act.put,List.getElem_toArray,List.getElem_cons_zero,List.getElem_cons_succ,List.setIfInBounds_toArray,List.set_cons_zero,List.set_cons_succ]
 refine wpAnyH_ready (rs:=[3]) (by kernel_rfl) (by simp) ?_
 refine AllReadyH.cons rfl (fun KK hK=>?_) AllReadyH.nil
 go_simp
 refine(eqSource_same d bH' nH nH S bR' nR nR V bp' np np Pv blk' bH2 nH bR2 nR bp2 np blk2 v1 lH lR lP LB.out (X7.out.below hB1) Y1.out).mono ?_
 rintro e v2⟨rfl,hb⟩
 have hB2:Below u7.heap.size u7 v2:=hB1.trans (hb.mono hB1.size)
 refine hK.out _ _ hB2 (fun _=>?_)
 clear hK KK hb
 try simp only[Act.put,List.getElem_toArray,List.getElem_cons_zero,List.getElem_cons_succ,List.setIfInBounds_toArray,List.set_cons_zero,List.set_cons_succ]
 refine wpAnyH_tk 4 ?k3v rfl ?k3y ?k3r
 case k3y=>(intro w hSw;(try dsimp only at hSw);go_simp;try with_reducible rfl)
 try simp only[Act.put,List.getElem_toArray,List.getElem_cons_zero,List.getElem_cons_succ,List.setIfInBounds_toArray,List.set_cons_zero,List.set_cons_succ]
 refine wpAnyH_done (by kernel_rfl) ?_ _
 have B8:Hid (Below u0.heap.size u0 v2):=B7.out.trans (hB2.mono B7.out.size)
 have X8:Hid (SrcCp v2 bH' nH S bR' nR V bp' np Pv blk'):=X7.out.below hB2
 have S8:Hid (BC v2 gs t):=S7.out.below hB2
 have C8:Hid (Cl v2 xb [.int .i64 d,.slice (some ⟨bH',0,none⟩) nH nH,.slice (some ⟨bR',0,none⟩) nR nR,.slice (some ⟨bp',0,none⟩) np np]):=C7.out.below hB2
 have G8:Hid (WrR v2 aog t.length (numF .u8 (bF t))):=G7.out.below hB2
 have z78:=hB2.size
 clear hB1 hB2 X7 S7 C7 G7 D7 Y1 r0 r1 r2 r3 s0 s1 s2 s3
 obtain⟨q0,q1,q2,q3⟩:=src_c C8.out
 go_wp2_with fail
 refine(markSource_any d bH' nH nH S bR' nR nR V bp' np np u3.heap.size xb Pv blk' v2 lS lP LB.out X8.out PO.out z1 z2 z3 z4 zp HH.out (by omega)).mono ?_
 rintro e u9⟨rm,rfl,rm0,hf9⟩
 have B9:Hid (Below u0.heap.size u0 u9):=B8.out.trans ⟨hf9.os,hf9.tape,hf9.output,hf9.size,fun k hk=>hf9.block k (by omega) (.inl (by omega))⟩
 have S9:Hid (BC u9 gs t):=S8.out.keep hf9.size (hf9.block gs S8.out.1 (.inl gs3))
 have G9:Hid (WrR u9 aog t.length (numF .u8 (bF t))):=G8.out.fz hf9 (fun q hq=>.inr (by have:=KG.out q hq;omega))
 have z89:=hf9.size
 have rm':¬rm<0:=by omega
 clear hf9 X8 S8 C8 G8 q0 q1 q2 q3
 go_wp2_with fail
 refine(eqByteS_by u9 hl G9.out S9.out.by).mono ?_
 rintro e u10⟨rfl,hb10⟩
 have B10:Hid (Below u0.heap.size u0 u10):=B9.out.trans (hb10.mono B9.out.size)
 have S10:Hid (BC u10 gs t):=S9.out.below hb10
 have G10:Hid (WrR u10 aog t.length (numF .u8 (bF t))):=G9.out.below hb10
 have z910:=hb10.size
 clear hb10 S9 G9
 go_wp2_with fail
 refine(markB_in _ _ _ _ 1 _ hl (by omega) (by omega) G10.out).mono ?_
 rintro e u11⟨rfl,hf11,hg11⟩
 have B11:Hid (Below u0.heap.size u0 u11):=B10.out.trans (hf11.under (by omega) fun k hk hs=>by have:=KG.out k hs;omega)
 have S11:Hid (BC u11 gs t):=S10.out.keep hf11.size (hf11.block gs S10.out.1 (fun hs=>by have:=KG.out gs hs;omega))
 have G11:Hid (InRow u11 aog t.length (numF .u8 fun i=>((1:Int)+i)%256)):=hg11.inRow
 clear hf11 hg11 S10 G10
 obtain⟨nl,hnl⟩:∃y:Int,1+(t.length:Int)=y:=⟨_,rfl⟩
 have HNL:Hid (1+(t.length:Int)=nl):=hnl
 rw[hnl]
 have nl0:¬nl<0:=by omega
 clear hnl
 go_wp2_with fail
 refine(heldB_in _ _ _ 1 _ hl (by omega) (by omega) G11.out).mono ?_
 rintro e u11'⟨rfl,hw⟩
 rw[hw,HNL.out]
 clear hw G11
 obtain⟨q0,q1,q2,q3⟩:=src_c (C0.out.below B11.out)
 go_wp2_with fail
 refine(TO2.out u11 B11.out).mono ?_
 rintro e u12⟨bH3,bR3,bp3,blk3,rfl,hb12,sc12,_,_,_,_,_⟩
 have B12:Hid (Below u0.heap.size u0 u12):=B11.out.trans (hb12.mono B11.out.size)
 have X12:Hid (SrcCp u12 bH3 nH S bR3 nR V bp3 np Pv blk3):=sc12
 have S12:Hid (BC u12 gs t):=S11.out.below hb12
 clear hb12 sc12 q0 q1 q2 q3 S11
 go_wp2_with fail
 refine(implSrc_any bH3 nH nH S bR3 nR nR V bp3 np np Pv blk3 d u12 lH lR lP LB.out X12.out.s X12.out.p (T1.out _ (BW.out.trans (B12.out.mono wz))) (T2.out _ (BW.out.trans (B12.out.mono wz)))).mono ?_
 rintro e u13⟨vh,rfl,ho13,hb13⟩
 rw[HT.out]at ho13
 obtain⟨_,aoh,ch,hvh,hg13,_⟩:=row_wr ho13
 subst hvh
 have B13:Hid (Below u0.heap.size u0 u13):=B12.out.trans (hb13.mono B12.out.size)
 have S13:Hid (BC u13 gs t):=S12.out.below hb13
 have G13:Hid (WrR u13 aoh t.length (numF .u8 (bF t))):=hg13
 clear hb13 ho13 hg13 X12 S12
 go_wp2_with fail
 refine(eqByteS_by u13 hl G13.out S13.out.by).mono ?_
 rintro e u14⟨rfl,hb14⟩
 have B14:Hid (Below w.heap.size w u14):=BW.out.trans ((B13.out.trans (hb14.mono B13.out.size)).mono wz)
 clear hb14
 go_wp2
 go_ret
 exact⟨rfl,B14.out⟩
end Go.Proofs.YtiphbmhoifggiaaGreatDoor
