import Derived.Test.YtpbceodheeepoaaGreatOfCoreDiv
import Derived.Test.YtpbceodheeepoaaGreatOfBytes
set_option maxHeartbeats 1000000
namespace Go.Proofs.YtpbceodheeepoaaGreat
open Go.RowKit
def Such(S:World->Prop)(w:World):Prop:=S w
theorem Cell1.ne{w:World}{b g:Nat}{v:Value}{ty:Nat}(h:Cell1 w b v ty){base e size n cap:Nat}{xs:List Value}(hr:w.ownsRow base e size (.slice (some ⟨g,0,none⟩) n cap) n xs)(he:e≠ty):b≠g:=by
 rintro rfl;obtain⟨cur,hc⟩:=row_type hr;rw[h]at hc;simp only[Option.some.injEq,Obj.cells.injEq]at hc;exact he hc.2.1.symm
theorem Cell1.neOwn{w:World}{b:Nat}{v:Value}{ty:Nat}(h:Cell1 w b v ty){base e size n:Nat}{u:Value}{xs:List Value}(hr:w.ownsRow base e size u n xs)(he:e≠ty):some b≠u.ownBlock:=by
 intro q;rcases hr.2 with⟨rfl,_⟩|⟨g,cap,cur,rfl,_,hg,_⟩
 ·simp[Value.ownBlock]at q
 ·simp only[Value.ownBlock,Option.some.injEq]at q
  subst q;rw[h]at hg;simp only[Option.some.injEq,Obj.cells.injEq]at hg;exact he hg.2.1.symm
theorem MV.pokeN_len(M:MV)(h o:Nat)(v:Int):∀k,(M.pokeN h o v k).nH=M.nH/\(∀i,((M.pokeN h o v k).Hp i).len=(M.Hp i).len)/\(M.pokeN h o v k).R=M.R
 |0=>⟨rfl,fun _=>rfl,rfl⟩
 |k+1=>by
  obtain⟨h1,h2,h3⟩:=MV.pokeN_len M h o v k;refine⟨h1,fun i=>?_,h3⟩;rw[<-h2 i];show(((M.pokeN h o v k).poke h (o+k) (v/2^(8*k)%256)).Hp i).len=_;unfold MV.poke;by_cases e:i=h<;>simp[e]
theorem Core.heapAt{w:World}{base bC:Nat}{p:Pl}{nx:Int}{tab:List Value}{M:MV}(h0:Core w base bC p nx tab M){h:Nat}(hh:h<M.nH):∃bH,p.aH=some ⟨bH,0,none⟩/\bC≠bH/\some bH≠(Value.slice p.aO M.nO p.cO).ownBlock/\At w bH 0 (M.nH*3) (heapF (place M.Hp p.blk p.cap)):=by
 have hr:=h0.mem.heaps;obtain⟨k,hk⟩:∃k,M.nH=k+1:=⟨M.nH-1,by omega⟩
 have hr':=hr;rw[hk]at hr';obtain⟨g,cap,hv⟩:=row_shape hr';simp only[Value.slice.injEq]at hv;obtain⟨ha,_,hc⟩:=hv;rw[ha]at hr;refine⟨g,ha,?_,?_,(row_arr hr).2.2.2.at⟩
 ·have:=apart_some (rows_apart h0.core hr (by decide));simpa[Value.ownBlock]using this
 ·exact apart_some (rows_apart hr h0.mem.obs (by decide))
section
variable{w:World}{base bC:Nat}{p:Pl}{nx:Int}{tab:List Value}{M:MV}
theorem loadN_yes(h0:Core w base bC p nx tab M)(hk:M.Ok){bF bW:Nat}(op:Int)(d a b h:Nat)(imm address:Int)(width:Nat)(hw1:1<=width)(hw8:width<=8)(hd:d<8)(hh:h<M.nH)
 (kF:Cell1 w bF (.func (.func 118) #[] #[]) 146)(kW:Cell1 w bW (.int .u64 width) 67)
 (hadr:∀w',Below w.heap.size w w'->Calls Tryz.prog 118 #[.pointer (some ⟨bC,0,none⟩),.agg #[.int .i64 op,.int .i64 d,.int .i64 a,.int .i64 b,.int .i64 imm,.int .i64 h]] w' fun e w''=>e=.returned (.int .u64 address)/\Below w'.heap.size w' w'')(hl:lies (M.Hp h).base address width (M.Hp h).len=true)
 (hcell:∀w',Below w.heap.size w w'->Calls Tryz.prog 141 #[.pointer (some ⟨bC,0,none⟩),.int .i64 h,.int .u64 address,.int .u64 width,.bool false] w' fun e w''=>e=.returned (.slice (some ⟨p.blk h,(address-(M.Hp h).base).toNat,none⟩) width (p.cap h-(address-(M.Hp h).base).toNat))/\Seen base bC M.nO (.slice p.aO M.nO p.cO) (first (M.nO*2) (obsF M.K M.V)) 1 address w' w''):
 Calls Tryz.prog 140 #[.pointer (some ⟨bC,0,none⟩),.agg #[.int .i64 op,.int .i64 d,.int .i64 a,.int .i64 b,.int .i64 imm,.int .i64 h],.pointer (some ⟨bF,0,none⟩),.pointer (some ⟨bW,0,none⟩)] w (Res base bC tab w (.done ((M.see 1 address).setR d (loadV (M.Hp h).dat (address-(M.Hp h).base).toNat width)) nx)):=by
 have hF:=kF.lt
 have hW:=kW.lt
 have cF:=kF.cell
 have cW:=kW.cell
 have neF:=kF.ne h0.core (by decide)
 have neW:=kW.ne h0.core (by decide)
 have noF:=kF.neOwn h0.mem.obs (by decide)
 have noW:=kW.neOwn h0.mem.obs (by decide)
 have hC:=h0.lt.2
 have hCR:=h0.neR
 have zR0:=h0.ltR.2
 have nI:some w.heap.size≠(Value.slice p.aO M.nO p.cO).ownBlock:=fun q=>by have:=(h0.mem.obs.lt _ q.symm).2;omega
 simp only[lies,Bool.and_eq_true,decide_eq_true_eq]at hl
 obtain⟨⟨l1,l2⟩,l3⟩:=hl
 have hd':(d:Int)<8:=by omega
 obtain⟨o,ho⟩:∃o,(address-(M.Hp h).base).toNat=o:=⟨_,rfl⟩
 rw[ho]at hcell
 rw[ho]
 have hol:o+width<=(M.Hp h).len:=by omega
 have hlen:=(hk.heap h hh).2.2.1
 have HDAT:Hid (∀j,j<(M.Hp h).len->0<=(M.Hp h).dat j/\(M.Hp h).dat j<=255):=hk.dat h hh
 have hRd:=hk.reg d hd
 have H0:Hid (Core w base bC p nx tab M):=h0
 have h0out:=H0.out
 have HK:Hid M.Ok:=hk
 have HKF:Hid (Cell1 w bF (.func (.func 118) #[] #[]) 146):=kF
 clear h0 hk kF kW l1 l2 l3 ho
 go_enter Tryz.func140,Tryz.ntmps140
 go_wp2_with fail
 generalize hG:w.alloc (.cells #[.int .i64 op,.int .i64 d,.int .i64 a,.int .i64 b,.int .i64 imm,.int .i64 h] 73)=wb
 have xb:Below w.heap.size w wb:=by rw[<-hG];exact(Below.refl _ _).alloc (Nat.le_refl _) _
 have xy:w.heap.size<wb.heap.size:=by rw[<-hG];simp
 obtain⟨S,hSd⟩:∃S:World->Prop,S=fun w'=>w'.cell? ⟨w.heap.size,0,none⟩=some (.int .i64 op)/\w'.cell? ⟨w.heap.size,1,none⟩=some (.int .i64 d)/\w'.cell? ⟨w.heap.size,2,none⟩=some (.int .i64 a)/\w'.cell? ⟨w.heap.size,3,none⟩=some (.int .i64 b)/\w'.cell? ⟨w.heap.size,4,none⟩=some (.int .i64 imm)/\w'.cell? ⟨w.heap.size,5,none⟩=some (.int .i64 h)/\w'.cell? ⟨bF,0,none⟩=some (.func (.func 118) #[] #[])/\w'.cell? ⟨bW,0,none⟩=some (.int .u64 width):=⟨_,rfl⟩
 have keep2:∀w',w'.cell? ⟨w.heap.size,0,none⟩=some (.int .i64 op)->w'.cell? ⟨w.heap.size,1,none⟩=some (.int .i64 d)->w'.cell? ⟨w.heap.size,2,none⟩=some (.int .i64 a)->w'.cell? ⟨w.heap.size,3,none⟩=some (.int .i64 b)->w'.cell? ⟨w.heap.size,4,none⟩=some (.int .i64 imm)->w'.cell? ⟨w.heap.size,5,none⟩=some (.int .i64 h)->w'.cell? ⟨bF,0,none⟩=some (.func (.func 118) #[] #[])->w'.cell? ⟨bW,0,none⟩=some (.int .u64 width)->Such S w':=by unfold Such;rw[hSd];exact fun w' a0 a1 a2 a3 a4 a5 a6 a7=>⟨a0,a1,a2,a3,a4,a5,a6,a7⟩
 have keepS:∀w',Below wb.heap.size wb w'->Such S w':=fun w' h=>keep2 w' ((h.cell (p:=⟨w.heap.size,0,none⟩) xy).trans (by rw[<-hG];simp[go_sem])) ((h.cell (p:=⟨w.heap.size,1,none⟩) xy).trans (by rw[<-hG];simp[go_sem])) ((h.cell (p:=⟨w.heap.size,2,none⟩) xy).trans (by rw[<-hG];simp[go_sem])) ((h.cell (p:=⟨w.heap.size,3,none⟩) xy).trans (by rw[<-hG];simp[go_sem])) ((h.cell (p:=⟨w.heap.size,4,none⟩) xy).trans (by rw[<-hG];simp[go_sem])) ((h.cell (p:=⟨w.heap.size,5,none⟩) xy).trans (by rw[<-hG];simp[go_sem])) ((h.cell (p:=⟨bF,0,none⟩) (by simp;omega)).trans ((xb.cell (p:=⟨bF,0,none⟩) hF).trans cF)) ((h.cell (p:=⟨bW,0,none⟩) (by simp;omega)).trans ((xb.cell (p:=⟨bW,0,none⟩) hW).trans cW))
 have j0:∀w',Such S w'->w'.cell? ⟨w.heap.size,0,none⟩=some (.int .i64 op):=fun w' h=>by unfold Such at h;rw[hSd]at h;exact h.1
 have j1:∀w',Such S w'->w'.cell? ⟨w.heap.size,1,none⟩=some (.int .i64 d):=fun w' h=>by unfold Such at h;rw[hSd]at h;exact h.2.1
 have j2:∀w',Such S w'->w'.cell? ⟨w.heap.size,2,none⟩=some (.int .i64 a):=fun w' h=>by unfold Such at h;rw[hSd]at h;exact h.2.2.1
 have j3:∀w',Such S w'->w'.cell? ⟨w.heap.size,3,none⟩=some (.int .i64 b):=fun w' h=>by unfold Such at h;rw[hSd]at h;exact h.2.2.2.1
 have j4:∀w',Such S w'->w'.cell? ⟨w.heap.size,4,none⟩=some (.int .i64 imm):=fun w' h=>by unfold Such at h;rw[hSd]at h;exact h.2.2.2.2.1
 have j5:∀w',Such S w'->w'.cell? ⟨w.heap.size,5,none⟩=some (.int .i64 h):=fun w' h=>by unfold Such at h;rw[hSd]at h;exact h.2.2.2.2.2.1
 have R0:∀w',Such S w'->w'.cell? ⟨bF,0,none⟩=some (.func (.func 118) #[] #[]):=fun w' h=>by unfold Such at h;rw[hSd]at h;exact h.2.2.2.2.2.2.1
 have R1:∀w',Such S w'->w'.cell? ⟨bW,0,none⟩=some (.int .u64 width):=fun w' h=>by unfold Such at h;rw[hSd]at h;exact h.2.2.2.2.2.2.2
 have KEEP2:Hid (∀w',w'.cell? ⟨w.heap.size,0,none⟩=some (.int .i64 op)->w'.cell? ⟨w.heap.size,1,none⟩=some (.int .i64 d)->w'.cell? ⟨w.heap.size,2,none⟩=some (.int .i64 a)->w'.cell? ⟨w.heap.size,3,none⟩=some (.int .i64 b)->w'.cell? ⟨w.heap.size,4,none⟩=some (.int .i64 imm)->w'.cell? ⟨w.heap.size,5,none⟩=some (.int .i64 h)->w'.cell? ⟨bF,0,none⟩=some (.func (.func 118) #[] #[])->w'.cell? ⟨bW,0,none⟩=some (.int .u64 width)->Such S w'):=keep2
 have KEEPS:Hid (∀w',Below wb.heap.size wb w'->Such S w'):=keepS
 have HADR:Hid _:=hadr
 have HCELL:Hid _:=hcell
 clear hG cF cW hSd keep2 keepS hadr hcell
 refine wp_region_held_drew (S:=Such S) (by kernel_rfl) (KEEPS.out _ ((Below.refl _ _).drew)) (fun hHeld=>?_)
 refine wpAnyH_tk 0 ?v0 rfl ?y0 ?r0
 case y0=>(intro w hSw;(try dsimp only at hSw);go_simp;try with_reducible rfl)
 try go_frame
 refine wpAnyH_tk 1 ?v1 rfl ?y1 ?r1
 case y1=>(intro w hSw;(try dsimp only at hSw);go_simp;try with_reducible rfl)
 try go_frame
 refine wpAnyH_tk 2 ?v2 rfl ?y2 ?r2
 case y2=>(intro w hSw;(try dsimp only at hSw);go_simp;try with_reducible rfl)
 try go_frame
 refine wpAnyH_tk 3 ?v3 rfl ?y3 ?r3
 case y3=>(intro w hSw;(try dsimp only at hSw);go_simp;try with_reducible rfl)
 try go_frame
 refine wpAnyH_tk 4 ?v4 rfl ?y4 ?r4
 case y4=>(intro w hSw;(try dsimp only at hSw);go_simp;try with_reducible rfl)
 try go_frame
 refine wpAnyH_tk 5 ?v5 rfl ?y5 ?r5
 case y5=>(intro w hSw;(try dsimp only at hSw);go_simp;try with_reducible rfl)
 try go_frame
 refine wpAnyH_tk 7 ?v7 rfl ?y7 ?r7
 case y7=>(intro w hSw;(try dsimp only at hSw);go_simp;try with_reducible rfl)
 try go_frame
 refine wpAnyH_ready (rs:=[6]) (by kernel_rfl) (by simp) ?_
 refine AllReadyH.cons rfl (fun K hK=>?_) AllReadyH.nil
 go_simp
 refine(HADR.out _ (xb.trans ((Below.refl _ _).drew.mono (Nat.le_of_lt xy)))).mono ?_
 rintro e wa⟨rfl,hb0⟩
 go_wp2_with fail
 refine hK.out _ _ (KEEPS.out _ ((Below.refl _ _).drew.trans hb0)) (fun hHeld6=>?_)
 clear hK K
 refine wpAnyH_ready (rs:=[8]) (by kernel_rfl) (by simp) ?_
 refine AllReadyH.cons rfl (fun K hK=>?_) AllReadyH.nil
 go_simp
 have xa:Below w.heap.size w wa:=xb.trans (((Below.refl _ _).drew.trans hb0).mono (Nat.le_of_lt xy))
 refine(HCELL.out _ xa).mono ?_
 rintro e w2⟨rfl,hs⟩
 have ya:wb.heap.size<=wa.heap.size:=by have:=hb0.size;simpa using this
 have hS2:Seen base bC M.nO (.slice p.aO M.nO p.cO) (first (M.nO*2) (obsF M.K M.V)) 1 address w w2:=Seen.of_below xa hs
 have hI:∀k,w2.cell? ⟨w.heap.size,k,none⟩=wa.cell? ⟨w.heap.size,k,none⟩:=fun k=>hs.cell (a:=⟨w.heap.size,k,none⟩) (by simp;omega) (by simp;omega) nI
 have hJ:∀b,b<w.heap.size->b≠bC->some b≠(Value.slice p.aO M.nO p.cO).ownBlock->∀k,w2.cell? ⟨b,k,none⟩=wa.cell? ⟨b,k,none⟩:=fun b h1 h2 h3 k=>hs.cell (a:=⟨b,k,none⟩) (by simp;omega) h2 h3
 have zI:w.heap.size<w2.heap.size:=by have:=hs.size;omega
 go_wp2_with fail
 refine hK.out _ _ (KEEP2.out w2 ((hI 0).trans (j0 wa (by assumption))) ((hI 1).trans (j1 wa (by assumption))) ((hI 2).trans (j2 wa (by assumption))) ((hI 3).trans (j3 wa (by assumption))) ((hI 4).trans (j4 wa (by assumption))) ((hI 5).trans (j5 wa (by assumption))) ((hJ bF hF neF noF 0).trans (R0 wa (by assumption))) ((hJ bW hW neW noW 0).trans (R1 wa (by assumption)))) (fun hHeld8=>?_)
 clear hK K
 refine wpAnyH_tk 9 ?v9 rfl ?y9 ?r9
 case y9=>(intro w hSw;(try dsimp only at hSw);go_simp;try with_reducible rfl)
 try go_frame
 refine wpAnyH_done (by kernel_rfl) ?_ _
 have C2':=h0out.seen hS2
 obtain⟨g,cp,C2⟩:=C2'
 have e0:w2.cell? ⟨bC,0,none⟩=some (.slice (some ⟨p.bR,0,none⟩) 8 p.cR):=C2.c0
 have rd:w2.cell? ⟨p.bR,d,none⟩=some (.int .u64 (M.R d)):=C2.reg hd
 have fd:w2.frozen? ⟨p.bR,d,none⟩=false:=C2.freeR d
 have zC:bC<w2.heap.size:=C2.lt.2
 have zR:p.bR<w2.heap.size:=C2.ltR.2
 have i1:w2.cell? ⟨w.heap.size,1,none⟩=some (.int .i64 d):=j1 w2 (by assumption)
 have hDat:=row_arr (C2.mem.data h hh)
 have zD:p.blk h<w2.heap.size:=hDat.2.2.2.lt
 have HD:Hid (∀k,k<width->w2.cell? ⟨p.blk h,o+k,none⟩=some (.int .u8 ((M.Hp h).dat (o+k)))):=fun k hk=>hDat.2.2.2.cell (by show o+k<(M.Hp h).len;omega)
 have HB:Hid (Below base w w2):=hS2.below h0out.size h0out.lt.1 h0out.mem.obs
 have HKP:Hid (Keep w w2):=h0out.keepS hS2
 have H2:Hid _:=C2
 clear hS2 C2 hDat hs hI hJ hHeld hb0 hHeld6 hHeld8 j0 j1 j2 j3 j4 j5 R0 R1 HCELL HADR KEEPS KEEP2 xa ya xb
 go_wp2
 go_loop [7,21](fun v i=>∃k:Nat,k<=width/\i=.int .i64 k/\v=.int .u64 (loadV (M.Hp h).dat o k))(fun _ i=>width-(intOf i).toNat)
 case atStart=>exact⟨0,Nat.zero_le _,rfl,rfl⟩
 case round=>
  obtain⟨k,hkw,rfl,rfl⟩:=hrel
  by_cases hlt:k<width
  ·have g0:=HD.out k hlt
   have hr:=loadV_range (M.Hp h).dat o k fun j hj=>HDAT.out (o+j) (by omega)
   have hy:=HDAT.out (o+k) (by omega)
   have hor:Hid (bits BinOp.or IntKind.u64 (loadV (M.Hp h).dat o k) ((M.Hp h).dat (o+k)*2^(8*k))=loadV (M.Hp h).dat o (k+1)):=or_add (by omega) hr.1 hr.2 hy.1 hy.2
   have hup:=byte_up (y:=(M.Hp h).dat (o+k)) (k:=k) (by omega) hy.1 hy.2
   have hsh:Hid (((M.Hp h).dat (o+k))*2^(8*k)=((M.Hp h).dat (o+k))*2^(8*k)):=rfl
   go_wp2
   go_round
   case rel=>exact⟨k+1,by omega,by go_num,by rw[<-hor.out]⟩
   case measure=>simp[intOf];omega
  ·obtain rfl:k=width:=by omega
   go_wp2
   go_region
   all_goals
    go_end0
    exact⟨(HB.out.setCell (p:=⟨p.bR,d,none⟩) (by simpa using H0.out.ltR.1) _).drew,HKP.out.trans ((H2.out.keepR d _).trans (Keep.below (Below.refl _ _).drew)),rfl,_,(H2.out.setR d _).below (Below.refl _ _).drew⟩
theorem loadX_yes(h0:Core w base bC p nx tab M)(hk:M.Ok){bF bW:Nat}(op:Int)(d a b h:Nat)(imm address:Int)(width:Nat)(hw1:1<=width)(hw8:width<=8)(hd:d<8)(hh:h<M.nH)
 (kF:Cell1 w bF (.func (.func 120) #[] #[]) 146)(kW:Cell1 w bW (.int .u64 width) 67)
 (hadr:∀w',Below w.heap.size w w'->Calls Tryz.prog 120 #[.pointer (some ⟨bC,0,none⟩),.agg #[.int .i64 op,.int .i64 d,.int .i64 a,.int .i64 b,.int .i64 imm,.int .i64 h]] w' fun e w''=>e=.returned (.int .u64 address)/\Below w'.heap.size w' w'')(hl:lies (M.Hp h).base address width (M.Hp h).len=true)
 (hcell:∀w',Below w.heap.size w w'->Calls Tryz.prog 141 #[.pointer (some ⟨bC,0,none⟩),.int .i64 h,.int .u64 address,.int .u64 width,.bool false] w' fun e w''=>e=.returned (.slice (some ⟨p.blk h,(address-(M.Hp h).base).toNat,none⟩) width (p.cap h-(address-(M.Hp h).base).toNat))/\Seen base bC M.nO (.slice p.aO M.nO p.cO) (first (M.nO*2) (obsF M.K M.V)) 1 address w' w''):
 Calls Tryz.prog 140 #[.pointer (some ⟨bC,0,none⟩),.agg #[.int .i64 op,.int .i64 d,.int .i64 a,.int .i64 b,.int .i64 imm,.int .i64 h],.pointer (some ⟨bF,0,none⟩),.pointer (some ⟨bW,0,none⟩)] w (Res base bC tab w (.done ((M.see 1 address).setR d (loadV (M.Hp h).dat (address-(M.Hp h).base).toNat width)) nx)):=by
 have hF:=kF.lt
 have hW:=kW.lt
 have cF:=kF.cell
 have cW:=kW.cell
 have neF:=kF.ne h0.core (by decide)
 have neW:=kW.ne h0.core (by decide)
 have noF:=kF.neOwn h0.mem.obs (by decide)
 have noW:=kW.neOwn h0.mem.obs (by decide)
 have hC:=h0.lt.2
 have hCR:=h0.neR
 have zR0:=h0.ltR.2
 have nI:some w.heap.size≠(Value.slice p.aO M.nO p.cO).ownBlock:=fun q=>by have:=(h0.mem.obs.lt _ q.symm).2;omega
 simp only[lies,Bool.and_eq_true,decide_eq_true_eq]at hl
 obtain⟨⟨l1,l2⟩,l3⟩:=hl
 have hd':(d:Int)<8:=by omega
 obtain⟨o,ho⟩:∃o,(address-(M.Hp h).base).toNat=o:=⟨_,rfl⟩
 rw[ho]at hcell
 rw[ho]
 have hol:o+width<=(M.Hp h).len:=by omega
 have hlen:=(hk.heap h hh).2.2.1
 have HDAT:Hid (∀j,j<(M.Hp h).len->0<=(M.Hp h).dat j/\(M.Hp h).dat j<=255):=hk.dat h hh
 have hRd:=hk.reg d hd
 have H0:Hid (Core w base bC p nx tab M):=h0
 have h0out:=H0.out
 have HK:Hid M.Ok:=hk
 have HKF:Hid (Cell1 w bF (.func (.func 120) #[] #[]) 146):=kF
 clear h0 hk kF kW l1 l2 l3 ho
 go_enter Tryz.func140,Tryz.ntmps140
 go_wp2_with fail
 generalize hG:w.alloc (.cells #[.int .i64 op,.int .i64 d,.int .i64 a,.int .i64 b,.int .i64 imm,.int .i64 h] 73)=wb
 have xb:Below w.heap.size w wb:=by rw[<-hG];exact(Below.refl _ _).alloc (Nat.le_refl _) _
 have xy:w.heap.size<wb.heap.size:=by rw[<-hG];simp
 obtain⟨S,hSd⟩:∃S:World->Prop,S=fun w'=>w'.cell? ⟨w.heap.size,0,none⟩=some (.int .i64 op)/\w'.cell? ⟨w.heap.size,1,none⟩=some (.int .i64 d)/\w'.cell? ⟨w.heap.size,2,none⟩=some (.int .i64 a)/\w'.cell? ⟨w.heap.size,3,none⟩=some (.int .i64 b)/\w'.cell? ⟨w.heap.size,4,none⟩=some (.int .i64 imm)/\w'.cell? ⟨w.heap.size,5,none⟩=some (.int .i64 h)/\w'.cell? ⟨bF,0,none⟩=some (.func (.func 120) #[] #[])/\w'.cell? ⟨bW,0,none⟩=some (.int .u64 width):=⟨_,rfl⟩
 have keep2:∀w',w'.cell? ⟨w.heap.size,0,none⟩=some (.int .i64 op)->w'.cell? ⟨w.heap.size,1,none⟩=some (.int .i64 d)->w'.cell? ⟨w.heap.size,2,none⟩=some (.int .i64 a)->w'.cell? ⟨w.heap.size,3,none⟩=some (.int .i64 b)->w'.cell? ⟨w.heap.size,4,none⟩=some (.int .i64 imm)->w'.cell? ⟨w.heap.size,5,none⟩=some (.int .i64 h)->w'.cell? ⟨bF,0,none⟩=some (.func (.func 120) #[] #[])->w'.cell? ⟨bW,0,none⟩=some (.int .u64 width)->Such S w':=by unfold Such;rw[hSd];exact fun w' a0 a1 a2 a3 a4 a5 a6 a7=>⟨a0,a1,a2,a3,a4,a5,a6,a7⟩
 have keepS:∀w',Below wb.heap.size wb w'->Such S w':=fun w' h=>keep2 w' ((h.cell (p:=⟨w.heap.size,0,none⟩) xy).trans (by rw[<-hG];simp[go_sem])) ((h.cell (p:=⟨w.heap.size,1,none⟩) xy).trans (by rw[<-hG];simp[go_sem])) ((h.cell (p:=⟨w.heap.size,2,none⟩) xy).trans (by rw[<-hG];simp[go_sem])) ((h.cell (p:=⟨w.heap.size,3,none⟩) xy).trans (by rw[<-hG];simp[go_sem])) ((h.cell (p:=⟨w.heap.size,4,none⟩) xy).trans (by rw[<-hG];simp[go_sem])) ((h.cell (p:=⟨w.heap.size,5,none⟩) xy).trans (by rw[<-hG];simp[go_sem])) ((h.cell (p:=⟨bF,0,none⟩) (by simp;omega)).trans ((xb.cell (p:=⟨bF,0,none⟩) hF).trans cF)) ((h.cell (p:=⟨bW,0,none⟩) (by simp;omega)).trans ((xb.cell (p:=⟨bW,0,none⟩) hW).trans cW))
 have j0:∀w',Such S w'->w'.cell? ⟨w.heap.size,0,none⟩=some (.int .i64 op):=fun w' h=>by unfold Such at h;rw[hSd]at h;exact h.1
 have j1:∀w',Such S w'->w'.cell? ⟨w.heap.size,1,none⟩=some (.int .i64 d):=fun w' h=>by unfold Such at h;rw[hSd]at h;exact h.2.1
 have j2:∀w',Such S w'->w'.cell? ⟨w.heap.size,2,none⟩=some (.int .i64 a):=fun w' h=>by unfold Such at h;rw[hSd]at h;exact h.2.2.1
 have j3:∀w',Such S w'->w'.cell? ⟨w.heap.size,3,none⟩=some (.int .i64 b):=fun w' h=>by unfold Such at h;rw[hSd]at h;exact h.2.2.2.1
 have j4:∀w',Such S w'->w'.cell? ⟨w.heap.size,4,none⟩=some (.int .i64 imm):=fun w' h=>by unfold Such at h;rw[hSd]at h;exact h.2.2.2.2.1
 have j5:∀w',Such S w'->w'.cell? ⟨w.heap.size,5,none⟩=some (.int .i64 h):=fun w' h=>by unfold Such at h;rw[hSd]at h;exact h.2.2.2.2.2.1
 have R0:∀w',Such S w'->w'.cell? ⟨bF,0,none⟩=some (.func (.func 120) #[] #[]):=fun w' h=>by unfold Such at h;rw[hSd]at h;exact h.2.2.2.2.2.2.1
 have R1:∀w',Such S w'->w'.cell? ⟨bW,0,none⟩=some (.int .u64 width):=fun w' h=>by unfold Such at h;rw[hSd]at h;exact h.2.2.2.2.2.2.2
 have KEEP2:Hid (∀w',w'.cell? ⟨w.heap.size,0,none⟩=some (.int .i64 op)->w'.cell? ⟨w.heap.size,1,none⟩=some (.int .i64 d)->w'.cell? ⟨w.heap.size,2,none⟩=some (.int .i64 a)->w'.cell? ⟨w.heap.size,3,none⟩=some (.int .i64 b)->w'.cell? ⟨w.heap.size,4,none⟩=some (.int .i64 imm)->w'.cell? ⟨w.heap.size,5,none⟩=some (.int .i64 h)->w'.cell? ⟨bF,0,none⟩=some (.func (.func 120) #[] #[])->w'.cell? ⟨bW,0,none⟩=some (.int .u64 width)->Such S w'):=keep2
 have KEEPS:Hid (∀w',Below wb.heap.size wb w'->Such S w'):=keepS
 have HADR:Hid _:=hadr
 have HCELL:Hid _:=hcell
 clear hG cF cW hSd keep2 keepS hadr hcell
 refine wp_region_held_drew (S:=Such S) (by kernel_rfl) (KEEPS.out _ ((Below.refl _ _).drew)) (fun hHeld=>?_)
 refine wpAnyH_tk 0 ?v0 rfl ?y0 ?r0
 case y0=>(intro w hSw;(try dsimp only at hSw);go_simp;try with_reducible rfl)
 try go_frame
 refine wpAnyH_tk 1 ?v1 rfl ?y1 ?r1
 case y1=>(intro w hSw;(try dsimp only at hSw);go_simp;try with_reducible rfl)
 try go_frame
 refine wpAnyH_tk 2 ?v2 rfl ?y2 ?r2
 case y2=>(intro w hSw;(try dsimp only at hSw);go_simp;try with_reducible rfl)
 try go_frame
 refine wpAnyH_tk 3 ?v3 rfl ?y3 ?r3
 case y3=>(intro w hSw;(try dsimp only at hSw);go_simp;try with_reducible rfl)
 try go_frame
 refine wpAnyH_tk 4 ?v4 rfl ?y4 ?r4
 case y4=>(intro w hSw;(try dsimp only at hSw);go_simp;try with_reducible rfl)
 try go_frame
 refine wpAnyH_tk 5 ?v5 rfl ?y5 ?r5
 case y5=>(intro w hSw;(try dsimp only at hSw);go_simp;try with_reducible rfl)
 try go_frame
 refine wpAnyH_tk 7 ?v7 rfl ?y7 ?r7
 case y7=>(intro w hSw;(try dsimp only at hSw);go_simp;try with_reducible rfl)
 try go_frame
 refine wpAnyH_ready (rs:=[6]) (by kernel_rfl) (by simp) ?_
 refine AllReadyH.cons rfl (fun K hK=>?_) AllReadyH.nil
 go_simp
 refine(HADR.out _ (xb.trans ((Below.refl _ _).drew.mono (Nat.le_of_lt xy)))).mono ?_
 rintro e wa⟨rfl,hb0⟩
 go_wp2_with fail
 refine hK.out _ _ (KEEPS.out _ ((Below.refl _ _).drew.trans hb0)) (fun hHeld6=>?_)
 clear hK K
 refine wpAnyH_ready (rs:=[8]) (by kernel_rfl) (by simp) ?_
 refine AllReadyH.cons rfl (fun K hK=>?_) AllReadyH.nil
 go_simp
 have xa:Below w.heap.size w wa:=xb.trans (((Below.refl _ _).drew.trans hb0).mono (Nat.le_of_lt xy))
 refine(HCELL.out _ xa).mono ?_
 rintro e w2⟨rfl,hs⟩
 have ya:wb.heap.size<=wa.heap.size:=by have:=hb0.size;simpa using this
 have hS2:Seen base bC M.nO (.slice p.aO M.nO p.cO) (first (M.nO*2) (obsF M.K M.V)) 1 address w w2:=Seen.of_below xa hs
 have hI:∀k,w2.cell? ⟨w.heap.size,k,none⟩=wa.cell? ⟨w.heap.size,k,none⟩:=fun k=>hs.cell (a:=⟨w.heap.size,k,none⟩) (by simp;omega) (by simp;omega) nI
 have hJ:∀b,b<w.heap.size->b≠bC->some b≠(Value.slice p.aO M.nO p.cO).ownBlock->∀k,w2.cell? ⟨b,k,none⟩=wa.cell? ⟨b,k,none⟩:=fun b h1 h2 h3 k=>hs.cell (a:=⟨b,k,none⟩) (by simp;omega) h2 h3
 have zI:w.heap.size<w2.heap.size:=by have:=hs.size;omega
 go_wp2_with fail
 refine hK.out _ _ (KEEP2.out w2 ((hI 0).trans (j0 wa (by assumption))) ((hI 1).trans (j1 wa (by assumption))) ((hI 2).trans (j2 wa (by assumption))) ((hI 3).trans (j3 wa (by assumption))) ((hI 4).trans (j4 wa (by assumption))) ((hI 5).trans (j5 wa (by assumption))) ((hJ bF hF neF noF 0).trans (R0 wa (by assumption))) ((hJ bW hW neW noW 0).trans (R1 wa (by assumption)))) (fun hHeld8=>?_)
 clear hK K
 refine wpAnyH_tk 9 ?v9 rfl ?y9 ?r9
 case y9=>(intro w hSw;(try dsimp only at hSw);go_simp;try with_reducible rfl)
 try go_frame
 refine wpAnyH_done (by kernel_rfl) ?_ _
 have C2':=h0out.seen hS2
 obtain⟨g,cp,C2⟩:=C2'
 have e0:w2.cell? ⟨bC,0,none⟩=some (.slice (some ⟨p.bR,0,none⟩) 8 p.cR):=C2.c0
 have rd:w2.cell? ⟨p.bR,d,none⟩=some (.int .u64 (M.R d)):=C2.reg hd
 have fd:w2.frozen? ⟨p.bR,d,none⟩=false:=C2.freeR d
 have zC:bC<w2.heap.size:=C2.lt.2
 have zR:p.bR<w2.heap.size:=C2.ltR.2
 have i1:w2.cell? ⟨w.heap.size,1,none⟩=some (.int .i64 d):=j1 w2 (by assumption)
 have hDat:=row_arr (C2.mem.data h hh)
 have zD:p.blk h<w2.heap.size:=hDat.2.2.2.lt
 have HD:Hid (∀k,k<width->w2.cell? ⟨p.blk h,o+k,none⟩=some (.int .u8 ((M.Hp h).dat (o+k)))):=fun k hk=>hDat.2.2.2.cell (by show o+k<(M.Hp h).len;omega)
 have HB:Hid (Below base w w2):=hS2.below h0out.size h0out.lt.1 h0out.mem.obs
 have HKP:Hid (Keep w w2):=h0out.keepS hS2
 have H2:Hid _:=C2
 clear hS2 C2 hDat hs hI hJ hHeld hb0 hHeld6 hHeld8 j0 j1 j2 j3 j4 j5 R0 R1 HCELL HADR KEEPS KEEP2 xa ya xb
 go_wp2
 go_loop [7,21](fun v i=>∃k:Nat,k<=width/\i=.int .i64 k/\v=.int .u64 (loadV (M.Hp h).dat o k))(fun _ i=>width-(intOf i).toNat)
 case atStart=>exact⟨0,Nat.zero_le _,rfl,rfl⟩
 case round=>
  obtain⟨k,hkw,rfl,rfl⟩:=hrel
  by_cases hlt:k<width
  ·have g0:=HD.out k hlt
   have hr:=loadV_range (M.Hp h).dat o k fun j hj=>HDAT.out (o+j) (by omega)
   have hy:=HDAT.out (o+k) (by omega)
   have hor:Hid (bits BinOp.or IntKind.u64 (loadV (M.Hp h).dat o k) ((M.Hp h).dat (o+k)*2^(8*k))=loadV (M.Hp h).dat o (k+1)):=or_add (by omega) hr.1 hr.2 hy.1 hy.2
   have hup:=byte_up (y:=(M.Hp h).dat (o+k)) (k:=k) (by omega) hy.1 hy.2
   have hsh:Hid (((M.Hp h).dat (o+k))*2^(8*k)=((M.Hp h).dat (o+k))*2^(8*k)):=rfl
   go_wp2
   go_round
   case rel=>exact⟨k+1,by omega,by go_num,by rw[<-hor.out]⟩
   case measure=>simp[intOf];omega
  ·obtain rfl:k=width:=by omega
   go_wp2
   go_region
   all_goals
    go_end0
    exact⟨(HB.out.setCell (p:=⟨p.bR,d,none⟩) (by simpa using H0.out.ltR.1) _).drew,HKP.out.trans ((H2.out.keepR d _).trans (Keep.below (Below.refl _ _).drew)),rfl,_,(H2.out.setR d _).below (Below.refl _ _).drew⟩
theorem storeN_yes(h0:Core w base bC p nx tab M)(hk:M.Ok){bF bW:Nat}(op:Int)(d a b h:Nat)(imm address:Int)(width:Nat)(hw1:1<=width)(hw8:width<=8)(hd:d<8)(hh:h<M.nH)
 (kF:Cell1 w bF (.func (.func 118) #[] #[]) 146)(kW:Cell1 w bW (.int .u64 width) 67)
 (hadr:∀w',Below w.heap.size w w'->Calls Tryz.prog 118 #[.pointer (some ⟨bC,0,none⟩),.agg #[.int .i64 op,.int .i64 d,.int .i64 a,.int .i64 b,.int .i64 imm,.int .i64 h]] w' fun e w''=>e=.returned (.int .u64 address)/\Below w'.heap.size w' w'')(hl:lies (M.Hp h).base address width (M.Hp h).len=true)
 (hcell:∀w',Below w.heap.size w w'->Calls Tryz.prog 141 #[.pointer (some ⟨bC,0,none⟩),.int .i64 h,.int .u64 address,.int .u64 width,.bool true] w' fun e w''=>e=.returned (.slice (some ⟨p.blk h,(address-(M.Hp h).base).toNat,none⟩) width (p.cap h-(address-(M.Hp h).base).toNat))/\Seen base bC M.nO (.slice p.aO M.nO p.cO) (first (M.nO*2) (obsF M.K M.V)) 1 address w' w''):
 Calls Tryz.prog 142 #[.pointer (some ⟨bC,0,none⟩),.agg #[.int .i64 op,.int .i64 d,.int .i64 a,.int .i64 b,.int .i64 imm,.int .i64 h],.pointer (some ⟨bF,0,none⟩),.pointer (some ⟨bW,0,none⟩)] w (Res base bC tab w (.done ((M.see 1 address).pokeN h (address-(M.Hp h).base).toNat (M.R d) width) nx)):=by
 have hF:=kF.lt
 have hW:=kW.lt
 have cF:=kF.cell
 have cW:=kW.cell
 have neF:=kF.ne h0.core (by decide)
 have neW:=kW.ne h0.core (by decide)
 have noF:=kF.neOwn h0.mem.obs (by decide)
 have noW:=kW.neOwn h0.mem.obs (by decide)
 have hC:=h0.lt.2
 have hCR:=h0.neR
 have zR0:=h0.ltR.2
 have nI:some w.heap.size≠(Value.slice p.aO M.nO p.cO).ownBlock:=fun q=>by have:=(h0.mem.obs.lt _ q.symm).2;omega
 simp only[lies,Bool.and_eq_true,decide_eq_true_eq]at hl
 obtain⟨⟨l1,l2⟩,l3⟩:=hl
 have hd':(d:Int)<8:=by omega
 obtain⟨o,ho⟩:∃o,(address-(M.Hp h).base).toNat=o:=⟨_,rfl⟩
 rw[ho]at hcell
 rw[ho]
 have hol:o+width<=(M.Hp h).len:=by omega
 have hlen:=(hk.heap h hh).2.2.1
 have HDAT:Hid (∀j,j<(M.Hp h).len->0<=(M.Hp h).dat j/\(M.Hp h).dat j<=255):=hk.dat h hh
 have hRd:=hk.reg d hd
 have H0:Hid (Core w base bC p nx tab M):=h0
 have h0out:=H0.out
 have HK:Hid M.Ok:=hk
 have HKF:Hid (Cell1 w bF (.func (.func 118) #[] #[]) 146):=kF
 clear h0 hk kF kW l1 l2 l3 ho
 go_enter Tryz.func142,Tryz.ntmps142
 go_wp2_with fail
 generalize hG:w.alloc (.cells #[.int .i64 op,.int .i64 d,.int .i64 a,.int .i64 b,.int .i64 imm,.int .i64 h] 73)=wb
 have xb:Below w.heap.size w wb:=by rw[<-hG];exact(Below.refl _ _).alloc (Nat.le_refl _) _
 have xy:w.heap.size<wb.heap.size:=by rw[<-hG];simp
 obtain⟨S,hSd⟩:∃S:World->Prop,S=fun w'=>w'.cell? ⟨w.heap.size,0,none⟩=some (.int .i64 op)/\w'.cell? ⟨w.heap.size,1,none⟩=some (.int .i64 d)/\w'.cell? ⟨w.heap.size,2,none⟩=some (.int .i64 a)/\w'.cell? ⟨w.heap.size,3,none⟩=some (.int .i64 b)/\w'.cell? ⟨w.heap.size,4,none⟩=some (.int .i64 imm)/\w'.cell? ⟨w.heap.size,5,none⟩=some (.int .i64 h)/\w'.cell? ⟨bF,0,none⟩=some (.func (.func 118) #[] #[])/\w'.cell? ⟨bW,0,none⟩=some (.int .u64 width):=⟨_,rfl⟩
 have keep2:∀w',w'.cell? ⟨w.heap.size,0,none⟩=some (.int .i64 op)->w'.cell? ⟨w.heap.size,1,none⟩=some (.int .i64 d)->w'.cell? ⟨w.heap.size,2,none⟩=some (.int .i64 a)->w'.cell? ⟨w.heap.size,3,none⟩=some (.int .i64 b)->w'.cell? ⟨w.heap.size,4,none⟩=some (.int .i64 imm)->w'.cell? ⟨w.heap.size,5,none⟩=some (.int .i64 h)->w'.cell? ⟨bF,0,none⟩=some (.func (.func 118) #[] #[])->w'.cell? ⟨bW,0,none⟩=some (.int .u64 width)->Such S w':=by unfold Such;rw[hSd];exact fun w' a0 a1 a2 a3 a4 a5 a6 a7=>⟨a0,a1,a2,a3,a4,a5,a6,a7⟩
 have keepS:∀w',Below wb.heap.size wb w'->Such S w':=fun w' h=>keep2 w' ((h.cell (p:=⟨w.heap.size,0,none⟩) xy).trans (by rw[<-hG];simp[go_sem])) ((h.cell (p:=⟨w.heap.size,1,none⟩) xy).trans (by rw[<-hG];simp[go_sem])) ((h.cell (p:=⟨w.heap.size,2,none⟩) xy).trans (by rw[<-hG];simp[go_sem])) ((h.cell (p:=⟨w.heap.size,3,none⟩) xy).trans (by rw[<-hG];simp[go_sem])) ((h.cell (p:=⟨w.heap.size,4,none⟩) xy).trans (by rw[<-hG];simp[go_sem])) ((h.cell (p:=⟨w.heap.size,5,none⟩) xy).trans (by rw[<-hG];simp[go_sem])) ((h.cell (p:=⟨bF,0,none⟩) (by simp;omega)).trans ((xb.cell (p:=⟨bF,0,none⟩) hF).trans cF)) ((h.cell (p:=⟨bW,0,none⟩) (by simp;omega)).trans ((xb.cell (p:=⟨bW,0,none⟩) hW).trans cW))
 have j0:∀w',Such S w'->w'.cell? ⟨w.heap.size,0,none⟩=some (.int .i64 op):=fun w' h=>by unfold Such at h;rw[hSd]at h;exact h.1
 have j1:∀w',Such S w'->w'.cell? ⟨w.heap.size,1,none⟩=some (.int .i64 d):=fun w' h=>by unfold Such at h;rw[hSd]at h;exact h.2.1
 have j2:∀w',Such S w'->w'.cell? ⟨w.heap.size,2,none⟩=some (.int .i64 a):=fun w' h=>by unfold Such at h;rw[hSd]at h;exact h.2.2.1
 have j3:∀w',Such S w'->w'.cell? ⟨w.heap.size,3,none⟩=some (.int .i64 b):=fun w' h=>by unfold Such at h;rw[hSd]at h;exact h.2.2.2.1
 have j4:∀w',Such S w'->w'.cell? ⟨w.heap.size,4,none⟩=some (.int .i64 imm):=fun w' h=>by unfold Such at h;rw[hSd]at h;exact h.2.2.2.2.1
 have j5:∀w',Such S w'->w'.cell? ⟨w.heap.size,5,none⟩=some (.int .i64 h):=fun w' h=>by unfold Such at h;rw[hSd]at h;exact h.2.2.2.2.2.1
 have R0:∀w',Such S w'->w'.cell? ⟨bF,0,none⟩=some (.func (.func 118) #[] #[]):=fun w' h=>by unfold Such at h;rw[hSd]at h;exact h.2.2.2.2.2.2.1
 have R1:∀w',Such S w'->w'.cell? ⟨bW,0,none⟩=some (.int .u64 width):=fun w' h=>by unfold Such at h;rw[hSd]at h;exact h.2.2.2.2.2.2.2
 have KEEP2:Hid (∀w',w'.cell? ⟨w.heap.size,0,none⟩=some (.int .i64 op)->w'.cell? ⟨w.heap.size,1,none⟩=some (.int .i64 d)->w'.cell? ⟨w.heap.size,2,none⟩=some (.int .i64 a)->w'.cell? ⟨w.heap.size,3,none⟩=some (.int .i64 b)->w'.cell? ⟨w.heap.size,4,none⟩=some (.int .i64 imm)->w'.cell? ⟨w.heap.size,5,none⟩=some (.int .i64 h)->w'.cell? ⟨bF,0,none⟩=some (.func (.func 118) #[] #[])->w'.cell? ⟨bW,0,none⟩=some (.int .u64 width)->Such S w'):=keep2
 have KEEPS:Hid (∀w',Below wb.heap.size wb w'->Such S w'):=keepS
 have HADR:Hid _:=hadr
 have HCELL:Hid _:=hcell
 clear hG cF cW hSd keep2 keepS hadr hcell
 refine wp_region_held_drew (S:=Such S) (by kernel_rfl) (KEEPS.out _ ((Below.refl _ _).drew)) (fun hHeld=>?_)
 refine wpAnyH_tk 0 ?v0 rfl ?y0 ?r0
 case y0=>(intro w hSw;(try dsimp only at hSw);go_simp;try with_reducible rfl)
 try go_frame
 refine wpAnyH_tk 1 ?v1 rfl ?y1 ?r1
 case y1=>(intro w hSw;(try dsimp only at hSw);go_simp;try with_reducible rfl)
 try go_frame
 refine wpAnyH_tk 2 ?v2 rfl ?y2 ?r2
 case y2=>(intro w hSw;(try dsimp only at hSw);go_simp;try with_reducible rfl)
 try go_frame
 refine wpAnyH_tk 3 ?v3 rfl ?y3 ?r3
 case y3=>(intro w hSw;(try dsimp only at hSw);go_simp;try with_reducible rfl)
 try go_frame
 refine wpAnyH_tk 4 ?v4 rfl ?y4 ?r4
 case y4=>(intro w hSw;(try dsimp only at hSw);go_simp;try with_reducible rfl)
 try go_frame
 refine wpAnyH_tk 5 ?v5 rfl ?y5 ?r5
 case y5=>(intro w hSw;(try dsimp only at hSw);go_simp;try with_reducible rfl)
 try go_frame
 refine wpAnyH_tk 7 ?v7 rfl ?y7 ?r7
 case y7=>(intro w hSw;(try dsimp only at hSw);go_simp;try with_reducible rfl)
 try go_frame
 refine wpAnyH_ready (rs:=[6]) (by kernel_rfl) (by simp) ?_
 refine AllReadyH.cons rfl (fun K hK=>?_) AllReadyH.nil
 go_simp
 refine(HADR.out _ (xb.trans ((Below.refl _ _).drew.mono (Nat.le_of_lt xy)))).mono ?_
 rintro e wa⟨rfl,hb0⟩
 go_wp2_with fail
 refine hK.out _ _ (KEEPS.out _ ((Below.refl _ _).drew.trans hb0)) (fun hHeld6=>?_)
 clear hK K
 refine wpAnyH_ready (rs:=[8]) (by kernel_rfl) (by simp) ?_
 refine AllReadyH.cons rfl (fun K hK=>?_) AllReadyH.nil
 go_simp
 have xa:Below w.heap.size w wa:=xb.trans (((Below.refl _ _).drew.trans hb0).mono (Nat.le_of_lt xy))
 refine(HCELL.out _ xa).mono ?_
 rintro e w2⟨rfl,hs⟩
 have ya:wb.heap.size<=wa.heap.size:=by have:=hb0.size;simpa using this
 have hS2:Seen base bC M.nO (.slice p.aO M.nO p.cO) (first (M.nO*2) (obsF M.K M.V)) 1 address w w2:=Seen.of_below xa hs
 have hI:∀k,w2.cell? ⟨w.heap.size,k,none⟩=wa.cell? ⟨w.heap.size,k,none⟩:=fun k=>hs.cell (a:=⟨w.heap.size,k,none⟩) (by simp;omega) (by simp;omega) nI
 have hJ:∀b,b<w.heap.size->b≠bC->some b≠(Value.slice p.aO M.nO p.cO).ownBlock->∀k,w2.cell? ⟨b,k,none⟩=wa.cell? ⟨b,k,none⟩:=fun b h1 h2 h3 k=>hs.cell (a:=⟨b,k,none⟩) (by simp;omega) h2 h3
 have zI:w.heap.size<w2.heap.size:=by have:=hs.size;omega
 go_wp2_with fail
 refine hK.out _ _ (KEEP2.out w2 ((hI 0).trans (j0 wa (by assumption))) ((hI 1).trans (j1 wa (by assumption))) ((hI 2).trans (j2 wa (by assumption))) ((hI 3).trans (j3 wa (by assumption))) ((hI 4).trans (j4 wa (by assumption))) ((hI 5).trans (j5 wa (by assumption))) ((hJ bF hF neF noF 0).trans (R0 wa (by assumption))) ((hJ bW hW neW noW 0).trans (R1 wa (by assumption)))) (fun hHeld8=>?_)
 clear hK K
 refine wpAnyH_tk 9 ?v9 rfl ?y9 ?r9
 case y9=>(intro w hSw;(try dsimp only at hSw);go_simp;try with_reducible rfl)
 try go_frame
 refine wpAnyH_done (by kernel_rfl) ?_ _
 have C2':=h0out.seen hS2
 obtain⟨g,cp,C2⟩:=C2'
 have e0:w2.cell? ⟨bC,0,none⟩=some (.slice (some ⟨p.bR,0,none⟩) 8 p.cR):=C2.c0
 have rd:w2.cell? ⟨p.bR,d,none⟩=some (.int .u64 (M.R d)):=C2.reg hd
 have fd:w2.frozen? ⟨p.bR,d,none⟩=false:=C2.freeR d
 have zC:bC<w2.heap.size:=C2.lt.2
 have zR:p.bR<w2.heap.size:=C2.ltR.2
 have i1:w2.cell? ⟨w.heap.size,1,none⟩=some (.int .i64 d):=j1 w2 (by assumption)
 have hDat:=row_arr (C2.mem.data h hh)
 have zD:p.blk h<w2.heap.size:=hDat.2.2.2.lt
 have HD:Hid (∀k,k<width->w2.cell? ⟨p.blk h,o+k,none⟩=some (.int .u8 ((M.Hp h).dat (o+k)))):=fun k hk=>hDat.2.2.2.cell (by show o+k<(M.Hp h).len;omega)
 have HB:Hid (Below base w w2):=hS2.below h0out.size h0out.lt.1 h0out.mem.obs
 have HKP:Hid (Keep w w2):=h0out.keepS hS2
 have H2:Hid _:=C2
 clear hS2 C2 hDat hs hI hJ hHeld hb0 hHeld6 hHeld8 j0 j1 j2 j3 j4 j5 R0 R1 HCELL HADR KEEPS KEEP2 xa ya xb
 have hbD:p.blk h<w.heap.size:=(H0.out.mem.data h hh).lt _ rfl|>.2
 have hbD0:base<=p.blk h:=(H0.out.mem.data h hh).lt _ rfl|>.1
 obtain⟨hRd0,hRd1⟩:=hRd
 have HPL:Hid (∀k,((M.see 1 address).pokeN h o (M.R d) k).nH=M.nH/\(∀i,(((M.see 1 address).pokeN h o (M.R d) k).Hp i).len=(M.Hp i).len)/\((M.see 1 address).pokeN h o (M.R d) k).R=M.R):=MV.pokeN_len (M.see 1 address) h o (M.R d)
 have hpd:p.blk h≠w.heap.size:=by omega
 have HPD:Hid (p.blk h≠w.heap.size):=hpd
 clear hpd
 go_wp2
 go_loopw [19](fun i wr=>∃k:Nat,k<=width/\i=.int .i64 k/\Below base w wr/\Keep w wr/\w.heap.size<wr.heap.size/\wr.cell? ⟨w.heap.size,1,none⟩=some (.int .i64 d)/\Core wr base bC {p with aO:=some ⟨g,0,none⟩,cO:=cp} nx tab ((M.see 1 address).pokeN h o (M.R d) k))(fun i _=>width-(intOf i).toNat)
 case atStart=>exact⟨0,Nat.zero_le _,rfl,HB.out,HKP.out,zI,i1,H2.out⟩
 case round=>
  obtain⟨k,hkw,rfl,hbr,hkp,hzr,hir,hcr⟩:=hrel
  clear e0 rd fd zC zR i1 zD HD HB H2 HKP zI
  have HR:Hid _:=hcr
  have HBR:Hid _:=hbr
  have HKR:Hid (Keep w wr):=hkp
  clear hbr hkp
  by_cases hlt:k<width
  ·have hpl:=HPL.out k
   have hDat:=row_arr (hcr.mem.data h (by rw[hpl.1];exact hh))
   have hl2:=hpl.2.1 h
   have e0:wr.cell? ⟨bC,0,none⟩=some (.slice (some ⟨p.bR,0,none⟩) 8 p.cR):=hcr.c0
   have rd:wr.cell? ⟨p.bR,d,none⟩=some (.int .u64 (M.R d)):=(hcr.reg hd).trans (by rw[hpl.2.2])
   have zC:bC<wr.heap.size:=hcr.lt.2
   have zR:p.bR<wr.heap.size:=hcr.ltR.2
   have zD:p.blk h<wr.heap.size:=hDat.2.2.2.lt
   have gD:wr.cell? ⟨p.blk h,o+k,none⟩=some (numF .u8 (((M.see 1 address).pokeN h o (M.R d) k).Hp h).dat (o+k)):=hDat.2.2.2.cell (by rw[hl2];omega)
   have fD:wr.frozen? ⟨p.blk h,o+k,none⟩=false:=hDat.2.2.2.free (o+k)
   have hp0:(0:Int)<2^(8*k):=Int.pow_pos (by decide)
   have hdv:0<=M.R d/2^(8*k):=Int.ediv_nonneg hRd0 (Int.le_of_lt hp0)
   have HDV:Hid (0<=M.R d/2^(8*k)):=hdv
   unfold numF at gD
   clear hcr hDat hl2 hpl hdv hp0
   go_wp2
   go_region
   all_goals
    go_wp2
    go_roundw
    case rel=>
     refine⟨k+1,by omega,by go_num,(HBR.out.setCell (p:=⟨p.blk h,o+k,none⟩) (by simpa using hbD0) _).drew,HKR.out.trans ((HR.out.keepD (by rw[(HPL.out k).1];exact hh) (o+k) _).trans (Keep.below (Below.refl _ _).drew)),by simpa using hzr,?_,?_⟩
     ·exact(World.cell?_setCell_far _ _ _ _ (by simpa using HPD.out)).trans hir
     ·exact(HR.out.poke (by rw[(HPL.out k).1];exact hh) (o+k) _).below (Below.refl _ _).drew
    case measure=>simp[intOf];omega
  ·obtain rfl:k=width:=by omega
   go_wp2
   go_end0
   exact⟨HBR.out,HKR.out,rfl,_,HR.out⟩
theorem storeX_yes(h0:Core w base bC p nx tab M)(hk:M.Ok){bF bW:Nat}(op:Int)(d a b h:Nat)(imm address:Int)(width:Nat)(hw1:1<=width)(hw8:width<=8)(hd:d<8)(hh:h<M.nH)
 (kF:Cell1 w bF (.func (.func 120) #[] #[]) 146)(kW:Cell1 w bW (.int .u64 width) 67)
 (hadr:∀w',Below w.heap.size w w'->Calls Tryz.prog 120 #[.pointer (some ⟨bC,0,none⟩),.agg #[.int .i64 op,.int .i64 d,.int .i64 a,.int .i64 b,.int .i64 imm,.int .i64 h]] w' fun e w''=>e=.returned (.int .u64 address)/\Below w'.heap.size w' w'')(hl:lies (M.Hp h).base address width (M.Hp h).len=true)
 (hcell:∀w',Below w.heap.size w w'->Calls Tryz.prog 141 #[.pointer (some ⟨bC,0,none⟩),.int .i64 h,.int .u64 address,.int .u64 width,.bool true] w' fun e w''=>e=.returned (.slice (some ⟨p.blk h,(address-(M.Hp h).base).toNat,none⟩) width (p.cap h-(address-(M.Hp h).base).toNat))/\Seen base bC M.nO (.slice p.aO M.nO p.cO) (first (M.nO*2) (obsF M.K M.V)) 1 address w' w''):
 Calls Tryz.prog 142 #[.pointer (some ⟨bC,0,none⟩),.agg #[.int .i64 op,.int .i64 d,.int .i64 a,.int .i64 b,.int .i64 imm,.int .i64 h],.pointer (some ⟨bF,0,none⟩),.pointer (some ⟨bW,0,none⟩)] w (Res base bC tab w (.done ((M.see 1 address).pokeN h (address-(M.Hp h).base).toNat (M.R d) width) nx)):=by
 have hF:=kF.lt
 have hW:=kW.lt
 have cF:=kF.cell
 have cW:=kW.cell
 have neF:=kF.ne h0.core (by decide)
 have neW:=kW.ne h0.core (by decide)
 have noF:=kF.neOwn h0.mem.obs (by decide)
 have noW:=kW.neOwn h0.mem.obs (by decide)
 have hC:=h0.lt.2
 have hCR:=h0.neR
 have zR0:=h0.ltR.2
 have nI:some w.heap.size≠(Value.slice p.aO M.nO p.cO).ownBlock:=fun q=>by have:=(h0.mem.obs.lt _ q.symm).2;omega
 simp only[lies,Bool.and_eq_true,decide_eq_true_eq]at hl
 obtain⟨⟨l1,l2⟩,l3⟩:=hl
 have hd':(d:Int)<8:=by omega
 obtain⟨o,ho⟩:∃o,(address-(M.Hp h).base).toNat=o:=⟨_,rfl⟩
 rw[ho]at hcell
 rw[ho]
 have hol:o+width<=(M.Hp h).len:=by omega
 have hlen:=(hk.heap h hh).2.2.1
 have HDAT:Hid (∀j,j<(M.Hp h).len->0<=(M.Hp h).dat j/\(M.Hp h).dat j<=255):=hk.dat h hh
 have hRd:=hk.reg d hd
 have H0:Hid (Core w base bC p nx tab M):=h0
 have h0out:=H0.out
 have HK:Hid M.Ok:=hk
 have HKF:Hid (Cell1 w bF (.func (.func 120) #[] #[]) 146):=kF
 clear h0 hk kF kW l1 l2 l3 ho
 go_enter Tryz.func142,Tryz.ntmps142
 go_wp2_with fail
 generalize hG:w.alloc (.cells #[.int .i64 op,.int .i64 d,.int .i64 a,.int .i64 b,.int .i64 imm,.int .i64 h] 73)=wb
 have xb:Below w.heap.size w wb:=by rw[<-hG];exact(Below.refl _ _).alloc (Nat.le_refl _) _
 have xy:w.heap.size<wb.heap.size:=by rw[<-hG];simp
 obtain⟨S,hSd⟩:∃S:World->Prop,S=fun w'=>w'.cell? ⟨w.heap.size,0,none⟩=some (.int .i64 op)/\w'.cell? ⟨w.heap.size,1,none⟩=some (.int .i64 d)/\w'.cell? ⟨w.heap.size,2,none⟩=some (.int .i64 a)/\w'.cell? ⟨w.heap.size,3,none⟩=some (.int .i64 b)/\w'.cell? ⟨w.heap.size,4,none⟩=some (.int .i64 imm)/\w'.cell? ⟨w.heap.size,5,none⟩=some (.int .i64 h)/\w'.cell? ⟨bF,0,none⟩=some (.func (.func 120) #[] #[])/\w'.cell? ⟨bW,0,none⟩=some (.int .u64 width):=⟨_,rfl⟩
 have keep2:∀w',w'.cell? ⟨w.heap.size,0,none⟩=some (.int .i64 op)->w'.cell? ⟨w.heap.size,1,none⟩=some (.int .i64 d)->w'.cell? ⟨w.heap.size,2,none⟩=some (.int .i64 a)->w'.cell? ⟨w.heap.size,3,none⟩=some (.int .i64 b)->w'.cell? ⟨w.heap.size,4,none⟩=some (.int .i64 imm)->w'.cell? ⟨w.heap.size,5,none⟩=some (.int .i64 h)->w'.cell? ⟨bF,0,none⟩=some (.func (.func 120) #[] #[])->w'.cell? ⟨bW,0,none⟩=some (.int .u64 width)->Such S w':=by unfold Such;rw[hSd];exact fun w' a0 a1 a2 a3 a4 a5 a6 a7=>⟨a0,a1,a2,a3,a4,a5,a6,a7⟩
 have keepS:∀w',Below wb.heap.size wb w'->Such S w':=fun w' h=>keep2 w' ((h.cell (p:=⟨w.heap.size,0,none⟩) xy).trans (by rw[<-hG];simp[go_sem])) ((h.cell (p:=⟨w.heap.size,1,none⟩) xy).trans (by rw[<-hG];simp[go_sem])) ((h.cell (p:=⟨w.heap.size,2,none⟩) xy).trans (by rw[<-hG];simp[go_sem])) ((h.cell (p:=⟨w.heap.size,3,none⟩) xy).trans (by rw[<-hG];simp[go_sem])) ((h.cell (p:=⟨w.heap.size,4,none⟩) xy).trans (by rw[<-hG];simp[go_sem])) ((h.cell (p:=⟨w.heap.size,5,none⟩) xy).trans (by rw[<-hG];simp[go_sem])) ((h.cell (p:=⟨bF,0,none⟩) (by simp;omega)).trans ((xb.cell (p:=⟨bF,0,none⟩) hF).trans cF)) ((h.cell (p:=⟨bW,0,none⟩) (by simp;omega)).trans ((xb.cell (p:=⟨bW,0,none⟩) hW).trans cW))
 have j0:∀w',Such S w'->w'.cell? ⟨w.heap.size,0,none⟩=some (.int .i64 op):=fun w' h=>by unfold Such at h;rw[hSd]at h;exact h.1
 have j1:∀w',Such S w'->w'.cell? ⟨w.heap.size,1,none⟩=some (.int .i64 d):=fun w' h=>by unfold Such at h;rw[hSd]at h;exact h.2.1
 have j2:∀w',Such S w'->w'.cell? ⟨w.heap.size,2,none⟩=some (.int .i64 a):=fun w' h=>by unfold Such at h;rw[hSd]at h;exact h.2.2.1
 have j3:∀w',Such S w'->w'.cell? ⟨w.heap.size,3,none⟩=some (.int .i64 b):=fun w' h=>by unfold Such at h;rw[hSd]at h;exact h.2.2.2.1
 have j4:∀w',Such S w'->w'.cell? ⟨w.heap.size,4,none⟩=some (.int .i64 imm):=fun w' h=>by unfold Such at h;rw[hSd]at h;exact h.2.2.2.2.1
 have j5:∀w',Such S w'->w'.cell? ⟨w.heap.size,5,none⟩=some (.int .i64 h):=fun w' h=>by unfold Such at h;rw[hSd]at h;exact h.2.2.2.2.2.1
 have R0:∀w',Such S w'->w'.cell? ⟨bF,0,none⟩=some (.func (.func 120) #[] #[]):=fun w' h=>by unfold Such at h;rw[hSd]at h;exact h.2.2.2.2.2.2.1
 have R1:∀w',Such S w'->w'.cell? ⟨bW,0,none⟩=some (.int .u64 width):=fun w' h=>by unfold Such at h;rw[hSd]at h;exact h.2.2.2.2.2.2.2
 have KEEP2:Hid (∀w',w'.cell? ⟨w.heap.size,0,none⟩=some (.int .i64 op)->w'.cell? ⟨w.heap.size,1,none⟩=some (.int .i64 d)->w'.cell? ⟨w.heap.size,2,none⟩=some (.int .i64 a)->w'.cell? ⟨w.heap.size,3,none⟩=some (.int .i64 b)->w'.cell? ⟨w.heap.size,4,none⟩=some (.int .i64 imm)->w'.cell? ⟨w.heap.size,5,none⟩=some (.int .i64 h)->w'.cell? ⟨bF,0,none⟩=some (.func (.func 120) #[] #[])->w'.cell? ⟨bW,0,none⟩=some (.int .u64 width)->Such S w'):=keep2
 have KEEPS:Hid (∀w',Below wb.heap.size wb w'->Such S w'):=keepS
 have HADR:Hid _:=hadr
 have HCELL:Hid _:=hcell
 clear hG cF cW hSd keep2 keepS hadr hcell
 refine wp_region_held_drew (S:=Such S) (by kernel_rfl) (KEEPS.out _ ((Below.refl _ _).drew)) (fun hHeld=>?_)
 refine wpAnyH_tk 0 ?v0 rfl ?y0 ?r0
 case y0=>(intro w hSw;(try dsimp only at hSw);go_simp;try with_reducible rfl)
 try go_frame
 refine wpAnyH_tk 1 ?v1 rfl ?y1 ?r1
 case y1=>(intro w hSw;(try dsimp only at hSw);go_simp;try with_reducible rfl)
 try go_frame
 refine wpAnyH_tk 2 ?v2 rfl ?y2 ?r2
 case y2=>(intro w hSw;(try dsimp only at hSw);go_simp;try with_reducible rfl)
 try go_frame
 refine wpAnyH_tk 3 ?v3 rfl ?y3 ?r3
 case y3=>(intro w hSw;(try dsimp only at hSw);go_simp;try with_reducible rfl)
 try go_frame
 refine wpAnyH_tk 4 ?v4 rfl ?y4 ?r4
 case y4=>(intro w hSw;(try dsimp only at hSw);go_simp;try with_reducible rfl)
 try go_frame
 refine wpAnyH_tk 5 ?v5 rfl ?y5 ?r5
 case y5=>(intro w hSw;(try dsimp only at hSw);go_simp;try with_reducible rfl)
 try go_frame
 refine wpAnyH_tk 7 ?v7 rfl ?y7 ?r7
 case y7=>(intro w hSw;(try dsimp only at hSw);go_simp;try with_reducible rfl)
 try go_frame
 refine wpAnyH_ready (rs:=[6]) (by kernel_rfl) (by simp) ?_
 refine AllReadyH.cons rfl (fun K hK=>?_) AllReadyH.nil
 go_simp
 refine(HADR.out _ (xb.trans ((Below.refl _ _).drew.mono (Nat.le_of_lt xy)))).mono ?_
 rintro e wa⟨rfl,hb0⟩
 go_wp2_with fail
 refine hK.out _ _ (KEEPS.out _ ((Below.refl _ _).drew.trans hb0)) (fun hHeld6=>?_)
 clear hK K
 refine wpAnyH_ready (rs:=[8]) (by kernel_rfl) (by simp) ?_
 refine AllReadyH.cons rfl (fun K hK=>?_) AllReadyH.nil
 go_simp
 have xa:Below w.heap.size w wa:=xb.trans (((Below.refl _ _).drew.trans hb0).mono (Nat.le_of_lt xy))
 refine(HCELL.out _ xa).mono ?_
 rintro e w2⟨rfl,hs⟩
 have ya:wb.heap.size<=wa.heap.size:=by have:=hb0.size;simpa using this
 have hS2:Seen base bC M.nO (.slice p.aO M.nO p.cO) (first (M.nO*2) (obsF M.K M.V)) 1 address w w2:=Seen.of_below xa hs
 have hI:∀k,w2.cell? ⟨w.heap.size,k,none⟩=wa.cell? ⟨w.heap.size,k,none⟩:=fun k=>hs.cell (a:=⟨w.heap.size,k,none⟩) (by simp;omega) (by simp;omega) nI
 have hJ:∀b,b<w.heap.size->b≠bC->some b≠(Value.slice p.aO M.nO p.cO).ownBlock->∀k,w2.cell? ⟨b,k,none⟩=wa.cell? ⟨b,k,none⟩:=fun b h1 h2 h3 k=>hs.cell (a:=⟨b,k,none⟩) (by simp;omega) h2 h3
 have zI:w.heap.size<w2.heap.size:=by have:=hs.size;omega
 go_wp2_with fail
 refine hK.out _ _ (KEEP2.out w2 ((hI 0).trans (j0 wa (by assumption))) ((hI 1).trans (j1 wa (by assumption))) ((hI 2).trans (j2 wa (by assumption))) ((hI 3).trans (j3 wa (by assumption))) ((hI 4).trans (j4 wa (by assumption))) ((hI 5).trans (j5 wa (by assumption))) ((hJ bF hF neF noF 0).trans (R0 wa (by assumption))) ((hJ bW hW neW noW 0).trans (R1 wa (by assumption)))) (fun hHeld8=>?_)
 clear hK K
 refine wpAnyH_tk 9 ?v9 rfl ?y9 ?r9
 case y9=>(intro w hSw;(try dsimp only at hSw);go_simp;try with_reducible rfl)
 try go_frame
 refine wpAnyH_done (by kernel_rfl) ?_ _
 have C2':=h0out.seen hS2
 obtain⟨g,cp,C2⟩:=C2'
 have e0:w2.cell? ⟨bC,0,none⟩=some (.slice (some ⟨p.bR,0,none⟩) 8 p.cR):=C2.c0
 have rd:w2.cell? ⟨p.bR,d,none⟩=some (.int .u64 (M.R d)):=C2.reg hd
 have fd:w2.frozen? ⟨p.bR,d,none⟩=false:=C2.freeR d
 have zC:bC<w2.heap.size:=C2.lt.2
 have zR:p.bR<w2.heap.size:=C2.ltR.2
 have i1:w2.cell? ⟨w.heap.size,1,none⟩=some (.int .i64 d):=j1 w2 (by assumption)
 have hDat:=row_arr (C2.mem.data h hh)
 have zD:p.blk h<w2.heap.size:=hDat.2.2.2.lt
 have HD:Hid (∀k,k<width->w2.cell? ⟨p.blk h,o+k,none⟩=some (.int .u8 ((M.Hp h).dat (o+k)))):=fun k hk=>hDat.2.2.2.cell (by show o+k<(M.Hp h).len;omega)
 have HB:Hid (Below base w w2):=hS2.below h0out.size h0out.lt.1 h0out.mem.obs
 have HKP:Hid (Keep w w2):=h0out.keepS hS2
 have H2:Hid _:=C2
 clear hS2 C2 hDat hs hI hJ hHeld hb0 hHeld6 hHeld8 j0 j1 j2 j3 j4 j5 R0 R1 HCELL HADR KEEPS KEEP2 xa ya xb
 have hbD:p.blk h<w.heap.size:=(H0.out.mem.data h hh).lt _ rfl|>.2
 have hbD0:base<=p.blk h:=(H0.out.mem.data h hh).lt _ rfl|>.1
 obtain⟨hRd0,hRd1⟩:=hRd
 have HPL:Hid (∀k,((M.see 1 address).pokeN h o (M.R d) k).nH=M.nH/\(∀i,(((M.see 1 address).pokeN h o (M.R d) k).Hp i).len=(M.Hp i).len)/\((M.see 1 address).pokeN h o (M.R d) k).R=M.R):=MV.pokeN_len (M.see 1 address) h o (M.R d)
 have hpd:p.blk h≠w.heap.size:=by omega
 have HPD:Hid (p.blk h≠w.heap.size):=hpd
 clear hpd
 go_wp2
 go_loopw [19](fun i wr=>∃k:Nat,k<=width/\i=.int .i64 k/\Below base w wr/\Keep w wr/\w.heap.size<wr.heap.size/\wr.cell? ⟨w.heap.size,1,none⟩=some (.int .i64 d)/\Core wr base bC {p with aO:=some ⟨g,0,none⟩,cO:=cp} nx tab ((M.see 1 address).pokeN h o (M.R d) k))(fun i _=>width-(intOf i).toNat)
 case atStart=>exact⟨0,Nat.zero_le _,rfl,HB.out,HKP.out,zI,i1,H2.out⟩
 case round=>
  obtain⟨k,hkw,rfl,hbr,hkp,hzr,hir,hcr⟩:=hrel
  clear e0 rd fd zC zR i1 zD HD HB H2 HKP zI
  have HR:Hid _:=hcr
  have HBR:Hid _:=hbr
  have HKR:Hid (Keep w wr):=hkp
  clear hbr hkp
  by_cases hlt:k<width
  ·have hpl:=HPL.out k
   have hDat:=row_arr (hcr.mem.data h (by rw[hpl.1];exact hh))
   have hl2:=hpl.2.1 h
   have e0:wr.cell? ⟨bC,0,none⟩=some (.slice (some ⟨p.bR,0,none⟩) 8 p.cR):=hcr.c0
   have rd:wr.cell? ⟨p.bR,d,none⟩=some (.int .u64 (M.R d)):=(hcr.reg hd).trans (by rw[hpl.2.2])
   have zC:bC<wr.heap.size:=hcr.lt.2
   have zR:p.bR<wr.heap.size:=hcr.ltR.2
   have zD:p.blk h<wr.heap.size:=hDat.2.2.2.lt
   have gD:wr.cell? ⟨p.blk h,o+k,none⟩=some (numF .u8 (((M.see 1 address).pokeN h o (M.R d) k).Hp h).dat (o+k)):=hDat.2.2.2.cell (by rw[hl2];omega)
   have fD:wr.frozen? ⟨p.blk h,o+k,none⟩=false:=hDat.2.2.2.free (o+k)
   have hp0:(0:Int)<2^(8*k):=Int.pow_pos (by decide)
   have hdv:0<=M.R d/2^(8*k):=Int.ediv_nonneg hRd0 (Int.le_of_lt hp0)
   have HDV:Hid (0<=M.R d/2^(8*k)):=hdv
   unfold numF at gD
   clear hcr hDat hl2 hpl hdv hp0
   go_wp2
   go_region
   all_goals
    go_wp2
    go_roundw
    case rel=>
     refine⟨k+1,by omega,by go_num,(HBR.out.setCell (p:=⟨p.blk h,o+k,none⟩) (by simpa using hbD0) _).drew,HKR.out.trans ((HR.out.keepD (by rw[(HPL.out k).1];exact hh) (o+k) _).trans (Keep.below (Below.refl _ _).drew)),by simpa using hzr,?_,?_⟩
     ·exact(World.cell?_setCell_far _ _ _ _ (by simpa using HPD.out)).trans hir
     ·exact(HR.out.poke (by rw[(HPL.out k).1];exact hh) (o+k) _).below (Below.refl _ _).drew
    case measure=>simp[intOf];omega
  ·obtain rfl:k=width:=by omega
   go_wp2
   go_end0
   exact⟨HBR.out,HKR.out,rfl,_,HR.out⟩
theorem op_loadN(h0:Core w base bC p nx tab M)(hk:M.Ok){bF bW:Nat}(op:Int)(d a b h:Nat)(imm:Int)(width:Nat)(hw1:1<=width)(hw8:width<=8)(hn:M.nO<=1048576)(hd:d<8)(ha:a<8)
 (kF:Cell1 w bF (.func (.func 118) #[] #[]) 146)(kW:Cell1 w bW (.int .u64 width) 67):
 Calls Tryz.prog 140 #[.pointer (some ⟨bC,0,none⟩),.agg #[.int .i64 op,.int .i64 d,.int .i64 a,.int .i64 b,.int .i64 imm,.int .i64 h],.pointer (some ⟨bF,0,none⟩),.pointer (some ⟨bW,0,none⟩)] w (Res base bC tab w (memOp false width (adrN M a imm) d h M nx)):=by
 have hadr:∀w',Below w.heap.size w w'->Calls Tryz.prog 118 #[.pointer (some ⟨bC,0,none⟩),.agg #[.int .i64 op,.int .i64 d,.int .i64 a,.int .i64 b,.int .i64 imm,.int .i64 h]] w' fun e w''=>e=.returned (.int .u64 (adrN M a imm))/\Below w'.heap.size w' w'':=fun w' hb=>addressByNumber_any bC p.bR p.cR a op d b imm h M.R w' ha (h0.below hb).lt.2 (h0.below hb).ltR.2 (h0.below hb).c0 ((h0.below hb).reg ha)
 have hrA:0<=adrN M a imm/\adrN M a imm<=18446744073709551615:=wrap_range _;generalize adrN M a imm=address at hadr hrA⊢;have flt:∀(e:Ending)(w':World),(e=.panicked [{v:=.iface 102 (.agg #[]),recovered:=false}]/\Seen base bC M.nO (.slice p.aO M.nO p.cO) (first (M.nO*2) (obsF M.K M.V)) 1 address w w')->Res base bC tab w (.flt (M.see 1 address)) e w':=by
  rintro e w'⟨rfl,hs⟩;obtain⟨g,cp,hc⟩:=h0.seen hs;exact⟨hs.below h0.size h0.lt.1 h0.mem.obs,h0.keepS hs,rfl,_,_,hc⟩
 unfold memOp;by_cases hh:M.nH<=h
 ·rw[if_pos hh]
  refine(loadN_no base bC bF bW M.nO (.slice p.aO M.nO p.cO) (first (M.nO*2) (obsF M.K M.V)) op d a b imm h address width w kF.lt kW.lt kF.cell kW.cell hadr (fun w' hq=>?_)).mono flt;have hc:=h0.below hq;exact cells_out base bC M.nO _ _ p.aH M.nH p.cH h address width false w' hn hc.size hc.lt.2 hc.neO hc.c5 hc.c8 (hc.free 8) hc.mem.obs (by omega)
 ·rw[if_neg hh]
  have hh':h<M.nH:=by omega
  have hcells:∀w',Below w.heap.size w w'->Calls Tryz.prog 141 #[.pointer (some ⟨bC,0,none⟩),.int .i64 h,.int .u64 address,.int .u64 width,.bool false] w' fun e w''=>Seen base bC M.nO (.slice p.aO M.nO p.cO) (first (M.nO*2) (obsF M.K M.V)) 1 address w' w''/\(if lies (M.Hp h).base address width (M.Hp h).len&&(!false||(M.Hp h).wr)then e=.returned (.slice (some ⟨p.blk h,(address-(M.Hp h).base).toNat,none⟩) width (p.cap h-(address-(M.Hp h).base).toNat))else e=.panicked [{v:=.iface 102 (.agg #[]),recovered:=false}]):=by
   intro w' hq;have hc:=h0.below hq;obtain⟨bH,ha1,ha2,ha3,ha4⟩:=hc.heapAt hh';have hp:=hk.heap h hh';have c5:=hc.c5;rw[ha1]at c5;exact cells_in base bC bH (p.blk h) M.nO _ _ M.nH p.cH h (place M.Hp p.blk p.cap) address width false w' hn hc.size hc.lt.2 hc.neO ha3 ha2 c5 hc.c8 (hc.free 8) hc.mem.obs hh' ha4 (by show(M.Hp h).len<=1048576;omega) hp.1 (by show(M.Hp h).base<=18446744073709551615;omega) hrA.1 hrA.2 hw1 hw8 (fun _=>rfl) (row_arr (hc.mem.data h hh')).2.1
  cases hq:(lies (M.Hp h).base address width (M.Hp h).len&&(!false||(M.Hp h).wr))with
  |false=>
   rw[if_neg (by decide)];refine(loadN_no base bC bF bW M.nO (.slice p.aO M.nO p.cO) (first (M.nO*2) (obsF M.K M.V)) op d a b imm h address width w kF.lt kW.lt kF.cell kW.cell hadr (fun w' hb=>?_)).mono flt;refine(hcells w' hb).mono ?_;rintro e w''⟨h1,h2⟩;rw[hq]at h2;exact⟨by simpa using h2,h1⟩
  |true=>
   have hl:lies (M.Hp h).base address width (M.Hp h).len=true:=by
    rw[Bool.and_eq_true]at hq;exact hq.1
   rw[if_pos rfl];refine loadN_yes h0 hk op d a b h imm address width hw1 hw8 hd hh' kF kW hadr hl (fun w' hb=>?_);refine(hcells w' hb).mono ?_;rintro e w''⟨h1,h2⟩;rw[hq]at h2;exact⟨by simpa using h2,h1⟩
theorem op_loadX(h0:Core w base bC p nx tab M)(hk:M.Ok){bF bW:Nat}(op:Int)(d a b h:Nat)(imm:Int)(width:Nat)(hw1:1<=width)(hw8:width<=8)(hn:M.nO<=1048576)(hd:d<8)(ha:a<8)(hb:b<8)
 (kF:Cell1 w bF (.func (.func 120) #[] #[]) 146)(kW:Cell1 w bW (.int .u64 width) 67):
 Calls Tryz.prog 140 #[.pointer (some ⟨bC,0,none⟩),.agg #[.int .i64 op,.int .i64 d,.int .i64 a,.int .i64 b,.int .i64 imm,.int .i64 h],.pointer (some ⟨bF,0,none⟩),.pointer (some ⟨bW,0,none⟩)] w (Res base bC tab w (memOp false width (adrX M a b) d h M nx)):=by
 have hadr:∀w',Below w.heap.size w w'->Calls Tryz.prog 120 #[.pointer (some ⟨bC,0,none⟩),.agg #[.int .i64 op,.int .i64 d,.int .i64 a,.int .i64 b,.int .i64 imm,.int .i64 h]] w' fun e w''=>e=.returned (.int .u64 (adrX M a b))/\Below w'.heap.size w' w'':=fun w' hq=>addressByIndex_any bC p.bR p.cR a b op d imm h M.R w' ha hb (h0.below hq).lt.2 (h0.below hq).ltR.2 (h0.below hq).c0 ((h0.below hq).reg ha) ((h0.below hq).reg hb)
 have hrA:0<=adrX M a b/\adrX M a b<=18446744073709551615:=wrap_range _;generalize adrX M a b=address at hadr hrA⊢;have flt:∀(e:Ending)(w':World),(e=.panicked [{v:=.iface 102 (.agg #[]),recovered:=false}]/\Seen base bC M.nO (.slice p.aO M.nO p.cO) (first (M.nO*2) (obsF M.K M.V)) 1 address w w')->Res base bC tab w (.flt (M.see 1 address)) e w':=by
  rintro e w'⟨rfl,hs⟩;obtain⟨g,cp,hc⟩:=h0.seen hs;exact⟨hs.below h0.size h0.lt.1 h0.mem.obs,h0.keepS hs,rfl,_,_,hc⟩
 unfold memOp;by_cases hh:M.nH<=h
 ·rw[if_pos hh]
  refine(loadX_no base bC bF bW M.nO (.slice p.aO M.nO p.cO) (first (M.nO*2) (obsF M.K M.V)) op d a b imm h address width w kF.lt kW.lt kF.cell kW.cell hadr (fun w' hq=>?_)).mono flt;have hc:=h0.below hq;exact cells_out base bC M.nO _ _ p.aH M.nH p.cH h address width false w' hn hc.size hc.lt.2 hc.neO hc.c5 hc.c8 (hc.free 8) hc.mem.obs (by omega)
 ·rw[if_neg hh]
  have hh':h<M.nH:=by omega
  have hcells:∀w',Below w.heap.size w w'->Calls Tryz.prog 141 #[.pointer (some ⟨bC,0,none⟩),.int .i64 h,.int .u64 address,.int .u64 width,.bool false] w' fun e w''=>Seen base bC M.nO (.slice p.aO M.nO p.cO) (first (M.nO*2) (obsF M.K M.V)) 1 address w' w''/\(if lies (M.Hp h).base address width (M.Hp h).len&&(!false||(M.Hp h).wr)then e=.returned (.slice (some ⟨p.blk h,(address-(M.Hp h).base).toNat,none⟩) width (p.cap h-(address-(M.Hp h).base).toNat))else e=.panicked [{v:=.iface 102 (.agg #[]),recovered:=false}]):=by
   intro w' hq;have hc:=h0.below hq;obtain⟨bH,ha1,ha2,ha3,ha4⟩:=hc.heapAt hh';have hp:=hk.heap h hh';have c5:=hc.c5;rw[ha1]at c5;exact cells_in base bC bH (p.blk h) M.nO _ _ M.nH p.cH h (place M.Hp p.blk p.cap) address width false w' hn hc.size hc.lt.2 hc.neO ha3 ha2 c5 hc.c8 (hc.free 8) hc.mem.obs hh' ha4 (by show(M.Hp h).len<=1048576;omega) hp.1 (by show(M.Hp h).base<=18446744073709551615;omega) hrA.1 hrA.2 hw1 hw8 (fun _=>rfl) (row_arr (hc.mem.data h hh')).2.1
  cases hq:(lies (M.Hp h).base address width (M.Hp h).len&&(!false||(M.Hp h).wr))with
  |false=>
   rw[if_neg (by decide)];refine(loadX_no base bC bF bW M.nO (.slice p.aO M.nO p.cO) (first (M.nO*2) (obsF M.K M.V)) op d a b imm h address width w kF.lt kW.lt kF.cell kW.cell hadr (fun w' hb=>?_)).mono flt;refine(hcells w' hb).mono ?_;rintro e w''⟨h1,h2⟩;rw[hq]at h2;exact⟨by simpa using h2,h1⟩
  |true=>
   have hl:lies (M.Hp h).base address width (M.Hp h).len=true:=by
    rw[Bool.and_eq_true]at hq;exact hq.1
   rw[if_pos rfl];refine loadX_yes h0 hk op d a b h imm address width hw1 hw8 hd hh' kF kW hadr hl (fun w' hb=>?_);refine(hcells w' hb).mono ?_;rintro e w''⟨h1,h2⟩;rw[hq]at h2;exact⟨by simpa using h2,h1⟩
theorem op_storeN(h0:Core w base bC p nx tab M)(hk:M.Ok){bF bW:Nat}(op:Int)(d a b h:Nat)(imm:Int)(width:Nat)(hw1:1<=width)(hw8:width<=8)(hn:M.nO<=1048576)(hd:d<8)(ha:a<8)
 (kF:Cell1 w bF (.func (.func 118) #[] #[]) 146)(kW:Cell1 w bW (.int .u64 width) 67):
 Calls Tryz.prog 142 #[.pointer (some ⟨bC,0,none⟩),.agg #[.int .i64 op,.int .i64 d,.int .i64 a,.int .i64 b,.int .i64 imm,.int .i64 h],.pointer (some ⟨bF,0,none⟩),.pointer (some ⟨bW,0,none⟩)] w (Res base bC tab w (memOp true width (adrN M a imm) d h M nx)):=by
 have hadr:∀w',Below w.heap.size w w'->Calls Tryz.prog 118 #[.pointer (some ⟨bC,0,none⟩),.agg #[.int .i64 op,.int .i64 d,.int .i64 a,.int .i64 b,.int .i64 imm,.int .i64 h]] w' fun e w''=>e=.returned (.int .u64 (adrN M a imm))/\Below w'.heap.size w' w'':=fun w' hb=>addressByNumber_any bC p.bR p.cR a op d b imm h M.R w' ha (h0.below hb).lt.2 (h0.below hb).ltR.2 (h0.below hb).c0 ((h0.below hb).reg ha)
 have hrA:0<=adrN M a imm/\adrN M a imm<=18446744073709551615:=wrap_range _;generalize adrN M a imm=address at hadr hrA⊢;have flt:∀(e:Ending)(w':World),(e=.panicked [{v:=.iface 102 (.agg #[]),recovered:=false}]/\Seen base bC M.nO (.slice p.aO M.nO p.cO) (first (M.nO*2) (obsF M.K M.V)) 1 address w w')->Res base bC tab w (.flt (M.see 1 address)) e w':=by
  rintro e w'⟨rfl,hs⟩;obtain⟨g,cp,hc⟩:=h0.seen hs;exact⟨hs.below h0.size h0.lt.1 h0.mem.obs,h0.keepS hs,rfl,_,_,hc⟩
 unfold memOp;by_cases hh:M.nH<=h
 ·rw[if_pos hh]
  refine(storeN_no base bC bF bW M.nO (.slice p.aO M.nO p.cO) (first (M.nO*2) (obsF M.K M.V)) op d a b imm h address width w kF.lt kW.lt kF.cell kW.cell hadr (fun w' hq=>?_)).mono flt;have hc:=h0.below hq;exact cells_out base bC M.nO _ _ p.aH M.nH p.cH h address width true w' hn hc.size hc.lt.2 hc.neO hc.c5 hc.c8 (hc.free 8) hc.mem.obs (by omega)
 ·rw[if_neg hh]
  have hh':h<M.nH:=by omega
  have hcells:∀w',Below w.heap.size w w'->Calls Tryz.prog 141 #[.pointer (some ⟨bC,0,none⟩),.int .i64 h,.int .u64 address,.int .u64 width,.bool true] w' fun e w''=>Seen base bC M.nO (.slice p.aO M.nO p.cO) (first (M.nO*2) (obsF M.K M.V)) 1 address w' w''/\(if lies (M.Hp h).base address width (M.Hp h).len&&(!true||(M.Hp h).wr)then e=.returned (.slice (some ⟨p.blk h,(address-(M.Hp h).base).toNat,none⟩) width (p.cap h-(address-(M.Hp h).base).toNat))else e=.panicked [{v:=.iface 102 (.agg #[]),recovered:=false}]):=by
   intro w' hq;have hc:=h0.below hq;obtain⟨bH,ha1,ha2,ha3,ha4⟩:=hc.heapAt hh';have hp:=hk.heap h hh';have c5:=hc.c5;rw[ha1]at c5;exact cells_in base bC bH (p.blk h) M.nO _ _ M.nH p.cH h (place M.Hp p.blk p.cap) address width true w' hn hc.size hc.lt.2 hc.neO ha3 ha2 c5 hc.c8 (hc.free 8) hc.mem.obs hh' ha4 (by show(M.Hp h).len<=1048576;omega) hp.1 (by show(M.Hp h).base<=18446744073709551615;omega) hrA.1 hrA.2 hw1 hw8 (fun _=>rfl) (row_arr (hc.mem.data h hh')).2.1
  cases hq:(lies (M.Hp h).base address width (M.Hp h).len&&(!true||(M.Hp h).wr))with
  |false=>
   rw[if_neg (by decide)];refine(storeN_no base bC bF bW M.nO (.slice p.aO M.nO p.cO) (first (M.nO*2) (obsF M.K M.V)) op d a b imm h address width w kF.lt kW.lt kF.cell kW.cell hadr (fun w' hb=>?_)).mono flt;refine(hcells w' hb).mono ?_;rintro e w''⟨h1,h2⟩;rw[hq]at h2;exact⟨by simpa using h2,h1⟩
  |true=>
   have hl:lies (M.Hp h).base address width (M.Hp h).len=true:=by
    rw[Bool.and_eq_true]at hq;exact hq.1
   rw[if_pos rfl];refine storeN_yes h0 hk op d a b h imm address width hw1 hw8 hd hh' kF kW hadr hl (fun w' hb=>?_);refine(hcells w' hb).mono ?_;rintro e w''⟨h1,h2⟩;rw[hq]at h2;exact⟨by simpa using h2,h1⟩
theorem op_storeX(h0:Core w base bC p nx tab M)(hk:M.Ok){bF bW:Nat}(op:Int)(d a b h:Nat)(imm:Int)(width:Nat)(hw1:1<=width)(hw8:width<=8)(hn:M.nO<=1048576)(hd:d<8)(ha:a<8)(hb:b<8)
 (kF:Cell1 w bF (.func (.func 120) #[] #[]) 146)(kW:Cell1 w bW (.int .u64 width) 67):
 Calls Tryz.prog 142 #[.pointer (some ⟨bC,0,none⟩),.agg #[.int .i64 op,.int .i64 d,.int .i64 a,.int .i64 b,.int .i64 imm,.int .i64 h],.pointer (some ⟨bF,0,none⟩),.pointer (some ⟨bW,0,none⟩)] w (Res base bC tab w (memOp true width (adrX M a b) d h M nx)):=by
 have hadr:∀w',Below w.heap.size w w'->Calls Tryz.prog 120 #[.pointer (some ⟨bC,0,none⟩),.agg #[.int .i64 op,.int .i64 d,.int .i64 a,.int .i64 b,.int .i64 imm,.int .i64 h]] w' fun e w''=>e=.returned (.int .u64 (adrX M a b))/\Below w'.heap.size w' w'':=fun w' hq=>addressByIndex_any bC p.bR p.cR a b op d imm h M.R w' ha hb (h0.below hq).lt.2 (h0.below hq).ltR.2 (h0.below hq).c0 ((h0.below hq).reg ha) ((h0.below hq).reg hb)
 have hrA:0<=adrX M a b/\adrX M a b<=18446744073709551615:=wrap_range _;generalize adrX M a b=address at hadr hrA⊢;have flt:∀(e:Ending)(w':World),(e=.panicked [{v:=.iface 102 (.agg #[]),recovered:=false}]/\Seen base bC M.nO (.slice p.aO M.nO p.cO) (first (M.nO*2) (obsF M.K M.V)) 1 address w w')->Res base bC tab w (.flt (M.see 1 address)) e w':=by
  rintro e w'⟨rfl,hs⟩;obtain⟨g,cp,hc⟩:=h0.seen hs;exact⟨hs.below h0.size h0.lt.1 h0.mem.obs,h0.keepS hs,rfl,_,_,hc⟩
 unfold memOp;by_cases hh:M.nH<=h
 ·rw[if_pos hh]
  refine(storeX_no base bC bF bW M.nO (.slice p.aO M.nO p.cO) (first (M.nO*2) (obsF M.K M.V)) op d a b imm h address width w kF.lt kW.lt kF.cell kW.cell hadr (fun w' hq=>?_)).mono flt;have hc:=h0.below hq;exact cells_out base bC M.nO _ _ p.aH M.nH p.cH h address width true w' hn hc.size hc.lt.2 hc.neO hc.c5 hc.c8 (hc.free 8) hc.mem.obs (by omega)
 ·rw[if_neg hh]
  have hh':h<M.nH:=by omega
  have hcells:∀w',Below w.heap.size w w'->Calls Tryz.prog 141 #[.pointer (some ⟨bC,0,none⟩),.int .i64 h,.int .u64 address,.int .u64 width,.bool true] w' fun e w''=>Seen base bC M.nO (.slice p.aO M.nO p.cO) (first (M.nO*2) (obsF M.K M.V)) 1 address w' w''/\(if lies (M.Hp h).base address width (M.Hp h).len&&(!true||(M.Hp h).wr)then e=.returned (.slice (some ⟨p.blk h,(address-(M.Hp h).base).toNat,none⟩) width (p.cap h-(address-(M.Hp h).base).toNat))else e=.panicked [{v:=.iface 102 (.agg #[]),recovered:=false}]):=by
   intro w' hq;have hc:=h0.below hq;obtain⟨bH,ha1,ha2,ha3,ha4⟩:=hc.heapAt hh';have hp:=hk.heap h hh';have c5:=hc.c5;rw[ha1]at c5;exact cells_in base bC bH (p.blk h) M.nO _ _ M.nH p.cH h (place M.Hp p.blk p.cap) address width true w' hn hc.size hc.lt.2 hc.neO ha3 ha2 c5 hc.c8 (hc.free 8) hc.mem.obs hh' ha4 (by show(M.Hp h).len<=1048576;omega) hp.1 (by show(M.Hp h).base<=18446744073709551615;omega) hrA.1 hrA.2 hw1 hw8 (fun _=>rfl) (row_arr (hc.mem.data h hh')).2.1
  cases hq:(lies (M.Hp h).base address width (M.Hp h).len&&(!true||(M.Hp h).wr))with
  |false=>
   rw[if_neg (by decide)];refine(storeX_no base bC bF bW M.nO (.slice p.aO M.nO p.cO) (first (M.nO*2) (obsF M.K M.V)) op d a b imm h address width w kF.lt kW.lt kF.cell kW.cell hadr (fun w' hb=>?_)).mono flt;refine(hcells w' hb).mono ?_;rintro e w''⟨h1,h2⟩;rw[hq]at h2;exact⟨by simpa using h2,h1⟩
  |true=>
   have hl:lies (M.Hp h).base address width (M.Hp h).len=true:=by
    rw[Bool.and_eq_true]at hq;exact hq.1
   rw[if_pos rfl];refine storeX_yes h0 hk op d a b h imm address width hw1 hw8 hd hh' kF kW hadr hl (fun w' hb=>?_);refine(hcells w' hb).mono ?_;rintro e w''⟨h1,h2⟩;rw[hq]at h2;exact⟨by simpa using h2,h1⟩
end
end Go.Proofs.YtpbceodheeepoaaGreat
