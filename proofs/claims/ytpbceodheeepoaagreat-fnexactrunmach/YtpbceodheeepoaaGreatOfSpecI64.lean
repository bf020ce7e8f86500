import Derived.Test.YtpbceodheeepoaaGreatSpecDoB
import Derived.Test.YtpbceodheeepoaaGreatOfCoreF
import Derived.Test.YtpbceodheeepoaaGreatOfMachImpl
import Derived.Test.YtpbceodheeepoaaGreatOfBytes
set_option maxHeartbeats 4000000
set_option maxRecDepth 20000
namespace Go.Proofs.YtpbceodheeepoaaGreat
open Go.RowKit
structure Off(p:Pl)(nH nO k:Nat):Prop where
 r:k≠p.bR
 h:(Value.slice p.aH nH p.cH).ownBlock≠some k
 d:∀i,i<nH->p.blk i≠k
 o:(Value.slice p.aO nO p.cO).ownBlock≠some k
theorem Mem.setOff{w:World}{base:Nat}{p:Pl}{M:MV}(h:Mem w base p M){k:Nat}(ho:Off p M.nH M.nO k)(o:Nat)(v:Value):Mem (w.setCell ⟨k,o,none⟩ v) base p M:=
 ⟨ownsRow_setCell_other h.regs (by simpa[Value.ownBlock]using Ne.symm ho.r) v,ownsRow_setCell_other h.heaps ho.h v,fun i hi=>ownsRow_setCell_other (h.data i hi) (by simpa[Value.ownBlock]using ho.d i hi) v,ownsRow_setCell_other h.obs ho.o v,h.ne⟩
theorem off_new{w:World}{base:Nat}{p:Pl}{M0 M:MV}(h:Mem w base p M0)(hn:M.nH=M0.nH){k g:Nat}(hk:w.heap.size<=k)(hg:g≠k)(cp:Nat):Off {p with aO:=some ⟨g,0,none⟩,cO:=cp} M.nH M.nO k:=by
 refine⟨?_,?_,fun i hi=>?_,?_⟩
 ·have:=(h.regs.lt p.bR rfl).2
  show k≠p.bR;omega
 ·intro q
  rw[hn]at q;have:=(h.heaps.lt k q).2;omega
 ·rw[hn]at hi
  have:=((h.data i hi).lt (p.blk i) rfl).2;show p.blk i≠k;omega
 ·simpa[Value.ownBlock]using hg
section
variable{w:World}{base:Nat}{p:Pl}{M:MV}
theorem do_9(h0:Mem w base p M)(hk:M.Ok)(d a b h:Nat)(imm:Int)(hd:d<8)(ha:a<8)(hb:b<8)(hn:M.nO<=1048576):
 Calls Tryz.prog 74 #[.agg #[.slice (some ⟨p.bR,0,none⟩) 8 p.cR,.bool M.z,.bool M.c,.bool M.hz,.bool M.hc,.slice p.aH M.nH p.cH,.int .i64 M.pc,.int .i64 M.st,.slice p.aO M.nO p.cO],.agg #[.int .i64 9,.int .i64 d,.int .i64 a,.int .i64 b,.int .i64 imm,.int .i64 h]] w (DidK base w (doM 9 d a b h imm M)):=by
 have hd':(d:Int)<8:=by omega
 have ha':(a:Int)<8:=by omega
 have hb':(b:Int)<8:=by omega
 have ra:=h0.reg ha
 have rb:=h0.reg hb
 have rd:=h0.reg hd
 have fd:=h0.freeR d
 have zR:=h0.ltR.2
 have pa:=hk.reg a ha
 have pb:=hk.reg b hb
 obtain⟨pa0,pa1⟩:=pa
 obtain⟨pb0,pb1⟩:=pb
 have H0:Hid (Mem w base p M):=h0
 clear h0 hk
 go_enter Tryz.func74,Tryz.ntmps74
 go_upto_region 1 with fail
 generalize hw0:((w.alloc (.cells #[.slice (some ⟨p.bR,0,none⟩) 8 p.cR,.bool M.z,.bool M.c,.bool M.hz,.bool M.hc,.slice p.aH M.nH p.cH,.int .i64 M.pc,.int .i64 M.st,.slice p.aO M.nO p.cO] 28)).alloc (.cells #[.int .i64 9,.int .i64 d,.int .i64 a,.int .i64 b,.int .i64 imm,.int .i64 h] 73)).alloc (.cells #[.slice none 0 0,.bool false,.bool false,.bool false,.bool false,.slice none 0 0,.int .i64 0,.int .i64 0,.slice none 0 0] 28)=w0
 have b0:Below w.heap.size w w0:=by rw[<-hw0];exact(((Below.refl _ _).alloc (Nat.le_refl _) _).alloc (by simp) _).alloc (by simp;omega) _
 have z0:w0.heap.size=w.heap.size+3:=by rw[<-hw0];simp
 have XM:w0.ownsRow w.heap.size 28 9 (.slice (some ⟨w.heap.size,0,none⟩) 1 1) 1 [.slice (some ⟨p.bR,0,none⟩) 8 p.cR,.bool M.z,.bool M.c,.bool M.hz,.bool M.hc,.slice p.aH M.nH p.cH,.int .i64 M.pc,.int .i64 M.st,.slice p.aO M.nO p.cO]:=by rw[<-hw0];exact((World.ownsRow_lit w #[.slice (some ⟨p.bR,0,none⟩) 8 p.cR,.bool M.z,.bool M.c,.bool M.hz,.bool M.hc,.slice p.aH M.nH p.cH,.int .i64 M.pc,.int .i64 M.st,.slice p.aO M.nO p.cO] 1 (Nat.le_refl _) (by unfold maxLen;omega) rfl).alloc _).alloc _
 have XI:w0.ownsRow w.heap.size 73 6 (.slice (some ⟨w.heap.size+1,0,none⟩) 1 1) 1 [.int .i64 9,.int .i64 d,.int .i64 a,.int .i64 b,.int .i64 imm,.int .i64 h]:=by
  rw[<-hw0]
  have:=(World.ownsRow_lit (base:=w.heap.size) (e:=73) (size:=6) (w.alloc (.cells #[.slice (some ⟨p.bR,0,none⟩) 8 p.cR,.bool M.z,.bool M.c,.bool M.hz,.bool M.hc,.slice p.aH M.nH p.cH,.int .i64 M.pc,.int .i64 M.st,.slice p.aO M.nO p.cO] 28)) #[.int .i64 9,.int .i64 d,.int .i64 a,.int .i64 b,.int .i64 imm,.int .i64 h] 1 (by simp) (by unfold maxLen;omega) rfl).alloc (.cells #[.slice none 0 0,.bool false,.bool false,.bool false,.bool false,.slice none 0 0,.int .i64 0,.int .i64 0,.slice none 0 0] 28)
  rw[World.size_alloc]at this
  exact this
 have XZ:w0.ownsRow w.heap.size 28 9 (.slice (some ⟨w.heap.size+1+1,0,none⟩) 1 1) 1 [.slice none 0 0,.bool false,.bool false,.bool false,.bool false,.slice none 0 0,.int .i64 0,.int .i64 0,.slice none 0 0]:=by
  rw[<-hw0]
  have:=World.ownsRow_lit (base:=w.heap.size) (e:=28) (size:=9) ((w.alloc (.cells #[.slice (some ⟨p.bR,0,none⟩) 8 p.cR,.bool M.z,.bool M.c,.bool M.hz,.bool M.hc,.slice p.aH M.nH p.cH,.int .i64 M.pc,.int .i64 M.st,.slice p.aO M.nO p.cO] 28)).alloc (.cells #[.int .i64 9,.int .i64 d,.int .i64 a,.int .i64 b,.int .i64 imm,.int .i64 h] 73)) #[.slice none 0 0,.bool false,.bool false,.bool false,.bool false,.slice none 0 0,.int .i64 0,.int .i64 0,.slice none 0 0] 1 (by simp;omega) (by unfold maxLen;omega) rfl
  rw[World.size_alloc,World.size_alloc]at this
  exact this
 obtain⟨m0,m1,m2,m3,m4,m5,m6,m7,m8⟩:=cells9 XM
 obtain⟨i0,i1,i2,i3,i4,i5⟩:=cells6 XI
 obtain⟨s0,s1,s2,s3,s4,s5,s6,s7,s8⟩:=cells9 XZ
 have mf:∀i,w0.frozen? ⟨w.heap.size,i,none⟩=false:=fun i=>XM.frozenAt i
 have sf:∀i,w0.frozen? ⟨w.heap.size+1+1,i,none⟩=false:=fun i=>XZ.frozenAt i
 have ra0:=(b0.cell (p:=⟨p.bR,a,none⟩) zR).trans ra
 have rb0:=(b0.cell (p:=⟨p.bR,b,none⟩) zR).trans rb
 have rd0:=(b0.cell (p:=⟨p.bR,d,none⟩) zR).trans rd
 have fd0:=(b0.frozen (p:=⟨p.bR,d,none⟩) zR).trans fd
 have zR0:p.bR<w0.heap.size:=by omega
 have y0:w.heap.size<w0.heap.size:=by omega
 have y1:w.heap.size+1<w0.heap.size:=by omega
 have y2:w.heap.size+1+1<w0.heap.size:=by omega
 have n0:p.bR≠w.heap.size:=by omega
 have n1:p.bR≠w.heap.size+1:=by omega
 have n2:p.bR≠w.heap.size+1+1:=by omega
 have HB0:Hid (Below w.heap.size w w0):=b0
 have HXM:Hid (w0.ownsRow w.heap.size 28 9 (.slice (some ⟨w.heap.size,0,none⟩) 1 1) 1 [.slice (some ⟨p.bR,0,none⟩) 8 p.cR,.bool M.z,.bool M.c,.bool M.hz,.bool M.hc,.slice p.aH M.nH p.cH,.int .i64 M.pc,.int .i64 M.st,.slice p.aO M.nO p.cO]):=XM
 have HXZ:Hid (w0.ownsRow w.heap.size 28 9 (.slice (some ⟨w.heap.size+1+1,0,none⟩) 1 1) 1 [.slice none 0 0,.bool false,.bool false,.bool false,.bool false,.slice none 0 0,.int .i64 0,.int .i64 0,.slice none 0 0]):=XZ
 clear hw0 b0 XM XI XZ ra rb rd fd
 have ba:=bitsN_le (x:=(M.R a).toNat) (by omega)
 have bb:=bitsN_le (x:=(M.R b).toNat) (by omega)
 have LA:Hid (∀w,Calls Tryz.prog 124 #[.int .u64 (M.R a)] w fun e w'=>e=.returned (.int .u64 (bitsN (M.R a).toNat))/\w'=w):=fun w=>by
  have:=l1Bits_any (M.R a).toNat w (by omega)
  rwa [show(((M.R a).toNat:Nat):Int)=M.R a by omega]at this
 have LB:Hid (∀w,Calls Tryz.prog 124 #[.int .u64 (M.R b)] w fun e w'=>e=.returned (.int .u64 (bitsN (M.R b).toNat))/\w'=w):=fun w=>by
  have:=l1Bits_any (M.R b).toNat w (by omega)
  rwa [show(((M.R b).toNat:Nat):Int)=M.R b by omega]at this
 have hv:IntKind.u64.wrap (IntKind.u64.wrap (65*(bitsN (M.R a).toNat:Int))+(bitsN (M.R b).toNat:Int))=(bitsN (M.R a).toNat:Int)*65+(bitsN (M.R b).toNat:Int):=by rw[u64_mod,u64_mod];omega
 have HV:Hid _:=hv
 clear hv
 have HMW:Hid (Mem w0 base p M):=H0.out.below HB0.out
 have HBS:Hid (base<=w0.drew.heap.size):=by show base<=w0.heap.size;have:=H0.out.ltR;omega
 have no:∀k,w.heap.size<=k->some k≠(Value.slice p.aO M.nO p.cO).ownBlock:=fun k hk q=>by have:=(H0.out.obs.lt k q.symm).2;omega
 have NO0:Hid (some w.heap.size≠(Value.slice p.aO M.nO p.cO).ownBlock):=no _ (Nat.le_refl _)
 have NO2:Hid (some (w.heap.size+1+1)≠(Value.slice p.aO M.nO p.cO).ownBlock):=no _ (by omega)
 have NO1:Hid (some (w.heap.size+1)≠(Value.slice p.aO M.nO p.cO).ownBlock):=no _ (by omega)
 have NOR:Hid (some p.bR≠(Value.slice p.aO M.nO p.cO).ownBlock):=apart_some (rows_apart H0.out.regs H0.out.obs (by decide))
 clear no
 obtain⟨S,hSd⟩:∃S:World->Prop,S=fun w'=>w'.cell? ⟨w.heap.size,0,none⟩=some (.slice (some ⟨p.bR,0,none⟩) 8 p.cR)/\w'.cell? ⟨w.heap.size,1,none⟩=some (.bool M.z)/\w'.cell? ⟨w.heap.size,2,none⟩=some (.bool M.c)/\w'.cell? ⟨w.heap.size,3,none⟩=some (.bool M.hz)/\w'.cell? ⟨w.heap.size,4,none⟩=some (.bool M.hc)/\w'.cell? ⟨w.heap.size,5,none⟩=some (.slice p.aH M.nH p.cH)/\w'.cell? ⟨w.heap.size,6,none⟩=some (.int .i64 M.pc)/\w'.cell? ⟨w.heap.size,7,none⟩=some (.int .i64 M.st)/\w'.cell? ⟨w.heap.size,8,none⟩=some (.slice p.aO M.nO p.cO)/\(∀i,w'.frozen? ⟨w.heap.size,i,none⟩=false)/\w.heap.size<w'.heap.size:=⟨_,rfl⟩
 have keep2:∀w',w'.cell? ⟨w.heap.size,0,none⟩=some (.slice (some ⟨p.bR,0,none⟩) 8 p.cR)->w'.cell? ⟨w.heap.size,1,none⟩=some (.bool M.z)->w'.cell? ⟨w.heap.size,2,none⟩=some (.bool M.c)->w'.cell? ⟨w.heap.size,3,none⟩=some (.bool M.hz)->w'.cell? ⟨w.heap.size,4,none⟩=some (.bool M.hc)->w'.cell? ⟨w.heap.size,5,none⟩=some (.slice p.aH M.nH p.cH)->w'.cell? ⟨w.heap.size,6,none⟩=some (.int .i64 M.pc)->w'.cell? ⟨w.heap.size,7,none⟩=some (.int .i64 M.st)->w'.cell? ⟨w.heap.size,8,none⟩=some (.slice p.aO M.nO p.cO)->(∀i,w'.frozen? ⟨w.heap.size,i,none⟩=false)->w.heap.size<w'.heap.size->Such S w':=by unfold Such;rw[hSd];exact fun w' a0 a1 a2 a3 a4 a5 a6 a7 a8 a9 b0=>⟨a0,a1,a2,a3,a4,a5,a6,a7,a8,a9,b0⟩
 have keepS:∀w',Below w0.heap.size w0 w'->Such S w':=fun w' h=>keep2 w' ((h.cell (p:=⟨w.heap.size,0,none⟩) y0).trans m0) ((h.cell (p:=⟨w.heap.size,1,none⟩) y0).trans m1) ((h.cell (p:=⟨w.heap.size,2,none⟩) y0).trans m2) ((h.cell (p:=⟨w.heap.size,3,none⟩) y0).trans m3) ((h.cell (p:=⟨w.heap.size,4,none⟩) y0).trans m4) ((h.cell (p:=⟨w.heap.size,5,none⟩) y0).trans m5) ((h.cell (p:=⟨w.heap.size,6,none⟩) y0).trans m6) ((h.cell (p:=⟨w.heap.size,7,none⟩) y0).trans m7) ((h.cell (p:=⟨w.heap.size,8,none⟩) y0).trans m8) (fun i=>(h.frozen (p:=⟨w.heap.size,i,none⟩) y0).trans (mf i)) (Nat.lt_of_lt_of_le y0 h.size)
 have j0:∀w',Such S w'->w'.cell? ⟨w.heap.size,0,none⟩=some (.slice (some ⟨p.bR,0,none⟩) 8 p.cR):=fun w' h=>by unfold Such at h;rw[hSd]at h;exact h.1
 have j1:∀w',Such S w'->w'.cell? ⟨w.heap.size,1,none⟩=some (.bool M.z):=fun w' h=>by unfold Such at h;rw[hSd]at h;exact h.2.1
 have j2:∀w',Such S w'->w'.cell? ⟨w.heap.size,2,none⟩=some (.bool M.c):=fun w' h=>by unfold Such at h;rw[hSd]at h;exact h.2.2.1
 have j3:∀w',Such S w'->w'.cell? ⟨w.heap.size,3,none⟩=some (.bool M.hz):=fun w' h=>by unfold Such at h;rw[hSd]at h;exact h.2.2.2.1
 have j4:∀w',Such S w'->w'.cell? ⟨w.heap.size,4,none⟩=some (.bool M.hc):=fun w' h=>by unfold Such at h;rw[hSd]at h;exact h.2.2.2.2.1
 have j5:∀w',Such S w'->w'.cell? ⟨w.heap.size,5,none⟩=some (.slice p.aH M.nH p.cH):=fun w' h=>by unfold Such at h;rw[hSd]at h;exact h.2.2.2.2.2.1
 have j6:∀w',Such S w'->w'.cell? ⟨w.heap.size,6,none⟩=some (.int .i64 M.pc):=fun w' h=>by unfold Such at h;rw[hSd]at h;exact h.2.2.2.2.2.2.1
 have j7:∀w',Such S w'->w'.cell? ⟨w.heap.size,7,none⟩=some (.int .i64 M.st):=fun w' h=>by unfold Such at h;rw[hSd]at h;exact h.2.2.2.2.2.2.2.1
 have j8:∀w',Such S w'->w'.cell? ⟨w.heap.size,8,none⟩=some (.slice p.aO M.nO p.cO):=fun w' h=>by unfold Such at h;rw[hSd]at h;exact h.2.2.2.2.2.2.2.2.1
 have jf:∀w',Such S w'->∀i,w'.frozen? ⟨w.heap.size,i,none⟩=false:=fun w' h=>by unfold Such at h;rw[hSd]at h;exact h.2.2.2.2.2.2.2.2.2.1
 have jz:∀w',Such S w'->w.heap.size<w'.heap.size:=fun w' h=>by unfold Such at h;rw[hSd]at h;exact h.2.2.2.2.2.2.2.2.2.2
 have KEEP2:Hid (∀w',w'.cell? ⟨w.heap.size,0,none⟩=some (.slice (some ⟨p.bR,0,none⟩) 8 p.cR)->w'.cell? ⟨w.heap.size,1,none⟩=some (.bool M.z)->w'.cell? ⟨w.heap.size,2,none⟩=some (.bool M.c)->w'.cell? ⟨w.heap.size,3,none⟩=some (.bool M.hz)->w'.cell? ⟨w.heap.size,4,none⟩=some (.bool M.hc)->w'.cell? ⟨w.heap.size,5,none⟩=some (.slice p.aH M.nH p.cH)->w'.cell? ⟨w.heap.size,6,none⟩=some (.int .i64 M.pc)->w'.cell? ⟨w.heap.size,7,none⟩=some (.int .i64 M.st)->w'.cell? ⟨w.heap.size,8,none⟩=some (.slice p.aO M.nO p.cO)->(∀i,w'.frozen? ⟨w.heap.size,i,none⟩=false)->w.heap.size<w'.heap.size->Such S w'):=keep2
 have KEEPS:Hid (∀w',Below w0.heap.size w0 w'->Such S w'):=keepS
 clear hSd keep2 keepS
 go_upto_region 26 with fail
 refine wp_region_L (T:=Such S) (s:=8) (by kernel_rfl) (KEEPS.out _ (Below.refl _ _).drew) (fun hHeld=>?_)
 refine wpAnyL_tkT 0 ?v0 rfl ?y0 ?r0
 case y0=>(intro w hSw;(try dsimp only at hSw);go_simp;try with_reducible rfl)
 try go_frame
 refine wpAnyL_tkT 1 ?v1 rfl ?y1 ?r1
 case y1=>(intro w hSw;(try dsimp only at hSw);go_simp;try with_reducible rfl)
 try go_frame
 refine wpAnyL_tkT 4 ?v4 rfl ?y4 ?r4
 case y4=>(intro w hSw;(try dsimp only at hSw);go_simp;try with_reducible rfl)
 try go_frame
 refine wpAnyL_call (i:=2) rfl (by kernel_rfl) (fun K hK=>?_)
 go_simp
 refine(LA.out _).mono ?_
 rintro e wa⟨rfl,rfl⟩
 go_wp2_with fail
 refine hK.out _ _ (by assumption) (fun hHeld2=>?_)
 clear hK K
 refine wpAnyL_tkT 3 ?v3 rfl ?y3 ?r3
 case y3=>(intro w hSw;(try dsimp only at hSw);go_simp;try with_reducible rfl)
 try go_frame
 refine wpAnyL_call (i:=5) rfl (by kernel_rfl) (fun K hK=>?_)
 go_simp
 refine(LB.out _).mono ?_
 rintro e wb⟨rfl,rfl⟩
 go_wp2_with fail
 refine hK.out _ _ (by assumption) (fun hHeld5=>?_)
 clear hK K
 refine wpAnyL_tkT 6 ?v6 rfl ?y6 ?r6
 case y6=>(intro w hSw;(try dsimp only at hSw);go_simp;try with_reducible rfl)
 try go_frame
 refine wpAnyL_call (i:=7) rfl (by kernel_rfl) (fun K hK=>?_)
 go_simp
 rw[HV.out]
 refine(l1See_any base (first (M.nO*2) (obsF M.K M.V)) _ _ _ _ _ _ _ _ _ _ _ _ p.aO M.nO p.cO 3 ((bitsN (M.R a).toNat:Int)*65+(bitsN (M.R b).toNat:Int)) _ hn HBS.out (HMW.out.below (Below.refl _ _).drew).obs).mono ?_
 rintro e wc⟨g,cp,rfl,oc,gc⟩
 have hcB:∀k o,k<w0.heap.size->some k≠(Value.slice p.aO M.nO p.cO).ownBlock->wc.cell? ⟨k,o,none⟩=w0.cell? ⟨k,o,none⟩:=fun k o h1 h2=>World.cell?_of_block (gc.block k h1 h2)
 have hfB:∀k o,k<w0.heap.size->some k≠(Value.slice p.aO M.nO p.cO).ownBlock->wc.frozen? ⟨k,o,none⟩=w0.frozen? ⟨k,o,none⟩:=fun k o h1 h2=>World.frozen?_of_block (gc.block k h1 h2)
 have zc:w0.heap.size<=wc.heap.size:=by have:=gc.size;simpa using this
 have SC:Such S wc:=KEEP2.out wc ((hcB _ 0 y0 NO0.out).trans m0) ((hcB _ 1 y0 NO0.out).trans m1) ((hcB _ 2 y0 NO0.out).trans m2) ((hcB _ 3 y0 NO0.out).trans m3) ((hcB _ 4 y0 NO0.out).trans m4) ((hcB _ 5 y0 NO0.out).trans m5) ((hcB _ 6 y0 NO0.out).trans m6) ((hcB _ 7 y0 NO0.out).trans m7) ((hcB _ 8 y0 NO0.out).trans m8) (fun i=>(hfB _ i y0 NO0.out).trans (mf i)) (by omega)
 have HOC:Hid _:=oc
 have HGC:Hid _:=gc
 have HCB:Hid _:=hcB
 have HFB:Hid _:=hfB
 clear oc gc hcB hfB
 go_wp2_with fail
 refine hK.out _ _ (SC) (fun hHeld7=>?_)
 clear hK K
 refine wpAnyL_store rfl (by kernel_rfl) (by kernel_rfl) (fun K hK=>?_)
 go_simp
 refine hK.out _ _ ?_
 clear hK K
 have gM:g≠w.heap.size:=by
  have:=apart_some (rows_apart HOC.out ((HXM.out.drew).kept HGC.out (.inr NO0.out)) (by decide))
  simpa[Value.ownBlock]using this
 have gZ:g≠w.heap.size+1+1:=by
  have:=apart_some (rows_apart HOC.out ((HXZ.out.drew).kept HGC.out (.inr NO2.out)) (by decide))
  simpa[Value.ownBlock]using this
 have HGM:Hid (g≠w.heap.size):=gM
 have HGZ:Hid (g≠w.heap.size+1+1):=gZ
 clear gM gZ HXM HXZ
 have M1:=(HMW.out.below (Below.refl _ _).drew).see HOC.out HGC.out
 have zc':w0.heap.size<=wc.heap.size:=zc
 have HMC:Hid (Mem wc base {p with aO:=some ⟨g,0,none⟩,cO:=cp} (M.see 3 ((bitsN (M.R a).toNat:Int)*65+(bitsN (M.R b).toNat:Int)))):=M1
 have HBC:Hid (Below base w wc):=(HB0.out.mono (Nat.le_of_lt (Nat.lt_of_le_of_lt H0.out.ltR.1 H0.out.ltR.2))).trans ((Below.refl _ _).drew.trans ((Below.refl _ _).grown HGC.out HBS.out (fun k hk=>(H0.out.obs.lt k hk).1)))
 have HKC:Hid (∀k,k<w.heap.size->some k≠(Value.slice p.aO M.nO p.cO).ownBlock->wc.heap[k]?=w.heap[k]?):=fun k hk ho=>(HGC.out.block k (by show k<w0.heap.size;omega) ho).trans (HB0.out.block k hk)
 have rdc:wc.cell? ⟨p.bR,d,none⟩=some (.int .u64 (M.R d)):=(HCB.out _ _ zR0 NOR.out).trans rd0
 have fdc:wc.frozen? ⟨p.bR,d,none⟩=false:=(HFB.out _ _ zR0 NOR.out).trans fd0
 have zRc:p.bR<wc.heap.size:=by omega
 have c0':w.heap.size<wc.heap.size:=by omega
 have c1':w.heap.size+1<wc.heap.size:=by omega
 have c2':w.heap.size+1+1<wc.heap.size:=by omega
 obtain⟨e0,e1,e2,e3,e4,e5,e6,e7,e8⟩:=c9f (fun o=>HCB.out _ o y0 NO0.out) m0 m1 m2 m3 m4 m5 m6 m7 m8
 obtain⟨x0,x1,x2,x3,x4,x5⟩:=c6f (fun o=>HCB.out _ o y1 NO1.out) i0 i1 i2 i3 i4 i5
 obtain⟨s0',s1',s2',s3',s4',s5',s6',s7',s8'⟩:=c9f (fun o=>HCB.out _ o y2 NO2.out) s0 s1 s2 s3 s4 s5 s6 s7 s8
 have mfc:∀i,wc.frozen? ⟨w.heap.size,i,none⟩=false:=fun i=>(HFB.out _ i y0 NO0.out).trans (mf i)
 have sfc:∀i,wc.frozen? ⟨w.heap.size+1+1,i,none⟩=false:=fun i=>(HFB.out _ i y2 NO2.out).trans (sf i)
 clear M1 m0 m1 m2 m3 m4 m5 m6 m7 m8 i0 i1 i2 i3 i4 i5 s0 s1 s2 s3 s4 s5 s6 s7 s8 mf sf rd0 fd0 ra0 rb0 j0 j1 j2 j3 j4 j5 j6 j7 j8 jf jz KEEP2 KEEPS hHeld hHeld2 hHeld5 hHeld7 SC HOC HGC HCB HFB LA LB HV
 by_cases hz:M.R b=0
 ·go_wp2
  refine bodyPost_ret (v:=.agg #[.slice (some ⟨p.bR,0,none⟩) 8 p.cR,.bool M.z,.bool M.c,.bool M.hz,.bool M.hc,.slice p.aH M.nH p.cH,.int .i64 M.pc,.int .i64 M.st,.slice (some ⟨g,0,none⟩) (M.nO+1) cp]) (by simp[results,Tryz.results74,go_sem,s0',s1',s2',s3',s4',s5',s6',s7',s8']) rfl ?_
  have hE:doM 9 d a b h imm M=(M.see 3 ((bitsN (M.R a).toNat:Int)*65+(bitsN (M.R b).toNat:Int))).setR d (0):=by
   unfold doM exec
   simp only[hz,if_true]
  rw[hE]
  refine⟨⟨{p with aO:=some ⟨g,0,none⟩,cO:=cp},rfl,?_,?_⟩,?_⟩
  ·iterate 9 refine Below.setCell ?_ (by simp;have:=H0.out.ltR;omega) _
   refine Below.setCell ?_ (by simpa using H0.out.ltR.1) _
   iterate 9 refine Below.setCell ?_ (by simp;have:=H0.out.ltR;omega) _
   exact HBC.out
  ·have oM:=off_new (M:=M.see 3 ((bitsN (M.R a).toNat:Int)*65+(bitsN (M.R b).toNat:Int))) H0.out rfl (Nat.le_refl _) HGM.out cp
   have oZ:=off_new (M:=M.see 3 ((bitsN (M.R a).toNat:Int)*65+(bitsN (M.R b).toNat:Int))) H0.out rfl (show w.heap.size<=w.heap.size+1+1 by omega) HGZ.out cp
   iterate 9 refine Mem.setOff (M:=(M.see 3 ((bitsN (M.R a).toNat:Int)*65+(bitsN (M.R b).toNat:Int))).setR d _) ?_ oZ _ _
   refine Mem.setR (p:={p with aO:=some ⟨g,0,none⟩,cO:=cp}) ?_ d _
   iterate 9 refine Mem.setOff (M:=M.see 3 ((bitsN (M.R a).toNat:Int)*65+(bitsN (M.R b).toNat:Int))) ?_ oM _ _
   exact HMC.out
  ·intro k cur ty fr hk n1 n2 n3 n4
   have hkl:=Kept.lt hk
   have kR:k≠p.bR:=fun q=>row_not H0.out.regs hk n1 (by rw[q];rfl)
   iterate 9 rw[heap_setCell_other _ _ _ _ (show k≠w.heap.size+1+1 by omega)]
   rw[heap_setCell_other _ _ _ _ kR]
   iterate 9 rw[heap_setCell_other _ _ _ _ (show k≠w.heap.size by omega)]
   exact HKC.out k hkl (fun q=>row_not H0.out.obs hk n4 q.symm)
 ·have hz':0<M.R b:=by omega
  go_wp2
  refine bodyPost_ret (v:=.agg #[.slice (some ⟨p.bR,0,none⟩) 8 p.cR,.bool M.z,.bool M.c,.bool M.hz,.bool M.hc,.slice p.aH M.nH p.cH,.int .i64 M.pc,.int .i64 M.st,.slice (some ⟨g,0,none⟩) (M.nO+1) cp]) (by simp[results,Tryz.results74,go_sem,s0',s1',s2',s3',s4',s5',s6',s7',s8']) rfl ?_
  have hE:doM 9 d a b h imm M=(M.see 3 ((bitsN (M.R a).toNat:Int)*65+(bitsN (M.R b).toNat:Int))).setR d (M.R a/M.R b):=by
   unfold doM exec
   simp only[hz,if_false]
  rw[hE]
  refine⟨⟨{p with aO:=some ⟨g,0,none⟩,cO:=cp},rfl,?_,?_⟩,?_⟩
  ·iterate 9 refine Below.setCell ?_ (by simp;have:=H0.out.ltR;omega) _
   refine Below.setCell ?_ (by simpa using H0.out.ltR.1) _
   iterate 9 refine Below.setCell ?_ (by simp;have:=H0.out.ltR;omega) _
   exact HBC.out
  ·have oM:=off_new (M:=M.see 3 ((bitsN (M.R a).toNat:Int)*65+(bitsN (M.R b).toNat:Int))) H0.out rfl (Nat.le_refl _) HGM.out cp
   have oZ:=off_new (M:=M.see 3 ((bitsN (M.R a).toNat:Int)*65+(bitsN (M.R b).toNat:Int))) H0.out rfl (show w.heap.size<=w.heap.size+1+1 by omega) HGZ.out cp
   iterate 9 refine Mem.setOff (M:=(M.see 3 ((bitsN (M.R a).toNat:Int)*65+(bitsN (M.R b).toNat:Int))).setR d _) ?_ oZ _ _
   refine Mem.setR (p:={p with aO:=some ⟨g,0,none⟩,cO:=cp}) ?_ d _
   iterate 9 refine Mem.setOff (M:=M.see 3 ((bitsN (M.R a).toNat:Int)*65+(bitsN (M.R b).toNat:Int))) ?_ oM _ _
   exact HMC.out
  ·intro k cur ty fr hk n1 n2 n3 n4
   have hkl:=Kept.lt hk
   have kR:k≠p.bR:=fun q=>row_not H0.out.regs hk n1 (by rw[q];rfl)
   iterate 9 rw[heap_setCell_other _ _ _ _ (show k≠w.heap.size+1+1 by omega)]
   rw[heap_setCell_other _ _ _ _ kR]
   iterate 9 rw[heap_setCell_other _ _ _ _ (show k≠w.heap.size by omega)]
   exact HKC.out k hkl (fun q=>row_not H0.out.obs hk n4 q.symm)
end
theorem i64_id{x:Int}(h0:0<=x)(h1:x<4611686018427387904):IntKind.i64.wrap x=x:=by
 rw[IntKind.wrap_i64];omega
theorem pokeN_nO(M:MV)(h o:Nat)(v:Int):∀k,(M.pokeN h o v k).nO=M.nO
 |0=>rfl
 |k+1=>pokeN_nO M h o v k
theorem pokeN_nH(M:MV)(h o:Nat)(v:Int):∀k,(M.pokeN h o v k).nH=M.nH
 |0=>rfl
 |k+1=>pokeN_nH M h o v k
theorem mVal_poke(p:Pl)(M:MV)(h j:Nat)(u:Int):mVal p (M.poke h j u)=mVal p M:=rfl
theorem mVal_pokeN(p:Pl)(M:MV)(h o:Nat)(v:Int):∀k,mVal p (M.pokeN h o v k)=mVal p M
 |0=>rfl
 |k+1=>(mVal_poke p (M.pokeN h o v k) h (o+k) (v/2^(8*k)%256)).trans (mVal_pokeN p M h o v k)
theorem off_pokeN{p:Pl}{M:MV}{h o q:Nat}{v:Int}{k:Nat}(hq:Off p M.nH M.nO q):Off p (M.pokeN h o v k).nH (M.pokeN h o v k).nO q:=by
 rw[pokeN_nH,pokeN_nO];exact hq
def fromReg(n:Nat):Code->Option Code
 |.seq a b=>match a with
  |.region k _ _=>if k=n then some (.seq a b)else fromReg n b
  |_=>fromReg n b
 |.block _ c=>fromReg n c
 |.scope c=>fromReg n c
 |_=>none
def memR(f:Func):Code:=(f.body.bind (fromReg 8)).getD .skip
end Go.Proofs.YtpbceodheeepoaaGreat
