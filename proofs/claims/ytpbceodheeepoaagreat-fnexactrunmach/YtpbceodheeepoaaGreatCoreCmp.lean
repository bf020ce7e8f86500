import Derived.Test.YtpbceodheeepoaaGreatOfCoreAdd
set_option maxHeartbeats 1000000
namespace Go.Proofs.YtpbceodheeepoaaGreat
open Go.RowKit
def Two(W X w':World):Prop:=Below W.heap.size W w'∨Below W.heap.size X w'
theorem Two.cell{W X w':World}(h:Two W X w'){p:Addr}{v:Value}(hp:p.block<W.heap.size)(h1:W.cell? p=some v)(h2:X.cell? p=some v):w'.cell? p=some v:=by
 rcases h with h|h
 ·exact(h.cell hp).trans h1
 ·exact(h.cell hp).trans h2
theorem flagged_cell{W:World}{bC:Nat}{r k:Int}{p:Addr}(h:p.block=bC->p.off≠1/\p.off≠2/\p.off≠3/\p.off≠4):(flagged W bC r k).cell? p=W.cell? p:=by
 unfold flagged;rw[World.cell?_setCell_other _ _ _ _ (fun e=>(h (by rw[<-e])).2.2.2 (by rw[<-e])),World.cell?_setCell_other _ _ _ _ (fun e=>(h (by rw[<-e])).2.1 (by rw[<-e])),
  World.cell?_setCell_other _ _ _ _ (fun e=>(h (by rw[<-e])).2.2.1 (by rw[<-e])),World.cell?_setCell_other _ _ _ _ (fun e=>(h (by rw[<-e])).1 (by rw[<-e]))]
theorem flagged_frozen{W:World}{bC:Nat}{r k:Int}(p:Addr):(flagged W bC r k).frozen? p=W.frozen? p:=by
 unfold flagged;simp only[World.frozen?_setCell]
theorem flagged_size{W:World}{bC:Nat}{r k:Int}:(flagged W bC r k).heap.size=W.heap.size:=by
 unfold flagged;simp
theorem doCmp_any(bC bR cap a b:Nat)(op d imm hh:Int)(R:Nat->Int)(z c hz hc:Bool)(w:World)(ha:a<8)(hb:b<8)(hC:bC<w.heap.size)(hR:bR<w.heap.size)(hCR:bC≠bR)(pa:0<=R a)(pb:0<=R b)(pb1:R b<=18446744073709551615)
 (c0:w.cell? ⟨bC,0,none⟩=some (.slice (some ⟨bR,0,none⟩) 8 cap))(ra:w.cell? ⟨bR,a,none⟩=some (.int .u64 (R a)))(rb:w.cell? ⟨bR,b,none⟩=some (.int .u64 (R b)))(h1:w.cell? ⟨bC,1,none⟩=some (.bool z))(h2:w.cell? ⟨bC,2,none⟩=some (.bool c))(h3:w.cell? ⟨bC,3,none⟩=some (.bool hz))(h4:w.cell? ⟨bC,4,none⟩=some (.bool hc))(hf:∀i,w.frozen? ⟨bC,i,none⟩=false):
 Calls Tryz.prog 112 #[.pointer (some ⟨bC,0,none⟩),.agg #[.int .i64 op,.int .i64 d,.int .i64 a,.int .i64 b,.int .i64 imm,.int .i64 hh]] w fun e w'=>e=.returned (.tuple #[])/\Below w.heap.size (flagged w bC (wsub (R a) (R b)) (borrow (R a) (R b))) w':=by
 have ha':(a:Int)<8:=by omega
 have hb':(b:Int)<8:=by omega
 go_enter Tryz.func112,Tryz.ntmps112
 go_wp2_with fail
 generalize hG:w.alloc (.cells #[.int .i64 op,.int .i64 d,.int .i64 a,.int .i64 b,.int .i64 imm,.int .i64 hh] 73)=wa
 have xa:Below w.heap.size w wa:=by rw[<-hG];exact(Below.refl _ _).alloc (Nat.le_refl _) _
 have xz:w.heap.size<wa.heap.size:=by rw[<-hG];simp
 have zC:bC<wa.heap.size:=by omega
 have zR:bR<wa.heap.size:=by omega
 have j2:wa.cell? ⟨w.heap.size,2,none⟩=some (.int .i64 a):=by rw[<-hG];simp[go_sem]
 have j3:wa.cell? ⟨w.heap.size,3,none⟩=some (.int .i64 b):=by rw[<-hG];simp[go_sem]
 have e0:=(xa.cell (p:=⟨bC,0,none⟩) hC).trans c0
 have ea:=(xa.cell (p:=⟨bR,a,none⟩) hR).trans ra
 have eb:=(xa.cell (p:=⟨bR,b,none⟩) hR).trans rb
 have e1:wa.drew.cell? ⟨bC,1,none⟩=_:=(xa.cell (p:=⟨bC,1,none⟩) hC).trans h1
 have e2:wa.drew.cell? ⟨bC,2,none⟩=_:=(xa.cell (p:=⟨bC,2,none⟩) hC).trans h2
 have e3:wa.drew.cell? ⟨bC,3,none⟩=_:=(xa.cell (p:=⟨bC,3,none⟩) hC).trans h3
 have e4:wa.drew.cell? ⟨bC,4,none⟩=_:=(xa.cell (p:=⟨bC,4,none⟩) hC).trans h4
 have eg:∀i,wa.drew.frozen? ⟨bC,i,none⟩=false:=fun i=>(xa.frozen (p:=⟨bC,i,none⟩) hC).trans (hf i)
 have R0:∀w',Two wa (flagged wa bC (wsub (R a) (R b)) (borrow (R a) (R b))) w'->w'.cell? ⟨bC,0,none⟩=some (.slice (some ⟨bR,0,none⟩) 8 cap):=fun w' t=>t.cell (p:=⟨bC,0,none⟩) zC e0 ((flagged_cell (fun _=>⟨by simp,by simp,by simp,by simp⟩)).trans e0)
 have S2:∀w',Two wa (flagged wa bC (wsub (R a) (R b)) (borrow (R a) (R b))) w'->w'.cell? ⟨w.heap.size,2,none⟩=some (.int .i64 a):=fun w' t=>t.cell (p:=⟨w.heap.size,2,none⟩) xz j2 ((flagged_cell (fun e=>absurd e (by simp;omega))).trans j2)
 have S3:∀w',Two wa (flagged wa bC (wsub (R a) (R b)) (borrow (R a) (R b))) w'->w'.cell? ⟨w.heap.size,3,none⟩=some (.int .i64 b):=fun w' t=>t.cell (p:=⟨w.heap.size,3,none⟩) xz j3 ((flagged_cell (fun e=>absurd e (by simp;omega))).trans j3)
 have R5:∀w',Two wa (flagged wa bC (wsub (R a) (R b)) (borrow (R a) (R b))) w'->w'.cell? ⟨bR,a,none⟩=some (.int .u64 (R a)):=fun w' t=>t.cell (p:=⟨bR,a,none⟩) zR ea ((flagged_cell (fun e=>absurd e (Ne.symm hCR))).trans ea)
 have R6:∀w',Two wa (flagged wa bC (wsub (R a) (R b)) (borrow (R a) (R b))) w'->w'.cell? ⟨bR,b,none⟩=some (.int .u64 (R b)):=fun w' t=>t.cell (p:=⟨bR,b,none⟩) zR eb ((flagged_cell (fun e=>absurd e (Ne.symm hCR))).trans eb)
 clear hG c0 ra rb h1 h2 h3 h4 hf
 refine wp_region_held_drew (S:=fun w'=>Two wa (flagged wa bC (wsub (R a) (R b)) (borrow (R a) (R b))) w') (by kernel_rfl) (.inl (Below.refl _ _).drew) (fun hHeld=>?_)
 refine wpAnyH_tk 0 ?v0 rfl ?y0 ?r0
 case y0=>(intro w hSw;(try dsimp only at hSw);go_simp;try with_reducible rfl)
 try go_frame
 refine wpAnyH_tk 1 ?v1 rfl ?y1 ?r1
 case y1=>(intro w hSw;(try dsimp only at hSw);go_simp;try with_reducible rfl)
 try go_frame
 refine wpAnyH_tk 2 ?v2 rfl ?y2 ?r2
 case y2=>(intro w hSw;(try dsimp only at hSw);go_simp;try with_reducible rfl)
 try go_frame
 refine wpAnyH_tk 3 ?v3 rfl ?y3 ?r3
 case y3=>(intro w hSw;(try dsimp only at hSw);go_simp;try with_reducible rfl)
 try go_frame
 refine wpAnyH_tk 4 ?v4 rfl ?y4 ?r4
 case y4=>(intro w hSw;(try dsimp only at hSw);go_simp;try with_reducible rfl)
 try go_frame
 refine wpAnyH_tk 5 ?v5 rfl ?y5 ?r5
 case y5=>(intro w hSw;(try dsimp only at hSw);go_simp;try with_reducible rfl)
 try go_frame
 refine wpAnyH_tk 6 ?v6 rfl ?y6 ?r6
 case y6=>(intro w hSw;(try dsimp only at hSw);go_simp;try with_reducible rfl)
 try go_frame
 refine wpAnyH_tk 7 ?v7 rfl ?y7 ?r7
 case y7=>(intro w hSw;(try dsimp only at hSw);go_simp;try with_reducible rfl)
 try go_frame
 refine wpAnyH_tk 8 ?v8 rfl ?y8 ?r8
 case y8=>(intro w hSw;(try dsimp only at hSw);go_simp;try with_reducible rfl)
 try go_frame
 refine wpAnyH_tk 9 ?v9 rfl ?y9 ?r9
 case y9=>(intro w hSw;(try dsimp only at hSw);go_simp;try with_reducible rfl)
 try go_frame
 refine wpAnyH_tk 10 ?v10 rfl ?y10 ?r10
 case y10=>(intro w hSw;(try dsimp only at hSw);go_simp;try with_reducible rfl)
 try go_frame
 refine wpAnyH_tk 11 ?v11 rfl ?y11 ?r11
 case y11=>(intro w hSw;(try dsimp only at hSw);go_simp;try with_reducible rfl)
 try go_frame
 refine wpAnyH_tk 12 ?v12 rfl ?y12 ?r12
 case y12=>(intro w hSw;(try dsimp only at hSw);go_simp;try with_reducible rfl)
 try go_frame
 refine wpAnyH_tk 13 ?v13 rfl ?y13 ?r13
 case y13=>(intro w hSw;(try dsimp only at hSw);go_simp;try with_reducible rfl)
 try go_frame
 refine wpAnyH_tk 14 ?v14 rfl ?y14 ?r14
 case y14=>(intro w hSw;(try dsimp only at hSw);go_simp;try with_reducible rfl)
 try go_frame
 refine wpAnyH_tk 15 ?v15 rfl ?y15 ?r15
 case y15=>(intro w hSw;(try dsimp only at hSw);go_simp;try with_reducible rfl)
 try go_frame
 refine wpAnyH_tk 16 ?v16 rfl ?y16 ?r16
 case y16=>(intro w hSw;(try dsimp only at hSw);go_simp;try with_reducible rfl)
 try go_frame
 refine wpAnyH_tk 17 ?v17 rfl ?y17 ?r17
 case y17=>(intro w hSw;(try dsimp only at hSw);go_simp;try with_reducible rfl)
 try go_frame
 refine wpAnyH_tk 18 ?v18 rfl ?y18 ?r18
 case y18=>(intro w hSw;(try dsimp only at hSw);go_simp;try with_reducible rfl)
 try go_frame
 refine wpAnyH_ready (rs:=[19]) (by kernel_rfl) (by simp) ?_
 refine AllReadyH.cons rfl (fun K hK=>?_) AllReadyH.nil
 go_simp
 refine(compare_any bC (R a) (R b) z c hz hc _ pa pb pb1 ?q1 ?q2 ?q3 ?q4 ?q5).mono ?_
 case q1=>exact e1
 case q2=>exact e2
 case q3=>exact e3
 case q4=>exact e4
 case q5=>exact eg
 rintro e w'⟨rfl,hw⟩
 have HW:Hid _:=hw
 clear hw
 go_wp2_with fail
 refine hK.out _ _ (by rw[HW.out];exact .inr (flagged_below zC (Below.refl _ _).drew)) (fun hHeld19=>?_)
 clear hK K
 refine wpAnyH_done (by kernel_rfl) ?_ _
 go_end0
 refine⟨rfl,?_⟩
 rw[HW.out]
 exact flagged_below hC xa.drew
theorem doCmpi_any(bC bR cap a:Nat)(op d b imm hh:Int)(R:Nat->Int)(z c hz hc:Bool)(w:World)(ha:a<8)(hC:bC<w.heap.size)(hR:bR<w.heap.size)(hCR:bC≠bR)(pa:0<=R a)
 (c0:w.cell? ⟨bC,0,none⟩=some (.slice (some ⟨bR,0,none⟩) 8 cap))(ra:w.cell? ⟨bR,a,none⟩=some (.int .u64 (R a)))(h1:w.cell? ⟨bC,1,none⟩=some (.bool z))(h2:w.cell? ⟨bC,2,none⟩=some (.bool c))(h3:w.cell? ⟨bC,3,none⟩=some (.bool hz))(h4:w.cell? ⟨bC,4,none⟩=some (.bool hc))(hf:∀i,w.frozen? ⟨bC,i,none⟩=false):
 Calls Tryz.prog 113 #[.pointer (some ⟨bC,0,none⟩),.agg #[.int .i64 op,.int .i64 d,.int .i64 a,.int .i64 b,.int .i64 imm,.int .i64 hh]] w fun e w'=>e=.returned (.tuple #[])/\Below w.heap.size (flagged w bC (wsub (R a) (IntKind.u64.wrap imm)) (borrow (R a) (IntKind.u64.wrap imm))) w':=by
 have ha':(a:Int)<8:=by omega
 go_enter Tryz.func113,Tryz.ntmps113
 go_wp2_with fail
 generalize hG:w.alloc (.cells #[.int .i64 op,.int .i64 d,.int .i64 a,.int .i64 b,.int .i64 imm,.int .i64 hh] 73)=wa
 have xa:Below w.heap.size w wa:=by rw[<-hG];exact(Below.refl _ _).alloc (Nat.le_refl _) _
 have xz:w.heap.size<wa.heap.size:=by rw[<-hG];simp
 have zC:bC<wa.heap.size:=by omega
 have zR:bR<wa.heap.size:=by omega
 have j2:wa.cell? ⟨w.heap.size,2,none⟩=some (.int .i64 a):=by rw[<-hG];simp[go_sem]
 have j4:wa.cell? ⟨w.heap.size,4,none⟩=some (.int .i64 imm):=by rw[<-hG];simp[go_sem]
 have e0:=(xa.cell (p:=⟨bC,0,none⟩) hC).trans c0
 have ea:=(xa.cell (p:=⟨bR,a,none⟩) hR).trans ra
 have e1:wa.drew.cell? ⟨bC,1,none⟩=_:=(xa.cell (p:=⟨bC,1,none⟩) hC).trans h1
 have e2:wa.drew.cell? ⟨bC,2,none⟩=_:=(xa.cell (p:=⟨bC,2,none⟩) hC).trans h2
 have e3:wa.drew.cell? ⟨bC,3,none⟩=_:=(xa.cell (p:=⟨bC,3,none⟩) hC).trans h3
 have e4:wa.drew.cell? ⟨bC,4,none⟩=_:=(xa.cell (p:=⟨bC,4,none⟩) hC).trans h4
 have eg:∀i,wa.drew.frozen? ⟨bC,i,none⟩=false:=fun i=>(xa.frozen (p:=⟨bC,i,none⟩) hC).trans (hf i)
 have R0:∀w',Two wa (flagged wa bC (wsub (R a) (IntKind.u64.wrap imm)) (borrow (R a) (IntKind.u64.wrap imm))) w'->w'.cell? ⟨bC,0,none⟩=some (.slice (some ⟨bR,0,none⟩) 8 cap):=fun w' t=>t.cell (p:=⟨bC,0,none⟩) zC e0 ((flagged_cell (fun _=>⟨by simp,by simp,by simp,by simp⟩)).trans e0)
 have S2:∀w',Two wa (flagged wa bC (wsub (R a) (IntKind.u64.wrap imm)) (borrow (R a) (IntKind.u64.wrap imm))) w'->w'.cell? ⟨w.heap.size,2,none⟩=some (.int .i64 a):=fun w' t=>t.cell (p:=⟨w.heap.size,2,none⟩) xz j2 ((flagged_cell (fun e=>absurd e (by simp;omega))).trans j2)
 have S4:∀w',Two wa (flagged wa bC (wsub (R a) (IntKind.u64.wrap imm)) (borrow (R a) (IntKind.u64.wrap imm))) w'->w'.cell? ⟨w.heap.size,4,none⟩=some (.int .i64 imm):=fun w' t=>t.cell (p:=⟨w.heap.size,4,none⟩) xz j4 ((flagged_cell (fun e=>absurd e (by simp;omega))).trans j4)
 have R5:∀w',Two wa (flagged wa bC (wsub (R a) (IntKind.u64.wrap imm)) (borrow (R a) (IntKind.u64.wrap imm))) w'->w'.cell? ⟨bR,a,none⟩=some (.int .u64 (R a)):=fun w' t=>t.cell (p:=⟨bR,a,none⟩) zR ea ((flagged_cell (fun e=>absurd e (Ne.symm hCR))).trans ea)
 clear hG c0 ra h1 h2 h3 h4 hf
 refine wp_region_held_drew (S:=fun w'=>Two wa (flagged wa bC (wsub (R a) (IntKind.u64.wrap imm)) (borrow (R a) (IntKind.u64.wrap imm))) w') (by kernel_rfl) (.inl (Below.refl _ _).drew) (fun hHeld=>?_)
 refine wpAnyH_tk 0 ?v0 rfl ?y0 ?r0
 case y0=>(intro w hSw;(try dsimp only at hSw);go_simp;try with_reducible rfl)
 try go_frame
 refine wpAnyH_tk 1 ?v1 rfl ?y1 ?r1
 case y1=>(intro w hSw;(try dsimp only at hSw);go_simp;try with_reducible rfl)
 try go_frame
 refine wpAnyH_tk 2 ?v2 rfl ?y2 ?r2
 case y2=>(intro w hSw;(try dsimp only at hSw);go_simp;try with_reducible rfl)
 try go_frame
 refine wpAnyH_tk 3 ?v3 rfl ?y3 ?r3
 case y3=>(intro w hSw;(try dsimp only at hSw);go_simp;try with_reducible rfl)
 try go_frame
 refine wpAnyH_tk 4 ?v4 rfl ?y4 ?r4
 case y4=>(intro w hSw;(try dsimp only at hSw);go_simp;try with_reducible rfl)
 try go_frame
 refine wpAnyH_tk 5 ?v5 rfl ?y5 ?r5
 case y5=>(intro w hSw;(try dsimp only at hSw);go_simp;try with_reducible rfl)
 try go_frame
 refine wpAnyH_tk 6 ?v6 rfl ?y6 ?r6
 case y6=>(intro w hSw;(try dsimp only at hSw);go_simp;try with_reducible rfl)
 try go_frame
 refine wpAnyH_tk 7 ?v7 rfl ?y7 ?r7
 case y7=>(intro w hSw;(try dsimp only at hSw);go_simp;try with_reducible rfl)
 try go_frame
 refine wpAnyH_tk 8 ?v8 rfl ?y8 ?r8
 case y8=>(intro w hSw;(try dsimp only at hSw);go_simp;try with_reducible rfl)
 try go_frame
 refine wpAnyH_tk 9 ?v9 rfl ?y9 ?r9
 case y9=>(intro w hSw;(try dsimp only at hSw);go_simp;try with_reducible rfl)
 try go_frame
 refine wpAnyH_tk 10 ?v10 rfl ?y10 ?r10
 case y10=>(intro w hSw;(try dsimp only at hSw);go_simp;try with_reducible rfl)
 try go_frame
 refine wpAnyH_tk 11 ?v11 rfl ?y11 ?r11
 case y11=>(intro w hSw;(try dsimp only at hSw);go_simp;try with_reducible rfl)
 try go_frame
 refine wpAnyH_tk 12 ?v12 rfl ?y12 ?r12
 case y12=>(intro w hSw;(try dsimp only at hSw);go_simp;try with_reducible rfl)
 try go_frame
 refine wpAnyH_ready (rs:=[13]) (by kernel_rfl) (by simp) ?_
 refine AllReadyH.cons rfl (fun K hK=>?_) AllReadyH.nil
 go_simp
 refine(compare_any bC (R a) (IntKind.u64.wrap imm) z c hz hc _ pa (by rw[IntKind.wrap_u64];omega) (by rw[IntKind.wrap_u64];omega) ?q1 ?q2 ?q3 ?q4 ?q5).mono ?_
 case q1=>exact e1
 case q2=>exact e2
 case q3=>exact e3
 case q4=>exact e4
 case q5=>exact eg
 rintro e w'⟨rfl,hw⟩
 have HW:Hid _:=hw
 clear hw
 go_wp2_with fail
 refine hK.out _ _ (by rw[HW.out];exact .inr (flagged_below zC (Below.refl _ _).drew)) (fun hHeld13=>?_)
 clear hK K
 refine wpAnyH_done (by kernel_rfl) ?_ _
 go_end0
 refine⟨rfl,?_⟩
 rw[HW.out]
 exact flagged_below hC xa.drew
theorem doSubs_any(bC bR cap d a b:Nat)(op imm hh:Int)(R:Nat->Int)(z c hz hc:Bool)(w:World)(hd:d<8)(ha:a<8)(hb:b<8)(hC:bC<w.heap.size)(hR:bR<w.heap.size)(hCR:bC≠bR)(pa:0<=R a)(pb:0<=R b)(pb1:R b<=18446744073709551615)
 (c0:w.cell? ⟨bC,0,none⟩=some (.slice (some ⟨bR,0,none⟩) 8 cap))(ra:w.cell? ⟨bR,a,none⟩=some (.int .u64 (R a)))(rb:w.cell? ⟨bR,b,none⟩=some (.int .u64 (R b)))(rd:w.cell? ⟨bR,d,none⟩=some (.int .u64 (R d)))(hfr:w.frozen? ⟨bR,d,none⟩=false)(h1:w.cell? ⟨bC,1,none⟩=some (.bool z))(h2:w.cell? ⟨bC,2,none⟩=some (.bool c))(h3:w.cell? ⟨bC,3,none⟩=some (.bool hz))(h4:w.cell? ⟨bC,4,none⟩=some (.bool hc))(hf:∀i,w.frozen? ⟨bC,i,none⟩=false):
 Calls Tryz.prog 111 #[.pointer (some ⟨bC,0,none⟩),.agg #[.int .i64 op,.int .i64 d,.int .i64 a,.int .i64 b,.int .i64 imm,.int .i64 hh]] w fun e w'=>e=.returned (.tuple #[])/\Below w.heap.size ((flagged w bC (wsub (R a) (R b)) (borrow (R a) (R b))).setCell ⟨bR,d,none⟩ (.int .u64 (wsub (R a) (R b)))) w':=by
 have hd':(d:Int)<8:=by omega
 have ha':(a:Int)<8:=by omega
 have hb':(b:Int)<8:=by omega
 go_enter Tryz.func111,Tryz.ntmps111
 go_wp2_with fail
 generalize hG:w.alloc (.cells #[.int .i64 op,.int .i64 d,.int .i64 a,.int .i64 b,.int .i64 imm,.int .i64 hh] 73)=wa
 have xa:Below w.heap.size w wa:=by rw[<-hG];exact(Below.refl _ _).alloc (Nat.le_refl _) _
 have xz:w.heap.size<wa.heap.size:=by rw[<-hG];simp
 have zC:bC<wa.heap.size:=by omega
 have zR:bR<wa.heap.size:=by omega
 have j1:wa.cell? ⟨w.heap.size,1,none⟩=some (.int .i64 d):=by rw[<-hG];simp[go_sem]
 have j2:wa.cell? ⟨w.heap.size,2,none⟩=some (.int .i64 a):=by rw[<-hG];simp[go_sem]
 have j3:wa.cell? ⟨w.heap.size,3,none⟩=some (.int .i64 b):=by rw[<-hG];simp[go_sem]
 have e0:=(xa.cell (p:=⟨bC,0,none⟩) hC).trans c0
 have ea:=(xa.cell (p:=⟨bR,a,none⟩) hR).trans ra
 have eb:=(xa.cell (p:=⟨bR,b,none⟩) hR).trans rb
 have e1:wa.drew.cell? ⟨bC,1,none⟩=_:=(xa.cell (p:=⟨bC,1,none⟩) hC).trans h1
 have e2:wa.drew.cell? ⟨bC,2,none⟩=_:=(xa.cell (p:=⟨bC,2,none⟩) hC).trans h2
 have e3:wa.drew.cell? ⟨bC,3,none⟩=_:=(xa.cell (p:=⟨bC,3,none⟩) hC).trans h3
 have e4:wa.drew.cell? ⟨bC,4,none⟩=_:=(xa.cell (p:=⟨bC,4,none⟩) hC).trans h4
 have eg:∀i,wa.drew.frozen? ⟨bC,i,none⟩=false:=fun i=>(xa.frozen (p:=⟨bC,i,none⟩) hC).trans (hf i)
 have R0:∀w',Two wa (flagged wa bC (wsub (R a) (R b)) (borrow (R a) (R b))) w'->w'.cell? ⟨bC,0,none⟩=some (.slice (some ⟨bR,0,none⟩) 8 cap):=fun w' t=>t.cell (p:=⟨bC,0,none⟩) zC e0 ((flagged_cell (fun _=>⟨by simp,by simp,by simp,by simp⟩)).trans e0)
 have S1:∀w',Two wa (flagged wa bC (wsub (R a) (R b)) (borrow (R a) (R b))) w'->w'.cell? ⟨w.heap.size,1,none⟩=some (.int .i64 d):=fun w' t=>t.cell (p:=⟨w.heap.size,1,none⟩) xz j1 ((flagged_cell (fun e=>absurd e (by simp;omega))).trans j1)
 have S2:∀w',Two wa (flagged wa bC (wsub (R a) (R b)) (borrow (R a) (R b))) w'->w'.cell? ⟨w.heap.size,2,none⟩=some (.int .i64 a):=fun w' t=>t.cell (p:=⟨w.heap.size,2,none⟩) xz j2 ((flagged_cell (fun e=>absurd e (by simp;omega))).trans j2)
 have S3:∀w',Two wa (flagged wa bC (wsub (R a) (R b)) (borrow (R a) (R b))) w'->w'.cell? ⟨w.heap.size,3,none⟩=some (.int .i64 b):=fun w' t=>t.cell (p:=⟨w.heap.size,3,none⟩) xz j3 ((flagged_cell (fun e=>absurd e (by simp;omega))).trans j3)
 have R5:∀w',Two wa (flagged wa bC (wsub (R a) (R b)) (borrow (R a) (R b))) w'->w'.cell? ⟨bR,a,none⟩=some (.int .u64 (R a)):=fun w' t=>t.cell (p:=⟨bR,a,none⟩) zR ea ((flagged_cell (fun e=>absurd e (Ne.symm hCR))).trans ea)
 have R6:∀w',Two wa (flagged wa bC (wsub (R a) (R b)) (borrow (R a) (R b))) w'->w'.cell? ⟨bR,b,none⟩=some (.int .u64 (R b)):=fun w' t=>t.cell (p:=⟨bR,b,none⟩) zR eb ((flagged_cell (fun e=>absurd e (Ne.symm hCR))).trans eb)
 have ed:=(xa.cell (p:=⟨bR,d,none⟩) hR).trans rd
 have ef:=(xa.frozen (p:=⟨bR,d,none⟩) hR).trans hfr
 clear hG c0 ra rb rd hfr h1 h2 h3 h4 hf
 refine wp_region_L (T:=fun w'=>Two wa (flagged wa bC (wsub (R a) (R b)) (borrow (R a) (R b))) w') (s:=28) (by kernel_rfl) (.inl (Below.refl _ _).drew) (fun hHeld=>?_)
 refine wpAnyL_tk 0 ?v0 rfl ?y0 ?r0
 case y0=>(intro w hSw;(try dsimp only at hSw);go_simp;try with_reducible rfl)
 try go_frame
 refine wpAnyL_tk 1 ?v1 rfl ?y1 ?r1
 case y1=>(intro w hSw;(try dsimp only at hSw);go_simp;try with_reducible rfl)
 try go_frame
 refine wpAnyL_tk 2 ?v2 rfl ?y2 ?r2
 case y2=>(intro w hSw;(try dsimp only at hSw);go_simp;try with_reducible rfl)
 try go_frame
 refine wpAnyL_tk 3 ?v3 rfl ?y3 ?r3
 case y3=>(intro w hSw;(try dsimp only at hSw);go_simp;try with_reducible rfl)
 try go_frame
 refine wpAnyL_tk 4 ?v4 rfl ?y4 ?r4
 case y4=>(intro w hSw;(try dsimp only at hSw);go_simp;try with_reducible rfl)
 try go_frame
 refine wpAnyL_tk 5 ?v5 rfl ?y5 ?r5
 case y5=>(intro w hSw;(try dsimp only at hSw);go_simp;try with_reducible rfl)
 try go_frame
 refine wpAnyL_tk 6 ?v6 rfl ?y6 ?r6
 case y6=>(intro w hSw;(try dsimp only at hSw);go_simp;try with_reducible rfl)
 try go_frame
 refine wpAnyL_tk 7 ?v7 rfl ?y7 ?r7
 case y7=>(intro w hSw;(try dsimp only at hSw);go_simp;try with_reducible rfl)
 try go_frame
 refine wpAnyL_tk 8 ?v8 rfl ?y8 ?r8
 case y8=>(intro w hSw;(try dsimp only at hSw);go_simp;try with_reducible rfl)
 try go_frame
 refine wpAnyL_tk 9 ?v9 rfl ?y9 ?r9
 case y9=>(intro w hSw;(try dsimp only at hSw);go_simp;try with_reducible rfl)
 try go_frame
 refine wpAnyL_tk 10 ?v10 rfl ?y10 ?r10
 case y10=>(intro w hSw;(try dsimp only at hSw);go_simp;try with_reducible rfl)
 try go_frame
 refine wpAnyL_tk 11 ?v11 rfl ?y11 ?r11
 case y11=>(intro w hSw;(try dsimp only at hSw);go_simp;try with_reducible rfl)
 try go_frame
 refine wpAnyL_tk 12 ?v12 rfl ?y12 ?r12
 case y12=>(intro w hSw;(try dsimp only at hSw);go_simp;try with_reducible rfl)
 try go_frame
 refine wpAnyL_tk 13 ?v13 rfl ?y13 ?r13
 case y13=>(intro w hSw;(try dsimp only at hSw);go_simp;try with_reducible rfl)
 try go_frame
 refine wpAnyL_tk 14 ?v14 rfl ?y14 ?r14
 case y14=>(intro w hSw;(try dsimp only at hSw);go_simp;try with_reducible rfl)
 try go_frame
 refine wpAnyL_tk 15 ?v15 rfl ?y15 ?r15
 case y15=>(intro w hSw;(try dsimp only at hSw);go_simp;try with_reducible rfl)
 try go_frame
 refine wpAnyL_tk 16 ?v16 rfl ?y16 ?r16
 case y16=>(intro w hSw;(try dsimp only at hSw);go_simp;try with_reducible rfl)
 try go_frame
 refine wpAnyL_tk 17 ?v17 rfl ?y17 ?r17
 case y17=>(intro w hSw;(try dsimp only at hSw);go_simp;try with_reducible rfl)
 try go_frame
 refine wpAnyL_tk 18 ?v18 rfl ?y18 ?r18
 case y18=>(intro w hSw;(try dsimp only at hSw);go_simp;try with_reducible rfl)
 try go_frame
 refine wpAnyL_tk 19 ?v19 rfl ?y19 ?r19
 case y19=>(intro w hSw;(try dsimp only at hSw);go_simp;try with_reducible rfl)
 try go_frame
 refine wpAnyL_tk 20 ?v20 rfl ?y20 ?r20
 case y20=>(intro w hSw;(try dsimp only at hSw);go_simp;try with_reducible rfl)
 try go_frame
 refine wpAnyL_tk 21 ?v21 rfl ?y21 ?r21
 case y21=>(intro w hSw;(try dsimp only at hSw);go_simp;try with_reducible rfl)
 try go_frame
 refine wpAnyL_tk 22 ?v22 rfl ?y22 ?r22
 case y22=>(intro w hSw;(try dsimp only at hSw);go_simp;try with_reducible rfl)
 try go_frame
 refine wpAnyL_tk 23 ?v23 rfl ?y23 ?r23
 case y23=>(intro w hSw;(try dsimp only at hSw);go_simp;try with_reducible rfl)
 try go_frame
 refine wpAnyL_tk 24 ?v24 rfl ?y24 ?r24
 case y24=>(intro w hSw;(try dsimp only at hSw);go_simp;try with_reducible rfl)
 try go_frame
 refine wpAnyL_tk 25 ?v25 rfl ?y25 ?r25
 case y25=>(intro w hSw;(try dsimp only at hSw);go_simp;try with_reducible rfl)
 try go_frame
 refine wpAnyL_call (i:=26) rfl (by kernel_rfl) (fun K hK=>?_)
 go_simp
 refine(compare_any bC (R a) (R b) z c hz hc _ pa pb pb1 ?q1 ?q2 ?q3 ?q4 ?q5).mono ?_
 case q1=>exact e1
 case q2=>exact e2
 case q3=>exact e3
 case q4=>exact e4
 case q5=>exact eg
 rintro e w'⟨rfl,hw⟩
 have HW:Hid _:=hw
 have ed':w'.cell? ⟨bR,d,none⟩=some (.int .u64 (R d)):=by rw[hw];exact(flagged_cell (fun e=>absurd e (Ne.symm hCR))).trans ed
 have ef':w'.frozen? ⟨bR,d,none⟩=false:=by rw[hw,flagged_frozen];exact ef
 clear hw
 go_wp2_with fail
 refine hK.out _ _ (by rw[HW.out];exact .inr (flagged_below zC (Below.refl _ _).drew)) (fun hHeld26=>?_)
 clear hK K
 refine wpAnyL_tk 27 ?v27 rfl ?y27 ?r27
 case y27=>(intro w hSw;(try dsimp only at hSw);go_simp;try with_reducible rfl)
 try go_frame
 refine wpAnyL_store rfl (by kernel_rfl) (by kernel_rfl) (fun K hK=>?_)
 go_simp
 refine hK.out _ _ ?_
 clear hK K
 go_end0
 refine⟨rfl,?_⟩
 rw[HW.out]
 exact setCell_both (flagged_below hC xa.drew) hR _
end Go.Proofs.YtpbceodheeepoaaGreat
