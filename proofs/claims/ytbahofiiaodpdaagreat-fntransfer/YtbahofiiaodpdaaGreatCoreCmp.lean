import Derived.Test.YtbahofiiaodpdaaGreatOfCoreAdd
set_option maxHeartbeats 1000000
namespace Go.Proofs.YtbahofiiaodpdaaGreat
open Go.RowKit
def Two(W X w':World):Prop:=Below W.heap.size W w'∨Below W.heap.size X w'
theorem Two.cell{W X w':World}(h:Two W X w'){p:Addr}{v:Value}(hp:p.block<W.heap.size)(h1:W.cell? p=some v)(h2:X.cell? p=some v):w'.cell? p=some v:=by
 rcases h with h|h
 ·exact(h.cell hp).trans h1
 ·exact(h.cell hp).trans h2
theorem flagged_cell{W:World}{bC:Nat}{r k:Int}{p:Addr}(h:p.block=bC->p.off≠1/\p.off≠2/\p.off≠3/\p.off≠4):(flagged W bC r k).cell? p=W.cell? p:=by
 unfold flagged;rw[World.cell?_setCell_other _ _ _ _ (fun e=>(h (by rw[<-e])).2.2.2 (by rw[<-e])),World.cell?_setCell_other _ _ _ _ (fun e=>(h (by rw[<-e])).2.1 (by rw[<-e])),
  World.cell?_setCell_other _ _ _ _ (fun e=>(h (by rw[<-e])).2.2.1 (by rw[<-e])),World.cell?_setCell_other _ _ _ _ (fun e=>(h (by rw[<-e])).1 (by rw[<-e]))]
theorem flagged_frozen{W:World}{bC:Nat}{r k:Int}(p:Addr):(flagged W bC r k).frozen? p=W.frozen? p:=by
 unfold flagged;simp only[World.frozen?_setCell]
theorem flagged_size{W:World}{bC:Nat}{r k:Int}:(flagged W bC r k).heap.size=W.heap.size:=by
 unfold flagged;simp
theorem doCmp_any(bC bR cap a b:Nat)(op d imm hh:Int)(R:Nat->Int)(z c hz hc:Bool)(w:World)(ha:a<8)(hb:b<8)(hC:bC<w.heap.size)(hR:bR<w.heap.size)(hCR:bC≠bR)(pa:0<=R a)(pb:0<=R b)(pb1:R b<=18446744073709551615)
 (c0:w.cell? ⟨bC,0,none⟩=some (.slice (some ⟨bR,0,none⟩) 8 cap))(ra:w.cell? ⟨bR,a,none⟩=some (.int .u64 (R a)))(rb:w.cell? ⟨bR,b,none⟩=some (.int .u64 (R b)))(h1:w.cell? ⟨bC,1,none⟩=some (.bool z))(h2:w.cell? ⟨bC,2,none⟩=some (.bool c))(h3:w.cell? ⟨bC,3,none⟩=some (.bool hz))(h4:w.cell? ⟨bC,4,none⟩=some (.bool hc))(hf:∀i,w.frozen? ⟨bC,i,none⟩=false):
 Calls Tryz.prog 118 #[.pointer (some ⟨bC,0,none⟩),.agg #[.int .i64 op,.int .i64 d,.int .i64 a,.int .i64 b,.int .i64 imm,.int .i64 hh]] w fun e w'=>e=.returned (.tuple #[])/\Below w.heap.size (flagged w bC (wsub (R a) (R b)) (borrow (R a) (R b))) w':=by
 have ha':(a:Int)<8:=by omega
 have hb':(b:Int)<8:=by omega
 go_enter Tryz.func118,Tryz.ntmps118;go_wp2_with fail;generalize hG:w.alloc (.cells #[.int .i64 op,.int .i64 d,.int .i64 a,.int .i64 b,.int .i64 imm,.int .i64 hh] 30)=wa;have xa:Below w.heap.size w wa:=by rw[<-hG];exact(Below.refl _ _).alloc (Nat.le_refl _) _
 have xz:w.heap.size<wa.heap.size:=by rw[<-hG];simp
 have zC:bC<wa.heap.size:=by omega
 have zR:bR<wa.heap.size:=by omega
 have j2:wa.cell? ⟨w.heap.size,2,none⟩=some (.int .i64 a):=by rw[<-hG];simp[go_sem]
 have j3:wa.cell? ⟨w.heap.size,3,none⟩=some (.int .i64 b):=by rw[<-hG];simp[go_sem]
 have e0:=(xa.cell (p:=⟨bC,0,none⟩) hC).trans c0;have ea:=(xa.cell (p:=⟨bR,a,none⟩) hR).trans ra;have eb:=(xa.cell (p:=⟨bR,b,none⟩) hR).trans rb;have e1:wa.drew.cell? ⟨bC,1,none⟩=_:=(xa.cell (p:=⟨bC,1,none⟩) hC).trans h1;have e2:wa.drew.cell? ⟨bC,2,none⟩=_:=(xa.cell (p:=⟨bC,2,none⟩) hC).trans h2;have e3:wa.drew.cell? ⟨bC,3,none⟩=_:=(xa.cell (p:=⟨bC,3,none⟩) hC).trans h3;have e4:wa.drew.cell? ⟨bC,4,none⟩=_:=(xa.cell (p:=⟨bC,4,none⟩) hC).trans h4;have eg:∀i,wa.drew.frozen? ⟨bC,i,none⟩=false:=fun i=>(xa.frozen (p:=⟨bC,i,none⟩) hC).trans (hf i)
 have R0:∀w',Two wa (flagged wa bC (wsub (R a) (R b)) (borrow (R a) (R b))) w'->w'.cell? ⟨bC,0,none⟩=some (.slice (some ⟨bR,0,none⟩) 8 cap):=fun w' t=>t.cell (p:=⟨bC,0,none⟩) zC e0 ((flagged_cell (fun _=>⟨by simp,by simp,by simp,by simp⟩)).trans e0)
 have S2:∀w',Two wa (flagged wa bC (wsub (R a) (R b)) (borrow (R a) (R b))) w'->w'.cell? ⟨w.heap.size,2,none⟩=some (.int .i64 a):=fun w' t=>t.cell (p:=⟨w.heap.size,2,none⟩) xz j2 ((flagged_cell (fun e=>absurd e (by simp;omega))).trans j2)
 have S3:∀w',Two wa (flagged wa bC (wsub (R a) (R b)) (borrow (R a) (R b))) w'->w'.cell? ⟨w.heap.size,3,none⟩=some (.int .i64 b):=fun w' t=>t.cell (p:=⟨w.heap.size,3,none⟩) xz j3 ((flagged_cell (fun e=>absurd e (by simp;omega))).trans j3)
 have R5:∀w',Two wa (flagged wa bC (wsub (R a) (R b)) (borrow (R a) (R b))) w'->w'.cell? ⟨bR,a,none⟩=some (.int .u64 (R a)):=fun w' t=>t.cell (p:=⟨bR,a,none⟩) zR ea ((flagged_cell (fun e=>absurd e (Ne.symm hCR))).trans ea)
 have R6:∀w',Two wa (flagged wa bC (wsub (R a) (R b)) (borrow (R a) (R b))) w'->w'.cell? ⟨bR,b,none⟩=some (.int .u64 (R b)):=fun w' t=>t.cell (p:=⟨bR,b,none⟩) zR eb ((flagged_cell (fun e=>absurd e (Ne.symm hCR))).trans eb)
 clear hG c0 ra rb h1 h2 h3 h4 hf;refine wp_region_held_drew (S:=fun w'=>Two wa (flagged wa bC (wsub (R a) (R b)) (borrow (R a) (R b))) w') (by kernel_rfl) (.inl (Below.refl _ _).drew) (fun hHeld=>?_);refine wpAnyH_ta 0 rfl ?_;refine wpAnyH_ta 1 rfl ?_;refine wpAnyH_ta 2 rfl ?_;refine wpAnyH_ta 3 rfl ?_;refine wpAnyH_ta 4 rfl ?_;refine wpAnyH_ta 5 rfl ?_;refine wpAnyH_ta 6 rfl ?_;refine wpAnyH_ta 7 rfl ?_;refine wpAnyH_ta 8 rfl ?_;refine wpAnyH_ta 9 rfl ?_;refine wpAnyH_ta 10 rfl ?_;refine wpAnyH_ta 11 rfl ?_;refine wpAnyH_ta 12 rfl ?_;refine wpAnyH_ta 13 rfl ?_;refine wpAnyH_ta 14 rfl ?_;refine wpAnyH_ta 15 rfl ?_;refine wpAnyH_ta 16 rfl ?_;refine wpAnyH_ta 17 rfl ?_;refine wpAnyH_ta 18 rfl ?_;refine wpAnyH_ready (rs:=[19]) (by kernel_rfl) (by simp) ?_;refine AllReadyH.cons rfl (fun K hK=>?_) AllReadyH.nil;go_simp;refine(compare_any bC (R a) (R b) z c hz hc _ pa pb pb1 ?q1 ?q2 ?q3 ?q4 ?q5).mono ?_
 case q1=>exact e1
 case q2=>exact e2
 case q3=>exact e3
 case q4=>exact e4
 case q5=>exact eg
 rintro e w'⟨rfl,hw⟩;have HW:Hid _:=hw;clear hw;go_wp2_with fail;refine hK.out _ _ (by rw[HW.out];exact .inr (flagged_below zC (Below.refl _ _).drew)) (fun hHeld19=>?_);clear hK K;refine wpAnyH_done (by kernel_rfl) ?_ _;go_end0;refine⟨rfl,?_⟩;rw[HW.out];exact flagged_below hC xa.drew
theorem doCmpi_any(bC bR cap a:Nat)(op d b imm hh:Int)(R:Nat->Int)(z c hz hc:Bool)(w:World)(ha:a<8)(hC:bC<w.heap.size)(hR:bR<w.heap.size)(hCR:bC≠bR)(pa:0<=R a)
 (c0:w.cell? ⟨bC,0,none⟩=some (.slice (some ⟨bR,0,none⟩) 8 cap))(ra:w.cell? ⟨bR,a,none⟩=some (.int .u64 (R a)))(h1:w.cell? ⟨bC,1,none⟩=some (.bool z))(h2:w.cell? ⟨bC,2,none⟩=some (.bool c))(h3:w.cell? ⟨bC,3,none⟩=some (.bool hz))(h4:w.cell? ⟨bC,4,none⟩=some (.bool hc))(hf:∀i,w.frozen? ⟨bC,i,none⟩=false):
 Calls Tryz.prog 119 #[.pointer (some ⟨bC,0,none⟩),.agg #[.int .i64 op,.int .i64 d,.int .i64 a,.int .i64 b,.int .i64 imm,.int .i64 hh]] w fun e w'=>e=.returned (.tuple #[])/\Below w.heap.size (flagged w bC (wsub (R a) (IntKind.u64.wrap imm)) (borrow (R a) (IntKind.u64.wrap imm))) w':=by
 have ha':(a:Int)<8:=by omega
 go_enter Tryz.func119,Tryz.ntmps119;go_wp2_with fail;generalize hG:w.alloc (.cells #[.int .i64 op,.int .i64 d,.int .i64 a,.int .i64 b,.int .i64 imm,.int .i64 hh] 30)=wa;have xa:Below w.heap.size w wa:=by rw[<-hG];exact(Below.refl _ _).alloc (Nat.le_refl _) _
 have xz:w.heap.size<wa.heap.size:=by rw[<-hG];simp
 have zC:bC<wa.heap.size:=by omega
 have zR:bR<wa.heap.size:=by omega
 have j2:wa.cell? ⟨w.heap.size,2,none⟩=some (.int .i64 a):=by rw[<-hG];simp[go_sem]
 have j4:wa.cell? ⟨w.heap.size,4,none⟩=some (.int .i64 imm):=by rw[<-hG];simp[go_sem]
 have e0:=(xa.cell (p:=⟨bC,0,none⟩) hC).trans c0;have ea:=(xa.cell (p:=⟨bR,a,none⟩) hR).trans ra;have e1:wa.drew.cell? ⟨bC,1,none⟩=_:=(xa.cell (p:=⟨bC,1,none⟩) hC).trans h1;have e2:wa.drew.cell? ⟨bC,2,none⟩=_:=(xa.cell (p:=⟨bC,2,none⟩) hC).trans h2;have e3:wa.drew.cell? ⟨bC,3,none⟩=_:=(xa.cell (p:=⟨bC,3,none⟩) hC).trans h3;have e4:wa.drew.cell? ⟨bC,4,none⟩=_:=(xa.cell (p:=⟨bC,4,none⟩) hC).trans h4;have eg:∀i,wa.drew.frozen? ⟨bC,i,none⟩=false:=fun i=>(xa.frozen (p:=⟨bC,i,none⟩) hC).trans (hf i)
 have R0:∀w',Two wa (flagged wa bC (wsub (R a) (IntKind.u64.wrap imm)) (borrow (R a) (IntKind.u64.wrap imm))) w'->w'.cell? ⟨bC,0,none⟩=some (.slice (some ⟨bR,0,none⟩) 8 cap):=fun w' t=>t.cell (p:=⟨bC,0,none⟩) zC e0 ((flagged_cell (fun _=>⟨by simp,by simp,by simp,by simp⟩)).trans e0)
 have S2:∀w',Two wa (flagged wa bC (wsub (R a) (IntKind.u64.wrap imm)) (borrow (R a) (IntKind.u64.wrap imm))) w'->w'.cell? ⟨w.heap.size,2,none⟩=some (.int .i64 a):=fun w' t=>t.cell (p:=⟨w.heap.size,2,none⟩) xz j2 ((flagged_cell (fun e=>absurd e (by simp;omega))).trans j2)
 have S4:∀w',Two wa (flagged wa bC (wsub (R a) (IntKind.u64.wrap imm)) (borrow (R a) (IntKind.u64.wrap imm))) w'->w'.cell? ⟨w.heap.size,4,none⟩=some (.int .i64 imm):=fun w' t=>t.cell (p:=⟨w.heap.size,4,none⟩) xz j4 ((flagged_cell (fun e=>absurd e (by simp;omega))).trans j4)
 have R5:∀w',Two wa (flagged wa bC (wsub (R a) (IntKind.u64.wrap imm)) (borrow (R a) (IntKind.u64.wrap imm))) w'->w'.cell? ⟨bR,a,none⟩=some (.int .u64 (R a)):=fun w' t=>t.cell (p:=⟨bR,a,none⟩) zR ea ((flagged_cell (fun e=>absurd e (Ne.symm hCR))).trans ea)
 clear hG c0 ra h1 h2 h3 h4 hf;refine wp_region_held_drew (S:=fun w'=>Two wa (flagged wa bC (wsub (R a) (IntKind.u64.wrap imm)) (borrow (R a) (IntKind.u64.wrap imm))) w') (by kernel_rfl) (.inl (Below.refl _ _).drew) (fun hHeld=>?_);refine wpAnyH_ta 0 rfl ?_;refine wpAnyH_ta 1 rfl ?_;refine wpAnyH_ta 2 rfl ?_;refine wpAnyH_ta 3 rfl ?_;refine wpAnyH_ta 4 rfl ?_;refine wpAnyH_ta 5 rfl ?_;refine wpAnyH_ta 6 rfl ?_;refine wpAnyH_ta 7 rfl ?_;refine wpAnyH_ta 8 rfl ?_;refine wpAnyH_ta 9 rfl ?_;refine wpAnyH_ta 10 rfl ?_;refine wpAnyH_ta 11 rfl ?_;refine wpAnyH_ta 12 rfl ?_;refine wpAnyH_ready (rs:=[13]) (by kernel_rfl) (by simp) ?_;refine AllReadyH.cons rfl (fun K hK=>?_) AllReadyH.nil;go_simp;refine(compare_any bC (R a) (IntKind.u64.wrap imm) z c hz hc _ pa (by rw[IntKind.wrap_u64];omega) (by rw[IntKind.wrap_u64];omega) ?q1 ?q2 ?q3 ?q4 ?q5).mono ?_
 case q1=>exact e1
 case q2=>exact e2
 case q3=>exact e3
 case q4=>exact e4
 case q5=>exact eg
 rintro e w'⟨rfl,hw⟩;have HW:Hid _:=hw;clear hw;go_wp2_with fail;refine hK.out _ _ (by rw[HW.out];exact .inr (flagged_below zC (Below.refl _ _).drew)) (fun hHeld13=>?_);clear hK K;refine wpAnyH_done (by kernel_rfl) ?_ _;go_end0;refine⟨rfl,?_⟩;rw[HW.out];exact flagged_below hC xa.drew
theorem doSubs_any(bC bR cap d a b:Nat)(op imm hh:Int)(R:Nat->Int)(z c hz hc:Bool)(w:World)(hd:d<8)(ha:a<8)(hb:b<8)(hC:bC<w.heap.size)(hR:bR<w.heap.size)(hCR:bC≠bR)(pa:0<=R a)(pb:0<=R b)(pb1:R b<=18446744073709551615)
 (c0:w.cell? ⟨bC,0,none⟩=some (.slice (some ⟨bR,0,none⟩) 8 cap))(ra:w.cell? ⟨bR,a,none⟩=some (.int .u64 (R a)))(rb:w.cell? ⟨bR,b,none⟩=some (.int .u64 (R b)))(rd:w.cell? ⟨bR,d,none⟩=some (.int .u64 (R d)))(hfr:w.frozen? ⟨bR,d,none⟩=false)(h1:w.cell? ⟨bC,1,none⟩=some (.bool z))(h2:w.cell? ⟨bC,2,none⟩=some (.bool c))(h3:w.cell? ⟨bC,3,none⟩=some (.bool hz))(h4:w.cell? ⟨bC,4,none⟩=some (.bool hc))(hf:∀i,w.frozen? ⟨bC,i,none⟩=false):
 Calls Tryz.prog 117 #[.pointer (some ⟨bC,0,none⟩),.agg #[.int .i64 op,.int .i64 d,.int .i64 a,.int .i64 b,.int .i64 imm,.int .i64 hh]] w fun e w'=>e=.returned (.tuple #[])/\Below w.heap.size ((flagged w bC (wsub (R a) (R b)) (borrow (R a) (R b))).setCell ⟨bR,d,none⟩ (.int .u64 (wsub (R a) (R b)))) w':=by
 have hd':(d:Int)<8:=by omega
 have ha':(a:Int)<8:=by omega
 have hb':(b:Int)<8:=by omega
 go_enter Tryz.func117,Tryz.ntmps117;go_wp2_with fail;generalize hG:w.alloc (.cells #[.int .i64 op,.int .i64 d,.int .i64 a,.int .i64 b,.int .i64 imm,.int .i64 hh] 30)=wa;have xa:Below w.heap.size w wa:=by rw[<-hG];exact(Below.refl _ _).alloc (Nat.le_refl _) _
 have xz:w.heap.size<wa.heap.size:=by rw[<-hG];simp
 have zC:bC<wa.heap.size:=by omega
 have zR:bR<wa.heap.size:=by omega
 have j1:wa.cell? ⟨w.heap.size,1,none⟩=some (.int .i64 d):=by rw[<-hG];simp[go_sem]
 have j2:wa.cell? ⟨w.heap.size,2,none⟩=some (.int .i64 a):=by rw[<-hG];simp[go_sem]
 have j3:wa.cell? ⟨w.heap.size,3,none⟩=some (.int .i64 b):=by rw[<-hG];simp[go_sem]
 have e0:=(xa.cell (p:=⟨bC,0,none⟩) hC).trans c0;have ea:=(xa.cell (p:=⟨bR,a,none⟩) hR).trans ra;have eb:=(xa.cell (p:=⟨bR,b,none⟩) hR).trans rb;have e1:wa.drew.cell? ⟨bC,1,none⟩=_:=(xa.cell (p:=⟨bC,1,none⟩) hC).trans h1;have e2:wa.drew.cell? ⟨bC,2,none⟩=_:=(xa.cell (p:=⟨bC,2,none⟩) hC).trans h2;have e3:wa.drew.cell? ⟨bC,3,none⟩=_:=(xa.cell (p:=⟨bC,3,none⟩) hC).trans h3;have e4:wa.drew.cell? ⟨bC,4,none⟩=_:=(xa.cell (p:=⟨bC,4,none⟩) hC).trans h4;have eg:∀i,wa.drew.frozen? ⟨bC,i,none⟩=false:=fun i=>(xa.frozen (p:=⟨bC,i,none⟩) hC).trans (hf i)
 have R0:∀w',Two wa (flagged wa bC (wsub (R a) (R b)) (borrow (R a) (R b))) w'->w'.cell? ⟨bC,0,none⟩=some (.slice (some ⟨bR,0,none⟩) 8 cap):=fun w' t=>t.cell (p:=⟨bC,0,none⟩) zC e0 ((flagged_cell (fun _=>⟨by simp,by simp,by simp,by simp⟩)).trans e0)
 have S1:∀w',Two wa (flagged wa bC (wsub (R a) (R b)) (borrow (R a) (R b))) w'->w'.cell? ⟨w.heap.size,1,none⟩=some (.int .i64 d):=fun w' t=>t.cell (p:=⟨w.heap.size,1,none⟩) xz j1 ((flagged_cell (fun e=>absurd e (by simp;omega))).trans j1)
 have S2:∀w',Two wa (flagged wa bC (wsub (R a) (R b)) (borrow (R a) (R b))) w'->w'.cell? ⟨w.heap.size,2,none⟩=some (.int .i64 a):=fun w' t=>t.cell (p:=⟨w.heap.size,2,none⟩) xz j2 ((flagged_cell (fun e=>absurd e (by simp;omega))).trans j2)
 have S3:∀w',Two wa (flagged wa bC (wsub (R a) (R b)) (borrow (R a) (R b))) w'->w'.cell? ⟨w.heap.size,3,none⟩=some (.int .i64 b):=fun w' t=>t.cell (p:=⟨w.heap.size,3,none⟩) xz j3 ((flagged_cell (fun e=>absurd e (by simp;omega))).trans j3)
 have R5:∀w',Two wa (flagged wa bC (wsub (R a) (R b)) (borrow (R a) (R b))) w'->w'.cell? ⟨bR,a,none⟩=some (.int .u64 (R a)):=fun w' t=>t.cell (p:=⟨bR,a,none⟩) zR ea ((flagged_cell (fun e=>absurd e (Ne.symm hCR))).trans ea)
 have R6:∀w',Two wa (flagged wa bC (wsub (R a) (R b)) (borrow (R a) (R b))) w'->w'.cell? ⟨bR,b,none⟩=some (.int .u64 (R b)):=fun w' t=>t.cell (p:=⟨bR,b,none⟩) zR eb ((flagged_cell (fun e=>absurd e (Ne.symm hCR))).trans eb)
 have ed:=(xa.cell (p:=⟨bR,d,none⟩) hR).trans rd;have ef:=(xa.frozen (p:=⟨bR,d,none⟩) hR).trans hfr;clear hG c0 ra rb rd hfr h1 h2 h3 h4 hf;refine wp_region_L (T:=fun w'=>Two wa (flagged wa bC (wsub (R a) (R b)) (borrow (R a) (R b))) w') (s:=28) (by kernel_rfl) (.inl (Below.refl _ _).drew) (fun hHeld=>?_);refine wpAnyL_ta 0 rfl ?_;refine wpAnyL_ta 1 rfl ?_;refine wpAnyL_ta 2 rfl ?_;refine wpAnyL_ta 3 rfl ?_;refine wpAnyL_ta 4 rfl ?_;refine wpAnyL_ta 5 rfl ?_;refine wpAnyL_ta 6 rfl ?_;refine wpAnyL_ta 7 rfl ?_;refine wpAnyL_ta 8 rfl ?_;refine wpAnyL_ta 9 rfl ?_;refine wpAnyL_ta 10 rfl ?_;refine wpAnyL_ta 11 rfl ?_;refine wpAnyL_ta 12 rfl ?_;refine wpAnyL_ta 13 rfl ?_;refine wpAnyL_ta 14 rfl ?_;refine wpAnyL_ta 15 rfl ?_;refine wpAnyL_ta 16 rfl ?_;refine wpAnyL_ta 17 rfl ?_;refine wpAnyL_ta 18 rfl ?_;refine wpAnyL_ta 19 rfl ?_;refine wpAnyL_ta 20 rfl ?_;refine wpAnyL_ta 21 rfl ?_;refine wpAnyL_ta 22 rfl ?_;refine wpAnyL_ta 23 rfl ?_;refine wpAnyL_ta 24 rfl ?_;refine wpAnyL_ta 25 rfl ?_;refine wpAnyL_call (i:=26) rfl (by kernel_rfl) (fun K hK=>?_);go_simp;refine(compare_any bC (R a) (R b) z c hz hc _ pa pb pb1 ?q1 ?q2 ?q3 ?q4 ?q5).mono ?_
 case q1=>exact e1
 case q2=>exact e2
 case q3=>exact e3
 case q4=>exact e4
 case q5=>exact eg
 rintro e w'⟨rfl,hw⟩;have HW:Hid _:=hw;have ed':w'.cell? ⟨bR,d,none⟩=some (.int .u64 (R d)):=by rw[hw];exact(flagged_cell (fun e=>absurd e (Ne.symm hCR))).trans ed
 have ef':w'.frozen? ⟨bR,d,none⟩=false:=by rw[hw,flagged_frozen];exact ef
 clear hw;go_wp2_with fail;refine hK.out _ _ (by rw[HW.out];exact .inr (flagged_below zC (Below.refl _ _).drew)) (fun hHeld26=>?_);clear hK K;refine wpAnyL_ta 27 rfl ?_;refine wpAnyL_store rfl (by kernel_rfl) (by kernel_rfl) (fun K hK=>?_);go_simp;refine hK.out _ _ ?_;clear hK K;go_end0;refine⟨rfl,?_⟩;rw[HW.out];exact setCell_both (flagged_below hC xa.drew) hR _
end Go.Proofs.YtbahofiiaodpdaaGreat
