import Derived.Test.YtbahofiiaodpdaaGreatOfCoreAdd
import Derived.Test.YtbahofiiaodpdaaGreatCoreFlags
set_option maxHeartbeats 800000
namespace Go.Proofs.YtbahofiiaodpdaaGreat
open Go.RowKit
theorem doAdds_any(bC bR cap d a b:Nat)(op imm hh:Int)(R:Nat->Int)(z c hz hc:Bool)(w:World)(hd:d<8)(ha:a<8)(hb:b<8)(hC:bC<w.heap.size)(hR:bR<w.heap.size)(hCR:bC≠bR)(pa:0<=R a)(pb:0<=R b)
 (c0:w.cell? ⟨bC,0,none⟩=some (.slice (some ⟨bR,0,none⟩) 8 cap))(ra:w.cell? ⟨bR,a,none⟩=some (.int .u64 (R a)))(rb:w.cell? ⟨bR,b,none⟩=some (.int .u64 (R b)))(rd:w.cell? ⟨bR,d,none⟩=some (.int .u64 (R d)))(hfr:w.frozen? ⟨bR,d,none⟩=false)(h1:w.cell? ⟨bC,1,none⟩=some (.bool z))(h2:w.cell? ⟨bC,2,none⟩=some (.bool c))(h3:w.cell? ⟨bC,3,none⟩=some (.bool hz))(h4:w.cell? ⟨bC,4,none⟩=some (.bool hc))(hf:∀i,w.frozen? ⟨bC,i,none⟩=false):
 Calls Tryz.prog 115 #[.pointer (some ⟨bC,0,none⟩),.agg #[.int .i64 op,.int .i64 d,.int .i64 a,.int .i64 b,.int .i64 imm,.int .i64 hh]] w fun e w'=>e=.returned (.tuple #[])/\Below w.heap.size (flagged (w.setCell ⟨bR,d,none⟩ (.int .u64 (wadd (R a) (R b) 0))) bC (wadd (R a) (R b) 0) (carry (R a) (R b) 0)) w':=by
 go_enter Tryz.func115,Tryz.ntmps115;go_wp2_with fail;generalize hG:w.alloc (.cells #[.int .i64 op,.int .i64 d,.int .i64 a,.int .i64 b,.int .i64 imm,.int .i64 hh] 30)=wa;have xa:Below w.heap.size w wa:=by rw[<-hG];exact(Below.refl _ _).alloc (Nat.le_refl _) _
 have xz:w.heap.size<wa.heap.size:=by rw[<-hG];simp
 have e0:=(xa.cell (p:=⟨bC,0,none⟩) hC).trans c0;have e1:=(xa.cell (p:=⟨bC,1,none⟩) hC).trans h1;have e2:=(xa.cell (p:=⟨bC,2,none⟩) hC).trans h2;have e3:=(xa.cell (p:=⟨bC,3,none⟩) hC).trans h3;have e4:=(xa.cell (p:=⟨bC,4,none⟩) hC).trans h4;have ea:=(xa.cell (p:=⟨bR,a,none⟩) hR).trans ra;have eb:=(xa.cell (p:=⟨bR,b,none⟩) hR).trans rb;have ed:=(xa.cell (p:=⟨bR,d,none⟩) hR).trans rd;have ef:=(xa.frozen (p:=⟨bR,d,none⟩) hR).trans hfr;have eg:∀i,wa.frozen? ⟨bC,i,none⟩=false:=fun i=>(xa.frozen (p:=⟨bC,i,none⟩) hC).trans (hf i)
 have zC:bC<wa.heap.size:=by omega
 have zR:bR<wa.heap.size:=by omega
 clear hG c0 ra rb rd hfr h1 h2 h3 h4 hf;refine(addWith_any bC bR cap d a b op imm hh 0 R z c hz hc wa hd ha hb zC zR hCR (by omega) (by omega) pa pb e0 ea eb ed ef e1 e2 e3 e4 eg).mono ?_;rintro e w1⟨rfl,hb1⟩;have HB:Hid _:=(flagged_below hC (setCell_both xa hR (.int .u64 (wadd (R a) (R b) 0)))).trans (hb1.mono (Nat.le_of_lt xz));clear hb1 e0 ea eb ed ef e1 e2 e3 e4 eg;go_wp2;go_end0;exact⟨rfl,HB.out⟩
theorem doAdc_yes(bC bR cap d a b:Nat)(op imm hh:Int)(R:Nat->Int)(z c hz:Bool)(w:World)(hd:d<8)(ha:a<8)(hb:b<8)(hC:bC<w.heap.size)(hR:bR<w.heap.size)(hCR:bC≠bR)(pa:0<=R a)(pb:0<=R b)
 (c0:w.cell? ⟨bC,0,none⟩=some (.slice (some ⟨bR,0,none⟩) 8 cap))(ra:w.cell? ⟨bR,a,none⟩=some (.int .u64 (R a)))(rb:w.cell? ⟨bR,b,none⟩=some (.int .u64 (R b)))(rd:w.cell? ⟨bR,d,none⟩=some (.int .u64 (R d)))(hfr:w.frozen? ⟨bR,d,none⟩=false)(h1:w.cell? ⟨bC,1,none⟩=some (.bool z))(h2:w.cell? ⟨bC,2,none⟩=some (.bool c))(h3:w.cell? ⟨bC,3,none⟩=some (.bool hz))(h4:w.cell? ⟨bC,4,none⟩=some (.bool true))(hf:∀i,w.frozen? ⟨bC,i,none⟩=false):
 Calls Tryz.prog 116 #[.pointer (some ⟨bC,0,none⟩),.agg #[.int .i64 op,.int .i64 d,.int .i64 a,.int .i64 b,.int .i64 imm,.int .i64 hh]] w fun e w'=>e=.returned (.tuple #[])/\Below w.heap.size (flagged (w.setCell ⟨bR,d,none⟩ (.int .u64 (wadd (R a) (R b) (if c then 1 else 0)))) bC (wadd (R a) (R b) (if c then 1 else 0)) (carry (R a) (R b) (if c then 1 else 0))) w':=by
 go_enter Tryz.func116,Tryz.ntmps116;go_wp2_with fail;generalize hG:w.alloc (.cells #[.int .i64 op,.int .i64 d,.int .i64 a,.int .i64 b,.int .i64 imm,.int .i64 hh] 30)=wb;have xb:Below w.heap.size w wb:=by rw[<-hG];exact(Below.refl _ _).alloc (Nat.le_refl _) _
 have xy:w.heap.size<wb.heap.size:=by rw[<-hG];simp
 have j0:wb.cell? ⟨w.heap.size,0,none⟩=some (.int .i64 op):=by rw[<-hG];simp[go_sem]
 have j1:wb.cell? ⟨w.heap.size,1,none⟩=some (.int .i64 d):=by rw[<-hG];simp[go_sem]
 have j2:wb.cell? ⟨w.heap.size,2,none⟩=some (.int .i64 a):=by rw[<-hG];simp[go_sem]
 have j3:wb.cell? ⟨w.heap.size,3,none⟩=some (.int .i64 b):=by rw[<-hG];simp[go_sem]
 have j4:wb.cell? ⟨w.heap.size,4,none⟩=some (.int .i64 imm):=by rw[<-hG];simp[go_sem]
 have j5:wb.cell? ⟨w.heap.size,5,none⟩=some (.int .i64 hh):=by rw[<-hG];simp[go_sem]
 clear hG;refine(carry_yes bC c wb ((xb.cell (p:=⟨bC,2,none⟩) hC).trans h2) ((xb.cell (p:=⟨bC,4,none⟩) hC).trans h4)).mono ?_;rintro e wa⟨rfl,hb0⟩;have xa:Below w.heap.size w wa:=xb.trans (hb0.mono (Nat.le_of_lt xy));have xz:w.heap.size<wa.heap.size:=Nat.lt_of_lt_of_le xy hb0.size;have e0:=(xa.cell (p:=⟨bC,0,none⟩) hC).trans c0;have e1:=(xa.cell (p:=⟨bC,1,none⟩) hC).trans h1;have e2:=(xa.cell (p:=⟨bC,2,none⟩) hC).trans h2;have e3:=(xa.cell (p:=⟨bC,3,none⟩) hC).trans h3;have e4:=(xa.cell (p:=⟨bC,4,none⟩) hC).trans h4;have ea:=(xa.cell (p:=⟨bR,a,none⟩) hR).trans ra;have eb:=(xa.cell (p:=⟨bR,b,none⟩) hR).trans rb;have ed:=(xa.cell (p:=⟨bR,d,none⟩) hR).trans rd;have ef:=(xa.frozen (p:=⟨bR,d,none⟩) hR).trans hfr;have eg:∀i,wa.frozen? ⟨bC,i,none⟩=false:=fun i=>(xa.frozen (p:=⟨bC,i,none⟩) hC).trans (hf i)
 have zC:bC<wa.heap.size:=by omega
 have zR:bR<wa.heap.size:=by omega
 obtain⟨k0,k1,k2,k3,k4,k5⟩:=c6b hb0 xy j0 j1 j2 j3 j4 j5;clear c0 ra rb rd hfr h1 h2 h3 h4 hf;cases c with
 |true=>
  go_wp2_with fail;refine(addWith_any bC bR cap d a b op imm hh 1 R z true hz true wa hd ha hb zC zR hCR (by omega) (by omega) pa pb e0 ea eb ed ef e1 e2 e3 e4 eg).mono ?_;rintro e w1⟨rfl,hb1⟩;have HB:Hid _:=(flagged_below hC (setCell_both xa hR (.int .u64 (wadd (R a) (R b) 1)))).trans (hb1.mono (Nat.le_of_lt xz));clear hb1 e0 ea eb ed ef e1 e2 e3 e4 eg;go_wp2;go_end0;exact⟨rfl,HB.out⟩
 |false=>
  go_wp2_with fail;refine(addWith_any bC bR cap d a b op imm hh 0 R z false hz true wa hd ha hb zC zR hCR (by omega) (by omega) pa pb e0 ea eb ed ef e1 e2 e3 e4 eg).mono ?_;rintro e w1⟨rfl,hb1⟩;have HB:Hid _:=(flagged_below hC (setCell_both xa hR (.int .u64 (wadd (R a) (R b) 0)))).trans (hb1.mono (Nat.le_of_lt xz));clear hb1 e0 ea eb ed ef e1 e2 e3 e4 eg;go_wp2;go_end0;exact⟨rfl,HB.out⟩
theorem setCell_both'{B:Nat}{W X:World}(h:Below B W X){p:Addr}(_hp:p.block<B)(v:Value):Below B (W.setCell p v) (X.setCell p v):=by
 refine⟨h.os,h.tape,h.output,by simpa using h.size,fun k hk=>?_⟩;by_cases e:k=p.block
 ·subst e
  have hb:=h.block p.block hk;unfold World.setCell;simp only[Array.getElem?_modify,hb]
 ·rw[heap_setCell_other _ _ _ _ e,heap_setCell_other _ _ _ _ e]
  exact h.block k hk
theorem selz_yes(bC bR cap d a b bF:Nat)(op imm hh:Int)(R:Nat->Int)(f:Bool)(w:World)(hd:d<8)(ha:a<8)(hb:b<8)(hC:bC<w.heap.size)(hR:bR<w.heap.size)(hF:bF<w.heap.size)
 (c0:w.cell? ⟨bC,0,none⟩=some (.slice (some ⟨bR,0,none⟩) 8 cap))(ra:w.cell? ⟨bR,a,none⟩=some (.int .u64 (R a)))(rb:w.cell? ⟨bR,b,none⟩=some (.int .u64 (R b)))(rd:w.cell? ⟨bR,d,none⟩=some (.int .u64 (R d)))(hfr:w.frozen? ⟨bR,d,none⟩=false)
 (h1:w.cell? ⟨bC,1,none⟩=some (.bool f))(h3:w.cell? ⟨bC,3,none⟩=some (.bool true))(cF:w.cell? ⟨bF,0,none⟩=some (.func (.func 121) #[] #[])):
 Calls Tryz.prog 139 #[.pointer (some ⟨bC,0,none⟩),.agg #[.int .i64 op,.int .i64 d,.int .i64 a,.int .i64 b,.int .i64 imm,.int .i64 hh],.pointer (some ⟨bF,0,none⟩)] w fun e w'=>e=.returned (.tuple #[])/\Below w.heap.size (w.setCell ⟨bR,d,none⟩ (.int .u64 (if f then R a else R b))) w':=by
 have hd':(d:Int)<8:=by omega
 have ha':(a:Int)<8:=by omega
 have hb':(b:Int)<8:=by omega
 go_enter Tryz.func139,Tryz.ntmps139;go_wp2_with fail;generalize hG:w.alloc (.cells #[.int .i64 op,.int .i64 d,.int .i64 a,.int .i64 b,.int .i64 imm,.int .i64 hh] 30)=wb;have xb:Below w.heap.size w wb:=by rw[<-hG];exact(Below.refl _ _).alloc (Nat.le_refl _) _
 have xy:w.heap.size<wb.heap.size:=by rw[<-hG];simp
 have j1:wb.cell? ⟨w.heap.size,1,none⟩=some (.int .i64 d):=by rw[<-hG];simp[go_sem]
 have j2:wb.cell? ⟨w.heap.size,2,none⟩=some (.int .i64 a):=by rw[<-hG];simp[go_sem]
 have j3:wb.cell? ⟨w.heap.size,3,none⟩=some (.int .i64 b):=by rw[<-hG];simp[go_sem]
 clear hG;refine(zero_yes bC f wb ((xb.cell (p:=⟨bC,1,none⟩) hC).trans h1) ((xb.cell (p:=⟨bC,3,none⟩) hC).trans h3)).mono ?_;rintro e wa⟨rfl,hb0⟩;have xa:Below w.heap.size w wa:=xb.trans (hb0.mono (Nat.le_of_lt xy));have k1:=(hb0.cell (p:=⟨w.heap.size,1,none⟩) xy).trans j1;have k2:=(hb0.cell (p:=⟨w.heap.size,2,none⟩) xy).trans j2;have k3:=(hb0.cell (p:=⟨w.heap.size,3,none⟩) xy).trans j3;have e0:=(xa.cell (p:=⟨bC,0,none⟩) hC).trans c0;have ea:=(xa.cell (p:=⟨bR,a,none⟩) hR).trans ra;have eb:=(xa.cell (p:=⟨bR,b,none⟩) hR).trans rb;have ed:=(xa.cell (p:=⟨bR,d,none⟩) hR).trans rd;have ef:=(xa.frozen (p:=⟨bR,d,none⟩) hR).trans hfr;clear c0 ra rb rd hfr h1 h3 cF j1 j2 j3 hb0;cases f with
 |true=>
  go_wp2_with fail;go_region;all_goals(go_wp2;go_end0;exact⟨rfl,(setCell_both' xa hR _).drew⟩)
 |false=>
  go_wp2_with fail;go_region;all_goals(go_wp2;go_end0;exact⟨rfl,(setCell_both' xa hR _).drew⟩)
theorem selz_no(bC bF:Nat)(op d a b imm hh:Int)(f:Bool)(w:World)(hC:bC<w.heap.size)(hF:bF<w.heap.size)
 (h1:w.cell? ⟨bC,1,none⟩=some (.bool f))(h3:w.cell? ⟨bC,3,none⟩=some (.bool false))(cF:w.cell? ⟨bF,0,none⟩=some (.func (.func 121) #[] #[])):
 Calls Tryz.prog 139 #[.pointer (some ⟨bC,0,none⟩),.agg #[.int .i64 op,.int .i64 d,.int .i64 a,.int .i64 b,.int .i64 imm,.int .i64 hh],.pointer (some ⟨bF,0,none⟩)] w fun e w'=>e=.panicked [{v:=.iface 124 (.agg #[]),recovered:=false}]/\Below w.heap.size w w':=by
 go_enter Tryz.func139,Tryz.ntmps139;go_wp2_with fail;have xb:Below w.heap.size w (w.alloc (.cells #[.int .i64 op,.int .i64 d,.int .i64 a,.int .i64 b,.int .i64 imm,.int .i64 hh] 30)):=(Below.refl _ _).alloc (Nat.le_refl _) _;refine(zero_no bC f _ (by simp;omega) ((xb.cell (p:=⟨bC,1,none⟩) hC).trans h1) ((xb.cell (p:=⟨bC,3,none⟩) hC).trans h3)).mono ?_;rintro e wa⟨rfl,hb0⟩;exact⟨rfl,rfl,xb.trans (hb0.mono (by simp))⟩
theorem selc_yes(bC bR cap d a b bF:Nat)(op imm hh:Int)(R:Nat->Int)(f:Bool)(w:World)(hd:d<8)(ha:a<8)(hb:b<8)(hC:bC<w.heap.size)(hR:bR<w.heap.size)(hF:bF<w.heap.size)
 (c0:w.cell? ⟨bC,0,none⟩=some (.slice (some ⟨bR,0,none⟩) 8 cap))(ra:w.cell? ⟨bR,a,none⟩=some (.int .u64 (R a)))(rb:w.cell? ⟨bR,b,none⟩=some (.int .u64 (R b)))(rd:w.cell? ⟨bR,d,none⟩=some (.int .u64 (R d)))(hfr:w.frozen? ⟨bR,d,none⟩=false)
 (h1:w.cell? ⟨bC,2,none⟩=some (.bool f))(h3:w.cell? ⟨bC,4,none⟩=some (.bool true))(cF:w.cell? ⟨bF,0,none⟩=some (.func (.func 122) #[] #[])):
 Calls Tryz.prog 139 #[.pointer (some ⟨bC,0,none⟩),.agg #[.int .i64 op,.int .i64 d,.int .i64 a,.int .i64 b,.int .i64 imm,.int .i64 hh],.pointer (some ⟨bF,0,none⟩)] w fun e w'=>e=.returned (.tuple #[])/\Below w.heap.size (w.setCell ⟨bR,d,none⟩ (.int .u64 (if f then R a else R b))) w':=by
 have hd':(d:Int)<8:=by omega
 have ha':(a:Int)<8:=by omega
 have hb':(b:Int)<8:=by omega
 go_enter Tryz.func139,Tryz.ntmps139;go_wp2_with fail;generalize hG:w.alloc (.cells #[.int .i64 op,.int .i64 d,.int .i64 a,.int .i64 b,.int .i64 imm,.int .i64 hh] 30)=wb;have xb:Below w.heap.size w wb:=by rw[<-hG];exact(Below.refl _ _).alloc (Nat.le_refl _) _
 have xy:w.heap.size<wb.heap.size:=by rw[<-hG];simp
 have j1:wb.cell? ⟨w.heap.size,1,none⟩=some (.int .i64 d):=by rw[<-hG];simp[go_sem]
 have j2:wb.cell? ⟨w.heap.size,2,none⟩=some (.int .i64 a):=by rw[<-hG];simp[go_sem]
 have j3:wb.cell? ⟨w.heap.size,3,none⟩=some (.int .i64 b):=by rw[<-hG];simp[go_sem]
 clear hG;refine(carry_yes bC f wb ((xb.cell (p:=⟨bC,2,none⟩) hC).trans h1) ((xb.cell (p:=⟨bC,4,none⟩) hC).trans h3)).mono ?_;rintro e wa⟨rfl,hb0⟩;have xa:Below w.heap.size w wa:=xb.trans (hb0.mono (Nat.le_of_lt xy));have k1:=(hb0.cell (p:=⟨w.heap.size,1,none⟩) xy).trans j1;have k2:=(hb0.cell (p:=⟨w.heap.size,2,none⟩) xy).trans j2;have k3:=(hb0.cell (p:=⟨w.heap.size,3,none⟩) xy).trans j3;have e0:=(xa.cell (p:=⟨bC,0,none⟩) hC).trans c0;have ea:=(xa.cell (p:=⟨bR,a,none⟩) hR).trans ra;have eb:=(xa.cell (p:=⟨bR,b,none⟩) hR).trans rb;have ed:=(xa.cell (p:=⟨bR,d,none⟩) hR).trans rd;have ef:=(xa.frozen (p:=⟨bR,d,none⟩) hR).trans hfr;clear c0 ra rb rd hfr h1 h3 cF j1 j2 j3 hb0;cases f with
 |true=>
  go_wp2_with fail;go_region;all_goals(go_wp2;go_end0;exact⟨rfl,(setCell_both' xa hR _).drew⟩)
 |false=>
  go_wp2_with fail;go_region;all_goals(go_wp2;go_end0;exact⟨rfl,(setCell_both' xa hR _).drew⟩)
theorem selc_no(bC bF:Nat)(op d a b imm hh:Int)(f:Bool)(w:World)(hC:bC<w.heap.size)(hF:bF<w.heap.size)
 (h1:w.cell? ⟨bC,2,none⟩=some (.bool f))(h3:w.cell? ⟨bC,4,none⟩=some (.bool false))(cF:w.cell? ⟨bF,0,none⟩=some (.func (.func 122) #[] #[])):
 Calls Tryz.prog 139 #[.pointer (some ⟨bC,0,none⟩),.agg #[.int .i64 op,.int .i64 d,.int .i64 a,.int .i64 b,.int .i64 imm,.int .i64 hh],.pointer (some ⟨bF,0,none⟩)] w fun e w'=>e=.panicked [{v:=.iface 124 (.agg #[]),recovered:=false}]/\Below w.heap.size w w':=by
 go_enter Tryz.func139,Tryz.ntmps139;go_wp2_with fail;have xb:Below w.heap.size w (w.alloc (.cells #[.int .i64 op,.int .i64 d,.int .i64 a,.int .i64 b,.int .i64 imm,.int .i64 hh] 30)):=(Below.refl _ _).alloc (Nat.le_refl _) _;refine(carry_no bC f _ (by simp;omega) ((xb.cell (p:=⟨bC,2,none⟩) hC).trans h1) ((xb.cell (p:=⟨bC,4,none⟩) hC).trans h3)).mono ?_;rintro e wa⟨rfl,hb0⟩;exact⟨rfl,rfl,xb.trans (hb0.mono (by simp))⟩
theorem ownsRow_below{w w':World}{base e size n:Nat}{v:Value}{xs:List Value}(h:w.ownsRow base e size v n xs)(hb:Below w.heap.size w w'):w'.ownsRow base e size v n xs:=by
 refine⟨h.1,?_⟩;rcases h.2 with h0|⟨g,cap,cur,hv,hg,hh,r⟩
 ·exact .inl h0
 ·refine .inr ⟨g,cap,cur,hv,hg,?_,r⟩
  have:g<w.heap.size:=by
   by_cases hl:g<w.heap.size
   ·exact hl
   ·rw[Array.getElem?_eq_none (by omega)]at hh;cases hh
  rw[hb.block g this];exact hh
theorem grownBy_below{w w' w1:World}{ob:Option Nat}(hb:Below w.heap.size w w')(h:w'.grownBy w1 ob):w.grownBy w1 ob:=
 ⟨h.os.trans hb.os,h.tape.trans hb.tape,h.output.trans hb.output,Nat.le_trans hb.size h.size,fun k hk hne=>(h.block k (Nat.lt_of_lt_of_le hk hb.size) hne).trans (hb.block k hk)⟩
theorem jumpz_yes(base bC bF bW n:Nat)(op d a b imm hh nx:Int)(f wv:Bool)(vO:Value)(xs:List Value)(w:World)(hn:n<=1048576)(hbase:base<=w.heap.size)(hC:bC<w.heap.size)(hF:bF<w.heap.size)(hW:bW<w.heap.size)(hne:some bC≠vO.ownBlock)
 (c8:w.cell? ⟨bC,8,none⟩=some vO)(c9:w.cell? ⟨bC,9,none⟩=some (.int .i64 nx))(hf:∀i,w.frozen? ⟨bC,i,none⟩=false)(hown:w.ownsRow base 82 2 vO n xs)
 (h1:w.cell? ⟨bC,1,none⟩=some (.bool f))(h3:w.cell? ⟨bC,3,none⟩=some (.bool true))(cF:w.cell? ⟨bF,0,none⟩=some (.func (.func 121) #[] #[]))(cW:w.cell? ⟨bW,0,none⟩=some (.bool wv)):
 Calls Tryz.prog 144 #[.pointer (some ⟨bC,0,none⟩),.agg #[.int .i64 op,.int .i64 d,.int .i64 a,.int .i64 b,.int .i64 imm,.int .i64 hh],.pointer (some ⟨bF,0,none⟩),.pointer (some ⟨bW,0,none⟩)] w fun e w'=>∃v' w1,e=.returned (.tuple #[])/\
  w1.ownsRow base 82 2 v' (n+1) (xs++[.int .i64 2,.int .u64 (if f==wv then 1 else 0)])/\w.grownBy w1 vO.ownBlock/\w'=if f==wv then(w1.setCell ⟨bC,8,none⟩ v').setCell ⟨bC,9,none⟩ (.int .i64 imm)else w1.setCell ⟨bC,8,none⟩ v':=by
 have HO:Hid (w.ownsRow base 82 2 vO n xs):=hown;have HF:Hid (∀i,w.frozen? ⟨bC,i,none⟩=false):=hf;clear hown hf;go_enter Tryz.func144,Tryz.ntmps144;go_wp2_with fail;generalize hG:w.alloc (.cells #[.int .i64 op,.int .i64 d,.int .i64 a,.int .i64 b,.int .i64 imm,.int .i64 hh] 30)=wb;have xb:Below w.heap.size w wb:=by rw[<-hG];exact(Below.refl _ _).alloc (Nat.le_refl _) _
 have xy:w.heap.size<wb.heap.size:=by rw[<-hG];simp
 have j4:wb.cell? ⟨w.heap.size,4,none⟩=some (.int .i64 imm):=by rw[<-hG];simp[go_sem]
 have zC:bC<wb.heap.size:=by omega
 have zF:bF<wb.heap.size:=by omega
 have zW:bW<wb.heap.size:=by omega
 have e1:wb.drew.cell? ⟨bC,1,none⟩=some (.bool f):=(xb.cell (p:=⟨bC,1,none⟩) hC).trans h1;have e3:wb.drew.cell? ⟨bC,3,none⟩=some (.bool true):=(xb.cell (p:=⟨bC,3,none⟩) hC).trans h3;have R0:∀w',Below wb.heap.size wb w'->w'.cell? ⟨bF,0,none⟩=some (.func (.func 121) #[] #[]):=fun w' h=>(h.cell (p:=⟨bF,0,none⟩) zF).trans ((xb.cell (p:=⟨bF,0,none⟩) hF).trans cF)
 have R1:∀w',Below wb.heap.size wb w'->w'.cell? ⟨bW,0,none⟩=some (.bool wv):=fun w' h=>(h.cell (p:=⟨bW,0,none⟩) zW).trans ((xb.cell (p:=⟨bW,0,none⟩) hW).trans cW)
 clear hG h1 h3 cF cW;refine wp_region_held_drew (S:=fun w'=>Below wb.heap.size wb w') (by kernel_rfl) ((Below.refl _ _).drew) (fun hHeld=>?_);refine wpAnyH_ta 0 rfl ?_;refine wpAnyH_ta 1 rfl ?_;refine wpAnyH_ta 3 rfl ?_;refine wpAnyH_ready (rs:=[2]) (by kernel_rfl) (by simp) ?_;refine AllReadyH.cons rfl (fun K hK=>?_) AllReadyH.nil;go_simp;refine(zero_yes bC f wb.drew e1 e3).mono ?_;rintro e wa⟨rfl,hb0⟩;go_wp2_with fail;refine hK.out _ _ ((Below.refl _ _).drew.trans hb0) (fun hHeld2=>?_);clear hK K;refine wpAnyH_ta 4 rfl ?_;refine wpAnyH_done (by kernel_rfl) ?_ _;have xa:Below w.heap.size w wa:=xb.trans (((Below.refl _ _).drew.trans hb0).mono (Nat.le_of_lt xy));have xz:w.heap.size<wa.heap.size:=Nat.lt_of_lt_of_le xy hb0.size;have k4:=(hb0.cell (p:=⟨w.heap.size,4,none⟩) xy).trans j4;have k8:=(xa.cell (p:=⟨bC,8,none⟩) hC).trans c8;have k9:=(xa.cell (p:=⟨bC,9,none⟩) hC).trans c9;have f8:=(xa.frozen (p:=⟨bC,8,none⟩) hC).trans (HF.out 8);have f9:=(xa.frozen (p:=⟨bC,9,none⟩) hC).trans (HF.out 9);clear e1 e3 R0 R1 c8 c9 j4 hb0;cases hq:(f==wv)with
 |true=>
  go_wp2_with fail;refine(see_any base bC n vO xs 2 1 _ hn (by omega) (by omega) hne k8 f8 (ownsRow_below HO.out xa)).mono ?_;rintro e w2⟨v',w1,rfl,o1,g1,hw2⟩;have hs:some w.heap.size≠vO.ownBlock:=fun e1=>by
   have:=(HO.out.lt _ e1.symm).2;omega
  have HX:Hid _:=o1;have HY:Hid _:=grownBy_below xa g1;have zc:bC<wa.heap.size:=Nat.lt_of_lt_of_le hC xa.size;have q4:=(World.cell?_of_block (a:=⟨w.heap.size,4,none⟩) (g1.block w.heap.size xz hs)).trans k4;have q9:=(World.cell?_of_block (a:=⟨bC,9,none⟩) (g1.block bC zc hne)).trans k9;have t9:=(World.frozen?_of_block (a:=⟨bC,9,none⟩) (g1.block bC zc hne)).trans f9;have q8:=(World.cell?_of_block (a:=⟨bC,8,none⟩) (g1.block bC zc hne)).trans k8;have xn:bC≠w.heap.size:=by omega
  have r4:=(World.cell?_setCell_far w1 ⟨bC,8,none⟩ ⟨w.heap.size,4,none⟩ v' xn).trans q4;have t9':=(World.frozen?_setCell w1 ⟨bC,8,none⟩ ⟨bC,9,none⟩ v').trans t9;clear o1 g1 k4 k8 k9 f8 f9;subst hw2;go_wp2;go_end0;exact⟨rfl,v',w1,HX.out,HY.out,rfl⟩
 |false=>
  go_wp2_with fail;refine(see_any base bC n vO xs 2 0 _ hn (by omega) (by omega) hne k8 f8 (ownsRow_below HO.out xa)).mono ?_;rintro e w2⟨v',w1,rfl,o1,g1,hw2⟩;have HX:Hid _:=o1;have HY:Hid _:=grownBy_below xa g1;have HZ:Hid _:=hw2;clear o1 g1 hw2 k4 k8 k9 f8 f9;go_wp2;all_goals go_end0
  all_goals exact⟨rfl,v',w1,HX.out,HY.out,HZ.out⟩
theorem jumpc_yes(base bC bF bW n:Nat)(op d a b imm hh nx:Int)(f wv:Bool)(vO:Value)(xs:List Value)(w:World)(hn:n<=1048576)(hbase:base<=w.heap.size)(hC:bC<w.heap.size)(hF:bF<w.heap.size)(hW:bW<w.heap.size)(hne:some bC≠vO.ownBlock)
 (c8:w.cell? ⟨bC,8,none⟩=some vO)(c9:w.cell? ⟨bC,9,none⟩=some (.int .i64 nx))(hf:∀i,w.frozen? ⟨bC,i,none⟩=false)(hown:w.ownsRow base 82 2 vO n xs)
 (h1:w.cell? ⟨bC,2,none⟩=some (.bool f))(h3:w.cell? ⟨bC,4,none⟩=some (.bool true))(cF:w.cell? ⟨bF,0,none⟩=some (.func (.func 122) #[] #[]))(cW:w.cell? ⟨bW,0,none⟩=some (.bool wv)):
 Calls Tryz.prog 144 #[.pointer (some ⟨bC,0,none⟩),.agg #[.int .i64 op,.int .i64 d,.int .i64 a,.int .i64 b,.int .i64 imm,.int .i64 hh],.pointer (some ⟨bF,0,none⟩),.pointer (some ⟨bW,0,none⟩)] w fun e w'=>∃v' w1,e=.returned (.tuple #[])/\
  w1.ownsRow base 82 2 v' (n+1) (xs++[.int .i64 2,.int .u64 (if f==wv then 1 else 0)])/\w.grownBy w1 vO.ownBlock/\w'=if f==wv then(w1.setCell ⟨bC,8,none⟩ v').setCell ⟨bC,9,none⟩ (.int .i64 imm)else w1.setCell ⟨bC,8,none⟩ v':=by
 have HO:Hid (w.ownsRow base 82 2 vO n xs):=hown;have HF:Hid (∀i,w.frozen? ⟨bC,i,none⟩=false):=hf;clear hown hf;go_enter Tryz.func144,Tryz.ntmps144;go_wp2_with fail;generalize hG:w.alloc (.cells #[.int .i64 op,.int .i64 d,.int .i64 a,.int .i64 b,.int .i64 imm,.int .i64 hh] 30)=wb;have xb:Below w.heap.size w wb:=by rw[<-hG];exact(Below.refl _ _).alloc (Nat.le_refl _) _
 have xy:w.heap.size<wb.heap.size:=by rw[<-hG];simp
 have j4:wb.cell? ⟨w.heap.size,4,none⟩=some (.int .i64 imm):=by rw[<-hG];simp[go_sem]
 have zC:bC<wb.heap.size:=by omega
 have zF:bF<wb.heap.size:=by omega
 have zW:bW<wb.heap.size:=by omega
 have e1:wb.drew.cell? ⟨bC,2,none⟩=some (.bool f):=(xb.cell (p:=⟨bC,2,none⟩) hC).trans h1;have e3:wb.drew.cell? ⟨bC,4,none⟩=some (.bool true):=(xb.cell (p:=⟨bC,4,none⟩) hC).trans h3;have R0:∀w',Below wb.heap.size wb w'->w'.cell? ⟨bF,0,none⟩=some (.func (.func 122) #[] #[]):=fun w' h=>(h.cell (p:=⟨bF,0,none⟩) zF).trans ((xb.cell (p:=⟨bF,0,none⟩) hF).trans cF)
 have R1:∀w',Below wb.heap.size wb w'->w'.cell? ⟨bW,0,none⟩=some (.bool wv):=fun w' h=>(h.cell (p:=⟨bW,0,none⟩) zW).trans ((xb.cell (p:=⟨bW,0,none⟩) hW).trans cW)
 clear hG h1 h3 cF cW;refine wp_region_held_drew (S:=fun w'=>Below wb.heap.size wb w') (by kernel_rfl) ((Below.refl _ _).drew) (fun hHeld=>?_);refine wpAnyH_ta 0 rfl ?_;refine wpAnyH_ta 1 rfl ?_;refine wpAnyH_ta 3 rfl ?_;refine wpAnyH_ready (rs:=[2]) (by kernel_rfl) (by simp) ?_;refine AllReadyH.cons rfl (fun K hK=>?_) AllReadyH.nil;go_simp;refine(carry_yes bC f wb.drew e1 e3).mono ?_;rintro e wa⟨rfl,hb0⟩;go_wp2_with fail;refine hK.out _ _ ((Below.refl _ _).drew.trans hb0) (fun hHeld2=>?_);clear hK K;refine wpAnyH_ta 4 rfl ?_;refine wpAnyH_done (by kernel_rfl) ?_ _;have xa:Below w.heap.size w wa:=xb.trans (((Below.refl _ _).drew.trans hb0).mono (Nat.le_of_lt xy));have xz:w.heap.size<wa.heap.size:=Nat.lt_of_lt_of_le xy hb0.size;have k4:=(hb0.cell (p:=⟨w.heap.size,4,none⟩) xy).trans j4;have k8:=(xa.cell (p:=⟨bC,8,none⟩) hC).trans c8;have k9:=(xa.cell (p:=⟨bC,9,none⟩) hC).trans c9;have f8:=(xa.frozen (p:=⟨bC,8,none⟩) hC).trans (HF.out 8);have f9:=(xa.frozen (p:=⟨bC,9,none⟩) hC).trans (HF.out 9);clear e1 e3 R0 R1 c8 c9 j4 hb0;cases hq:(f==wv)with
 |true=>
  go_wp2_with fail;refine(see_any base bC n vO xs 2 1 _ hn (by omega) (by omega) hne k8 f8 (ownsRow_below HO.out xa)).mono ?_;rintro e w2⟨v',w1,rfl,o1,g1,hw2⟩;have hs:some w.heap.size≠vO.ownBlock:=fun e1=>by
   have:=(HO.out.lt _ e1.symm).2;omega
  have HX:Hid _:=o1;have HY:Hid _:=grownBy_below xa g1;have zc:bC<wa.heap.size:=Nat.lt_of_lt_of_le hC xa.size;have q4:=(World.cell?_of_block (a:=⟨w.heap.size,4,none⟩) (g1.block w.heap.size xz hs)).trans k4;have q9:=(World.cell?_of_block (a:=⟨bC,9,none⟩) (g1.block bC zc hne)).trans k9;have t9:=(World.frozen?_of_block (a:=⟨bC,9,none⟩) (g1.block bC zc hne)).trans f9;have q8:=(World.cell?_of_block (a:=⟨bC,8,none⟩) (g1.block bC zc hne)).trans k8;have xn:bC≠w.heap.size:=by omega
  have r4:=(World.cell?_setCell_far w1 ⟨bC,8,none⟩ ⟨w.heap.size,4,none⟩ v' xn).trans q4;have t9':=(World.frozen?_setCell w1 ⟨bC,8,none⟩ ⟨bC,9,none⟩ v').trans t9;clear o1 g1 k4 k8 k9 f8 f9;subst hw2;go_wp2;go_end0;exact⟨rfl,v',w1,HX.out,HY.out,rfl⟩
 |false=>
  go_wp2_with fail;refine(see_any base bC n vO xs 2 0 _ hn (by omega) (by omega) hne k8 f8 (ownsRow_below HO.out xa)).mono ?_;rintro e w2⟨v',w1,rfl,o1,g1,hw2⟩;have HX:Hid _:=o1;have HY:Hid _:=grownBy_below xa g1;have HZ:Hid _:=hw2;clear o1 g1 hw2 k4 k8 k9 f8 f9;go_wp2;all_goals go_end0
  all_goals exact⟨rfl,v',w1,HX.out,HY.out,HZ.out⟩
theorem doAdc_no(bC:Nat)(op d a b imm hh:Int)(c:Bool)(w:World)(hC:bC<w.heap.size)(h2:w.cell? ⟨bC,2,none⟩=some (.bool c))(h4:w.cell? ⟨bC,4,none⟩=some (.bool false)):
 Calls Tryz.prog 116 #[.pointer (some ⟨bC,0,none⟩),.agg #[.int .i64 op,.int .i64 d,.int .i64 a,.int .i64 b,.int .i64 imm,.int .i64 hh]] w fun e w'=>e=.panicked [{v:=.iface 124 (.agg #[]),recovered:=false}]/\Below w.heap.size w w':=by
 go_enter Tryz.func116,Tryz.ntmps116;go_wp2_with fail;have xb:Below w.heap.size w (w.alloc (.cells #[.int .i64 op,.int .i64 d,.int .i64 a,.int .i64 b,.int .i64 imm,.int .i64 hh] 30)):=(Below.refl _ _).alloc (Nat.le_refl _) _;refine(carry_no bC c _ (by simp;omega) ((xb.cell (p:=⟨bC,2,none⟩) hC).trans h2) ((xb.cell (p:=⟨bC,4,none⟩) hC).trans h4)).mono ?_;rintro e wa⟨rfl,hb0⟩;exact⟨rfl,rfl,xb.trans (hb0.mono (by simp))⟩
theorem jumpz_no(bC bF bW:Nat)(op d a b imm hh:Int)(f wv:Bool)(w:World)(hC:bC<w.heap.size)(hF:bF<w.heap.size)(hW:bW<w.heap.size)
 (h1:w.cell? ⟨bC,1,none⟩=some (.bool f))(h3:w.cell? ⟨bC,3,none⟩=some (.bool false))(cF:w.cell? ⟨bF,0,none⟩=some (.func (.func 121) #[] #[]))(cW:w.cell? ⟨bW,0,none⟩=some (.bool wv)):
 Calls Tryz.prog 144 #[.pointer (some ⟨bC,0,none⟩),.agg #[.int .i64 op,.int .i64 d,.int .i64 a,.int .i64 b,.int .i64 imm,.int .i64 hh],.pointer (some ⟨bF,0,none⟩),.pointer (some ⟨bW,0,none⟩)] w fun e w'=>e=.panicked [{v:=.iface 124 (.agg #[]),recovered:=false}]/\Below w.heap.size w w':=by
 go_enter Tryz.func144,Tryz.ntmps144;go_wp2_with fail;generalize hG:w.alloc (.cells #[.int .i64 op,.int .i64 d,.int .i64 a,.int .i64 b,.int .i64 imm,.int .i64 hh] 30)=wb;have xb:Below w.heap.size w wb:=by rw[<-hG];exact(Below.refl _ _).alloc (Nat.le_refl _) _
 have xy:w.heap.size<wb.heap.size:=by rw[<-hG];simp
 have zC:bC<wb.heap.size:=by omega
 have zF:bF<wb.heap.size:=by omega
 have zW:bW<wb.heap.size:=by omega
 have e1:wb.drew.cell? ⟨bC,1,none⟩=some (.bool f):=(xb.cell (p:=⟨bC,1,none⟩) hC).trans h1;have e3:wb.drew.cell? ⟨bC,3,none⟩=some (.bool false):=(xb.cell (p:=⟨bC,3,none⟩) hC).trans h3;have R0:∀w',Below wb.heap.size wb w'->w'.cell? ⟨bF,0,none⟩=some (.func (.func 121) #[] #[]):=fun w' h=>(h.cell (p:=⟨bF,0,none⟩) zF).trans ((xb.cell (p:=⟨bF,0,none⟩) hF).trans cF)
 have R1:∀w',Below wb.heap.size wb w'->w'.cell? ⟨bW,0,none⟩=some (.bool wv):=fun w' h=>(h.cell (p:=⟨bW,0,none⟩) zW).trans ((xb.cell (p:=⟨bW,0,none⟩) hW).trans cW)
 clear hG h1 h3 cF cW;refine wp_region_held_drew (S:=fun w'=>Below wb.heap.size wb w') (by kernel_rfl) ((Below.refl _ _).drew) (fun hHeld=>?_);refine wpAnyH_ta 0 rfl ?_;refine wpAnyH_ta 1 rfl ?_;refine wpAnyH_ta 3 rfl ?_;refine wpAnyH_ready (rs:=[2]) (by kernel_rfl) (by simp) ?_;refine AllReadyH.cons rfl (fun K hK=>?_) AllReadyH.nil;go_simp;refine(zero_no bC f wb.drew (by exact zC) e1 e3).mono ?_;rintro e wa⟨rfl,hb0⟩;exact⟨rfl,rfl,xb.trans (((Below.refl _ _).drew.trans hb0).mono (Nat.le_of_lt xy))⟩
theorem jumpc_no(bC bF bW:Nat)(op d a b imm hh:Int)(f wv:Bool)(w:World)(hC:bC<w.heap.size)(hF:bF<w.heap.size)(hW:bW<w.heap.size)
 (h1:w.cell? ⟨bC,2,none⟩=some (.bool f))(h3:w.cell? ⟨bC,4,none⟩=some (.bool false))(cF:w.cell? ⟨bF,0,none⟩=some (.func (.func 122) #[] #[]))(cW:w.cell? ⟨bW,0,none⟩=some (.bool wv)):
 Calls Tryz.prog 144 #[.pointer (some ⟨bC,0,none⟩),.agg #[.int .i64 op,.int .i64 d,.int .i64 a,.int .i64 b,.int .i64 imm,.int .i64 hh],.pointer (some ⟨bF,0,none⟩),.pointer (some ⟨bW,0,none⟩)] w fun e w'=>e=.panicked [{v:=.iface 124 (.agg #[]),recovered:=false}]/\Below w.heap.size w w':=by
 go_enter Tryz.func144,Tryz.ntmps144;go_wp2_with fail;generalize hG:w.alloc (.cells #[.int .i64 op,.int .i64 d,.int .i64 a,.int .i64 b,.int .i64 imm,.int .i64 hh] 30)=wb;have xb:Below w.heap.size w wb:=by rw[<-hG];exact(Below.refl _ _).alloc (Nat.le_refl _) _
 have xy:w.heap.size<wb.heap.size:=by rw[<-hG];simp
 have zC:bC<wb.heap.size:=by omega
 have zF:bF<wb.heap.size:=by omega
 have zW:bW<wb.heap.size:=by omega
 have e1:wb.drew.cell? ⟨bC,2,none⟩=some (.bool f):=(xb.cell (p:=⟨bC,2,none⟩) hC).trans h1;have e3:wb.drew.cell? ⟨bC,4,none⟩=some (.bool false):=(xb.cell (p:=⟨bC,4,none⟩) hC).trans h3;have R0:∀w',Below wb.heap.size wb w'->w'.cell? ⟨bF,0,none⟩=some (.func (.func 122) #[] #[]):=fun w' h=>(h.cell (p:=⟨bF,0,none⟩) zF).trans ((xb.cell (p:=⟨bF,0,none⟩) hF).trans cF)
 have R1:∀w',Below wb.heap.size wb w'->w'.cell? ⟨bW,0,none⟩=some (.bool wv):=fun w' h=>(h.cell (p:=⟨bW,0,none⟩) zW).trans ((xb.cell (p:=⟨bW,0,none⟩) hW).trans cW)
 clear hG h1 h3 cF cW;refine wp_region_held_drew (S:=fun w'=>Below wb.heap.size wb w') (by kernel_rfl) ((Below.refl _ _).drew) (fun hHeld=>?_);refine wpAnyH_ta 0 rfl ?_;refine wpAnyH_ta 1 rfl ?_;refine wpAnyH_ta 3 rfl ?_;refine wpAnyH_ready (rs:=[2]) (by kernel_rfl) (by simp) ?_;refine AllReadyH.cons rfl (fun K hK=>?_) AllReadyH.nil;go_simp;refine(carry_no bC f wb.drew (by exact zC) e1 e3).mono ?_;rintro e wa⟨rfl,hb0⟩;exact⟨rfl,rfl,xb.trans (((Below.refl _ _).drew.trans hb0).mono (Nat.le_of_lt xy))⟩
end Go.Proofs.YtbahofiiaodpdaaGreat
