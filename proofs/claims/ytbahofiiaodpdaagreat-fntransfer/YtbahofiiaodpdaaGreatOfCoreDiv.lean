import Derived.Test.YtbahofiiaodpdaaGreatOfBytes
import Derived.Test.YtbahofiiaodpdaaGreatOfCoreNum
import Derived.Test.YtbahofiiaodpdaaGreatOfCoreAdd
import Derived.Test.YtbahofiiaodpdaaGreatOfCoreNo
import Derived.Test.YtbahofiiaodpdaaGreatOfLen64
set_option maxHeartbeats 1000000
namespace Go.Proofs.YtbahofiiaodpdaaGreat
open Go.RowKit
section
variable{w:World}{base bC:Nat}{p:Pl}{nx:Int}{tab:List Value}{M:MV}
theorem res_done{w' X:World}{p':Pl}{nx':Int}{M':MV}(hX:Core X base bC p' nx' tab M')(hs:X.heap.size=w.heap.size)(kp:Keep w X)(h0:Below base w X)(hB:base<=w.heap.size)(hb:Below w.heap.size X w'):Res base bC tab w (.done M' nx') (.returned (.tuple #[])) w':=
 ⟨h0.trans (hb.mono hB),kp.trans (Keep.below (by rw[hs];exact hb)),rfl,p',hX.below (by rw[hs];exact hb)⟩
theorem res_flt{w':World}(h:Core w base bC p nx tab M)(hb:Below w.heap.size w w'):Res base bC tab w (.flt M) (.panicked [{v:=.iface 124 (.agg #[]),recovered:=false}]) w':=
 ⟨hb.mono h.size,Keep.below hb,rfl,p,nx,h.below hb⟩
theorem below_flagged{bC:Nat}{r k:Int}{B:Nat}{X:World}(hC:B<=bC)(h:Below B w X):Below B w (flagged X bC r k):=
 (((h.setCell (by simpa using hC) _).setCell (by simpa using hC) _).setCell (by simpa using hC) _).setCell (by simpa using hC) _
theorem op_mov(h0:Core w base bC p nx tab M)(_hk:M.Ok)(op:Int)(d a b h:Nat)(imm:Int)(hd:d<8)(ha:a<8):
 Calls Tryz.prog 102 #[.pointer (some ⟨bC,0,none⟩),.agg #[.int .i64 op,.int .i64 d,.int .i64 a,.int .i64 b,.int .i64 imm,.int .i64 h]] w (Res base bC tab w (exec 1 d a b h imm M nx)):=by
 refine(doMov_any bC p.bR p.cR d a op b imm h M.R w hd ha h0.lt.2 h0.ltR.2 h0.c0 (h0.reg ha) (h0.reg hd) (h0.freeR d)).mono ?_;rintro e w'⟨rfl,hw⟩;exact res_done (h0.setR d _) (by simp) (h0.keepR d _) ((Below.refl _ _).setCell (by simpa using h0.ltR.1) _) h0.size hw
theorem op_movi(h0:Core w base bC p nx tab M)(_hk:M.Ok)(op:Int)(d a b h:Nat)(imm:Int)(hd:d<8):
 Calls Tryz.prog 103 #[.pointer (some ⟨bC,0,none⟩),.agg #[.int .i64 op,.int .i64 d,.int .i64 a,.int .i64 b,.int .i64 imm,.int .i64 h]] w (Res base bC tab w (exec 2 d a b h imm M nx)):=by
 refine(doMovi_any bC p.bR p.cR d op a b imm h M.R w hd h0.lt.2 h0.ltR.2 h0.c0 (h0.reg hd) (h0.freeR d)).mono ?_;rintro e w'⟨rfl,hw⟩;exact res_done (h0.setR d _) (by simp) (h0.keepR d _) ((Below.refl _ _).setCell (by simpa using h0.ltR.1) _) h0.size hw
theorem op_reg_sum(h0:Core w base bC p nx tab M)(_hk:M.Ok){bF:Nat}(op:Int)(d a b h:Nat)(imm:Int)(hd:d<8)(ha:a<8)(hb:b<8)(cF:w.cell? ⟨bF,0,none⟩=some (.func (.func 105) #[] #[]))(lF:bF<w.heap.size):
 Calls Tryz.prog 134 #[.pointer (some ⟨bC,0,none⟩),.agg #[.int .i64 op,.int .i64 d,.int .i64 a,.int .i64 b,.int .i64 imm,.int .i64 h],.pointer (some ⟨bF,0,none⟩)] w (Res base bC tab w (exec 3 d a b h imm M nx)):=by
 refine(ofRegisters_sum bC p.bR p.cR d a b bF op imm h M.R w hd ha hb h0.lt.2 h0.ltR.2 lF h0.c0 (h0.reg ha) (h0.reg hb) (h0.reg hd) (h0.freeR d) cF).mono ?_;rintro e w'⟨rfl,hw⟩;exact res_done (h0.setR d _) (by simp) (h0.keepR d _) ((Below.refl _ _).setCell (by simpa using h0.ltR.1) _) h0.size hw
theorem op_reg_difference(h0:Core w base bC p nx tab M)(_hk:M.Ok){bF:Nat}(op:Int)(d a b h:Nat)(imm:Int)(hd:d<8)(ha:a<8)(hb:b<8)(cF:w.cell? ⟨bF,0,none⟩=some (.func (.func 106) #[] #[]))(lF:bF<w.heap.size):
 Calls Tryz.prog 134 #[.pointer (some ⟨bC,0,none⟩),.agg #[.int .i64 op,.int .i64 d,.int .i64 a,.int .i64 b,.int .i64 imm,.int .i64 h],.pointer (some ⟨bF,0,none⟩)] w (Res base bC tab w (exec 4 d a b h imm M nx)):=by
 refine(ofRegisters_difference bC p.bR p.cR d a b bF op imm h M.R w hd ha hb h0.lt.2 h0.ltR.2 lF h0.c0 (h0.reg ha) (h0.reg hb) (h0.reg hd) (h0.freeR d) cF).mono ?_;rintro e w'⟨rfl,hw⟩;exact res_done (h0.setR d _) (by simp) (h0.keepR d _) ((Below.refl _ _).setCell (by simpa using h0.ltR.1) _) h0.size hw
theorem op_reg_product(h0:Core w base bC p nx tab M)(_hk:M.Ok){bF:Nat}(op:Int)(d a b h:Nat)(imm:Int)(hd:d<8)(ha:a<8)(hb:b<8)(cF:w.cell? ⟨bF,0,none⟩=some (.func (.func 107) #[] #[]))(lF:bF<w.heap.size):
 Calls Tryz.prog 134 #[.pointer (some ⟨bC,0,none⟩),.agg #[.int .i64 op,.int .i64 d,.int .i64 a,.int .i64 b,.int .i64 imm,.int .i64 h],.pointer (some ⟨bF,0,none⟩)] w (Res base bC tab w (exec 5 d a b h imm M nx)):=by
 refine(ofRegisters_product bC p.bR p.cR d a b bF op imm h M.R w hd ha hb h0.lt.2 h0.ltR.2 lF h0.c0 (h0.reg ha) (h0.reg hb) (h0.reg hd) (h0.freeR d) cF).mono ?_;rintro e w'⟨rfl,hw⟩;exact res_done (h0.setR d _) (by simp) (h0.keepR d _) ((Below.refl _ _).setCell (by simpa using h0.ltR.1) _) h0.size hw
theorem op_reg_bothBits(h0:Core w base bC p nx tab M)(_hk:M.Ok){bF:Nat}(op:Int)(d a b h:Nat)(imm:Int)(hd:d<8)(ha:a<8)(hb:b<8)(cF:w.cell? ⟨bF,0,none⟩=some (.func (.func 108) #[] #[]))(lF:bF<w.heap.size):
 Calls Tryz.prog 134 #[.pointer (some ⟨bC,0,none⟩),.agg #[.int .i64 op,.int .i64 d,.int .i64 a,.int .i64 b,.int .i64 imm,.int .i64 h],.pointer (some ⟨bF,0,none⟩)] w (Res base bC tab w (exec 6 d a b h imm M nx)):=by
 refine(ofRegisters_bothBits bC p.bR p.cR d a b bF op imm h M.R w hd ha hb h0.lt.2 h0.ltR.2 lF h0.c0 (h0.reg ha) (h0.reg hb) (h0.reg hd) (h0.freeR d) cF).mono ?_;rintro e w'⟨rfl,hw⟩;exact res_done (h0.setR d _) (by simp) (h0.keepR d _) ((Below.refl _ _).setCell (by simpa using h0.ltR.1) _) h0.size hw
theorem op_reg_eitherBits(h0:Core w base bC p nx tab M)(_hk:M.Ok){bF:Nat}(op:Int)(d a b h:Nat)(imm:Int)(hd:d<8)(ha:a<8)(hb:b<8)(cF:w.cell? ⟨bF,0,none⟩=some (.func (.func 109) #[] #[]))(lF:bF<w.heap.size):
 Calls Tryz.prog 134 #[.pointer (some ⟨bC,0,none⟩),.agg #[.int .i64 op,.int .i64 d,.int .i64 a,.int .i64 b,.int .i64 imm,.int .i64 h],.pointer (some ⟨bF,0,none⟩)] w (Res base bC tab w (exec 7 d a b h imm M nx)):=by
 refine(ofRegisters_eitherBits bC p.bR p.cR d a b bF op imm h M.R w hd ha hb h0.lt.2 h0.ltR.2 lF h0.c0 (h0.reg ha) (h0.reg hb) (h0.reg hd) (h0.freeR d) cF).mono ?_;rintro e w'⟨rfl,hw⟩;exact res_done (h0.setR d _) (by simp) (h0.keepR d _) ((Below.refl _ _).setCell (by simpa using h0.ltR.1) _) h0.size hw
theorem op_reg_oneBits(h0:Core w base bC p nx tab M)(_hk:M.Ok){bF:Nat}(op:Int)(d a b h:Nat)(imm:Int)(hd:d<8)(ha:a<8)(hb:b<8)(cF:w.cell? ⟨bF,0,none⟩=some (.func (.func 110) #[] #[]))(lF:bF<w.heap.size):
 Calls Tryz.prog 134 #[.pointer (some ⟨bC,0,none⟩),.agg #[.int .i64 op,.int .i64 d,.int .i64 a,.int .i64 b,.int .i64 imm,.int .i64 h],.pointer (some ⟨bF,0,none⟩)] w (Res base bC tab w (exec 8 d a b h imm M nx)):=by
 refine(ofRegisters_oneBits bC p.bR p.cR d a b bF op imm h M.R w hd ha hb h0.lt.2 h0.ltR.2 lF h0.c0 (h0.reg ha) (h0.reg hb) (h0.reg hd) (h0.freeR d) cF).mono ?_;rintro e w'⟨rfl,hw⟩;exact res_done (h0.setR d _) (by simp) (h0.keepR d _) ((Below.refl _ _).setCell (by simpa using h0.ltR.1) _) h0.size hw
theorem op_num_sum(h0:Core w base bC p nx tab M)(_hk:M.Ok){bF:Nat}(op:Int)(d a b h:Nat)(imm:Int)(hd:d<8)(ha:a<8)(cF:w.cell? ⟨bF,0,none⟩=some (.func (.func 105) #[] #[]))(lF:bF<w.heap.size):
 Calls Tryz.prog 136 #[.pointer (some ⟨bC,0,none⟩),.agg #[.int .i64 op,.int .i64 d,.int .i64 a,.int .i64 b,.int .i64 imm,.int .i64 h],.pointer (some ⟨bF,0,none⟩)] w (Res base bC tab w (exec 10 d a b h imm M nx)):=by
 refine(ofNumber_sum bC p.bR p.cR d a bF op b imm h M.R w hd ha h0.lt.2 h0.ltR.2 lF h0.c0 (h0.reg ha) (h0.reg hd) (h0.freeR d) cF).mono ?_;rintro e w'⟨rfl,hw⟩;exact res_done (h0.setR d _) (by simp) (h0.keepR d _) ((Below.refl _ _).setCell (by simpa using h0.ltR.1) _) h0.size hw
theorem op_num_bothBits(h0:Core w base bC p nx tab M)(_hk:M.Ok){bF:Nat}(op:Int)(d a b h:Nat)(imm:Int)(hd:d<8)(ha:a<8)(cF:w.cell? ⟨bF,0,none⟩=some (.func (.func 108) #[] #[]))(lF:bF<w.heap.size):
 Calls Tryz.prog 136 #[.pointer (some ⟨bC,0,none⟩),.agg #[.int .i64 op,.int .i64 d,.int .i64 a,.int .i64 b,.int .i64 imm,.int .i64 h],.pointer (some ⟨bF,0,none⟩)] w (Res base bC tab w (exec 11 d a b h imm M nx)):=by
 refine(ofNumber_bothBits bC p.bR p.cR d a bF op b imm h M.R w hd ha h0.lt.2 h0.ltR.2 lF h0.c0 (h0.reg ha) (h0.reg hd) (h0.freeR d) cF).mono ?_;rintro e w'⟨rfl,hw⟩;exact res_done (h0.setR d _) (by simp) (h0.keepR d _) ((Below.refl _ _).setCell (by simpa using h0.ltR.1) _) h0.size hw
theorem op_num_shiftLeft(h0:Core w base bC p nx tab M)(_hk:M.Ok){bF:Nat}(op:Int)(d a b h:Nat)(imm:Int)(hd:d<8)(ha:a<8)(m0:0<=imm)(m1:imm<=63)(cF:w.cell? ⟨bF,0,none⟩=some (.func (.func 113) #[] #[]))(lF:bF<w.heap.size):
 Calls Tryz.prog 136 #[.pointer (some ⟨bC,0,none⟩),.agg #[.int .i64 op,.int .i64 d,.int .i64 a,.int .i64 b,.int .i64 imm,.int .i64 h],.pointer (some ⟨bF,0,none⟩)] w (Res base bC tab w (exec 12 d a b h imm M nx)):=by
 refine(ofNumber_shiftLeft bC p.bR p.cR d a bF op b imm h M.R w hd ha m0 m1 h0.lt.2 h0.ltR.2 lF h0.c0 (h0.reg ha) (h0.reg hd) (h0.freeR d) cF).mono ?_;rintro e w'⟨rfl,hw⟩;exact res_done (h0.setR d _) (by simp) (h0.keepR d _) ((Below.refl _ _).setCell (by simpa using h0.ltR.1) _) h0.size hw
theorem op_num_shiftRight(h0:Core w base bC p nx tab M)(_hk:M.Ok){bF:Nat}(op:Int)(d a b h:Nat)(imm:Int)(hd:d<8)(ha:a<8)(m0:0<=imm)(m1:imm<=63)(cF:w.cell? ⟨bF,0,none⟩=some (.func (.func 114) #[] #[]))(lF:bF<w.heap.size):
 Calls Tryz.prog 136 #[.pointer (some ⟨bC,0,none⟩),.agg #[.int .i64 op,.int .i64 d,.int .i64 a,.int .i64 b,.int .i64 imm,.int .i64 h],.pointer (some ⟨bF,0,none⟩)] w (Res base bC tab w (exec 13 d a b h imm M nx)):=by
 refine(ofNumber_shiftRight bC p.bR p.cR d a bF op b imm h M.R w hd ha m0 m1 h0.lt.2 h0.ltR.2 lF h0.c0 (h0.reg ha) (h0.reg hd) (h0.freeR d) cF).mono ?_;rintro e w'⟨rfl,hw⟩;exact res_done (h0.setR d _) (by simp) (h0.keepR d _) ((Below.refl _ _).setCell (by simpa using h0.ltR.1) _) h0.size hw
theorem op_adds(h0:Core w base bC p nx tab M)(hk:M.Ok)(op:Int)(d a b h:Nat)(imm:Int)(hd:d<8)(ha:a<8)(hb:b<8):
 Calls Tryz.prog 115 #[.pointer (some ⟨bC,0,none⟩),.agg #[.int .i64 op,.int .i64 d,.int .i64 a,.int .i64 b,.int .i64 imm,.int .i64 h]] w (Res base bC tab w (exec 14 d a b h imm M nx)):=by
 refine(doAdds_any bC p.bR p.cR d a b op imm h M.R M.z M.c M.hz M.hc w hd ha hb h0.lt.2 h0.ltR.2 h0.neR (hk.reg a ha).1 (hk.reg b hb).1 h0.c0 (h0.reg ha) (h0.reg hb) (h0.reg hd) (h0.freeR d) h0.c1 h0.c2 h0.c3 h0.c4 h0.free).mono ?_;rintro e w'⟨rfl,hw⟩;exact res_done ((h0.setR d _).flagged _ _) (by rw[flagged_size];simp) ((h0.keepR d _).trans ((h0.setR d _).keepF _ _)) (below_flagged h0.lt.1 ((Below.refl _ _).setCell (by simpa using h0.ltR.1) _)) h0.size hw
theorem op_adc(h0:Core w base bC p nx tab M)(hk:M.Ok)(op:Int)(d a b h:Nat)(imm:Int)(hd:d<8)(ha:a<8)(hb:b<8):
 Calls Tryz.prog 116 #[.pointer (some ⟨bC,0,none⟩),.agg #[.int .i64 op,.int .i64 d,.int .i64 a,.int .i64 b,.int .i64 imm,.int .i64 h]] w (Res base bC tab w (exec 15 d a b h imm M nx)):=by
 cases hhc:M.hc with
 |false=>
  refine(doAdc_no bC op d a b imm h M.c w h0.lt.2 h0.c2 (hhc▸h0.c4)).mono ?_;rintro e w'⟨rfl,hw⟩;simp only[exec,hhc];exact res_flt h0 hw
 |true=>
  refine(doAdc_yes bC p.bR p.cR d a b op imm h M.R M.z M.c M.hz w hd ha hb h0.lt.2 h0.ltR.2 h0.neR (hk.reg a ha).1 (hk.reg b hb).1 h0.c0 (h0.reg ha) (h0.reg hb) (h0.reg hd) (h0.freeR d) h0.c1 h0.c2 h0.c3 (hhc▸h0.c4) h0.free).mono ?_;rintro e w'⟨rfl,hw⟩;simp only[exec,hhc];exact res_done ((h0.setR d _).flagged _ _) (by rw[flagged_size];simp) ((h0.keepR d _).trans ((h0.setR d _).keepF _ _)) (below_flagged h0.lt.1 ((Below.refl _ _).setCell (by simpa using h0.ltR.1) _)) h0.size hw
theorem op_subs(h0:Core w base bC p nx tab M)(hk:M.Ok)(op:Int)(d a b h:Nat)(imm:Int)(hd:d<8)(ha:a<8)(hb:b<8):
 Calls Tryz.prog 117 #[.pointer (some ⟨bC,0,none⟩),.agg #[.int .i64 op,.int .i64 d,.int .i64 a,.int .i64 b,.int .i64 imm,.int .i64 h]] w (Res base bC tab w (exec 16 d a b h imm M nx)):=by
 refine(doSubs_any bC p.bR p.cR d a b op imm h M.R M.z M.c M.hz M.hc w hd ha hb h0.lt.2 h0.ltR.2 h0.neR (hk.reg a ha).1 (hk.reg b hb).1 (hk.reg b hb).2 h0.c0 (h0.reg ha) (h0.reg hb) (h0.reg hd) (h0.freeR d) h0.c1 h0.c2 h0.c3 h0.c4 h0.free).mono ?_;rintro e w'⟨rfl,hw⟩;exact res_done ((h0.flagged _ _).setR d _) (by rw[World.size_setCell,flagged_size]) ((h0.keepF _ _).trans ((h0.flagged _ _).keepR d _)) ((below_flagged h0.lt.1 (Below.refl _ _)).setCell (by simpa using h0.ltR.1) _) h0.size hw
theorem op_cmp(h0:Core w base bC p nx tab M)(hk:M.Ok)(op:Int)(d a b h:Nat)(imm:Int)(ha:a<8)(hb:b<8):
 Calls Tryz.prog 118 #[.pointer (some ⟨bC,0,none⟩),.agg #[.int .i64 op,.int .i64 d,.int .i64 a,.int .i64 b,.int .i64 imm,.int .i64 h]] w (Res base bC tab w (exec 17 d a b h imm M nx)):=by
 refine(doCmp_any bC p.bR p.cR a b op d imm h M.R M.z M.c M.hz M.hc w ha hb h0.lt.2 h0.ltR.2 h0.neR (hk.reg a ha).1 (hk.reg b hb).1 (hk.reg b hb).2 h0.c0 (h0.reg ha) (h0.reg hb) h0.c1 h0.c2 h0.c3 h0.c4 h0.free).mono ?_;rintro e w'⟨rfl,hw⟩;exact res_done (h0.flagged _ _) flagged_size (h0.keepF _ _) (below_flagged h0.lt.1 (Below.refl _ _)) h0.size hw
theorem op_cmpi(h0:Core w base bC p nx tab M)(hk:M.Ok)(op:Int)(d a b h:Nat)(imm:Int)(ha:a<8):
 Calls Tryz.prog 119 #[.pointer (some ⟨bC,0,none⟩),.agg #[.int .i64 op,.int .i64 d,.int .i64 a,.int .i64 b,.int .i64 imm,.int .i64 h]] w (Res base bC tab w (exec 18 d a b h imm M nx)):=by
 refine(doCmpi_any bC p.bR p.cR a op d b imm h M.R M.z M.c M.hz M.hc w ha h0.lt.2 h0.ltR.2 h0.neR (hk.reg a ha).1 h0.c0 (h0.reg ha) h0.c1 h0.c2 h0.c3 h0.c4 h0.free).mono ?_;rintro e w'⟨rfl,hw⟩;exact res_done (h0.flagged _ _) flagged_size (h0.keepF _ _) (below_flagged h0.lt.1 (Below.refl _ _)) h0.size hw
theorem op_selz(h0:Core w base bC p nx tab M)(_hk:M.Ok){bF:Nat}(op:Int)(d a b h:Nat)(imm:Int)(hd:d<8)(ha:a<8)(hb:b<8)(cF:w.cell? ⟨bF,0,none⟩=some (.func (.func 121) #[] #[]))(lF:bF<w.heap.size):
 Calls Tryz.prog 139 #[.pointer (some ⟨bC,0,none⟩),.agg #[.int .i64 op,.int .i64 d,.int .i64 a,.int .i64 b,.int .i64 imm,.int .i64 h],.pointer (some ⟨bF,0,none⟩)] w (Res base bC tab w (exec 19 d a b h imm M nx)):=by
 cases hhc:M.hz with
 |false=>
  refine(selz_no bC bF op d a b imm h M.z w h0.lt.2 lF h0.c1 (hhc▸h0.c3) cF).mono ?_;rintro e w'⟨rfl,hw⟩;simp only[exec,hhc];exact res_flt h0 hw
 |true=>
  refine(selz_yes bC p.bR p.cR d a b bF op imm h M.R M.z w hd ha hb h0.lt.2 h0.ltR.2 lF h0.c0 (h0.reg ha) (h0.reg hb) (h0.reg hd) (h0.freeR d) h0.c1 (hhc▸h0.c3) cF).mono ?_;rintro e w'⟨rfl,hw⟩;simp only[exec,hhc];exact res_done (h0.setR d _) (by simp) (h0.keepR d _) ((Below.refl _ _).setCell (by simpa using h0.ltR.1) _) h0.size hw
theorem op_selc(h0:Core w base bC p nx tab M)(_hk:M.Ok){bF:Nat}(op:Int)(d a b h:Nat)(imm:Int)(hd:d<8)(ha:a<8)(hb:b<8)(cF:w.cell? ⟨bF,0,none⟩=some (.func (.func 122) #[] #[]))(lF:bF<w.heap.size):
 Calls Tryz.prog 139 #[.pointer (some ⟨bC,0,none⟩),.agg #[.int .i64 op,.int .i64 d,.int .i64 a,.int .i64 b,.int .i64 imm,.int .i64 h],.pointer (some ⟨bF,0,none⟩)] w (Res base bC tab w (exec 20 d a b h imm M nx)):=by
 cases hhc:M.hc with
 |false=>
  refine(selc_no bC bF op d a b imm h M.c w h0.lt.2 lF h0.c2 (hhc▸h0.c4) cF).mono ?_;rintro e w'⟨rfl,hw⟩;simp only[exec,hhc];exact res_flt h0 hw
 |true=>
  refine(selc_yes bC p.bR p.cR d a b bF op imm h M.R M.c w hd ha hb h0.lt.2 h0.ltR.2 lF h0.c0 (h0.reg ha) (h0.reg hb) (h0.reg hd) (h0.freeR d) h0.c2 (hhc▸h0.c4) cF).mono ?_;rintro e w'⟨rfl,hw⟩;simp only[exec,hhc];exact res_done (h0.setR d _) (by simp) (h0.keepR d _) ((Below.refl _ _).setCell (by simpa using h0.ltR.1) _) h0.size hw
theorem op_jmp(h0:Core w base bC p nx tab M)(_hk:M.Ok)(op:Int)(d a b h:Nat)(imm:Int):
 Calls Tryz.prog 127 #[.pointer (some ⟨bC,0,none⟩),.agg #[.int .i64 op,.int .i64 d,.int .i64 a,.int .i64 b,.int .i64 imm,.int .i64 h]] w (Res base bC tab w (exec 29 d a b h imm M nx)):=by
 refine(doJmp_any bC op d a b imm h nx w h0.lt.2 h0.c9 (h0.free 9)).mono ?_;rintro e w'⟨rfl,hw⟩;exact res_done (h0.next _) (by simp) (h0.keepC 9 _) ((Below.refl _ _).setCell (by simpa using h0.lt.1) _) h0.size hw
theorem op_halt(h0:Core w base bC p nx tab M)(_hk:M.Ok)(op:Int)(d a b h:Nat)(imm:Int):
 Calls Tryz.prog 129 #[.pointer (some ⟨bC,0,none⟩),.agg #[.int .i64 op,.int .i64 d,.int .i64 a,.int .i64 b,.int .i64 imm,.int .i64 h]] w (Res base bC tab w (exec 34 d a b h imm M nx)):=by
 refine(doHalt_any bC op d a b imm h nx M.pc M.st w h0.lt.2 h0.c6 h0.c7 h0.c9 (h0.free 7) (h0.free 9)).mono ?_;rintro e w'⟨rfl,hw⟩;exact res_done ((h0.setSt 1).next _) (by simp) ((h0.keepC 7 _).trans ((h0.setSt 1).keepC 9 _)) (((Below.refl _ _).setCell (by simpa using h0.lt.1) _).setCell (by simpa using h0.lt.1) _) h0.size hw
theorem op_jumpz_true(h0:Core w base bC p nx tab M)(_hk:M.Ok){bF bW:Nat}(op:Int)(d a b h:Nat)(imm:Int)(hn:M.nO<=1048576)(cF:w.cell? ⟨bF,0,none⟩=some (.func (.func 121) #[] #[]))(lF:bF<w.heap.size)(cW:w.cell? ⟨bW,0,none⟩=some (.bool true))(lW:bW<w.heap.size):
 Calls Tryz.prog 144 #[.pointer (some ⟨bC,0,none⟩),.agg #[.int .i64 op,.int .i64 d,.int .i64 a,.int .i64 b,.int .i64 imm,.int .i64 h],.pointer (some ⟨bF,0,none⟩),.pointer (some ⟨bW,0,none⟩)] w (Res base bC tab w (exec 30 d a b h imm M nx)):=by
 cases hhc:M.hz with
 |false=>
  refine(jumpz_no bC bF bW op d a b imm h M.z true w h0.lt.2 lF lW h0.c1 (hhc▸h0.c3) cF cW).mono ?_;rintro e w'⟨rfl,hw⟩;simp only[exec,jumpOp,hhc];exact res_flt h0 hw
 |true=>
  refine(jumpz_yes base bC bF bW M.nO op d a b imm h nx M.z true (.slice p.aO M.nO p.cO) (first (M.nO*2) (obsF M.K M.V)) w hn h0.size h0.lt.2 lF lW h0.neO h0.c8 h0.c9 h0.free h0.mem.obs h0.c1 (hhc▸h0.c3) cF cW).mono ?_;rintro e w'⟨v',w1,rfl,o1,g1,hw⟩;have hS:Seen base bC M.nO (.slice p.aO M.nO p.cO) (first (M.nO*2) (obsF M.K M.V)) 2 (if M.z==true then 1 else 0) w (w1.setCell ⟨bC,8,none⟩ v'):=⟨v',w1,o1,g1,by simpa using Below.refl _ _⟩
  obtain⟨g,cap,hc⟩:=h0.seen hS;have hb:=hS.below h0.size h0.lt.1 h0.mem.obs;simp only[exec,jumpOp,hhc,if_true];cases hq:(M.z==true)with
  |false=>
   rw[hq]at hw hc;subst hw;exact⟨hb,h0.keepS hS,rfl,_,hc⟩
  |true=>
   rw[hq]at hw hc;subst hw;exact⟨hb.setCell (by simpa using h0.lt.1) _,(h0.keepS hS).trans (hc.keepC 9 _),rfl,_,hc.next imm⟩
theorem op_jumpz_false(h0:Core w base bC p nx tab M)(_hk:M.Ok){bF bW:Nat}(op:Int)(d a b h:Nat)(imm:Int)(hn:M.nO<=1048576)(cF:w.cell? ⟨bF,0,none⟩=some (.func (.func 121) #[] #[]))(lF:bF<w.heap.size)(cW:w.cell? ⟨bW,0,none⟩=some (.bool false))(lW:bW<w.heap.size):
 Calls Tryz.prog 144 #[.pointer (some ⟨bC,0,none⟩),.agg #[.int .i64 op,.int .i64 d,.int .i64 a,.int .i64 b,.int .i64 imm,.int .i64 h],.pointer (some ⟨bF,0,none⟩),.pointer (some ⟨bW,0,none⟩)] w (Res base bC tab w (exec 31 d a b h imm M nx)):=by
 cases hhc:M.hz with
 |false=>
  refine(jumpz_no bC bF bW op d a b imm h M.z false w h0.lt.2 lF lW h0.c1 (hhc▸h0.c3) cF cW).mono ?_;rintro e w'⟨rfl,hw⟩;simp only[exec,jumpOp,hhc];exact res_flt h0 hw
 |true=>
  refine(jumpz_yes base bC bF bW M.nO op d a b imm h nx M.z false (.slice p.aO M.nO p.cO) (first (M.nO*2) (obsF M.K M.V)) w hn h0.size h0.lt.2 lF lW h0.neO h0.c8 h0.c9 h0.free h0.mem.obs h0.c1 (hhc▸h0.c3) cF cW).mono ?_;rintro e w'⟨v',w1,rfl,o1,g1,hw⟩;have hS:Seen base bC M.nO (.slice p.aO M.nO p.cO) (first (M.nO*2) (obsF M.K M.V)) 2 (if M.z==false then 1 else 0) w (w1.setCell ⟨bC,8,none⟩ v'):=⟨v',w1,o1,g1,by simpa using Below.refl _ _⟩
  obtain⟨g,cap,hc⟩:=h0.seen hS;have hb:=hS.below h0.size h0.lt.1 h0.mem.obs;simp only[exec,jumpOp,hhc,if_true];cases hq:(M.z==false)with
  |false=>
   rw[hq]at hw hc;subst hw;exact⟨hb,h0.keepS hS,rfl,_,hc⟩
  |true=>
   rw[hq]at hw hc;subst hw;exact⟨hb.setCell (by simpa using h0.lt.1) _,(h0.keepS hS).trans (hc.keepC 9 _),rfl,_,hc.next imm⟩
theorem op_jumpc_true(h0:Core w base bC p nx tab M)(_hk:M.Ok){bF bW:Nat}(op:Int)(d a b h:Nat)(imm:Int)(hn:M.nO<=1048576)(cF:w.cell? ⟨bF,0,none⟩=some (.func (.func 122) #[] #[]))(lF:bF<w.heap.size)(cW:w.cell? ⟨bW,0,none⟩=some (.bool true))(lW:bW<w.heap.size):
 Calls Tryz.prog 144 #[.pointer (some ⟨bC,0,none⟩),.agg #[.int .i64 op,.int .i64 d,.int .i64 a,.int .i64 b,.int .i64 imm,.int .i64 h],.pointer (some ⟨bF,0,none⟩),.pointer (some ⟨bW,0,none⟩)] w (Res base bC tab w (exec 32 d a b h imm M nx)):=by
 cases hhc:M.hc with
 |false=>
  refine(jumpc_no bC bF bW op d a b imm h M.c true w h0.lt.2 lF lW h0.c2 (hhc▸h0.c4) cF cW).mono ?_;rintro e w'⟨rfl,hw⟩;simp only[exec,jumpOp,hhc];exact res_flt h0 hw
 |true=>
  refine(jumpc_yes base bC bF bW M.nO op d a b imm h nx M.c true (.slice p.aO M.nO p.cO) (first (M.nO*2) (obsF M.K M.V)) w hn h0.size h0.lt.2 lF lW h0.neO h0.c8 h0.c9 h0.free h0.mem.obs h0.c2 (hhc▸h0.c4) cF cW).mono ?_;rintro e w'⟨v',w1,rfl,o1,g1,hw⟩;have hS:Seen base bC M.nO (.slice p.aO M.nO p.cO) (first (M.nO*2) (obsF M.K M.V)) 2 (if M.c==true then 1 else 0) w (w1.setCell ⟨bC,8,none⟩ v'):=⟨v',w1,o1,g1,by simpa using Below.refl _ _⟩
  obtain⟨g,cap,hc⟩:=h0.seen hS;have hb:=hS.below h0.size h0.lt.1 h0.mem.obs;simp only[exec,jumpOp,hhc,if_true];cases hq:(M.c==true)with
  |false=>
   rw[hq]at hw hc;subst hw;exact⟨hb,h0.keepS hS,rfl,_,hc⟩
  |true=>
   rw[hq]at hw hc;subst hw;exact⟨hb.setCell (by simpa using h0.lt.1) _,(h0.keepS hS).trans (hc.keepC 9 _),rfl,_,hc.next imm⟩
theorem op_jumpc_false(h0:Core w base bC p nx tab M)(_hk:M.Ok){bF bW:Nat}(op:Int)(d a b h:Nat)(imm:Int)(hn:M.nO<=1048576)(cF:w.cell? ⟨bF,0,none⟩=some (.func (.func 122) #[] #[]))(lF:bF<w.heap.size)(cW:w.cell? ⟨bW,0,none⟩=some (.bool false))(lW:bW<w.heap.size):
 Calls Tryz.prog 144 #[.pointer (some ⟨bC,0,none⟩),.agg #[.int .i64 op,.int .i64 d,.int .i64 a,.int .i64 b,.int .i64 imm,.int .i64 h],.pointer (some ⟨bF,0,none⟩),.pointer (some ⟨bW,0,none⟩)] w (Res base bC tab w (exec 33 d a b h imm M nx)):=by
 cases hhc:M.hc with
 |false=>
  refine(jumpc_no bC bF bW op d a b imm h M.c false w h0.lt.2 lF lW h0.c2 (hhc▸h0.c4) cF cW).mono ?_;rintro e w'⟨rfl,hw⟩;simp only[exec,jumpOp,hhc];exact res_flt h0 hw
 |true=>
  refine(jumpc_yes base bC bF bW M.nO op d a b imm h nx M.c false (.slice p.aO M.nO p.cO) (first (M.nO*2) (obsF M.K M.V)) w hn h0.size h0.lt.2 lF lW h0.neO h0.c8 h0.c9 h0.free h0.mem.obs h0.c2 (hhc▸h0.c4) cF cW).mono ?_;rintro e w'⟨v',w1,rfl,o1,g1,hw⟩;have hS:Seen base bC M.nO (.slice p.aO M.nO p.cO) (first (M.nO*2) (obsF M.K M.V)) 2 (if M.c==false then 1 else 0) w (w1.setCell ⟨bC,8,none⟩ v'):=⟨v',w1,o1,g1,by simpa using Below.refl _ _⟩
  obtain⟨g,cap,hc⟩:=h0.seen hS;have hb:=hS.below h0.size h0.lt.1 h0.mem.obs;simp only[exec,jumpOp,hhc,if_true];cases hq:(M.c==false)with
  |false=>
   rw[hq]at hw hc;subst hw;exact⟨hb,h0.keepS hS,rfl,_,hc⟩
  |true=>
   rw[hq]at hw hc;subst hw;exact⟨hb.setCell (by simpa using h0.lt.1) _,(h0.keepS hS).trans (hc.keepC 9 _),rfl,_,hc.next imm⟩
end
theorem Seen.cell{base bC n:Nat}{vO:Value}{xs:List Value}{kind val:Int}{w w':World}(hs:Seen base bC n vO xs kind val w w'){a:Addr}(h1:a.block<w.heap.size)(h2:a.block≠bC)(h3:some a.block≠vO.ownBlock):w'.cell? a=w.cell? a:=by
 obtain⟨v',w1,_,g1,hb⟩:=hs;rw[hb.cell (Nat.lt_of_lt_of_le h1 g1.size),World.cell?_setCell_far _ _ _ _ (Ne.symm h2)];exact World.cell?_of_block (g1.block _ h1 h3)
theorem Seen.size{base bC n:Nat}{vO:Value}{xs:List Value}{kind val:Int}{w w':World}(hs:Seen base bC n vO xs kind val w w'):w.heap.size<=w'.heap.size:=by
 obtain⟨v',w1,_,g1,hb⟩:=hs;have:=hb.size;rw[World.size_setCell]at this;exact Nat.le_trans g1.size this
theorem MV.setR_setR(M:MV)(d:Nat)(u v:Int):(M.setR d u).setR d v=M.setR d v:=by
 unfold MV.setR;congr 1
 funext i
 by_cases e:i=d<;>simp[e]
section
variable{w:World}{base bC:Nat}{p:Pl}{nx:Int}{tab:List Value}{M:MV}
theorem op_div(h0:Core w base bC p nx tab M)(hk:M.Ok)(op:Int)(d a b h:Nat)(imm:Int)(hn:M.nO<=1048576)(hd:d<8)(ha:a<8)(hb:b<8):
 Calls Tryz.prog 111 #[.pointer (some ⟨bC,0,none⟩),.agg #[.int .i64 op,.int .i64 d,.int .i64 a,.int .i64 b,.int .i64 imm,.int .i64 h]] w (Res base bC tab w (exec 9 d a b h imm M nx)):=by
 have hd':(d:Int)<8:=by omega
 have ha':(a:Int)<8:=by omega
 have hb':(b:Int)<8:=by omega
 have c0:=h0.c0;have ra:=h0.reg ha;have rb:=h0.reg hb;have hC:=h0.lt.2;have hR:=h0.ltR.2;have pa:=hk.reg a ha;have pb:=hk.reg b hb;have H0:Hid (Core w base bC p nx tab M):=h0;have HK:Hid M.Ok:=hk;clear h0 hk;obtain⟨pa0,pa1⟩:=pa;obtain⟨pb0,pb1⟩:=pb;have ba:=bitsN_le (x:=(M.R a).toNat) (by omega);have bb:=bitsN_le (x:=(M.R b).toNat) (by omega);have lenA:=fun w=>len64_any (M.R a) w pa0 (by omega)
 have lenB:=fun w=>len64_any (M.R b) w pb0 (by omega)
 have LA:Hid _:=lenA;have LB:Hid _:=lenB;clear lenA lenB;go_enter Tryz.func111,Tryz.ntmps111;go_wp2;go_region;go_wp2_with fail;refine(LA.out _).mono ?_;rintro e w1⟨rfl,rfl⟩;go_wp2_with fail;refine(LB.out _).mono ?_;rintro e w1⟨rfl,rfl⟩;go_wp2_with fail;have X1:Below w.heap.size w (w.alloc (.cells #[.int .i64 op,.int .i64 d,.int .i64 a,.int .i64 b,.int .i64 imm,.int .i64 h] 30)).drew:=((Below.refl _ _).alloc (Nat.le_refl _) _).drew;have C1:=H0.out.below X1;refine(see_any base bC M.nO (.slice p.aO M.nO p.cO) (first (M.nO*2) (obsF M.K M.V)) 3 (bitsN (M.R a).toNat*65+bitsN (M.R b).toNat) _ hn (by simp;exact Nat.le_succ_of_le H0.out.size) (by simp;omega) C1.neO C1.c8 (C1.free 8) C1.mem.obs).mono ?_;rintro e w2⟨v',w1,rfl,o1,g1,hw2⟩;have hS:Seen base bC M.nO (.slice p.aO M.nO p.cO) (first (M.nO*2) (obsF M.K M.V)) 3 (bitsN (M.R a).toNat*65+bitsN (M.R b).toNat) (w.alloc (.cells #[.int .i64 op,.int .i64 d,.int .i64 a,.int .i64 b,.int .i64 imm,.int .i64 h] 30)).drew w2:=⟨v',w1,o1,g1,by rw[hw2];simpa using Below.refl _ _⟩
 obtain⟨g,cap,C2⟩:=C1.seen hS;have hoB:∀k,some k=(Value.slice p.aO M.nO p.cO).ownBlock->k<w.heap.size:=fun k hq=>(H0.out.mem.obs.lt k hq.symm).2
 have hq:some w.heap.size≠(Value.slice p.aO M.nO p.cO).ownBlock:=fun q=>by have:=hoB _ q;omega
 have i1:w2.cell? ⟨w.heap.size,1,none⟩=some (.int .i64 d):=(hS.cell (a:=⟨w.heap.size,1,none⟩) (by simp) (by simp;omega) hq).trans (by simp[go_sem]);have zI:w.heap.size<w2.heap.size:=by have:=hS.size;simp at this;omega
 have e0:w2.cell? ⟨bC,0,none⟩=some (.slice (some ⟨p.bR,0,none⟩) 8 p.cR):=C2.c0;have rd:w2.cell? ⟨p.bR,d,none⟩=some (.int .u64 (M.R d)):=C2.reg hd;have fd:w2.frozen? ⟨p.bR,d,none⟩=false:=C2.freeR d;have zC:bC<w2.heap.size:=C2.lt.2;have zR:p.bR<w2.heap.size:=C2.ltR.2;have hne:p.bR≠bC:=Ne.symm H0.out.neR;have hne2:p.bR≠w.heap.size:=by omega
 have HB:Hid (Below base w w2):=(X1.mono H0.out.size).trans (hS.below (by simp;exact Nat.le_succ_of_le H0.out.size) H0.out.lt.1 C1.mem.obs);have HKP:Hid (Keep w w2):=(Keep.below X1).trans (C1.keepS hS);have H2:Hid _:=C2;clear hS C1 C2 X1 o1 g1 hw2 LA LB hoB hq c0 ra rb;go_wp2;go_region;by_cases hz:M.R b=0
 ·go_wp2
  go_end0;simp only[exec];rw[if_pos hz];exact⟨(HB.out.setCell (p:=⟨p.bR,d,none⟩) (by simpa using H0.out.ltR.1) _).drew,HKP.out.trans ((H2.out.keepR d 0).trans (Keep.below (Below.refl _ _).drew)),rfl,_,(H2.out.setR d 0).below (Below.refl _ _).drew⟩
 ·go_wp2
  go_region;go_end0;simp only[exec];rw[if_neg hz];refine⟨((HB.out.setCell (p:=⟨p.bR,d,none⟩) (by simpa using H0.out.ltR.1) _).drew.setCell (p:=⟨p.bR,d,none⟩) (by simpa using H0.out.ltR.1) _).drew,HKP.out.trans ((H2.out.keepR d 0).trans ((Keep.below (Below.refl _ _).drew).trans ((((H2.out.setR d 0).below (Below.refl _ _).drew).keepR d _).trans (Keep.below (Below.refl _ _).drew)))),rfl,{p with aO:=some ⟨g,0,none⟩,cO:=cap},?_⟩;rw[<-MV.setR_setR _ d 0];exact(((H2.out.setR d 0).below (Below.refl _ _).drew).setR d _).below (Below.refl _ _).drew
end
end Go.Proofs.YtbahofiiaodpdaaGreat
