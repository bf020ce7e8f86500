import Derived.Test.YtbahofiiaodpdaaGreatOfCl
import Derived.BigRegion
set_option maxHeartbeats 800000
namespace Go.Proofs.YtbahofiiaodpdaaGreat
open Go.RowKit
theorem ofRegisters_sum(bC bR cap d a b bF:Nat)(op imm hh:Int)(R:Nat->Int)(w:World)(hd:d<8)(ha:a<8)(hb:b<8)(hC:bC<w.heap.size)(hR:bR<w.heap.size)(hF:bF<w.heap.size)
 (c0:w.cell? ⟨bC,0,none⟩=some (.slice (some ⟨bR,0,none⟩) 8 cap))(ra:w.cell? ⟨bR,a,none⟩=some (.int .u64 (R a)))(rb:w.cell? ⟨bR,b,none⟩=some (.int .u64 (R b)))(rd:w.cell? ⟨bR,d,none⟩=some (.int .u64 (R d)))(hf:w.frozen? ⟨bR,d,none⟩=false)
 (cF:w.cell? ⟨bF,0,none⟩=some (.func (.func 105) #[] #[])):
 Calls Tryz.prog 134 #[.pointer (some ⟨bC,0,none⟩),.agg #[.int .i64 op,.int .i64 d,.int .i64 a,.int .i64 b,.int .i64 imm,.int .i64 hh],.pointer (some ⟨bF,0,none⟩)] w fun e w'=>e=.returned (.tuple #[])/\Below w.heap.size (w.setCell ⟨bR,d,none⟩ (.int .u64 (IntKind.u64.wrap (R a+R b)))) w':=by
 have hd':(d:Int)<8:=by omega
 have ha':(a:Int)<8:=by omega
 have hb':(b:Int)<8:=by omega
 go_enter Tryz.func134,Tryz.ntmps134;go_wp2;generalize hG:w.alloc (.cells #[.int .i64 op,.int .i64 d,.int .i64 a,.int .i64 b,.int .i64 imm,.int .i64 hh] 30)=wa;have xa:Below w.heap.size w wa:=by rw[<-hG];exact(Below.refl _ _).alloc (Nat.le_refl _) _
 have xz:w.heap.size<wa.heap.size:=by rw[<-hG];simp
 have xs:Below w.heap.size (w.setCell ⟨bR,d,none⟩ (.int .u64 (IntKind.u64.wrap (R a+R b)))) (wa.setCell ⟨bR,d,none⟩ (.int .u64 (IntKind.u64.wrap (R a+R b)))):=by
  rw[<-hG,World.setCell_alloc_past (hn:=hR)];exact(Below.refl _ _).alloc (by simp) _
 have i1:wa.cell? ⟨w.heap.size,1,none⟩=some (.int .i64 d):=by rw[<-hG];simp[go_sem]
 have i2:wa.cell? ⟨w.heap.size,2,none⟩=some (.int .i64 a):=by rw[<-hG];simp[go_sem]
 have i3:wa.cell? ⟨w.heap.size,3,none⟩=some (.int .i64 b):=by rw[<-hG];simp[go_sem]
 have zC:bC<wa.heap.size:=by omega
 have zR:bR<wa.heap.size:=by omega
 have zF:bF<wa.heap.size:=by omega
 have R0:∀w',Below wa.heap.size wa w'->w'.cell? ⟨bC,0,none⟩=some (.slice (some ⟨bR,0,none⟩) 8 cap):=fun w' h=>(h.cell (p:=⟨bC,0,none⟩) zC).trans ((xa.cell (p:=⟨bC,0,none⟩) hC).trans c0)
 have R1:∀w',Below wa.heap.size wa w'->w'.cell? ⟨w.heap.size,1,none⟩=some (.int .i64 d):=fun w' h=>(h.cell (p:=⟨w.heap.size,1,none⟩) xz).trans i1
 have R2:∀w',Below wa.heap.size wa w'->w'.cell? ⟨w.heap.size,2,none⟩=some (.int .i64 a):=fun w' h=>(h.cell (p:=⟨w.heap.size,2,none⟩) xz).trans i2
 have R3:∀w',Below wa.heap.size wa w'->w'.cell? ⟨w.heap.size,3,none⟩=some (.int .i64 b):=fun w' h=>(h.cell (p:=⟨w.heap.size,3,none⟩) xz).trans i3
 have R4:∀w',Below wa.heap.size wa w'->w'.cell? ⟨bF,0,none⟩=some (.func (.func 105) #[] #[]):=fun w' h=>(h.cell (p:=⟨bF,0,none⟩) zF).trans ((xa.cell (p:=⟨bF,0,none⟩) hF).trans cF)
 have R5:∀w',Below wa.heap.size wa w'->w'.cell? ⟨bR,a,none⟩=some (.int .u64 (R a)):=fun w' h=>(h.cell (p:=⟨bR,a,none⟩) zR).trans ((xa.cell (p:=⟨bR,a,none⟩) hR).trans ra)
 have R6:∀w',Below wa.heap.size wa w'->w'.cell? ⟨bR,b,none⟩=some (.int .u64 (R b)):=fun w' h=>(h.cell (p:=⟨bR,b,none⟩) zR).trans ((xa.cell (p:=⟨bR,b,none⟩) hR).trans rb)
 have wd:wa.cell? ⟨bR,d,none⟩=some (.int .u64 (R d)):=(xa.cell (p:=⟨bR,d,none⟩) hR).trans rd;have wf:wa.frozen? ⟨bR,d,none⟩=false:=(xa.frozen (p:=⟨bR,d,none⟩) hR).trans hf;clear hG i1 i2 i3 c0 ra rb rd hf cF;refine wp_region_L (T:=fun w'=>Below wa.heap.size wa w') (s:=28) (by kernel_rfl) ((Below.refl _ _).drew) (fun hHeld=>?_);refine wpAnyL_ta 0 rfl ?_;refine wpAnyL_ta 1 rfl ?_;refine wpAnyL_ta 2 rfl ?_;refine wpAnyL_ta 3 rfl ?_;refine wpAnyL_ta 4 rfl ?_;refine wpAnyL_ta 5 rfl ?_;refine wpAnyL_ta 6 rfl ?_;refine wpAnyL_ta 7 rfl ?_;refine wpAnyL_ta 8 rfl ?_;refine wpAnyL_ta 9 rfl ?_;refine wpAnyL_ta 10 rfl ?_;refine wpAnyL_ta 11 rfl ?_;refine wpAnyL_ta 12 rfl ?_;refine wpAnyL_ta 13 rfl ?_;refine wpAnyL_ta 14 rfl ?_;refine wpAnyL_ta 15 rfl ?_;refine wpAnyL_ta 16 rfl ?_;refine wpAnyL_ta 17 rfl ?_;refine wpAnyL_ta 18 rfl ?_;refine wpAnyL_ta 19 rfl ?_;refine wpAnyL_ta 20 rfl ?_;refine wpAnyL_ta 21 rfl ?_;refine wpAnyL_ta 22 rfl ?_;refine wpAnyL_ta 23 rfl ?_;refine wpAnyL_ta 24 rfl ?_;refine wpAnyL_ta 25 rfl ?_;refine wpAnyL_call (i:=26) rfl (by kernel_rfl) (fun K hK=>?_);go_simp;refine(sum_any _ _ _).mono ?_;rintro e w'⟨rfl,rfl⟩;go_wp2_with fail;refine hK.out _ _ ((Below.refl _ _).drew) (fun hHeld26=>?_);clear hK K;refine wpAnyL_ta 27 rfl ?_;refine wpAnyL_store rfl (by kernel_rfl) (by kernel_rfl) (fun K hK=>?_);go_simp;refine hK.out _ _ ?_;clear hK K;go_end0;exact⟨rfl,xs.drew⟩
theorem ofRegisters_difference(bC bR cap d a b bF:Nat)(op imm hh:Int)(R:Nat->Int)(w:World)(hd:d<8)(ha:a<8)(hb:b<8)(hC:bC<w.heap.size)(hR:bR<w.heap.size)(hF:bF<w.heap.size)
 (c0:w.cell? ⟨bC,0,none⟩=some (.slice (some ⟨bR,0,none⟩) 8 cap))(ra:w.cell? ⟨bR,a,none⟩=some (.int .u64 (R a)))(rb:w.cell? ⟨bR,b,none⟩=some (.int .u64 (R b)))(rd:w.cell? ⟨bR,d,none⟩=some (.int .u64 (R d)))(hf:w.frozen? ⟨bR,d,none⟩=false)
 (cF:w.cell? ⟨bF,0,none⟩=some (.func (.func 106) #[] #[])):
 Calls Tryz.prog 134 #[.pointer (some ⟨bC,0,none⟩),.agg #[.int .i64 op,.int .i64 d,.int .i64 a,.int .i64 b,.int .i64 imm,.int .i64 hh],.pointer (some ⟨bF,0,none⟩)] w fun e w'=>e=.returned (.tuple #[])/\Below w.heap.size (w.setCell ⟨bR,d,none⟩ (.int .u64 (IntKind.u64.wrap (R a-R b)))) w':=by
 have hd':(d:Int)<8:=by omega
 have ha':(a:Int)<8:=by omega
 have hb':(b:Int)<8:=by omega
 go_enter Tryz.func134,Tryz.ntmps134;go_wp2;generalize hG:w.alloc (.cells #[.int .i64 op,.int .i64 d,.int .i64 a,.int .i64 b,.int .i64 imm,.int .i64 hh] 30)=wa;have xa:Below w.heap.size w wa:=by rw[<-hG];exact(Below.refl _ _).alloc (Nat.le_refl _) _
 have xz:w.heap.size<wa.heap.size:=by rw[<-hG];simp
 have xs:Below w.heap.size (w.setCell ⟨bR,d,none⟩ (.int .u64 (IntKind.u64.wrap (R a-R b)))) (wa.setCell ⟨bR,d,none⟩ (.int .u64 (IntKind.u64.wrap (R a-R b)))):=by
  rw[<-hG,World.setCell_alloc_past (hn:=hR)];exact(Below.refl _ _).alloc (by simp) _
 have i1:wa.cell? ⟨w.heap.size,1,none⟩=some (.int .i64 d):=by rw[<-hG];simp[go_sem]
 have i2:wa.cell? ⟨w.heap.size,2,none⟩=some (.int .i64 a):=by rw[<-hG];simp[go_sem]
 have i3:wa.cell? ⟨w.heap.size,3,none⟩=some (.int .i64 b):=by rw[<-hG];simp[go_sem]
 have zC:bC<wa.heap.size:=by omega
 have zR:bR<wa.heap.size:=by omega
 have zF:bF<wa.heap.size:=by omega
 have R0:∀w',Below wa.heap.size wa w'->w'.cell? ⟨bC,0,none⟩=some (.slice (some ⟨bR,0,none⟩) 8 cap):=fun w' h=>(h.cell (p:=⟨bC,0,none⟩) zC).trans ((xa.cell (p:=⟨bC,0,none⟩) hC).trans c0)
 have R1:∀w',Below wa.heap.size wa w'->w'.cell? ⟨w.heap.size,1,none⟩=some (.int .i64 d):=fun w' h=>(h.cell (p:=⟨w.heap.size,1,none⟩) xz).trans i1
 have R2:∀w',Below wa.heap.size wa w'->w'.cell? ⟨w.heap.size,2,none⟩=some (.int .i64 a):=fun w' h=>(h.cell (p:=⟨w.heap.size,2,none⟩) xz).trans i2
 have R3:∀w',Below wa.heap.size wa w'->w'.cell? ⟨w.heap.size,3,none⟩=some (.int .i64 b):=fun w' h=>(h.cell (p:=⟨w.heap.size,3,none⟩) xz).trans i3
 have R4:∀w',Below wa.heap.size wa w'->w'.cell? ⟨bF,0,none⟩=some (.func (.func 106) #[] #[]):=fun w' h=>(h.cell (p:=⟨bF,0,none⟩) zF).trans ((xa.cell (p:=⟨bF,0,none⟩) hF).trans cF)
 have R5:∀w',Below wa.heap.size wa w'->w'.cell? ⟨bR,a,none⟩=some (.int .u64 (R a)):=fun w' h=>(h.cell (p:=⟨bR,a,none⟩) zR).trans ((xa.cell (p:=⟨bR,a,none⟩) hR).trans ra)
 have R6:∀w',Below wa.heap.size wa w'->w'.cell? ⟨bR,b,none⟩=some (.int .u64 (R b)):=fun w' h=>(h.cell (p:=⟨bR,b,none⟩) zR).trans ((xa.cell (p:=⟨bR,b,none⟩) hR).trans rb)
 have wd:wa.cell? ⟨bR,d,none⟩=some (.int .u64 (R d)):=(xa.cell (p:=⟨bR,d,none⟩) hR).trans rd;have wf:wa.frozen? ⟨bR,d,none⟩=false:=(xa.frozen (p:=⟨bR,d,none⟩) hR).trans hf;clear hG i1 i2 i3 c0 ra rb rd hf cF;refine wp_region_L (T:=fun w'=>Below wa.heap.size wa w') (s:=28) (by kernel_rfl) ((Below.refl _ _).drew) (fun hHeld=>?_);refine wpAnyL_ta 0 rfl ?_;refine wpAnyL_ta 1 rfl ?_;refine wpAnyL_ta 2 rfl ?_;refine wpAnyL_ta 3 rfl ?_;refine wpAnyL_ta 4 rfl ?_;refine wpAnyL_ta 5 rfl ?_;refine wpAnyL_ta 6 rfl ?_;refine wpAnyL_ta 7 rfl ?_;refine wpAnyL_ta 8 rfl ?_;refine wpAnyL_ta 9 rfl ?_;refine wpAnyL_ta 10 rfl ?_;refine wpAnyL_ta 11 rfl ?_;refine wpAnyL_ta 12 rfl ?_;refine wpAnyL_ta 13 rfl ?_;refine wpAnyL_ta 14 rfl ?_;refine wpAnyL_ta 15 rfl ?_;refine wpAnyL_ta 16 rfl ?_;refine wpAnyL_ta 17 rfl ?_;refine wpAnyL_ta 18 rfl ?_;refine wpAnyL_ta 19 rfl ?_;refine wpAnyL_ta 20 rfl ?_;refine wpAnyL_ta 21 rfl ?_;refine wpAnyL_ta 22 rfl ?_;refine wpAnyL_ta 23 rfl ?_;refine wpAnyL_ta 24 rfl ?_;refine wpAnyL_ta 25 rfl ?_;refine wpAnyL_call (i:=26) rfl (by kernel_rfl) (fun K hK=>?_);go_simp;refine(difference_any _ _ _).mono ?_;rintro e w'⟨rfl,rfl⟩;go_wp2_with fail;refine hK.out _ _ ((Below.refl _ _).drew) (fun hHeld26=>?_);clear hK K;refine wpAnyL_ta 27 rfl ?_;refine wpAnyL_store rfl (by kernel_rfl) (by kernel_rfl) (fun K hK=>?_);go_simp;refine hK.out _ _ ?_;clear hK K;go_end0;exact⟨rfl,xs.drew⟩
theorem ofRegisters_product(bC bR cap d a b bF:Nat)(op imm hh:Int)(R:Nat->Int)(w:World)(hd:d<8)(ha:a<8)(hb:b<8)(hC:bC<w.heap.size)(hR:bR<w.heap.size)(hF:bF<w.heap.size)
 (c0:w.cell? ⟨bC,0,none⟩=some (.slice (some ⟨bR,0,none⟩) 8 cap))(ra:w.cell? ⟨bR,a,none⟩=some (.int .u64 (R a)))(rb:w.cell? ⟨bR,b,none⟩=some (.int .u64 (R b)))(rd:w.cell? ⟨bR,d,none⟩=some (.int .u64 (R d)))(hf:w.frozen? ⟨bR,d,none⟩=false)
 (cF:w.cell? ⟨bF,0,none⟩=some (.func (.func 107) #[] #[])):
 Calls Tryz.prog 134 #[.pointer (some ⟨bC,0,none⟩),.agg #[.int .i64 op,.int .i64 d,.int .i64 a,.int .i64 b,.int .i64 imm,.int .i64 hh],.pointer (some ⟨bF,0,none⟩)] w fun e w'=>e=.returned (.tuple #[])/\Below w.heap.size (w.setCell ⟨bR,d,none⟩ (.int .u64 (IntKind.u64.wrap (R a*R b)))) w':=by
 have hd':(d:Int)<8:=by omega
 have ha':(a:Int)<8:=by omega
 have hb':(b:Int)<8:=by omega
 go_enter Tryz.func134,Tryz.ntmps134;go_wp2;generalize hG:w.alloc (.cells #[.int .i64 op,.int .i64 d,.int .i64 a,.int .i64 b,.int .i64 imm,.int .i64 hh] 30)=wa;have xa:Below w.heap.size w wa:=by rw[<-hG];exact(Below.refl _ _).alloc (Nat.le_refl _) _
 have xz:w.heap.size<wa.heap.size:=by rw[<-hG];simp
 have xs:Below w.heap.size (w.setCell ⟨bR,d,none⟩ (.int .u64 (IntKind.u64.wrap (R a*R b)))) (wa.setCell ⟨bR,d,none⟩ (.int .u64 (IntKind.u64.wrap (R a*R b)))):=by
  rw[<-hG,World.setCell_alloc_past (hn:=hR)];exact(Below.refl _ _).alloc (by simp) _
 have i1:wa.cell? ⟨w.heap.size,1,none⟩=some (.int .i64 d):=by rw[<-hG];simp[go_sem]
 have i2:wa.cell? ⟨w.heap.size,2,none⟩=some (.int .i64 a):=by rw[<-hG];simp[go_sem]
 have i3:wa.cell? ⟨w.heap.size,3,none⟩=some (.int .i64 b):=by rw[<-hG];simp[go_sem]
 have zC:bC<wa.heap.size:=by omega
 have zR:bR<wa.heap.size:=by omega
 have zF:bF<wa.heap.size:=by omega
 have R0:∀w',Below wa.heap.size wa w'->w'.cell? ⟨bC,0,none⟩=some (.slice (some ⟨bR,0,none⟩) 8 cap):=fun w' h=>(h.cell (p:=⟨bC,0,none⟩) zC).trans ((xa.cell (p:=⟨bC,0,none⟩) hC).trans c0)
 have R1:∀w',Below wa.heap.size wa w'->w'.cell? ⟨w.heap.size,1,none⟩=some (.int .i64 d):=fun w' h=>(h.cell (p:=⟨w.heap.size,1,none⟩) xz).trans i1
 have R2:∀w',Below wa.heap.size wa w'->w'.cell? ⟨w.heap.size,2,none⟩=some (.int .i64 a):=fun w' h=>(h.cell (p:=⟨w.heap.size,2,none⟩) xz).trans i2
 have R3:∀w',Below wa.heap.size wa w'->w'.cell? ⟨w.heap.size,3,none⟩=some (.int .i64 b):=fun w' h=>(h.cell (p:=⟨w.heap.size,3,none⟩) xz).trans i3
 have R4:∀w',Below wa.heap.size wa w'->w'.cell? ⟨bF,0,none⟩=some (.func (.func 107) #[] #[]):=fun w' h=>(h.cell (p:=⟨bF,0,none⟩) zF).trans ((xa.cell (p:=⟨bF,0,none⟩) hF).trans cF)
 have R5:∀w',Below wa.heap.size wa w'->w'.cell? ⟨bR,a,none⟩=some (.int .u64 (R a)):=fun w' h=>(h.cell (p:=⟨bR,a,none⟩) zR).trans ((xa.cell (p:=⟨bR,a,none⟩) hR).trans ra)
 have R6:∀w',Below wa.heap.size wa w'->w'.cell? ⟨bR,b,none⟩=some (.int .u64 (R b)):=fun w' h=>(h.cell (p:=⟨bR,b,none⟩) zR).trans ((xa.cell (p:=⟨bR,b,none⟩) hR).trans rb)
 have wd:wa.cell? ⟨bR,d,none⟩=some (.int .u64 (R d)):=(xa.cell (p:=⟨bR,d,none⟩) hR).trans rd;have wf:wa.frozen? ⟨bR,d,none⟩=false:=(xa.frozen (p:=⟨bR,d,none⟩) hR).trans hf;clear hG i1 i2 i3 c0 ra rb rd hf cF;refine wp_region_L (T:=fun w'=>Below wa.heap.size wa w') (s:=28) (by kernel_rfl) ((Below.refl _ _).drew) (fun hHeld=>?_);refine wpAnyL_ta 0 rfl ?_;refine wpAnyL_ta 1 rfl ?_;refine wpAnyL_ta 2 rfl ?_;refine wpAnyL_ta 3 rfl ?_;refine wpAnyL_ta 4 rfl ?_;refine wpAnyL_ta 5 rfl ?_;refine wpAnyL_ta 6 rfl ?_;refine wpAnyL_ta 7 rfl ?_;refine wpAnyL_ta 8 rfl ?_;refine wpAnyL_ta 9 rfl ?_;refine wpAnyL_ta 10 rfl ?_;refine wpAnyL_ta 11 rfl ?_;refine wpAnyL_ta 12 rfl ?_;refine wpAnyL_ta 13 rfl ?_;refine wpAnyL_ta 14 rfl ?_;refine wpAnyL_ta 15 rfl ?_;refine wpAnyL_ta 16 rfl ?_;refine wpAnyL_ta 17 rfl ?_;refine wpAnyL_ta 18 rfl ?_;refine wpAnyL_ta 19 rfl ?_;refine wpAnyL_ta 20 rfl ?_;refine wpAnyL_ta 21 rfl ?_;refine wpAnyL_ta 22 rfl ?_;refine wpAnyL_ta 23 rfl ?_;refine wpAnyL_ta 24 rfl ?_;refine wpAnyL_ta 25 rfl ?_;refine wpAnyL_call (i:=26) rfl (by kernel_rfl) (fun K hK=>?_);go_simp;refine(product_any _ _ _).mono ?_;rintro e w'⟨rfl,rfl⟩;go_wp2_with fail;refine hK.out _ _ ((Below.refl _ _).drew) (fun hHeld26=>?_);clear hK K;refine wpAnyL_ta 27 rfl ?_;refine wpAnyL_store rfl (by kernel_rfl) (by kernel_rfl) (fun K hK=>?_);go_simp;refine hK.out _ _ ?_;clear hK K;go_end0;exact⟨rfl,xs.drew⟩
theorem ofRegisters_bothBits(bC bR cap d a b bF:Nat)(op imm hh:Int)(R:Nat->Int)(w:World)(hd:d<8)(ha:a<8)(hb:b<8)(hC:bC<w.heap.size)(hR:bR<w.heap.size)(hF:bF<w.heap.size)
 (c0:w.cell? ⟨bC,0,none⟩=some (.slice (some ⟨bR,0,none⟩) 8 cap))(ra:w.cell? ⟨bR,a,none⟩=some (.int .u64 (R a)))(rb:w.cell? ⟨bR,b,none⟩=some (.int .u64 (R b)))(rd:w.cell? ⟨bR,d,none⟩=some (.int .u64 (R d)))(hf:w.frozen? ⟨bR,d,none⟩=false)
 (cF:w.cell? ⟨bF,0,none⟩=some (.func (.func 108) #[] #[])):
 Calls Tryz.prog 134 #[.pointer (some ⟨bC,0,none⟩),.agg #[.int .i64 op,.int .i64 d,.int .i64 a,.int .i64 b,.int .i64 imm,.int .i64 hh],.pointer (some ⟨bF,0,none⟩)] w fun e w'=>e=.returned (.tuple #[])/\Below w.heap.size (w.setCell ⟨bR,d,none⟩ (.int .u64 (bits BinOp.and IntKind.u64 (R a) (R b)))) w':=by
 have hd':(d:Int)<8:=by omega
 have ha':(a:Int)<8:=by omega
 have hb':(b:Int)<8:=by omega
 go_enter Tryz.func134,Tryz.ntmps134;go_wp2;generalize hG:w.alloc (.cells #[.int .i64 op,.int .i64 d,.int .i64 a,.int .i64 b,.int .i64 imm,.int .i64 hh] 30)=wa;have xa:Below w.heap.size w wa:=by rw[<-hG];exact(Below.refl _ _).alloc (Nat.le_refl _) _
 have xz:w.heap.size<wa.heap.size:=by rw[<-hG];simp
 have xs:Below w.heap.size (w.setCell ⟨bR,d,none⟩ (.int .u64 (bits BinOp.and IntKind.u64 (R a) (R b)))) (wa.setCell ⟨bR,d,none⟩ (.int .u64 (bits BinOp.and IntKind.u64 (R a) (R b)))):=by
  rw[<-hG,World.setCell_alloc_past (hn:=hR)];exact(Below.refl _ _).alloc (by simp) _
 have i1:wa.cell? ⟨w.heap.size,1,none⟩=some (.int .i64 d):=by rw[<-hG];simp[go_sem]
 have i2:wa.cell? ⟨w.heap.size,2,none⟩=some (.int .i64 a):=by rw[<-hG];simp[go_sem]
 have i3:wa.cell? ⟨w.heap.size,3,none⟩=some (.int .i64 b):=by rw[<-hG];simp[go_sem]
 have zC:bC<wa.heap.size:=by omega
 have zR:bR<wa.heap.size:=by omega
 have zF:bF<wa.heap.size:=by omega
 have R0:∀w',Below wa.heap.size wa w'->w'.cell? ⟨bC,0,none⟩=some (.slice (some ⟨bR,0,none⟩) 8 cap):=fun w' h=>(h.cell (p:=⟨bC,0,none⟩) zC).trans ((xa.cell (p:=⟨bC,0,none⟩) hC).trans c0)
 have R1:∀w',Below wa.heap.size wa w'->w'.cell? ⟨w.heap.size,1,none⟩=some (.int .i64 d):=fun w' h=>(h.cell (p:=⟨w.heap.size,1,none⟩) xz).trans i1
 have R2:∀w',Below wa.heap.size wa w'->w'.cell? ⟨w.heap.size,2,none⟩=some (.int .i64 a):=fun w' h=>(h.cell (p:=⟨w.heap.size,2,none⟩) xz).trans i2
 have R3:∀w',Below wa.heap.size wa w'->w'.cell? ⟨w.heap.size,3,none⟩=some (.int .i64 b):=fun w' h=>(h.cell (p:=⟨w.heap.size,3,none⟩) xz).trans i3
 have R4:∀w',Below wa.heap.size wa w'->w'.cell? ⟨bF,0,none⟩=some (.func (.func 108) #[] #[]):=fun w' h=>(h.cell (p:=⟨bF,0,none⟩) zF).trans ((xa.cell (p:=⟨bF,0,none⟩) hF).trans cF)
 have R5:∀w',Below wa.heap.size wa w'->w'.cell? ⟨bR,a,none⟩=some (.int .u64 (R a)):=fun w' h=>(h.cell (p:=⟨bR,a,none⟩) zR).trans ((xa.cell (p:=⟨bR,a,none⟩) hR).trans ra)
 have R6:∀w',Below wa.heap.size wa w'->w'.cell? ⟨bR,b,none⟩=some (.int .u64 (R b)):=fun w' h=>(h.cell (p:=⟨bR,b,none⟩) zR).trans ((xa.cell (p:=⟨bR,b,none⟩) hR).trans rb)
 have wd:wa.cell? ⟨bR,d,none⟩=some (.int .u64 (R d)):=(xa.cell (p:=⟨bR,d,none⟩) hR).trans rd;have wf:wa.frozen? ⟨bR,d,none⟩=false:=(xa.frozen (p:=⟨bR,d,none⟩) hR).trans hf;clear hG i1 i2 i3 c0 ra rb rd hf cF;refine wp_region_L (T:=fun w'=>Below wa.heap.size wa w') (s:=28) (by kernel_rfl) ((Below.refl _ _).drew) (fun hHeld=>?_);refine wpAnyL_ta 0 rfl ?_;refine wpAnyL_ta 1 rfl ?_;refine wpAnyL_ta 2 rfl ?_;refine wpAnyL_ta 3 rfl ?_;refine wpAnyL_ta 4 rfl ?_;refine wpAnyL_ta 5 rfl ?_;refine wpAnyL_ta 6 rfl ?_;refine wpAnyL_ta 7 rfl ?_;refine wpAnyL_ta 8 rfl ?_;refine wpAnyL_ta 9 rfl ?_;refine wpAnyL_ta 10 rfl ?_;refine wpAnyL_ta 11 rfl ?_;refine wpAnyL_ta 12 rfl ?_;refine wpAnyL_ta 13 rfl ?_;refine wpAnyL_ta 14 rfl ?_;refine wpAnyL_ta 15 rfl ?_;refine wpAnyL_ta 16 rfl ?_;refine wpAnyL_ta 17 rfl ?_;refine wpAnyL_ta 18 rfl ?_;refine wpAnyL_ta 19 rfl ?_;refine wpAnyL_ta 20 rfl ?_;refine wpAnyL_ta 21 rfl ?_;refine wpAnyL_ta 22 rfl ?_;refine wpAnyL_ta 23 rfl ?_;refine wpAnyL_ta 24 rfl ?_;refine wpAnyL_ta 25 rfl ?_;refine wpAnyL_call (i:=26) rfl (by kernel_rfl) (fun K hK=>?_);go_simp;refine(bothBits_any _ _ _).mono ?_;rintro e w'⟨rfl,rfl⟩;go_wp2_with fail;refine hK.out _ _ ((Below.refl _ _).drew) (fun hHeld26=>?_);clear hK K;refine wpAnyL_ta 27 rfl ?_;refine wpAnyL_store rfl (by kernel_rfl) (by kernel_rfl) (fun K hK=>?_);go_simp;refine hK.out _ _ ?_;clear hK K;go_end0;exact⟨rfl,xs.drew⟩
theorem ofRegisters_eitherBits(bC bR cap d a b bF:Nat)(op imm hh:Int)(R:Nat->Int)(w:World)(hd:d<8)(ha:a<8)(hb:b<8)(hC:bC<w.heap.size)(hR:bR<w.heap.size)(hF:bF<w.heap.size)
 (c0:w.cell? ⟨bC,0,none⟩=some (.slice (some ⟨bR,0,none⟩) 8 cap))(ra:w.cell? ⟨bR,a,none⟩=some (.int .u64 (R a)))(rb:w.cell? ⟨bR,b,none⟩=some (.int .u64 (R b)))(rd:w.cell? ⟨bR,d,none⟩=some (.int .u64 (R d)))(hf:w.frozen? ⟨bR,d,none⟩=false)
 (cF:w.cell? ⟨bF,0,none⟩=some (.func (.func 109) #[] #[])):
 Calls Tryz.prog 134 #[.pointer (some ⟨bC,0,none⟩),.agg #[.int .i64 op,.int .i64 d,.int .i64 a,.int .i64 b,.int .i64 imm,.int .i64 hh],.pointer (some ⟨bF,0,none⟩)] w fun e w'=>e=.returned (.tuple #[])/\Below w.heap.size (w.setCell ⟨bR,d,none⟩ (.int .u64 (bits BinOp.or IntKind.u64 (R a) (R b)))) w':=by
 have hd':(d:Int)<8:=by omega
 have ha':(a:Int)<8:=by omega
 have hb':(b:Int)<8:=by omega
 go_enter Tryz.func134,Tryz.ntmps134;go_wp2;generalize hG:w.alloc (.cells #[.int .i64 op,.int .i64 d,.int .i64 a,.int .i64 b,.int .i64 imm,.int .i64 hh] 30)=wa;have xa:Below w.heap.size w wa:=by rw[<-hG];exact(Below.refl _ _).alloc (Nat.le_refl _) _
 have xz:w.heap.size<wa.heap.size:=by rw[<-hG];simp
 have xs:Below w.heap.size (w.setCell ⟨bR,d,none⟩ (.int .u64 (bits BinOp.or IntKind.u64 (R a) (R b)))) (wa.setCell ⟨bR,d,none⟩ (.int .u64 (bits BinOp.or IntKind.u64 (R a) (R b)))):=by
  rw[<-hG,World.setCell_alloc_past (hn:=hR)];exact(Below.refl _ _).alloc (by simp) _
 have i1:wa.cell? ⟨w.heap.size,1,none⟩=some (.int .i64 d):=by rw[<-hG];simp[go_sem]
 have i2:wa.cell? ⟨w.heap.size,2,none⟩=some (.int .i64 a):=by rw[<-hG];simp[go_sem]
 have i3:wa.cell? ⟨w.heap.size,3,none⟩=some (.int .i64 b):=by rw[<-hG];simp[go_sem]
 have zC:bC<wa.heap.size:=by omega
 have zR:bR<wa.heap.size:=by omega
 have zF:bF<wa.heap.size:=by omega
 have R0:∀w',Below wa.heap.size wa w'->w'.cell? ⟨bC,0,none⟩=some (.slice (some ⟨bR,0,none⟩) 8 cap):=fun w' h=>(h.cell (p:=⟨bC,0,none⟩) zC).trans ((xa.cell (p:=⟨bC,0,none⟩) hC).trans c0)
 have R1:∀w',Below wa.heap.size wa w'->w'.cell? ⟨w.heap.size,1,none⟩=some (.int .i64 d):=fun w' h=>(h.cell (p:=⟨w.heap.size,1,none⟩) xz).trans i1
 have R2:∀w',Below wa.heap.size wa w'->w'.cell? ⟨w.heap.size,2,none⟩=some (.int .i64 a):=fun w' h=>(h.cell (p:=⟨w.heap.size,2,none⟩) xz).trans i2
 have R3:∀w',Below wa.heap.size wa w'->w'.cell? ⟨w.heap.size,3,none⟩=some (.int .i64 b):=fun w' h=>(h.cell (p:=⟨w.heap.size,3,none⟩) xz).trans i3
 have R4:∀w',Below wa.heap.size wa w'->w'.cell? ⟨bF,0,none⟩=some (.func (.func 109) #[] #[]):=fun w' h=>(h.cell (p:=⟨bF,0,none⟩) zF).trans ((xa.cell (p:=⟨bF,0,none⟩) hF).trans cF)
 have R5:∀w',Below wa.heap.size wa w'->w'.cell? ⟨bR,a,none⟩=some (.int .u64 (R a)):=fun w' h=>(h.cell (p:=⟨bR,a,none⟩) zR).trans ((xa.cell (p:=⟨bR,a,none⟩) hR).trans ra)
 have R6:∀w',Below wa.heap.size wa w'->w'.cell? ⟨bR,b,none⟩=some (.int .u64 (R b)):=fun w' h=>(h.cell (p:=⟨bR,b,none⟩) zR).trans ((xa.cell (p:=⟨bR,b,none⟩) hR).trans rb)
 have wd:wa.cell? ⟨bR,d,none⟩=some (.int .u64 (R d)):=(xa.cell (p:=⟨bR,d,none⟩) hR).trans rd;have wf:wa.frozen? ⟨bR,d,none⟩=false:=(xa.frozen (p:=⟨bR,d,none⟩) hR).trans hf;clear hG i1 i2 i3 c0 ra rb rd hf cF;refine wp_region_L (T:=fun w'=>Below wa.heap.size wa w') (s:=28) (by kernel_rfl) ((Below.refl _ _).drew) (fun hHeld=>?_);refine wpAnyL_ta 0 rfl ?_;refine wpAnyL_ta 1 rfl ?_;refine wpAnyL_ta 2 rfl ?_;refine wpAnyL_ta 3 rfl ?_;refine wpAnyL_ta 4 rfl ?_;refine wpAnyL_ta 5 rfl ?_;refine wpAnyL_ta 6 rfl ?_;refine wpAnyL_ta 7 rfl ?_;refine wpAnyL_ta 8 rfl ?_;refine wpAnyL_ta 9 rfl ?_;refine wpAnyL_ta 10 rfl ?_;refine wpAnyL_ta 11 rfl ?_;refine wpAnyL_ta 12 rfl ?_;refine wpAnyL_ta 13 rfl ?_;refine wpAnyL_ta 14 rfl ?_;refine wpAnyL_ta 15 rfl ?_;refine wpAnyL_ta 16 rfl ?_;refine wpAnyL_ta 17 rfl ?_;refine wpAnyL_ta 18 rfl ?_;refine wpAnyL_ta 19 rfl ?_;refine wpAnyL_ta 20 rfl ?_;refine wpAnyL_ta 21 rfl ?_;refine wpAnyL_ta 22 rfl ?_;refine wpAnyL_ta 23 rfl ?_;refine wpAnyL_ta 24 rfl ?_;refine wpAnyL_ta 25 rfl ?_;refine wpAnyL_call (i:=26) rfl (by kernel_rfl) (fun K hK=>?_);go_simp;refine(eitherBits_any _ _ _).mono ?_;rintro e w'⟨rfl,rfl⟩;go_wp2_with fail;refine hK.out _ _ ((Below.refl _ _).drew) (fun hHeld26=>?_);clear hK K;refine wpAnyL_ta 27 rfl ?_;refine wpAnyL_store rfl (by kernel_rfl) (by kernel_rfl) (fun K hK=>?_);go_simp;refine hK.out _ _ ?_;clear hK K;go_end0;exact⟨rfl,xs.drew⟩
theorem ofRegisters_oneBits(bC bR cap d a b bF:Nat)(op imm hh:Int)(R:Nat->Int)(w:World)(hd:d<8)(ha:a<8)(hb:b<8)(hC:bC<w.heap.size)(hR:bR<w.heap.size)(hF:bF<w.heap.size)
 (c0:w.cell? ⟨bC,0,none⟩=some (.slice (some ⟨bR,0,none⟩) 8 cap))(ra:w.cell? ⟨bR,a,none⟩=some (.int .u64 (R a)))(rb:w.cell? ⟨bR,b,none⟩=some (.int .u64 (R b)))(rd:w.cell? ⟨bR,d,none⟩=some (.int .u64 (R d)))(hf:w.frozen? ⟨bR,d,none⟩=false)
 (cF:w.cell? ⟨bF,0,none⟩=some (.func (.func 110) #[] #[])):
 Calls Tryz.prog 134 #[.pointer (some ⟨bC,0,none⟩),.agg #[.int .i64 op,.int .i64 d,.int .i64 a,.int .i64 b,.int .i64 imm,.int .i64 hh],.pointer (some ⟨bF,0,none⟩)] w fun e w'=>e=.returned (.tuple #[])/\Below w.heap.size (w.setCell ⟨bR,d,none⟩ (.int .u64 (bits BinOp.xor IntKind.u64 (R a) (R b)))) w':=by
 have hd':(d:Int)<8:=by omega
 have ha':(a:Int)<8:=by omega
 have hb':(b:Int)<8:=by omega
 go_enter Tryz.func134,Tryz.ntmps134;go_wp2;generalize hG:w.alloc (.cells #[.int .i64 op,.int .i64 d,.int .i64 a,.int .i64 b,.int .i64 imm,.int .i64 hh] 30)=wa;have xa:Below w.heap.size w wa:=by rw[<-hG];exact(Below.refl _ _).alloc (Nat.le_refl _) _
 have xz:w.heap.size<wa.heap.size:=by rw[<-hG];simp
 have xs:Below w.heap.size (w.setCell ⟨bR,d,none⟩ (.int .u64 (bits BinOp.xor IntKind.u64 (R a) (R b)))) (wa.setCell ⟨bR,d,none⟩ (.int .u64 (bits BinOp.xor IntKind.u64 (R a) (R b)))):=by
  rw[<-hG,World.setCell_alloc_past (hn:=hR)];exact(Below.refl _ _).alloc (by simp) _
 have i1:wa.cell? ⟨w.heap.size,1,none⟩=some (.int .i64 d):=by rw[<-hG];simp[go_sem]
 have i2:wa.cell? ⟨w.heap.size,2,none⟩=some (.int .i64 a):=by rw[<-hG];simp[go_sem]
 have i3:wa.cell? ⟨w.heap.size,3,none⟩=some (.int .i64 b):=by rw[<-hG];simp[go_sem]
 have zC:bC<wa.heap.size:=by omega
 have zR:bR<wa.heap.size:=by omega
 have zF:bF<wa.heap.size:=by omega
 have R0:∀w',Below wa.heap.size wa w'->w'.cell? ⟨bC,0,none⟩=some (.slice (some ⟨bR,0,none⟩) 8 cap):=fun w' h=>(h.cell (p:=⟨bC,0,none⟩) zC).trans ((xa.cell (p:=⟨bC,0,none⟩) hC).trans c0)
 have R1:∀w',Below wa.heap.size wa w'->w'.cell? ⟨w.heap.size,1,none⟩=some (.int .i64 d):=fun w' h=>(h.cell (p:=⟨w.heap.size,1,none⟩) xz).trans i1
 have R2:∀w',Below wa.heap.size wa w'->w'.cell? ⟨w.heap.size,2,none⟩=some (.int .i64 a):=fun w' h=>(h.cell (p:=⟨w.heap.size,2,none⟩) xz).trans i2
 have R3:∀w',Below wa.heap.size wa w'->w'.cell? ⟨w.heap.size,3,none⟩=some (.int .i64 b):=fun w' h=>(h.cell (p:=⟨w.heap.size,3,none⟩) xz).trans i3
 have R4:∀w',Below wa.heap.size wa w'->w'.cell? ⟨bF,0,none⟩=some (.func (.func 110) #[] #[]):=fun w' h=>(h.cell (p:=⟨bF,0,none⟩) zF).trans ((xa.cell (p:=⟨bF,0,none⟩) hF).trans cF)
 have R5:∀w',Below wa.heap.size wa w'->w'.cell? ⟨bR,a,none⟩=some (.int .u64 (R a)):=fun w' h=>(h.cell (p:=⟨bR,a,none⟩) zR).trans ((xa.cell (p:=⟨bR,a,none⟩) hR).trans ra)
 have R6:∀w',Below wa.heap.size wa w'->w'.cell? ⟨bR,b,none⟩=some (.int .u64 (R b)):=fun w' h=>(h.cell (p:=⟨bR,b,none⟩) zR).trans ((xa.cell (p:=⟨bR,b,none⟩) hR).trans rb)
 have wd:wa.cell? ⟨bR,d,none⟩=some (.int .u64 (R d)):=(xa.cell (p:=⟨bR,d,none⟩) hR).trans rd;have wf:wa.frozen? ⟨bR,d,none⟩=false:=(xa.frozen (p:=⟨bR,d,none⟩) hR).trans hf;clear hG i1 i2 i3 c0 ra rb rd hf cF;refine wp_region_L (T:=fun w'=>Below wa.heap.size wa w') (s:=28) (by kernel_rfl) ((Below.refl _ _).drew) (fun hHeld=>?_);refine wpAnyL_ta 0 rfl ?_;refine wpAnyL_ta 1 rfl ?_;refine wpAnyL_ta 2 rfl ?_;refine wpAnyL_ta 3 rfl ?_;refine wpAnyL_ta 4 rfl ?_;refine wpAnyL_ta 5 rfl ?_;refine wpAnyL_ta 6 rfl ?_;refine wpAnyL_ta 7 rfl ?_;refine wpAnyL_ta 8 rfl ?_;refine wpAnyL_ta 9 rfl ?_;refine wpAnyL_ta 10 rfl ?_;refine wpAnyL_ta 11 rfl ?_;refine wpAnyL_ta 12 rfl ?_;refine wpAnyL_ta 13 rfl ?_;refine wpAnyL_ta 14 rfl ?_;refine wpAnyL_ta 15 rfl ?_;refine wpAnyL_ta 16 rfl ?_;refine wpAnyL_ta 17 rfl ?_;refine wpAnyL_ta 18 rfl ?_;refine wpAnyL_ta 19 rfl ?_;refine wpAnyL_ta 20 rfl ?_;refine wpAnyL_ta 21 rfl ?_;refine wpAnyL_ta 22 rfl ?_;refine wpAnyL_ta 23 rfl ?_;refine wpAnyL_ta 24 rfl ?_;refine wpAnyL_ta 25 rfl ?_;refine wpAnyL_call (i:=26) rfl (by kernel_rfl) (fun K hK=>?_);go_simp;refine(oneBits_any _ _ _).mono ?_;rintro e w'⟨rfl,rfl⟩;go_wp2_with fail;refine hK.out _ _ ((Below.refl _ _).drew) (fun hHeld26=>?_);clear hK K;refine wpAnyL_ta 27 rfl ?_;refine wpAnyL_store rfl (by kernel_rfl) (by kernel_rfl) (fun K hK=>?_);go_simp;refine hK.out _ _ ?_;clear hK K;go_end0;exact⟨rfl,xs.drew⟩
theorem ofNumber_sum(bC bR cap d a bF:Nat)(op b imm hh:Int)(R:Nat->Int)(w:World)(hd:d<8)(ha:a<8)(hC:bC<w.heap.size)(hR:bR<w.heap.size)(hF:bF<w.heap.size)
 (c0:w.cell? ⟨bC,0,none⟩=some (.slice (some ⟨bR,0,none⟩) 8 cap))(ra:w.cell? ⟨bR,a,none⟩=some (.int .u64 (R a)))(rd:w.cell? ⟨bR,d,none⟩=some (.int .u64 (R d)))(hf:w.frozen? ⟨bR,d,none⟩=false)
 (cF:w.cell? ⟨bF,0,none⟩=some (.func (.func 105) #[] #[])):
 Calls Tryz.prog 136 #[.pointer (some ⟨bC,0,none⟩),.agg #[.int .i64 op,.int .i64 d,.int .i64 a,.int .i64 b,.int .i64 imm,.int .i64 hh],.pointer (some ⟨bF,0,none⟩)] w fun e w'=>e=.returned (.tuple #[])/\Below w.heap.size (w.setCell ⟨bR,d,none⟩ (.int .u64 (IntKind.u64.wrap (R a+IntKind.u64.wrap imm)))) w':=by
 have hd':(d:Int)<8:=by omega
 have ha':(a:Int)<8:=by omega
 go_enter Tryz.func136,Tryz.ntmps136;go_wp2;generalize hG:w.alloc (.cells #[.int .i64 op,.int .i64 d,.int .i64 a,.int .i64 b,.int .i64 imm,.int .i64 hh] 30)=wa;have xa:Below w.heap.size w wa:=by rw[<-hG];exact(Below.refl _ _).alloc (Nat.le_refl _) _
 have xz:w.heap.size<wa.heap.size:=by rw[<-hG];simp
 have xs:Below w.heap.size (w.setCell ⟨bR,d,none⟩ (.int .u64 (IntKind.u64.wrap (R a+IntKind.u64.wrap imm)))) (wa.setCell ⟨bR,d,none⟩ (.int .u64 (IntKind.u64.wrap (R a+IntKind.u64.wrap imm)))):=by
  rw[<-hG,World.setCell_alloc_past (hn:=hR)];exact(Below.refl _ _).alloc (by simp) _
 have i1:wa.cell? ⟨w.heap.size,1,none⟩=some (.int .i64 d):=by rw[<-hG];simp[go_sem]
 have i2:wa.cell? ⟨w.heap.size,2,none⟩=some (.int .i64 a):=by rw[<-hG];simp[go_sem]
 have i3:wa.cell? ⟨w.heap.size,4,none⟩=some (.int .i64 imm):=by rw[<-hG];simp[go_sem]
 have zC:bC<wa.heap.size:=by omega
 have zR:bR<wa.heap.size:=by omega
 have zF:bF<wa.heap.size:=by omega
 have R0:∀w',Below wa.heap.size wa w'->w'.cell? ⟨bC,0,none⟩=some (.slice (some ⟨bR,0,none⟩) 8 cap):=fun w' h=>(h.cell (p:=⟨bC,0,none⟩) zC).trans ((xa.cell (p:=⟨bC,0,none⟩) hC).trans c0)
 have R1:∀w',Below wa.heap.size wa w'->w'.cell? ⟨w.heap.size,1,none⟩=some (.int .i64 d):=fun w' h=>(h.cell (p:=⟨w.heap.size,1,none⟩) xz).trans i1
 have R2:∀w',Below wa.heap.size wa w'->w'.cell? ⟨w.heap.size,2,none⟩=some (.int .i64 a):=fun w' h=>(h.cell (p:=⟨w.heap.size,2,none⟩) xz).trans i2
 have R3:∀w',Below wa.heap.size wa w'->w'.cell? ⟨w.heap.size,4,none⟩=some (.int .i64 imm):=fun w' h=>(h.cell (p:=⟨w.heap.size,4,none⟩) xz).trans i3
 have R4:∀w',Below wa.heap.size wa w'->w'.cell? ⟨bF,0,none⟩=some (.func (.func 105) #[] #[]):=fun w' h=>(h.cell (p:=⟨bF,0,none⟩) zF).trans ((xa.cell (p:=⟨bF,0,none⟩) hF).trans cF)
 have R5:∀w',Below wa.heap.size wa w'->w'.cell? ⟨bR,a,none⟩=some (.int .u64 (R a)):=fun w' h=>(h.cell (p:=⟨bR,a,none⟩) zR).trans ((xa.cell (p:=⟨bR,a,none⟩) hR).trans ra)
 have wd:wa.cell? ⟨bR,d,none⟩=some (.int .u64 (R d)):=(xa.cell (p:=⟨bR,d,none⟩) hR).trans rd;have wf:wa.frozen? ⟨bR,d,none⟩=false:=(xa.frozen (p:=⟨bR,d,none⟩) hR).trans hf;clear hG i1 i2 i3 c0 ra rd hf cF;refine wp_region_L (T:=fun w'=>Below wa.heap.size wa w') (s:=22) (by kernel_rfl) ((Below.refl _ _).drew) (fun hHeld=>?_);refine wpAnyL_ta 0 rfl ?_;refine wpAnyL_ta 1 rfl ?_;refine wpAnyL_ta 2 rfl ?_;refine wpAnyL_ta 3 rfl ?_;refine wpAnyL_ta 4 rfl ?_;refine wpAnyL_ta 5 rfl ?_;refine wpAnyL_ta 6 rfl ?_;refine wpAnyL_ta 7 rfl ?_;refine wpAnyL_ta 8 rfl ?_;refine wpAnyL_ta 9 rfl ?_;refine wpAnyL_ta 10 rfl ?_;refine wpAnyL_ta 11 rfl ?_;refine wpAnyL_ta 12 rfl ?_;refine wpAnyL_ta 13 rfl ?_;refine wpAnyL_ta 14 rfl ?_;refine wpAnyL_ta 15 rfl ?_;refine wpAnyL_ta 16 rfl ?_;refine wpAnyL_ta 17 rfl ?_;refine wpAnyL_ta 18 rfl ?_;refine wpAnyL_ta 19 rfl ?_;refine wpAnyL_call (i:=20) rfl (by kernel_rfl) (fun K hK=>?_);go_simp;refine(sum_any _ _ _).mono ?_;rintro e w'⟨rfl,rfl⟩;go_wp2_with fail;refine hK.out _ _ ((Below.refl _ _).drew) (fun hHeld20=>?_);clear hK K;refine wpAnyL_ta 21 rfl ?_;refine wpAnyL_store rfl (by kernel_rfl) (by kernel_rfl) (fun K hK=>?_);go_simp;refine hK.out _ _ ?_;clear hK K;go_end0;exact⟨rfl,xs.drew⟩
theorem ofNumber_bothBits(bC bR cap d a bF:Nat)(op b imm hh:Int)(R:Nat->Int)(w:World)(hd:d<8)(ha:a<8)(hC:bC<w.heap.size)(hR:bR<w.heap.size)(hF:bF<w.heap.size)
 (c0:w.cell? ⟨bC,0,none⟩=some (.slice (some ⟨bR,0,none⟩) 8 cap))(ra:w.cell? ⟨bR,a,none⟩=some (.int .u64 (R a)))(rd:w.cell? ⟨bR,d,none⟩=some (.int .u64 (R d)))(hf:w.frozen? ⟨bR,d,none⟩=false)
 (cF:w.cell? ⟨bF,0,none⟩=some (.func (.func 108) #[] #[])):
 Calls Tryz.prog 136 #[.pointer (some ⟨bC,0,none⟩),.agg #[.int .i64 op,.int .i64 d,.int .i64 a,.int .i64 b,.int .i64 imm,.int .i64 hh],.pointer (some ⟨bF,0,none⟩)] w fun e w'=>e=.returned (.tuple #[])/\Below w.heap.size (w.setCell ⟨bR,d,none⟩ (.int .u64 (bits BinOp.and IntKind.u64 (R a) (IntKind.u64.wrap imm)))) w':=by
 have hd':(d:Int)<8:=by omega
 have ha':(a:Int)<8:=by omega
 go_enter Tryz.func136,Tryz.ntmps136;go_wp2;generalize hG:w.alloc (.cells #[.int .i64 op,.int .i64 d,.int .i64 a,.int .i64 b,.int .i64 imm,.int .i64 hh] 30)=wa;have xa:Below w.heap.size w wa:=by rw[<-hG];exact(Below.refl _ _).alloc (Nat.le_refl _) _
 have xz:w.heap.size<wa.heap.size:=by rw[<-hG];simp
 have xs:Below w.heap.size (w.setCell ⟨bR,d,none⟩ (.int .u64 (bits BinOp.and IntKind.u64 (R a) (IntKind.u64.wrap imm)))) (wa.setCell ⟨bR,d,none⟩ (.int .u64 (bits BinOp.and IntKind.u64 (R a) (IntKind.u64.wrap imm)))):=by
  rw[<-hG,World.setCell_alloc_past (hn:=hR)];exact(Below.refl _ _).alloc (by simp) _
 have i1:wa.cell? ⟨w.heap.size,1,none⟩=some (.int .i64 d):=by rw[<-hG];simp[go_sem]
 have i2:wa.cell? ⟨w.heap.size,2,none⟩=some (.int .i64 a):=by rw[<-hG];simp[go_sem]
 have i3:wa.cell? ⟨w.heap.size,4,none⟩=some (.int .i64 imm):=by rw[<-hG];simp[go_sem]
 have zC:bC<wa.heap.size:=by omega
 have zR:bR<wa.heap.size:=by omega
 have zF:bF<wa.heap.size:=by omega
 have R0:∀w',Below wa.heap.size wa w'->w'.cell? ⟨bC,0,none⟩=some (.slice (some ⟨bR,0,none⟩) 8 cap):=fun w' h=>(h.cell (p:=⟨bC,0,none⟩) zC).trans ((xa.cell (p:=⟨bC,0,none⟩) hC).trans c0)
 have R1:∀w',Below wa.heap.size wa w'->w'.cell? ⟨w.heap.size,1,none⟩=some (.int .i64 d):=fun w' h=>(h.cell (p:=⟨w.heap.size,1,none⟩) xz).trans i1
 have R2:∀w',Below wa.heap.size wa w'->w'.cell? ⟨w.heap.size,2,none⟩=some (.int .i64 a):=fun w' h=>(h.cell (p:=⟨w.heap.size,2,none⟩) xz).trans i2
 have R3:∀w',Below wa.heap.size wa w'->w'.cell? ⟨w.heap.size,4,none⟩=some (.int .i64 imm):=fun w' h=>(h.cell (p:=⟨w.heap.size,4,none⟩) xz).trans i3
 have R4:∀w',Below wa.heap.size wa w'->w'.cell? ⟨bF,0,none⟩=some (.func (.func 108) #[] #[]):=fun w' h=>(h.cell (p:=⟨bF,0,none⟩) zF).trans ((xa.cell (p:=⟨bF,0,none⟩) hF).trans cF)
 have R5:∀w',Below wa.heap.size wa w'->w'.cell? ⟨bR,a,none⟩=some (.int .u64 (R a)):=fun w' h=>(h.cell (p:=⟨bR,a,none⟩) zR).trans ((xa.cell (p:=⟨bR,a,none⟩) hR).trans ra)
 have wd:wa.cell? ⟨bR,d,none⟩=some (.int .u64 (R d)):=(xa.cell (p:=⟨bR,d,none⟩) hR).trans rd;have wf:wa.frozen? ⟨bR,d,none⟩=false:=(xa.frozen (p:=⟨bR,d,none⟩) hR).trans hf;clear hG i1 i2 i3 c0 ra rd hf cF;refine wp_region_L (T:=fun w'=>Below wa.heap.size wa w') (s:=22) (by kernel_rfl) ((Below.refl _ _).drew) (fun hHeld=>?_);refine wpAnyL_ta 0 rfl ?_;refine wpAnyL_ta 1 rfl ?_;refine wpAnyL_ta 2 rfl ?_;refine wpAnyL_ta 3 rfl ?_;refine wpAnyL_ta 4 rfl ?_;refine wpAnyL_ta 5 rfl ?_;refine wpAnyL_ta 6 rfl ?_;refine wpAnyL_ta 7 rfl ?_;refine wpAnyL_ta 8 rfl ?_;refine wpAnyL_ta 9 rfl ?_;refine wpAnyL_ta 10 rfl ?_;refine wpAnyL_ta 11 rfl ?_;refine wpAnyL_ta 12 rfl ?_;refine wpAnyL_ta 13 rfl ?_;refine wpAnyL_ta 14 rfl ?_;refine wpAnyL_ta 15 rfl ?_;refine wpAnyL_ta 16 rfl ?_;refine wpAnyL_ta 17 rfl ?_;refine wpAnyL_ta 18 rfl ?_;refine wpAnyL_ta 19 rfl ?_;refine wpAnyL_call (i:=20) rfl (by kernel_rfl) (fun K hK=>?_);go_simp;refine(bothBits_any _ _ _).mono ?_;rintro e w'⟨rfl,rfl⟩;go_wp2_with fail;refine hK.out _ _ ((Below.refl _ _).drew) (fun hHeld20=>?_);clear hK K;refine wpAnyL_ta 21 rfl ?_;refine wpAnyL_store rfl (by kernel_rfl) (by kernel_rfl) (fun K hK=>?_);go_simp;refine hK.out _ _ ?_;clear hK K;go_end0;exact⟨rfl,xs.drew⟩
theorem ofNumber_shiftLeft(bC bR cap d a bF:Nat)(op b imm hh:Int)(R:Nat->Int)(w:World)(hd:d<8)(ha:a<8)(m0:0<=imm)(m1:imm<=63)(hC:bC<w.heap.size)(hR:bR<w.heap.size)(hF:bF<w.heap.size)
 (c0:w.cell? ⟨bC,0,none⟩=some (.slice (some ⟨bR,0,none⟩) 8 cap))(ra:w.cell? ⟨bR,a,none⟩=some (.int .u64 (R a)))(rd:w.cell? ⟨bR,d,none⟩=some (.int .u64 (R d)))(hf:w.frozen? ⟨bR,d,none⟩=false)
 (cF:w.cell? ⟨bF,0,none⟩=some (.func (.func 113) #[] #[])):
 Calls Tryz.prog 136 #[.pointer (some ⟨bC,0,none⟩),.agg #[.int .i64 op,.int .i64 d,.int .i64 a,.int .i64 b,.int .i64 imm,.int .i64 hh],.pointer (some ⟨bF,0,none⟩)] w fun e w'=>e=.returned (.tuple #[])/\Below w.heap.size (w.setCell ⟨bR,d,none⟩ (.int .u64 (IntKind.u64.wrap (R a*2^(IntKind.u64.wrap imm).toNat)))) w':=by
 have hd':(d:Int)<8:=by omega
 have ha':(a:Int)<8:=by omega
 go_enter Tryz.func136,Tryz.ntmps136;go_wp2;generalize hG:w.alloc (.cells #[.int .i64 op,.int .i64 d,.int .i64 a,.int .i64 b,.int .i64 imm,.int .i64 hh] 30)=wa;have xa:Below w.heap.size w wa:=by rw[<-hG];exact(Below.refl _ _).alloc (Nat.le_refl _) _
 have xz:w.heap.size<wa.heap.size:=by rw[<-hG];simp
 have xs:Below w.heap.size (w.setCell ⟨bR,d,none⟩ (.int .u64 (IntKind.u64.wrap (R a*2^(IntKind.u64.wrap imm).toNat)))) (wa.setCell ⟨bR,d,none⟩ (.int .u64 (IntKind.u64.wrap (R a*2^(IntKind.u64.wrap imm).toNat)))):=by
  rw[<-hG,World.setCell_alloc_past (hn:=hR)];exact(Below.refl _ _).alloc (by simp) _
 have i1:wa.cell? ⟨w.heap.size,1,none⟩=some (.int .i64 d):=by rw[<-hG];simp[go_sem]
 have i2:wa.cell? ⟨w.heap.size,2,none⟩=some (.int .i64 a):=by rw[<-hG];simp[go_sem]
 have i3:wa.cell? ⟨w.heap.size,4,none⟩=some (.int .i64 imm):=by rw[<-hG];simp[go_sem]
 have zC:bC<wa.heap.size:=by omega
 have zR:bR<wa.heap.size:=by omega
 have zF:bF<wa.heap.size:=by omega
 have R0:∀w',Below wa.heap.size wa w'->w'.cell? ⟨bC,0,none⟩=some (.slice (some ⟨bR,0,none⟩) 8 cap):=fun w' h=>(h.cell (p:=⟨bC,0,none⟩) zC).trans ((xa.cell (p:=⟨bC,0,none⟩) hC).trans c0)
 have R1:∀w',Below wa.heap.size wa w'->w'.cell? ⟨w.heap.size,1,none⟩=some (.int .i64 d):=fun w' h=>(h.cell (p:=⟨w.heap.size,1,none⟩) xz).trans i1
 have R2:∀w',Below wa.heap.size wa w'->w'.cell? ⟨w.heap.size,2,none⟩=some (.int .i64 a):=fun w' h=>(h.cell (p:=⟨w.heap.size,2,none⟩) xz).trans i2
 have R3:∀w',Below wa.heap.size wa w'->w'.cell? ⟨w.heap.size,4,none⟩=some (.int .i64 imm):=fun w' h=>(h.cell (p:=⟨w.heap.size,4,none⟩) xz).trans i3
 have R4:∀w',Below wa.heap.size wa w'->w'.cell? ⟨bF,0,none⟩=some (.func (.func 113) #[] #[]):=fun w' h=>(h.cell (p:=⟨bF,0,none⟩) zF).trans ((xa.cell (p:=⟨bF,0,none⟩) hF).trans cF)
 have R5:∀w',Below wa.heap.size wa w'->w'.cell? ⟨bR,a,none⟩=some (.int .u64 (R a)):=fun w' h=>(h.cell (p:=⟨bR,a,none⟩) zR).trans ((xa.cell (p:=⟨bR,a,none⟩) hR).trans ra)
 have wd:wa.cell? ⟨bR,d,none⟩=some (.int .u64 (R d)):=(xa.cell (p:=⟨bR,d,none⟩) hR).trans rd;have wf:wa.frozen? ⟨bR,d,none⟩=false:=(xa.frozen (p:=⟨bR,d,none⟩) hR).trans hf;clear hG i1 i2 i3 c0 ra rd hf cF;refine wp_region_L (T:=fun w'=>Below wa.heap.size wa w') (s:=22) (by kernel_rfl) ((Below.refl _ _).drew) (fun hHeld=>?_);refine wpAnyL_ta 0 rfl ?_;refine wpAnyL_ta 1 rfl ?_;refine wpAnyL_ta 2 rfl ?_;refine wpAnyL_ta 3 rfl ?_;refine wpAnyL_ta 4 rfl ?_;refine wpAnyL_ta 5 rfl ?_;refine wpAnyL_ta 6 rfl ?_;refine wpAnyL_ta 7 rfl ?_;refine wpAnyL_ta 8 rfl ?_;refine wpAnyL_ta 9 rfl ?_;refine wpAnyL_ta 10 rfl ?_;refine wpAnyL_ta 11 rfl ?_;refine wpAnyL_ta 12 rfl ?_;refine wpAnyL_ta 13 rfl ?_;refine wpAnyL_ta 14 rfl ?_;refine wpAnyL_ta 15 rfl ?_;refine wpAnyL_ta 16 rfl ?_;refine wpAnyL_ta 17 rfl ?_;refine wpAnyL_ta 18 rfl ?_;refine wpAnyL_ta 19 rfl ?_;refine wpAnyL_call (i:=20) rfl (by kernel_rfl) (fun K hK=>?_);go_simp;refine(shiftLeft_any _ _ _ (by rw[IntKind.wrap_u64];omega) (by rw[IntKind.wrap_u64];omega)).mono ?_;rintro e w'⟨rfl,rfl⟩;go_wp2_with fail;refine hK.out _ _ ((Below.refl _ _).drew) (fun hHeld20=>?_);clear hK K;refine wpAnyL_ta 21 rfl ?_;refine wpAnyL_store rfl (by kernel_rfl) (by kernel_rfl) (fun K hK=>?_);go_simp;refine hK.out _ _ ?_;clear hK K;go_end0;exact⟨rfl,xs.drew⟩
theorem ofNumber_shiftRight(bC bR cap d a bF:Nat)(op b imm hh:Int)(R:Nat->Int)(w:World)(hd:d<8)(ha:a<8)(m0:0<=imm)(m1:imm<=63)(hC:bC<w.heap.size)(hR:bR<w.heap.size)(hF:bF<w.heap.size)
 (c0:w.cell? ⟨bC,0,none⟩=some (.slice (some ⟨bR,0,none⟩) 8 cap))(ra:w.cell? ⟨bR,a,none⟩=some (.int .u64 (R a)))(rd:w.cell? ⟨bR,d,none⟩=some (.int .u64 (R d)))(hf:w.frozen? ⟨bR,d,none⟩=false)
 (cF:w.cell? ⟨bF,0,none⟩=some (.func (.func 114) #[] #[])):
 Calls Tryz.prog 136 #[.pointer (some ⟨bC,0,none⟩),.agg #[.int .i64 op,.int .i64 d,.int .i64 a,.int .i64 b,.int .i64 imm,.int .i64 hh],.pointer (some ⟨bF,0,none⟩)] w fun e w'=>e=.returned (.tuple #[])/\Below w.heap.size (w.setCell ⟨bR,d,none⟩ (.int .u64 (R a/2^(IntKind.u64.wrap imm).toNat))) w':=by
 have hd':(d:Int)<8:=by omega
 have ha':(a:Int)<8:=by omega
 go_enter Tryz.func136,Tryz.ntmps136;go_wp2;generalize hG:w.alloc (.cells #[.int .i64 op,.int .i64 d,.int .i64 a,.int .i64 b,.int .i64 imm,.int .i64 hh] 30)=wa;have xa:Below w.heap.size w wa:=by rw[<-hG];exact(Below.refl _ _).alloc (Nat.le_refl _) _
 have xz:w.heap.size<wa.heap.size:=by rw[<-hG];simp
 have xs:Below w.heap.size (w.setCell ⟨bR,d,none⟩ (.int .u64 (R a/2^(IntKind.u64.wrap imm).toNat))) (wa.setCell ⟨bR,d,none⟩ (.int .u64 (R a/2^(IntKind.u64.wrap imm).toNat))):=by
  rw[<-hG,World.setCell_alloc_past (hn:=hR)];exact(Below.refl _ _).alloc (by simp) _
 have i1:wa.cell? ⟨w.heap.size,1,none⟩=some (.int .i64 d):=by rw[<-hG];simp[go_sem]
 have i2:wa.cell? ⟨w.heap.size,2,none⟩=some (.int .i64 a):=by rw[<-hG];simp[go_sem]
 have i3:wa.cell? ⟨w.heap.size,4,none⟩=some (.int .i64 imm):=by rw[<-hG];simp[go_sem]
 have zC:bC<wa.heap.size:=by omega
 have zR:bR<wa.heap.size:=by omega
 have zF:bF<wa.heap.size:=by omega
 have R0:∀w',Below wa.heap.size wa w'->w'.cell? ⟨bC,0,none⟩=some (.slice (some ⟨bR,0,none⟩) 8 cap):=fun w' h=>(h.cell (p:=⟨bC,0,none⟩) zC).trans ((xa.cell (p:=⟨bC,0,none⟩) hC).trans c0)
 have R1:∀w',Below wa.heap.size wa w'->w'.cell? ⟨w.heap.size,1,none⟩=some (.int .i64 d):=fun w' h=>(h.cell (p:=⟨w.heap.size,1,none⟩) xz).trans i1
 have R2:∀w',Below wa.heap.size wa w'->w'.cell? ⟨w.heap.size,2,none⟩=some (.int .i64 a):=fun w' h=>(h.cell (p:=⟨w.heap.size,2,none⟩) xz).trans i2
 have R3:∀w',Below wa.heap.size wa w'->w'.cell? ⟨w.heap.size,4,none⟩=some (.int .i64 imm):=fun w' h=>(h.cell (p:=⟨w.heap.size,4,none⟩) xz).trans i3
 have R4:∀w',Below wa.heap.size wa w'->w'.cell? ⟨bF,0,none⟩=some (.func (.func 114) #[] #[]):=fun w' h=>(h.cell (p:=⟨bF,0,none⟩) zF).trans ((xa.cell (p:=⟨bF,0,none⟩) hF).trans cF)
 have R5:∀w',Below wa.heap.size wa w'->w'.cell? ⟨bR,a,none⟩=some (.int .u64 (R a)):=fun w' h=>(h.cell (p:=⟨bR,a,none⟩) zR).trans ((xa.cell (p:=⟨bR,a,none⟩) hR).trans ra)
 have wd:wa.cell? ⟨bR,d,none⟩=some (.int .u64 (R d)):=(xa.cell (p:=⟨bR,d,none⟩) hR).trans rd;have wf:wa.frozen? ⟨bR,d,none⟩=false:=(xa.frozen (p:=⟨bR,d,none⟩) hR).trans hf;clear hG i1 i2 i3 c0 ra rd hf cF;refine wp_region_L (T:=fun w'=>Below wa.heap.size wa w') (s:=22) (by kernel_rfl) ((Below.refl _ _).drew) (fun hHeld=>?_);refine wpAnyL_ta 0 rfl ?_;refine wpAnyL_ta 1 rfl ?_;refine wpAnyL_ta 2 rfl ?_;refine wpAnyL_ta 3 rfl ?_;refine wpAnyL_ta 4 rfl ?_;refine wpAnyL_ta 5 rfl ?_;refine wpAnyL_ta 6 rfl ?_;refine wpAnyL_ta 7 rfl ?_;refine wpAnyL_ta 8 rfl ?_;refine wpAnyL_ta 9 rfl ?_;refine wpAnyL_ta 10 rfl ?_;refine wpAnyL_ta 11 rfl ?_;refine wpAnyL_ta 12 rfl ?_;refine wpAnyL_ta 13 rfl ?_;refine wpAnyL_ta 14 rfl ?_;refine wpAnyL_ta 15 rfl ?_;refine wpAnyL_ta 16 rfl ?_;refine wpAnyL_ta 17 rfl ?_;refine wpAnyL_ta 18 rfl ?_;refine wpAnyL_ta 19 rfl ?_;refine wpAnyL_call (i:=20) rfl (by kernel_rfl) (fun K hK=>?_);go_simp;refine(shiftRight_any _ _ _ (by rw[IntKind.wrap_u64];omega) (by rw[IntKind.wrap_u64];omega)).mono ?_;rintro e w'⟨rfl,rfl⟩;go_wp2_with fail;refine hK.out _ _ ((Below.refl _ _).drew) (fun hHeld20=>?_);clear hK K;refine wpAnyL_ta 21 rfl ?_;refine wpAnyL_store rfl (by kernel_rfl) (by kernel_rfl) (fun K hK=>?_);go_simp;refine hK.out _ _ ?_;clear hK K;go_end0;exact⟨rfl,xs.drew⟩
end Go.Proofs.YtbahofiiaodpdaaGreat
