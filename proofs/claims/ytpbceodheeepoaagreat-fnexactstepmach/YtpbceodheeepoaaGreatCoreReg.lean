import Derived.Test.YtpbceodheeepoaaGreatOfCoreF
import Derived.BigRegion
set_option maxHeartbeats 800000
namespace Go.Proofs.YtpbceodheeepoaaGreat
open Go.RowKit
theorem ofRegisters_sum(bC bR cap d a b bF:Nat)(op imm hh:Int)(R:Nat->Int)(w:World)(hd:d<8)(ha:a<8)(hb:b<8)(hC:bC<w.heap.size)(hR:bR<w.heap.size)(hF:bF<w.heap.size)
 (c0:w.cell? ⟨bC,0,none⟩=some (.slice (some ⟨bR,0,none⟩) 8 cap))(ra:w.cell? ⟨bR,a,none⟩=some (.int .u64 (R a)))(rb:w.cell? ⟨bR,b,none⟩=some (.int .u64 (R b)))(rd:w.cell? ⟨bR,d,none⟩=some (.int .u64 (R d)))(hf:w.frozen? ⟨bR,d,none⟩=false)
 (cF:w.cell? ⟨bF,0,none⟩=some (.func (.func 99) #[] #[])):
 Calls Tryz.prog 132 #[.pointer (some ⟨bC,0,none⟩),.agg #[.int .i64 op,.int .i64 d,.int .i64 a,.int .i64 b,.int .i64 imm,.int .i64 hh],.pointer (some ⟨bF,0,none⟩)] w fun e w'=>e=.returned (.tuple #[])/\Below w.heap.size (w.setCell ⟨bR,d,none⟩ (.int .u64 (IntKind.u64.wrap (R a+R b)))) w':=by
 have hd':(d:Int)<8:=by omega
 have ha':(a:Int)<8:=by omega
 have hb':(b:Int)<8:=by omega
 go_enter Tryz.func132,Tryz.ntmps132
 go_wp2
 generalize hG:w.alloc (.cells #[.int .i64 op,.int .i64 d,.int .i64 a,.int .i64 b,.int .i64 imm,.int .i64 hh] 73)=wa
 have xa:Below w.heap.size w wa:=by rw[<-hG];exact(Below.refl _ _).alloc (Nat.le_refl _) _
 have xz:w.heap.size<wa.heap.size:=by rw[<-hG];simp
 have xs:Below w.heap.size (w.setCell ⟨bR,d,none⟩ (.int .u64 (IntKind.u64.wrap (R a+R b)))) (wa.setCell ⟨bR,d,none⟩ (.int .u64 (IntKind.u64.wrap (R a+R b)))):=by
  rw[<-hG,World.setCell_alloc_past (hn:=hR)];exact(Below.refl _ _).alloc (by simp) _
 have i1:wa.cell? ⟨w.heap.size,1,none⟩=some (.int .i64 d):=by rw[<-hG];simp[go_sem]
 have i2:wa.cell? ⟨w.heap.size,2,none⟩=some (.int .i64 a):=by rw[<-hG];simp[go_sem]
 have i3:wa.cell? ⟨w.heap.size,3,none⟩=some (.int .i64 b):=by rw[<-hG];simp[go_sem]
 have zC:bC<wa.heap.size:=by omega
 have zR:bR<wa.heap.size:=by omega
 have zF:bF<wa.heap.size:=by omega
 have R0:∀w',Below wa.heap.size wa w'->w'.cell? ⟨bC,0,none⟩=some (.slice (some ⟨bR,0,none⟩) 8 cap):=fun w' h=>(h.cell (p:=⟨bC,0,none⟩) zC).trans ((xa.cell (p:=⟨bC,0,none⟩) hC).trans c0)
 have R1:∀w',Below wa.heap.size wa w'->w'.cell? ⟨w.heap.size,1,none⟩=some (.int .i64 d):=fun w' h=>(h.cell (p:=⟨w.heap.size,1,none⟩) xz).trans i1
 have R2:∀w',Below wa.heap.size wa w'->w'.cell? ⟨w.heap.size,2,none⟩=some (.int .i64 a):=fun w' h=>(h.cell (p:=⟨w.heap.size,2,none⟩) xz).trans i2
 have R3:∀w',Below wa.heap.size wa w'->w'.cell? ⟨w.heap.size,3,none⟩=some (.int .i64 b):=fun w' h=>(h.cell (p:=⟨w.heap.size,3,none⟩) xz).trans i3
 have R4:∀w',Below wa.heap.size wa w'->w'.cell? ⟨bF,0,none⟩=some (.func (.func 99) #[] #[]):=fun w' h=>(h.cell (p:=⟨bF,0,none⟩) zF).trans ((xa.cell (p:=⟨bF,0,none⟩) hF).trans cF)
 have R5:∀w',Below wa.heap.size wa w'->w'.cell? ⟨bR,a,none⟩=some (.int .u64 (R a)):=fun w' h=>(h.cell (p:=⟨bR,a,none⟩) zR).trans ((xa.cell (p:=⟨bR,a,none⟩) hR).trans ra)
 have R6:∀w',Below wa.heap.size wa w'->w'.cell? ⟨bR,b,none⟩=some (.int .u64 (R b)):=fun w' h=>(h.cell (p:=⟨bR,b,none⟩) zR).trans ((xa.cell (p:=⟨bR,b,none⟩) hR).trans rb)
 have wd:wa.cell? ⟨bR,d,none⟩=some (.int .u64 (R d)):=(xa.cell (p:=⟨bR,d,none⟩) hR).trans rd
 have wf:wa.frozen? ⟨bR,d,none⟩=false:=(xa.frozen (p:=⟨bR,d,none⟩) hR).trans hf
 clear hG i1 i2 i3 c0 ra rb rd hf cF
 refine wp_region_L (T:=fun w'=>Below wa.heap.size wa w') (s:=28) (by kernel_rfl) ((Below.refl _ _).drew) (fun hHeld=>?_)
 refine wpAnyL_tk 0 ?v0 rfl ?y0 ?r0
 case y0=>(intro w hSw;(try dsimp only at hSw);go_simp;try with_reducible rfl)
 try go_frame
 refine wpAnyL_tk 1 ?v1 rfl ?y1 ?r1
 case y1=>(intro w hSw;(try dsimp only at hSw);go_simp;try with_reducible rfl)
 try go_frame
 refine wpAnyL_tk 2 ?v2 rfl ?y2 ?r2
 case y2=>(intro w hSw;(try dsimp only at hSw);go_simp;try with_reducible rfl)
 try go_frame
 refine wpAnyL_tk 3 ?v3 rfl ?y3 ?r3
 case y3=>(intro w hSw;(try dsimp only at hSw);go_simp;try with_reducible rfl)
 try go_frame
 refine wpAnyL_tk 4 ?v4 rfl ?y4 ?r4
 case y4=>(intro w hSw;(try dsimp only at hSw);go_simp;try with_reducible rfl)
 try go_frame
 refine wpAnyL_tk 5 ?v5 rfl ?y5 ?r5
 case y5=>(intro w hSw;(try dsimp only at hSw);go_simp;try with_reducible rfl)
 try go_frame
 refine wpAnyL_tk 6 ?v6 rfl ?y6 ?r6
 case y6=>(intro w hSw;(try dsimp only at hSw);go_simp;try with_reducible rfl)
 try go_frame
 refine wpAnyL_tk 7 ?v7 rfl ?y7 ?r7
 case y7=>(intro w hSw;(try dsimp only at hSw);go_simp;try with_reducible rfl)
 try go_frame
 refine wpAnyL_tk 8 ?v8 rfl ?y8 ?r8
 case y8=>(intro w hSw;(try dsimp only at hSw);go_simp;try with_reducible rfl)
 try go_frame
 refine wpAnyL_tk 9 ?v9 rfl ?y9 ?r9
 case y9=>(intro w hSw;(try dsimp only at hSw);go_simp;try with_reducible rfl)
 try go_frame
 refine wpAnyL_tk 10 ?v10 rfl ?y10 ?r10
 case y10=>(intro w hSw;(try dsimp only at hSw);go_simp;try with_reducible rfl)
 try go_frame
 refine wpAnyL_tk 11 ?v11 rfl ?y11 ?r11
 case y11=>(intro w hSw;(try dsimp only at hSw);go_simp;try with_reducible rfl)
 try go_frame
 refine wpAnyL_tk 12 ?v12 rfl ?y12 ?r12
 case y12=>(intro w hSw;(try dsimp only at hSw);go_simp;try with_reducible rfl)
 try go_frame
 refine wpAnyL_tk 13 ?v13 rfl ?y13 ?r13
 case y13=>(intro w hSw;(try dsimp only at hSw);go_simp;try with_reducible rfl)
 try go_frame
 refine wpAnyL_tk 14 ?v14 rfl ?y14 ?r14
 case y14=>(intro w hSw;(try dsimp only at hSw);go_simp;try with_reducible rfl)
 try go_frame
 refine wpAnyL_tk 15 ?v15 rfl ?y15 ?r15
 case y15=>(intro w hSw;(try dsimp only at hSw);go_simp;try with_reducible rfl)
 try go_frame
 refine wpAnyL_tk 16 ?v16 rfl ?y16 ?r16
 case y16=>(intro w hSw;(try dsimp only at hSw);go_simp;try with_reducible rfl)
 try go_frame
 refine wpAnyL_tk 17 ?v17 rfl ?y17 ?r17
 case y17=>(intro w hSw;(try dsimp only at hSw);go_simp;try with_reducible rfl)
 try go_frame
 refine wpAnyL_tk 18 ?v18 rfl ?y18 ?r18
 case y18=>(intro w hSw;(try dsimp only at hSw);go_simp;try with_reducible rfl)
 try go_frame
 refine wpAnyL_tk 19 ?v19 rfl ?y19 ?r19
 case y19=>(intro w hSw;(try dsimp only at hSw);go_simp;try with_reducible rfl)
 try go_frame
 refine wpAnyL_tk 20 ?v20 rfl ?y20 ?r20
 case y20=>(intro w hSw;(try dsimp only at hSw);go_simp;try with_reducible rfl)
 try go_frame
 refine wpAnyL_tk 21 ?v21 rfl ?y21 ?r21
 case y21=>(intro w hSw;(try dsimp only at hSw);go_simp;try with_reducible rfl)
 try go_frame
 refine wpAnyL_tk 22 ?v22 rfl ?y22 ?r22
 case y22=>(intro w hSw;(try dsimp only at hSw);go_simp;try with_reducible rfl)
 try go_frame
 refine wpAnyL_tk 23 ?v23 rfl ?y23 ?r23
 case y23=>(intro w hSw;(try dsimp only at hSw);go_simp;try with_reducible rfl)
 try go_frame
 refine wpAnyL_tk 24 ?v24 rfl ?y24 ?r24
 case y24=>(intro w hSw;(try dsimp only at hSw);go_simp;try with_reducible rfl)
 try go_frame
 refine wpAnyL_tk 25 ?v25 rfl ?y25 ?r25
 case y25=>(intro w hSw;(try dsimp only at hSw);go_simp;try with_reducible rfl)
 try go_frame
 refine wpAnyL_call (i:=26) rfl (by kernel_rfl) (fun K hK=>?_)
 go_simp
 refine(sum_any _ _ _).mono ?_
 rintro e w'⟨rfl,rfl⟩
 go_wp2_with fail
 refine hK.out _ _ ((Below.refl _ _).drew) (fun hHeld26=>?_)
 clear hK K
 refine wpAnyL_tk 27 ?v27 rfl ?y27 ?r27
 case y27=>(intro w hSw;(try dsimp only at hSw);go_simp;try with_reducible rfl)
 try go_frame
 refine wpAnyL_store rfl (by kernel_rfl) (by kernel_rfl) (fun K hK=>?_)
 go_simp
 refine hK.out _ _ ?_
 clear hK K
 go_end0
 exact⟨rfl,xs.drew⟩
theorem ofRegisters_difference(bC bR cap d a b bF:Nat)(op imm hh:Int)(R:Nat->Int)(w:World)(hd:d<8)(ha:a<8)(hb:b<8)(hC:bC<w.heap.size)(hR:bR<w.heap.size)(hF:bF<w.heap.size)
 (c0:w.cell? ⟨bC,0,none⟩=some (.slice (some ⟨bR,0,none⟩) 8 cap))(ra:w.cell? ⟨bR,a,none⟩=some (.int .u64 (R a)))(rb:w.cell? ⟨bR,b,none⟩=some (.int .u64 (R b)))(rd:w.cell? ⟨bR,d,none⟩=some (.int .u64 (R d)))(hf:w.frozen? ⟨bR,d,none⟩=false)
 (cF:w.cell? ⟨bF,0,none⟩=some (.func (.func 100) #[] #[])):
 Calls Tryz.prog 132 #[.pointer (some ⟨bC,0,none⟩),.agg #[.int .i64 op,.int .i64 d,.int .i64 a,.int .i64 b,.int .i64 imm,.int .i64 hh],.pointer (some ⟨bF,0,none⟩)] w fun e w'=>e=.returned (.tuple #[])/\Below w.heap.size (w.setCell ⟨bR,d,none⟩ (.int .u64 (IntKind.u64.wrap (R a-R b)))) w':=by
 have hd':(d:Int)<8:=by omega
 have ha':(a:Int)<8:=by omega
 have hb':(b:Int)<8:=by omega
 go_enter Tryz.func132,Tryz.ntmps132
 go_wp2
 generalize hG:w.alloc (.cells #[.int .i64 op,.int .i64 d,.int .i64 a,.int .i64 b,.int .i64 imm,.int .i64 hh] 73)=wa
 have xa:Below w.heap.size w wa:=by rw[<-hG];exact(Below.refl _ _).alloc (Nat.le_refl _) _
 have xz:w.heap.size<wa.heap.size:=by rw[<-hG];simp
 have xs:Below w.heap.size (w.setCell ⟨bR,d,none⟩ (.int .u64 (IntKind.u64.wrap (R a-R b)))) (wa.setCell ⟨bR,d,none⟩ (.int .u64 (IntKind.u64.wrap (R a-R b)))):=by
  rw[<-hG,World.setCell_alloc_past (hn:=hR)];exact(Below.refl _ _).alloc (by simp) _
 have i1:wa.cell? ⟨w.heap.size,1,none⟩=some (.int .i64 d):=by rw[<-hG];simp[go_sem]
 have i2:wa.cell? ⟨w.heap.size,2,none⟩=some (.int .i64 a):=by rw[<-hG];simp[go_sem]
 have i3:wa.cell? ⟨w.heap.size,3,none⟩=some (.int .i64 b):=by rw[<-hG];simp[go_sem]
 have zC:bC<wa.heap.size:=by omega
 have zR:bR<wa.heap.size:=by omega
 have zF:bF<wa.heap.size:=by omega
 have R0:∀w',Below wa.heap.size wa w'->w'.cell? ⟨bC,0,none⟩=some (.slice (some ⟨bR,0,none⟩) 8 cap):=fun w' h=>(h.cell (p:=⟨bC,0,none⟩) zC).trans ((xa.cell (p:=⟨bC,0,none⟩) hC).trans c0)
 have R1:∀w',Below wa.heap.size wa w'->w'.cell? ⟨w.heap.size,1,none⟩=some (.int .i64 d):=fun w' h=>(h.cell (p:=⟨w.heap.size,1,none⟩) xz).trans i1
 have R2:∀w',Below wa.heap.size wa w'->w'.cell? ⟨w.heap.size,2,none⟩=some (.int .i64 a):=fun w' h=>(h.cell (p:=⟨w.heap.size,2,none⟩) xz).trans i2
 have R3:∀w',Below wa.heap.size wa w'->w'.cell? ⟨w.heap.size,3,none⟩=some (.int .i64 b):=fun w' h=>(h.cell (p:=⟨w.heap.size,3,none⟩) xz).trans i3
 have R4:∀w',Below wa.heap.size wa w'->w'.cell? ⟨bF,0,none⟩=some (.func (.func 100) #[] #[]):=fun w' h=>(h.cell (p:=⟨bF,0,none⟩) zF).trans ((xa.cell (p:=⟨bF,0,none⟩) hF).trans cF)
 have R5:∀w',Below wa.heap.size wa w'->w'.cell? ⟨bR,a,none⟩=some (.int .u64 (R a)):=fun w' h=>(h.cell (p:=⟨bR,a,none⟩) zR).trans ((xa.cell (p:=⟨bR,a,none⟩) hR).trans ra)
 have R6:∀w',Below wa.heap.size wa w'->w'.cell? ⟨bR,b,none⟩=some (.int .u64 (R b)):=fun w' h=>(h.cell (p:=⟨bR,b,none⟩) zR).trans ((xa.cell (p:=⟨bR,b,none⟩) hR).trans rb)
 have wd:wa.cell? ⟨bR,d,none⟩=some (.int .u64 (R d)):=(xa.cell (p:=⟨bR,d,none⟩) hR).trans rd
 have wf:wa.frozen? ⟨bR,d,none⟩=false:=(xa.frozen (p:=⟨bR,d,none⟩) hR).trans hf
 clear hG i1 i2 i3 c0 ra rb rd hf cF
 refine wp_region_L (T:=fun w'=>Below wa.heap.size wa w') (s:=28) (by kernel_rfl) ((Below.refl _ _).drew) (fun hHeld=>?_)
 refine wpAnyL_tk 0 ?v0 rfl ?y0 ?r0
 case y0=>(intro w hSw;(try dsimp only at hSw);go_simp;try with_reducible rfl)
 try go_frame
 refine wpAnyL_tk 1 ?v1 rfl ?y1 ?r1
 case y1=>(intro w hSw;(try dsimp only at hSw);go_simp;try with_reducible rfl)
 try go_frame
 refine wpAnyL_tk 2 ?v2 rfl ?y2 ?r2
 case y2=>(intro w hSw;(try dsimp only at hSw);go_simp;try with_reducible rfl)
 try go_frame
 refine wpAnyL_tk 3 ?v3 rfl ?y3 ?r3
 case y3=>(intro w hSw;(try dsimp only at hSw);go_simp;try with_reducible rfl)
 try go_frame
 refine wpAnyL_tk 4 ?v4 rfl ?y4 ?r4
 case y4=>(intro w hSw;(try dsimp only at hSw);go_simp;try with_reducible rfl)
 try go_frame
 refine wpAnyL_tk 5 ?v5 rfl ?y5 ?r5
 case y5=>(intro w hSw;(try dsimp only at hSw);go_simp;try with_reducible rfl)
 try go_frame
 refine wpAnyL_tk 6 ?v6 rfl ?y6 ?r6
 case y6=>(intro w hSw;(try dsimp only at hSw);go_simp;try with_reducible rfl)
 try go_frame
 refine wpAnyL_tk 7 ?v7 rfl ?y7 ?r7
 case y7=>(intro w hSw;(try dsimp only at hSw);go_simp;try with_reducible rfl)
 try go_frame
 refine wpAnyL_tk 8 ?v8 rfl ?y8 ?r8
 case y8=>(intro w hSw;(try dsimp only at hSw);go_simp;try with_reducible rfl)
 try go_frame
 refine wpAnyL_tk 9 ?v9 rfl ?y9 ?r9
 case y9=>(intro w hSw;(try dsimp only at hSw);go_simp;try with_reducible rfl)
 try go_frame
 refine wpAnyL_tk 10 ?v10 rfl ?y10 ?r10
 case y10=>(intro w hSw;(try dsimp only at hSw);go_simp;try with_reducible rfl)
 try go_frame
 refine wpAnyL_tk 11 ?v11 rfl ?y11 ?r11
 case y11=>(intro w hSw;(try dsimp only at hSw);go_simp;try with_reducible rfl)
 try go_frame
 refine wpAnyL_tk 12 ?v12 rfl ?y12 ?r12
 case y12=>(intro w hSw;(try dsimp only at hSw);go_simp;try with_reducible rfl)
 try go_frame
 refine wpAnyL_tk 13 ?v13 rfl ?y13 ?r13
 case y13=>(intro w hSw;(try dsimp only at hSw);go_simp;try with_reducible rfl)
 try go_frame
 refine wpAnyL_tk 14 ?v14 rfl ?y14 ?r14
 case y14=>(intro w hSw;(try dsimp only at hSw);go_simp;try with_reducible rfl)
 try go_frame
 refine wpAnyL_tk 15 ?v15 rfl ?y15 ?r15
 case y15=>(intro w hSw;(try dsimp only at hSw);go_simp;try with_reducible rfl)
 try go_frame
 refine wpAnyL_tk 16 ?v16 rfl ?y16 ?r16
 case y16=>(intro w hSw;(try dsimp only at hSw);go_simp;try with_reducible rfl)
 try go_frame
 refine wpAnyL_tk 17 ?v17 rfl ?y17 ?r17
 case y17=>(intro w hSw;(try dsimp only at hSw);go_simp;try with_reducible rfl)
 try go_frame
 refine wpAnyL_tk 18 ?v18 rfl ?y18 ?r18
 case y18=>(intro w hSw;(try dsimp only at hSw);go_simp;try with_reducible rfl)
 try go_frame
 refine wpAnyL_tk 19 ?v19 rfl ?y19 ?r19
 case y19=>(intro w hSw;(try dsimp only at hSw);go_simp;try with_reducible rfl)
 try go_frame
 refine wpAnyL_tk 20 ?v20 rfl ?y20 ?r20
 case y20=>(intro w hSw;(try dsimp only at hSw);go_simp;try with_reducible rfl)
 try go_frame
 refine wpAnyL_tk 21 ?v21 rfl ?y21 ?r21
 case y21=>(intro w hSw;(try dsimp only at hSw);go_simp;try with_reducible rfl)
 try go_frame
 refine wpAnyL_tk 22 ?v22 rfl ?y22 ?r22
 case y22=>(intro w hSw;(try dsimp only at hSw);go_simp;try with_reducible rfl)
 try go_frame
 refine wpAnyL_tk 23 ?v23 rfl ?y23 ?r23
 case y23=>(intro w hSw;(try dsimp only at hSw);go_simp;try with_reducible rfl)
 try go_frame
 refine wpAnyL_tk 24 ?v24 rfl ?y24 ?r24
 case y24=>(intro w hSw;(try dsimp only at hSw);go_simp;try with_reducible rfl)
 try go_frame
 refine wpAnyL_tk 25 ?v25 rfl ?y25 ?r25
 case y25=>(intro w hSw;(try dsimp only at hSw);go_simp;try with_reducible rfl)
 try go_frame
 refine wpAnyL_call (i:=26) rfl (by kernel_rfl) (fun K hK=>?_)
 go_simp
 refine(difference_any _ _ _).mono ?_
 rintro e w'⟨rfl,rfl⟩
 go_wp2_with fail
 refine hK.out _ _ ((Below.refl _ _).drew) (fun hHeld26=>?_)
 clear hK K
 refine wpAnyL_tk 27 ?v27 rfl ?y27 ?r27
 case y27=>(intro w hSw;(try dsimp only at hSw);go_simp;try with_reducible rfl)
 try go_frame
 refine wpAnyL_store rfl (by kernel_rfl) (by kernel_rfl) (fun K hK=>?_)
 go_simp
 refine hK.out _ _ ?_
 clear hK K
 go_end0
 exact⟨rfl,xs.drew⟩
theorem ofRegisters_product(bC bR cap d a b bF:Nat)(op imm hh:Int)(R:Nat->Int)(w:World)(hd:d<8)(ha:a<8)(hb:b<8)(hC:bC<w.heap.size)(hR:bR<w.heap.size)(hF:bF<w.heap.size)
 (c0:w.cell? ⟨bC,0,none⟩=some (.slice (some ⟨bR,0,none⟩) 8 cap))(ra:w.cell? ⟨bR,a,none⟩=some (.int .u64 (R a)))(rb:w.cell? ⟨bR,b,none⟩=some (.int .u64 (R b)))(rd:w.cell? ⟨bR,d,none⟩=some (.int .u64 (R d)))(hf:w.frozen? ⟨bR,d,none⟩=false)
 (cF:w.cell? ⟨bF,0,none⟩=some (.func (.func 101) #[] #[])):
 Calls Tryz.prog 132 #[.pointer (some ⟨bC,0,none⟩),.agg #[.int .i64 op,.int .i64 d,.int .i64 a,.int .i64 b,.int .i64 imm,.int .i64 hh],.pointer (some ⟨bF,0,none⟩)] w fun e w'=>e=.returned (.tuple #[])/\Below w.heap.size (w.setCell ⟨bR,d,none⟩ (.int .u64 (IntKind.u64.wrap (R a*R b)))) w':=by
 have hd':(d:Int)<8:=by omega
 have ha':(a:Int)<8:=by omega
 have hb':(b:Int)<8:=by omega
 go_enter Tryz.func132,Tryz.ntmps132
 go_wp2
 generalize hG:w.alloc (.cells #[.int .i64 op,.int .i64 d,.int .i64 a,.int .i64 b,.int .i64 imm,.int .i64 hh] 73)=wa
 have xa:Below w.heap.size w wa:=by rw[<-hG];exact(Below.refl _ _).alloc (Nat.le_refl _) _
 have xz:w.heap.size<wa.heap.size:=by rw[<-hG];simp
 have xs:Below w.heap.size (w.setCell ⟨bR,d,none⟩ (.int .u64 (IntKind.u64.wrap (R a*R b)))) (wa.setCell ⟨bR,d,none⟩ (.int .u64 (IntKind.u64.wrap (R a*R b)))):=by
  rw[<-hG,World.setCell_alloc_past (hn:=hR)];exact(Below.refl _ _).alloc (by simp) _
 have i1:wa.cell? ⟨w.heap.size,1,none⟩=some (.int .i64 d):=by rw[<-hG];simp[go_sem]
 have i2:wa.cell? ⟨w.heap.size,2,none⟩=some (.int .i64 a):=by rw[<-hG];simp[go_sem]
 have i3:wa.cell? ⟨w.heap.size,3,none⟩=some (.int .i64 b):=by rw[<-hG];simp[go_sem]
 have zC:bC<wa.heap.size:=by omega
 have zR:bR<wa.heap.size:=by omega
 have zF:bF<wa.heap.size:=by omega
 have R0:∀w',Below wa.heap.size wa w'->w'.cell? ⟨bC,0,none⟩=some (.slice (some ⟨bR,0,none⟩) 8 cap):=fun w' h=>(h.cell (p:=⟨bC,0,none⟩) zC).trans ((xa.cell (p:=⟨bC,0,none⟩) hC).trans c0)
 have R1:∀w',Below wa.heap.size wa w'->w'.cell? ⟨w.heap.size,1,none⟩=some (.int .i64 d):=fun w' h=>(h.cell (p:=⟨w.heap.size,1,none⟩) xz).trans i1
 have R2:∀w',Below wa.heap.size wa w'->w'.cell? ⟨w.heap.size,2,none⟩=some (.int .i64 a):=fun w' h=>(h.cell (p:=⟨w.heap.size,2,none⟩) xz).trans i2
 have R3:∀w',Below wa.heap.size wa w'->w'.cell? ⟨w.heap.size,3,none⟩=some (.int .i64 b):=fun w' h=>(h.cell (p:=⟨w.heap.size,3,none⟩) xz).trans i3
 have R4:∀w',Below wa.heap.size wa w'->w'.cell? ⟨bF,0,none⟩=some (.func (.func 101) #[] #[]):=fun w' h=>(h.cell (p:=⟨bF,0,none⟩) zF).trans ((xa.cell (p:=⟨bF,0,none⟩) hF).trans cF)
 have R5:∀w',Below wa.heap.size wa w'->w'.cell? ⟨bR,a,none⟩=some (.int .u64 (R a)):=fun w' h=>(h.cell (p:=⟨bR,a,none⟩) zR).trans ((xa.cell (p:=⟨bR,a,none⟩) hR).trans ra)
 have R6:∀w',Below wa.heap.size wa w'->w'.cell? ⟨bR,b,none⟩=some (.int .u64 (R b)):=fun w' h=>(h.cell (p:=⟨bR,b,none⟩) zR).trans ((xa.cell (p:=⟨bR,b,none⟩) hR).trans rb)
 have wd:wa.cell? ⟨bR,d,none⟩=some (.int .u64 (R d)):=(xa.cell (p:=⟨bR,d,none⟩) hR).trans rd
 have wf:wa.frozen? ⟨bR,d,none⟩=false:=(xa.frozen (p:=⟨bR,d,none⟩) hR).trans hf
 clear hG i1 i2 i3 c0 ra rb rd hf cF
 refine wp_region_L (T:=fun w'=>Below wa.heap.size wa w') (s:=28) (by kernel_rfl) ((Below.refl _ _).drew) (fun hHeld=>?_)
 refine wpAnyL_tk 0 ?v0 rfl ?y0 ?r0
 case y0=>(intro w hSw;(try dsimp only at hSw);go_simp;try with_reducible rfl)
 try go_frame
 refine wpAnyL_tk 1 ?v1 rfl ?y1 ?r1
 case y1=>(intro w hSw;(try dsimp only at hSw);go_simp;try with_reducible rfl)
 try go_frame
 refine wpAnyL_tk 2 ?v2 rfl ?y2 ?r2
 case y2=>(intro w hSw;(try dsimp only at hSw);go_simp;try with_reducible rfl)
 try go_frame
 refine wpAnyL_tk 3 ?v3 rfl ?y3 ?r3
 case y3=>(intro w hSw;(try dsimp only at hSw);go_simp;try with_reducible rfl)
 try go_frame
 refine wpAnyL_tk 4 ?v4 rfl ?y4 ?r4
 case y4=>(intro w hSw;(try dsimp only at hSw);go_simp;try with_reducible rfl)
 try go_frame
 refine wpAnyL_tk 5 ?v5 rfl ?y5 ?r5
 case y5=>(intro w hSw;(try dsimp only at hSw);go_simp;try with_reducible rfl)
 try go_frame
 refine wpAnyL_tk 6 ?v6 rfl ?y6 ?r6
 case y6=>(intro w hSw;(try dsimp only at hSw);go_simp;try with_reducible rfl)
 try go_frame
 refine wpAnyL_tk 7 ?v7 rfl ?y7 ?r7
 case y7=>(intro w hSw;(try dsimp only at hSw);go_simp;try with_reducible rfl)
 try go_frame
 refine wpAnyL_tk 8 ?v8 rfl ?y8 ?r8
 case y8=>(intro w hSw;(try dsimp only at hSw);go_simp;try with_reducible rfl)
 try go_frame
 refine wpAnyL_tk 9 ?v9 rfl ?y9 ?r9
 case y9=>(intro w hSw;(try dsimp only at hSw);go_simp;try with_reducible rfl)
 try go_frame
 refine wpAnyL_tk 10 ?v10 rfl ?y10 ?r10
 case y10=>(intro w hSw;(try dsimp only at hSw);go_simp;try with_reducible rfl)
 try go_frame
 refine wpAnyL_tk 11 ?v11 rfl ?y11 ?r11
 case y11=>(intro w hSw;(try dsimp only at hSw);go_simp;try with_reducible rfl)
 try go_frame
 refine wpAnyL_tk 12 ?v12 rfl ?y12 ?r12
 case y12=>(intro w hSw;(try dsimp only at hSw);go_simp;try with_reducible rfl)
 try go_frame
 refine wpAnyL_tk 13 ?v13 rfl ?y13 ?r13
 case y13=>(intro w hSw;(try dsimp only at hSw);go_simp;try with_reducible rfl)
 try go_frame
 refine wpAnyL_tk 14 ?v14 rfl ?y14 ?r14
 case y14=>(intro w hSw;(try dsimp only at hSw);go_simp;try with_reducible rfl)
 try go_frame
 refine wpAnyL_tk 15 ?v15 rfl ?y15 ?r15
 case y15=>(intro w hSw;(try dsimp only at hSw);go_simp;try with_reducible rfl)
 try go_frame
 refine wpAnyL_tk 16 ?v16 rfl ?y16 ?r16
 case y16=>(intro w hSw;(try dsimp only at hSw);go_simp;try with_reducible rfl)
 try go_frame
 refine wpAnyL_tk 17 ?v17 rfl ?y17 ?r17
 case y17=>(intro w hSw;(try dsimp only at hSw);go_simp;try with_reducible rfl)
 try go_frame
 refine wpAnyL_tk 18 ?v18 rfl ?y18 ?r18
 case y18=>(intro w hSw;(try dsimp only at hSw);go_simp;try with_reducible rfl)
 try go_frame
 refine wpAnyL_tk 19 ?v19 rfl ?y19 ?r19
 case y19=>(intro w hSw;(try dsimp only at hSw);go_simp;try with_reducible rfl)
 try go_frame
 refine wpAnyL_tk 20 ?v20 rfl ?y20 ?r20
 case y20=>(intro w hSw;(try dsimp only at hSw);go_simp;try with_reducible rfl)
 try go_frame
 refine wpAnyL_tk 21 ?v21 rfl ?y21 ?r21
 case y21=>(intro w hSw;(try dsimp only at hSw);go_simp;try with_reducible rfl)
 try go_frame
 refine wpAnyL_tk 22 ?v22 rfl ?y22 ?r22
 case y22=>(intro w hSw;(try dsimp only at hSw);go_simp;try with_reducible rfl)
 try go_frame
 refine wpAnyL_tk 23 ?v23 rfl ?y23 ?r23
 case y23=>(intro w hSw;(try dsimp only at hSw);go_simp;try with_reducible rfl)
 try go_frame
 refine wpAnyL_tk 24 ?v24 rfl ?y24 ?r24
 case y24=>(intro w hSw;(try dsimp only at hSw);go_simp;try with_reducible rfl)
 try go_frame
 refine wpAnyL_tk 25 ?v25 rfl ?y25 ?r25
 case y25=>(intro w hSw;(try dsimp only at hSw);go_simp;try with_reducible rfl)
 try go_frame
 refine wpAnyL_call (i:=26) rfl (by kernel_rfl) (fun K hK=>?_)
 go_simp
 refine(product_any _ _ _).mono ?_
 rintro e w'⟨rfl,rfl⟩
 go_wp2_with fail
 refine hK.out _ _ ((Below.refl _ _).drew) (fun hHeld26=>?_)
 clear hK K
 refine wpAnyL_tk 27 ?v27 rfl ?y27 ?r27
 case y27=>(intro w hSw;(try dsimp only at hSw);go_simp;try with_reducible rfl)
 try go_frame
 refine wpAnyL_store rfl (by kernel_rfl) (by kernel_rfl) (fun K hK=>?_)
 go_simp
 refine hK.out _ _ ?_
 clear hK K
 go_end0
 exact⟨rfl,xs.drew⟩
theorem ofRegisters_bothBits(bC bR cap d a b bF:Nat)(op imm hh:Int)(R:Nat->Int)(w:World)(hd:d<8)(ha:a<8)(hb:b<8)(hC:bC<w.heap.size)(hR:bR<w.heap.size)(hF:bF<w.heap.size)
 (c0:w.cell? ⟨bC,0,none⟩=some (.slice (some ⟨bR,0,none⟩) 8 cap))(ra:w.cell? ⟨bR,a,none⟩=some (.int .u64 (R a)))(rb:w.cell? ⟨bR,b,none⟩=some (.int .u64 (R b)))(rd:w.cell? ⟨bR,d,none⟩=some (.int .u64 (R d)))(hf:w.frozen? ⟨bR,d,none⟩=false)
 (cF:w.cell? ⟨bF,0,none⟩=some (.func (.func 102) #[] #[])):
 Calls Tryz.prog 132 #[.pointer (some ⟨bC,0,none⟩),.agg #[.int .i64 op,.int .i64 d,.int .i64 a,.int .i64 b,.int .i64 imm,.int .i64 hh],.pointer (some ⟨bF,0,none⟩)] w fun e w'=>e=.returned (.tuple #[])/\Below w.heap.size (w.setCell ⟨bR,d,none⟩ (.int .u64 (bits BinOp.and IntKind.u64 (R a) (R b)))) w':=by
 have hd':(d:Int)<8:=by omega
 have ha':(a:Int)<8:=by omega
 have hb':(b:Int)<8:=by omega
 go_enter Tryz.func132,Tryz.ntmps132
 go_wp2
 generalize hG:w.alloc (.cells #[.int .i64 op,.int .i64 d,.int .i64 a,.int .i64 b,.int .i64 imm,.int .i64 hh] 73)=wa
 have xa:Below w.heap.size w wa:=by rw[<-hG];exact(Below.refl _ _).alloc (Nat.le_refl _) _
 have xz:w.heap.size<wa.heap.size:=by rw[<-hG];simp
 have xs:Below w.heap.size (w.setCell ⟨bR,d,none⟩ (.int .u64 (bits BinOp.and IntKind.u64 (R a) (R b)))) (wa.setCell ⟨bR,d,none⟩ (.int .u64 (bits BinOp.and IntKind.u64 (R a) (R b)))):=by
  rw[<-hG,World.setCell_alloc_past (hn:=hR)];exact(Below.refl _ _).alloc (by simp) _
 have i1:wa.cell? ⟨w.heap.size,1,none⟩=some (.int .i64 d):=by rw[<-hG];simp[go_sem]
 have i2:wa.cell? ⟨w.heap.size,2,none⟩=some (.int .i64 a):=by rw[<-hG];simp[go_sem]
 have i3:wa.cell? ⟨w.heap.size,3,none⟩=some (.int .i64 b):=by rw[<-hG];simp[go_sem]
 have zC:bC<wa.heap.size:=by omega
 have zR:bR<wa.heap.size:=by omega
 have zF:bF<wa.heap.size:=by omega
 have R0:∀w',Below wa.heap.size wa w'->w'.cell? ⟨bC,0,none⟩=some (.slice (some ⟨bR,0,none⟩) 8 cap):=fun w' h=>(h.cell (p:=⟨bC,0,none⟩) zC).trans ((xa.cell (p:=⟨bC,0,none⟩) hC).trans c0)
 have R1:∀w',Below wa.heap.size wa w'->w'.cell? ⟨w.heap.size,1,none⟩=some (.int .i64 d):=fun w' h=>(h.cell (p:=⟨w.heap.size,1,none⟩) xz).trans i1
 have R2:∀w',Below wa.heap.size wa w'->w'.cell? ⟨w.heap.size,2,none⟩=some (.int .i64 a):=fun w' h=>(h.cell (p:=⟨w.heap.size,2,none⟩) xz).trans i2
 have R3:∀w',Below wa.heap.size wa w'->w'.cell? ⟨w.heap.size,3,none⟩=some (.int .i64 b):=fun w' h=>(h.cell (p:=⟨w.heap.size,3,none⟩) xz).trans i3
 have R4:∀w',Below wa.heap.size wa w'->w'.cell? ⟨bF,0,none⟩=some (.func (.func 102) #[] #[]):=fun w' h=>(h.cell (p:=⟨bF,0,none⟩) zF).trans ((xa.cell (p:=⟨bF,0,none⟩) hF).trans cF)
 have R5:∀w',Below wa.heap.size wa w'->w'.cell? ⟨bR,a,none⟩=some (.int .u64 (R a)):=fun w' h=>(h.cell (p:=⟨bR,a,none⟩) zR).trans ((xa.cell (p:=⟨bR,a,none⟩) hR).trans ra)
 have R6:∀w',Below wa.heap.size wa w'->w'.cell? ⟨bR,b,none⟩=some (.int .u64 (R b)):=fun w' h=>(h.cell (p:=⟨bR,b,none⟩) zR).trans ((xa.cell (p:=⟨bR,b,none⟩) hR).trans rb)
 have wd:wa.cell? ⟨bR,d,none⟩=some (.int .u64 (R d)):=(xa.cell (p:=⟨bR,d,none⟩) hR).trans rd
 have wf:wa.frozen? ⟨bR,d,none⟩=false:=(xa.frozen (p:=⟨bR,d,none⟩) hR).trans hf
 clear hG i1 i2 i3 c0 ra rb rd hf cF
 refine wp_region_L (T:=fun w'=>Below wa.heap.size wa w') (s:=28) (by kernel_rfl) ((Below.refl _ _).drew) (fun hHeld=>?_)
 refine wpAnyL_tk 0 ?v0 rfl ?y0 ?r0
 case y0=>(intro w hSw;(try dsimp only at hSw);go_simp;try with_reducible rfl)
 try go_frame
 refine wpAnyL_tk 1 ?v1 rfl ?y1 ?r1
 case y1=>(intro w hSw;(try dsimp only at hSw);go_simp;try with_reducible rfl)
 try go_frame
 refine wpAnyL_tk 2 ?v2 rfl ?y2 ?r2
 case y2=>(intro w hSw;(try dsimp only at hSw);go_simp;try with_reducible rfl)
 try go_frame
 refine wpAnyL_tk 3 ?v3 rfl ?y3 ?r3
 case y3=>(intro w hSw;(try dsimp only at hSw);go_simp;try with_reducible rfl)
 try go_frame
 refine wpAnyL_tk 4 ?v4 rfl ?y4 ?r4
 case y4=>(intro w hSw;(try dsimp only at hSw);go_simp;try with_reducible rfl)
 try go_frame
 refine wpAnyL_tk 5 ?v5 rfl ?y5 ?r5
 case y5=>(intro w hSw;(try dsimp only at hSw);go_simp;try with_reducible rfl)
 try go_frame
 refine wpAnyL_tk 6 ?v6 rfl ?y6 ?r6
 case y6=>(intro w hSw;(try dsimp only at hSw);go_simp;try with_reducible rfl)
 try go_frame
 refine wpAnyL_tk 7 ?v7 rfl ?y7 ?r7
 case y7=>(intro w hSw;(try dsimp only at hSw);go_simp;try with_reducible rfl)
 try go_frame
 refine wpAnyL_tk 8 ?v8 rfl ?y8 ?r8
 case y8=>(intro w hSw;(try dsimp only at hSw);go_simp;try with_reducible rfl)
 try go_frame
 refine wpAnyL_tk 9 ?v9 rfl ?y9 ?r9
 case y9=>(intro w hSw;(try dsimp only at hSw);go_simp;try with_reducible rfl)
 try go_frame
 refine wpAnyL_tk 10 ?v10 rfl ?y10 ?r10
 case y10=>(intro w hSw;(try dsimp only at hSw);go_simp;try with_reducible rfl)
 try go_frame
 refine wpAnyL_tk 11 ?v11 rfl ?y11 ?r11
 case y11=>(intro w hSw;(try dsimp only at hSw);go_simp;try with_reducible rfl)
 try go_frame
 refine wpAnyL_tk 12 ?v12 rfl ?y12 ?r12
 case y12=>(intro w hSw;(try dsimp only at hSw);go_simp;try with_reducible rfl)
 try go_frame
 refine wpAnyL_tk 13 ?v13 rfl ?y13 ?r13
 case y13=>(intro w hSw;(try dsimp only at hSw);go_simp;try with_reducible rfl)
 try go_frame
 refine wpAnyL_tk 14 ?v14 rfl ?y14 ?r14
 case y14=>(intro w hSw;(try dsimp only at hSw);go_simp;try with_reducible rfl)
 try go_frame
 refine wpAnyL_tk 15 ?v15 rfl ?y15 ?r15
 case y15=>(intro w hSw;(try dsimp only at hSw);go_simp;try with_reducible rfl)
 try go_frame
 refine wpAnyL_tk 16 ?v16 rfl ?y16 ?r16
 case y16=>(intro w hSw;(try dsimp only at hSw);go_simp;try with_reducible rfl)
 try go_frame
 refine wpAnyL_tk 17 ?v17 rfl ?y17 ?r17
 case y17=>(intro w hSw;(try dsimp only at hSw);go_simp;try with_reducible rfl)
 try go_frame
 refine wpAnyL_tk 18 ?v18 rfl ?y18 ?r18
 case y18=>(intro w hSw;(try dsimp only at hSw);go_simp;try with_reducible rfl)
 try go_frame
 refine wpAnyL_tk 19 ?v19 rfl ?y19 ?r19
 case y19=>(intro w hSw;(try dsimp only at hSw);go_simp;try with_reducible rfl)
 try go_frame
 refine wpAnyL_tk 20 ?v20 rfl ?y20 ?r20
 case y20=>(intro w hSw;(try dsimp only at hSw);go_simp;try with_reducible rfl)
 try go_frame
 refine wpAnyL_tk 21 ?v21 rfl ?y21 ?r21
 case y21=>(intro w hSw;(try dsimp only at hSw);go_simp;try with_reducible rfl)
 try go_frame
 refine wpAnyL_tk 22 ?v22 rfl ?y22 ?r22
 case y22=>(intro w hSw;(try dsimp only at hSw);go_simp;try with_reducible rfl)
 try go_frame
 refine wpAnyL_tk 23 ?v23 rfl ?y23 ?r23
 case y23=>(intro w hSw;(try dsimp only at hSw);go_simp;try with_reducible rfl)
 try go_frame
 refine wpAnyL_tk 24 ?v24 rfl ?y24 ?r24
 case y24=>(intro w hSw;(try dsimp only at hSw);go_simp;try with_reducible rfl)
 try go_frame
 refine wpAnyL_tk 25 ?v25 rfl ?y25 ?r25
 case y25=>(intro w hSw;(try dsimp only at hSw);go_simp;try with_reducible rfl)
 try go_frame
 refine wpAnyL_call (i:=26) rfl (by kernel_rfl) (fun K hK=>?_)
 go_simp
 refine(bothBits_any _ _ _).mono ?_
 rintro e w'⟨rfl,rfl⟩
 go_wp2_with fail
 refine hK.out _ _ ((Below.refl _ _).drew) (fun hHeld26=>?_)
 clear hK K
 refine wpAnyL_tk 27 ?v27 rfl ?y27 ?r27
 case y27=>(intro w hSw;(try dsimp only at hSw);go_simp;try with_reducible rfl)
 try go_frame
 refine wpAnyL_store rfl (by kernel_rfl) (by kernel_rfl) (fun K hK=>?_)
 go_simp
 refine hK.out _ _ ?_
 clear hK K
 go_end0
 exact⟨rfl,xs.drew⟩
theorem ofRegisters_eitherBits(bC bR cap d a b bF:Nat)(op imm hh:Int)(R:Nat->Int)(w:World)(hd:d<8)(ha:a<8)(hb:b<8)(hC:bC<w.heap.size)(hR:bR<w.heap.size)(hF:bF<w.heap.size)
 (c0:w.cell? ⟨bC,0,none⟩=some (.slice (some ⟨bR,0,none⟩) 8 cap))(ra:w.cell? ⟨bR,a,none⟩=some (.int .u64 (R a)))(rb:w.cell? ⟨bR,b,none⟩=some (.int .u64 (R b)))(rd:w.cell? ⟨bR,d,none⟩=some (.int .u64 (R d)))(hf:w.frozen? ⟨bR,d,none⟩=false)
 (cF:w.cell? ⟨bF,0,none⟩=some (.func (.func 103) #[] #[])):
 Calls Tryz.prog 132 #[.pointer (some ⟨bC,0,none⟩),.agg #[.int .i64 op,.int .i64 d,.int .i64 a,.int .i64 b,.int .i64 imm,.int .i64 hh],.pointer (some ⟨bF,0,none⟩)] w fun e w'=>e=.returned (.tuple #[])/\Below w.heap.size (w.setCell ⟨bR,d,none⟩ (.int .u64 (bits BinOp.or IntKind.u64 (R a) (R b)))) w':=by
 have hd':(d:Int)<8:=by omega
 have ha':(a:Int)<8:=by omega
 have hb':(b:Int)<8:=by omega
 go_enter Tryz.func132,Tryz.ntmps132
 go_wp2
 generalize hG:w.alloc (.cells #[.int .i64 op,.int .i64 d,.int .i64 a,.int .i64 b,.int .i64 imm,.int .i64 hh] 73)=wa
 have xa:Below w.heap.size w wa:=by rw[<-hG];exact(Below.refl _ _).alloc (Nat.le_refl _) _
 have xz:w.heap.size<wa.heap.size:=by rw[<-hG];simp
 have xs:Below w.heap.size (w.setCell ⟨bR,d,none⟩ (.int .u64 (bits BinOp.or IntKind.u64 (R a) (R b)))) (wa.setCell ⟨bR,d,none⟩ (.int .u64 (bits BinOp.or IntKind.u64 (R a) (R b)))):=by
  rw[<-hG,World.setCell_alloc_past (hn:=hR)];exact(Below.refl _ _).alloc (by simp) _
 have i1:wa.cell? ⟨w.heap.size,1,none⟩=some (.int .i64 d):=by rw[<-hG];simp[go_sem]
 have i2:wa.cell? ⟨w.heap.size,2,none⟩=some (.int .i64 a):=by rw[<-hG];simp[go_sem]
 have i3:wa.cell? ⟨w.heap.size,3,none⟩=some (.int .i64 b):=by rw[<-hG];simp[go_sem]
 have zC:bC<wa.heap.size:=by omega
 have zR:bR<wa.heap.size:=by omega
 have zF:bF<wa.heap.size:=by omega
 have R0:∀w',Below wa.heap.size wa w'->w'.cell? ⟨bC,0,none⟩=some (.slice (some ⟨bR,0,none⟩) 8 cap):=fun w' h=>(h.cell (p:=⟨bC,0,none⟩) zC).trans ((xa.cell (p:=⟨bC,0,none⟩) hC).trans c0)
 have R1:∀w',Below wa.heap.size wa w'->w'.cell? ⟨w.heap.size,1,none⟩=some (.int .i64 d):=fun w' h=>(h.cell (p:=⟨w.heap.size,1,none⟩) xz).trans i1
 have R2:∀w',Below wa.heap.size wa w'->w'.cell? ⟨w.heap.size,2,none⟩=some (.int .i64 a):=fun w' h=>(h.cell (p:=⟨w.heap.size,2,none⟩) xz).trans i2
 have R3:∀w',Below wa.heap.size wa w'->w'.cell? ⟨w.heap.size,3,none⟩=some (.int .i64 b):=fun w' h=>(h.cell (p:=⟨w.heap.size,3,none⟩) xz).trans i3
 have R4:∀w',Below wa.heap.size wa w'->w'.cell? ⟨bF,0,none⟩=some (.func (.func 103) #[] #[]):=fun w' h=>(h.cell (p:=⟨bF,0,none⟩) zF).trans ((xa.cell (p:=⟨bF,0,none⟩) hF).trans cF)
 have R5:∀w',Below wa.heap.size wa w'->w'.cell? ⟨bR,a,none⟩=some (.int .u64 (R a)):=fun w' h=>(h.cell (p:=⟨bR,a,none⟩) zR).trans ((xa.cell (p:=⟨bR,a,none⟩) hR).trans ra)
 have R6:∀w',Below wa.heap.size wa w'->w'.cell? ⟨bR,b,none⟩=some (.int .u64 (R b)):=fun w' h=>(h.cell (p:=⟨bR,b,none⟩) zR).trans ((xa.cell (p:=⟨bR,b,none⟩) hR).trans rb)
 have wd:wa.cell? ⟨bR,d,none⟩=some (.int .u64 (R d)):=(xa.cell (p:=⟨bR,d,none⟩) hR).trans rd
 have wf:wa.frozen? ⟨bR,d,none⟩=false:=(xa.frozen (p:=⟨bR,d,none⟩) hR).trans hf
 clear hG i1 i2 i3 c0 ra rb rd hf cF
 refine wp_region_L (T:=fun w'=>Below wa.heap.size wa w') (s:=28) (by kernel_rfl) ((Below.refl _ _).drew) (fun hHeld=>?_)
 refine wpAnyL_tk 0 ?v0 rfl ?y0 ?r0
 case y0=>(intro w hSw;(try dsimp only at hSw);go_simp;try with_reducible rfl)
 try go_frame
 refine wpAnyL_tk 1 ?v1 rfl ?y1 ?r1
 case y1=>(intro w hSw;(try dsimp only at hSw);go_simp;try with_reducible rfl)
 try go_frame
 refine wpAnyL_tk 2 ?v2 rfl ?y2 ?r2
 case y2=>(intro w hSw;(try dsimp only at hSw);go_simp;try with_reducible rfl)
 try go_frame
 refine wpAnyL_tk 3 ?v3 rfl ?y3 ?r3
 case y3=>(intro w hSw;(try dsimp only at hSw);go_simp;try with_reducible rfl)
 try go_frame
 refine wpAnyL_tk 4 ?v4 rfl ?y4 ?r4
 case y4=>(intro w hSw;(try dsimp only at hSw);go_simp;try with_reducible rfl)
 try go_frame
 refine wpAnyL_tk 5 ?v5 rfl ?y5 ?r5
 case y5=>(intro w hSw;(try dsimp only at hSw);go_simp;try with_reducible rfl)
 try go_frame
 refine wpAnyL_tk 6 ?v6 rfl ?y6 ?r6
 case y6=>(intro w hSw;(try dsimp only at hSw);go_simp;try with_reducible rfl)
 try go_frame
 refine wpAnyL_tk 7 ?v7 rfl ?y7 ?r7
 case y7=>(intro w hSw;(try dsimp only at hSw);go_simp;try with_reducible rfl)
 try go_frame
 refine wpAnyL_tk 8 ?v8 rfl ?y8 ?r8
 case y8=>(intro w hSw;(try dsimp only at hSw);go_simp;try with_reducible rfl)
 try go_frame
 refine wpAnyL_tk 9 ?v9 rfl ?y9 ?r9
 case y9=>(intro w hSw;(try dsimp only at hSw);go_simp;try with_reducible rfl)
 try go_frame
 refine wpAnyL_tk 10 ?v10 rfl ?y10 ?r10
 case y10=>(intro w hSw;(try dsimp only at hSw);go_simp;try with_reducible rfl)
 try go_frame
 refine wpAnyL_tk 11 ?v11 rfl ?y11 ?r11
 case y11=>(intro w hSw;(try dsimp only at hSw);go_simp;try with_reducible rfl)
 try go_frame
 refine wpAnyL_tk 12 ?v12 rfl ?y12 ?r12
 case y12=>(intro w hSw;(try dsimp only at hSw);go_simp;try with_reducible rfl)
 try go_frame
 refine wpAnyL_tk 13 ?v13 rfl ?y13 ?r13
 case y13=>(intro w hSw;(try dsimp only at hSw);go_simp;try with_reducible rfl)
 try go_frame
 refine wpAnyL_tk 14 ?v14 rfl ?y14 ?r14
 case y14=>(intro w hSw;(try dsimp only at hSw);go_simp;try with_reducible rfl)
 try go_frame
 refine wpAnyL_tk 15 ?v15 rfl ?y15 ?r15
 case y15=>(intro w hSw;(try dsimp only at hSw);go_simp;try with_reducible rfl)
 try go_frame
 refine wpAnyL_tk 16 ?v16 rfl ?y16 ?r16
 case y16=>(intro w hSw;(try dsimp only at hSw);go_simp;try with_reducible rfl)
 try go_frame
 refine wpAnyL_tk 17 ?v17 rfl ?y17 ?r17
 case y17=>(intro w hSw;(try dsimp only at hSw);go_simp;try with_reducible rfl)
 try go_frame
 refine wpAnyL_tk 18 ?v18 rfl ?y18 ?r18
 case y18=>(intro w hSw;(try dsimp only at hSw);go_simp;try with_reducible rfl)
 try go_frame
 refine wpAnyL_tk 19 ?v19 rfl ?y19 ?r19
 case y19=>(intro w hSw;(try dsimp only at hSw);go_simp;try with_reducible rfl)
 try go_frame
 refine wpAnyL_tk 20 ?v20 rfl ?y20 ?r20
 case y20=>(intro w hSw;(try dsimp only at hSw);go_simp;try with_reducible rfl)
 try go_frame
 refine wpAnyL_tk 21 ?v21 rfl ?y21 ?r21
 case y21=>(intro w hSw;(try dsimp only at hSw);go_simp;try with_reducible rfl)
 try go_frame
 refine wpAnyL_tk 22 ?v22 rfl ?y22 ?r22
 case y22=>(intro w hSw;(try dsimp only at hSw);go_simp;try with_reducible rfl)
 try go_frame
 refine wpAnyL_tk 23 ?v23 rfl ?y23 ?r23
 case y23=>(intro w hSw;(try dsimp only at hSw);go_simp;try with_reducible rfl)
 try go_frame
 refine wpAnyL_tk 24 ?v24 rfl ?y24 ?r24
 case y24=>(intro w hSw;(try dsimp only at hSw);go_simp;try with_reducible rfl)
 try go_frame
 refine wpAnyL_tk 25 ?v25 rfl ?y25 ?r25
 case y25=>(intro w hSw;(try dsimp only at hSw);go_simp;try with_reducible rfl)
 try go_frame
 refine wpAnyL_call (i:=26) rfl (by kernel_rfl) (fun K hK=>?_)
 go_simp
 refine(eitherBits_any _ _ _).mono ?_
 rintro e w'⟨rfl,rfl⟩
 go_wp2_with fail
 refine hK.out _ _ ((Below.refl _ _).drew) (fun hHeld26=>?_)
 clear hK K
 refine wpAnyL_tk 27 ?v27 rfl ?y27 ?r27
 case y27=>(intro w hSw;(try dsimp only at hSw);go_simp;try with_reducible rfl)
 try go_frame
 refine wpAnyL_store rfl (by kernel_rfl) (by kernel_rfl) (fun K hK=>?_)
 go_simp
 refine hK.out _ _ ?_
 clear hK K
 go_end0
 exact⟨rfl,xs.drew⟩
theorem ofRegisters_oneBits(bC bR cap d a b bF:Nat)(op imm hh:Int)(R:Nat->Int)(w:World)(hd:d<8)(ha:a<8)(hb:b<8)(hC:bC<w.heap.size)(hR:bR<w.heap.size)(hF:bF<w.heap.size)
 (c0:w.cell? ⟨bC,0,none⟩=some (.slice (some ⟨bR,0,none⟩) 8 cap))(ra:w.cell? ⟨bR,a,none⟩=some (.int .u64 (R a)))(rb:w.cell? ⟨bR,b,none⟩=some (.int .u64 (R b)))(rd:w.cell? ⟨bR,d,none⟩=some (.int .u64 (R d)))(hf:w.frozen? ⟨bR,d,none⟩=false)
 (cF:w.cell? ⟨bF,0,none⟩=some (.func (.func 104) #[] #[])):
 Calls Tryz.prog 132 #[.pointer (some ⟨bC,0,none⟩),.agg #[.int .i64 op,.int .i64 d,.int .i64 a,.int .i64 b,.int .i64 imm,.int .i64 hh],.pointer (some ⟨bF,0,none⟩)] w fun e w'=>e=.returned (.tuple #[])/\Below w.heap.size (w.setCell ⟨bR,d,none⟩ (.int .u64 (bits BinOp.xor IntKind.u64 (R a) (R b)))) w':=by
 have hd':(d:Int)<8:=by omega
 have ha':(a:Int)<8:=by omega
 have hb':(b:Int)<8:=by omega
 go_enter Tryz.func132,Tryz.ntmps132
 go_wp2
 generalize hG:w.alloc (.cells #[.int .i64 op,.int .i64 d,.int .i64 a,.int .i64 b,.int .i64 imm,.int .i64 hh] 73)=wa
 have xa:Below w.heap.size w wa:=by rw[<-hG];exact(Below.refl _ _).alloc (Nat.le_refl _) _
 have xz:w.heap.size<wa.heap.size:=by rw[<-hG];simp
 have xs:Below w.heap.size (w.setCell ⟨bR,d,none⟩ (.int .u64 (bits BinOp.xor IntKind.u64 (R a) (R b)))) (wa.setCell ⟨bR,d,none⟩ (.int .u64 (bits BinOp.xor IntKind.u64 (R a) (R b)))):=by
  rw[<-hG,World.setCell_alloc_past (hn:=hR)];exact(Below.refl _ _).alloc (by simp) _
 have i1:wa.cell? ⟨w.heap.size,1,none⟩=some (.int .i64 d):=by rw[<-hG];simp[go_sem]
 have i2:wa.cell? ⟨w.heap.size,2,none⟩=some (.int .i64 a):=by rw[<-hG];simp[go_sem]
 have i3:wa.cell? ⟨w.heap.size,3,none⟩=some (.int .i64 b):=by rw[<-hG];simp[go_sem]
 have zC:bC<wa.heap.size:=by omega
 have zR:bR<wa.heap.size:=by omega
 have zF:bF<wa.heap.size:=by omega
 have R0:∀w',Below wa.heap.size wa w'->w'.cell? ⟨bC,0,none⟩=some (.slice (some ⟨bR,0,none⟩) 8 cap):=fun w' h=>(h.cell (p:=⟨bC,0,none⟩) zC).trans ((xa.cell (p:=⟨bC,0,none⟩) hC).trans c0)
 have R1:∀w',Below wa.heap.size wa w'->w'.cell? ⟨w.heap.size,1,none⟩=some (.int .i64 d):=fun w' h=>(h.cell (p:=⟨w.heap.size,1,none⟩) xz).trans i1
 have R2:∀w',Below wa.heap.size wa w'->w'.cell? ⟨w.heap.size,2,none⟩=some (.int .i64 a):=fun w' h=>(h.cell (p:=⟨w.heap.size,2,none⟩) xz).trans i2
 have R3:∀w',Below wa.heap.size wa w'->w'.cell? ⟨w.heap.size,3,none⟩=some (.int .i64 b):=fun w' h=>(h.cell (p:=⟨w.heap.size,3,none⟩) xz).trans i3
 have R4:∀w',Below wa.heap.size wa w'->w'.cell? ⟨bF,0,none⟩=some (.func (.func 104) #[] #[]):=fun w' h=>(h.cell (p:=⟨bF,0,none⟩) zF).trans ((xa.cell (p:=⟨bF,0,none⟩) hF).trans cF)
 have R5:∀w',Below wa.heap.size wa w'->w'.cell? ⟨bR,a,none⟩=some (.int .u64 (R a)):=fun w' h=>(h.cell (p:=⟨bR,a,none⟩) zR).trans ((xa.cell (p:=⟨bR,a,none⟩) hR).trans ra)
 have R6:∀w',Below wa.heap.size wa w'->w'.cell? ⟨bR,b,none⟩=some (.int .u64 (R b)):=fun w' h=>(h.cell (p:=⟨bR,b,none⟩) zR).trans ((xa.cell (p:=⟨bR,b,none⟩) hR).trans rb)
 have wd:wa.cell? ⟨bR,d,none⟩=some (.int .u64 (R d)):=(xa.cell (p:=⟨bR,d,none⟩) hR).trans rd
 have wf:wa.frozen? ⟨bR,d,none⟩=false:=(xa.frozen (p:=⟨bR,d,none⟩) hR).trans hf
 clear hG i1 i2 i3 c0 ra rb rd hf cF
 refine wp_region_L (T:=fun w'=>Below wa.heap.size wa w') (s:=28) (by kernel_rfl) ((Below.refl _ _).drew) (fun hHeld=>?_)
 refine wpAnyL_tk 0 ?v0 rfl ?y0 ?r0
 case y0=>(intro w hSw;(try dsimp only at hSw);go_simp;try with_reducible rfl)
 try go_frame
 refine wpAnyL_tk 1 ?v1 rfl ?y1 ?r1
 case y1=>(intro w hSw;(try dsimp only at hSw);go_simp;try with_reducible rfl)
 try go_frame
 refine wpAnyL_tk 2 ?v2 rfl ?y2 ?r2
 case y2=>(intro w hSw;(try dsimp only at hSw);go_simp;try with_reducible rfl)
 try go_frame
 refine wpAnyL_tk 3 ?v3 rfl ?y3 ?r3
 case y3=>(intro w hSw;(try dsimp only at hSw);go_simp;try with_reducible rfl)
 try go_frame
 refine wpAnyL_tk 4 ?v4 rfl ?y4 ?r4
 case y4=>(intro w hSw;(try dsimp only at hSw);go_simp;try with_reducible rfl)
 try go_frame
 refine wpAnyL_tk 5 ?v5 rfl ?y5 ?r5
 case y5=>(intro w hSw;(try dsimp only at hSw);go_simp;try with_reducible rfl)
 try go_frame
 refine wpAnyL_tk 6 ?v6 rfl ?y6 ?r6
 case y6=>(intro w hSw;(try dsimp only at hSw);go_simp;try with_reducible rfl)
 try go_frame
 refine wpAnyL_tk 7 ?v7 rfl ?y7 ?r7
 case y7=>(intro w hSw;(try dsimp only at hSw);go_simp;try with_reducible rfl)
 try go_frame
 refine wpAnyL_tk 8 ?v8 rfl ?y8 ?r8
 case y8=>(intro w hSw;(try dsimp only at hSw);go_simp;try with_reducible rfl)
 try go_frame
 refine wpAnyL_tk 9 ?v9 rfl ?y9 ?r9
 case y9=>(intro w hSw;(try dsimp only at hSw);go_simp;try with_reducible rfl)
 try go_frame
 refine wpAnyL_tk 10 ?v10 rfl ?y10 ?r10
 case y10=>(intro w hSw;(try dsimp only at hSw);go_simp;try with_reducible rfl)
 try go_frame
 refine wpAnyL_tk 11 ?v11 rfl ?y11 ?r11
 case y11=>(intro w hSw;(try dsimp only at hSw);go_simp;try with_reducible rfl)
 try go_frame
 refine wpAnyL_tk 12 ?v12 rfl ?y12 ?r12
 case y12=>(intro w hSw;(try dsimp only at hSw);go_simp;try with_reducible rfl)
 try go_frame
 refine wpAnyL_tk 13 ?v13 rfl ?y13 ?r13
 case y13=>(intro w hSw;(try dsimp only at hSw);go_simp;try with_reducible rfl)
 try go_frame
 refine wpAnyL_tk 14 ?v14 rfl ?y14 ?r14
 case y14=>(intro w hSw;(try dsimp only at hSw);go_simp;try with_reducible rfl)
 try go_frame
 refine wpAnyL_tk 15 ?v15 rfl ?y15 ?r15
 case y15=>(intro w hSw;(try dsimp only at hSw);go_simp;try with_reducible rfl)
 try go_frame
 refine wpAnyL_tk 16 ?v16 rfl ?y16 ?r16
 case y16=>(intro w hSw;(try dsimp only at hSw);go_simp;try with_reducible rfl)
 try go_frame
 refine wpAnyL_tk 17 ?v17 rfl ?y17 ?r17
 case y17=>(intro w hSw;(try dsimp only at hSw);go_simp;try with_reducible rfl)
 try go_frame
 refine wpAnyL_tk 18 ?v18 rfl ?y18 ?r18
 case y18=>(intro w hSw;(try dsimp only at hSw);go_simp;try with_reducible rfl)
 try go_frame
 refine wpAnyL_tk 19 ?v19 rfl ?y19 ?r19
 case y19=>(intro w hSw;(try dsimp only at hSw);go_simp;try with_reducible rfl)
 try go_frame
 refine wpAnyL_tk 20 ?v20 rfl ?y20 ?r20
 case y20=>(intro w hSw;(try dsimp only at hSw);go_simp;try with_reducible rfl)
 try go_frame
 refine wpAnyL_tk 21 ?v21 rfl ?y21 ?r21
 case y21=>(intro w hSw;(try dsimp only at hSw);go_simp;try with_reducible rfl)
 try go_frame
 refine wpAnyL_tk 22 ?v22 rfl ?y22 ?r22
 case y22=>(intro w hSw;(try dsimp only at hSw);go_simp;try with_reducible rfl)
 try go_frame
 refine wpAnyL_tk 23 ?v23 rfl ?y23 ?r23
 case y23=>(intro w hSw;(try dsimp only at hSw);go_simp;try with_reducible rfl)
 try go_frame
 refine wpAnyL_tk 24 ?v24 rfl ?y24 ?r24
 case y24=>(intro w hSw;(try dsimp only at hSw);go_simp;try with_reducible rfl)
 try go_frame
 refine wpAnyL_tk 25 ?v25 rfl ?y25 ?r25
 case y25=>(intro w hSw;(try dsimp only at hSw);go_simp;try with_reducible rfl)
 try go_frame
 refine wpAnyL_call (i:=26) rfl (by kernel_rfl) (fun K hK=>?_)
 go_simp
 refine(oneBits_any _ _ _).mono ?_
 rintro e w'⟨rfl,rfl⟩
 go_wp2_with fail
 refine hK.out _ _ ((Below.refl _ _).drew) (fun hHeld26=>?_)
 clear hK K
 refine wpAnyL_tk 27 ?v27 rfl ?y27 ?r27
 case y27=>(intro w hSw;(try dsimp only at hSw);go_simp;try with_reducible rfl)
 try go_frame
 refine wpAnyL_store rfl (by kernel_rfl) (by kernel_rfl) (fun K hK=>?_)
 go_simp
 refine hK.out _ _ ?_
 clear hK K
 go_end0
 exact⟨rfl,xs.drew⟩
end Go.Proofs.YtpbceodheeepoaaGreat
