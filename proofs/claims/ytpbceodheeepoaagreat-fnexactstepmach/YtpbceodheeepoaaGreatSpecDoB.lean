import Derived.Test.YtpbceodheeepoaaGreatSpecDo
set_option maxHeartbeats 4000000
set_option maxRecDepth 20000
namespace Go.Proofs.YtpbceodheeepoaaGreat
open Go.RowKit
theorem u64_mod(x:Int):IntKind.u64.wrap x=x%18446744073709551616:=rfl
theorem add_wadd(x y:Int):IntKind.u64.wrap (x+y)=wadd x y 0:=by unfold wadd;rw[u64_mod,Int.add_zero]
theorem add_carry{x y:Int}(x0:0<=x)(x1:x<=18446744073709551615)(y0:0<=y)(y1:y<=18446744073709551615):decide (wadd x y 0<x)=(carry x y 0 !=0):=by
 unfold wadd carry;rw[Bool.eq_iff_iff];simp only[decide_eq_true_eq,bne_iff_ne,ne_eq];omega
theorem adc_wadd(x y:Int):IntKind.u64.wrap (wadd x y 0+1)=wadd x y 1:=by unfold wadd;rw[u64_mod];omega
theorem adc_carry{x y:Int}(x0:0<=x)(x1:x<=18446744073709551615)(y0:0<=y)(y1:y<=18446744073709551615):(decide (wadd x y 0<x)||(wadd x y 1==0))=(carry x y 1 !=0):=by
 unfold wadd carry;rw[Bool.eq_iff_iff];simp only[Bool.or_eq_true,decide_eq_true_eq,bne_iff_ne,beq_iff_eq,ne_eq];omega
theorem sub_wsub(x y:Int):IntKind.u64.wrap (x-y)=wsub x y:=rfl
theorem sub_borrow(x y:Int):decide (x<y)=(borrow x y !=0):=by
 unfold borrow;by_cases h:x<y<;>simp[h]
section
variable{w:World}{base:Nat}{p:Pl}{M:MV}
theorem Did.setF{w w':World}{base:Nat}{p:Pl}{M:MV}(h:Mem w base p M)(d:Nat)(v r:Int)(k:Bool)(hB:Below w.heap.size (w.setCell ⟨p.bR,d,none⟩ (.int .u64 v)) w'):Did base w ((M.setR d v).flags r k) (.returned (mVal p ((M.setR d v).flags r k))) w':=
 ⟨p,rfl,((Below.refl _ _).setCell (by simpa using h.ltR.1) _).trans (hB.mono (Nat.le_of_lt (Nat.lt_of_le_of_lt h.ltR.1 h.ltR.2))),((h.setR d v).flagged r k).below (by simpa using hB)⟩
theorem Did.flags{w w':World}{base:Nat}{p:Pl}{M:MV}(h:Mem w base p M)(r:Int)(k:Bool)(hB:Below w.heap.size w w'):Did base w (M.flags r k) (.returned (mVal p (M.flags r k))) w':=
 ⟨p,rfl,hB.mono (Nat.le_of_lt (Nat.lt_of_le_of_lt h.ltR.1 h.ltR.2)),(h.flagged r k).below hB⟩
theorem Did.fault{w w':World}{base:Nat}{p:Pl}{M:MV}(h:Mem w base p M)(hB:Below w.heap.size w w'):Did base w M.fault (.returned (mVal p M.fault)) w':=
 ⟨p,rfl,hB.mono (Nat.le_of_lt (Nat.lt_of_le_of_lt h.ltR.1 h.ltR.2)),h.faulted.below hB⟩
theorem DidK.setF{w w':World}{base:Nat}{p:Pl}{M:MV}(h:Mem w base p M)(d:Nat)(v r:Int)(k:Bool)(hB:Below w.heap.size (w.setCell ⟨p.bR,d,none⟩ (.int .u64 v)) w'):DidK base w ((M.setR d v).flags r k) (.returned (mVal p ((M.setR d v).flags r k))) w':=⟨Did.setF h d v r k hB,Kept.set h d v hB⟩
theorem DidK.flags{w w':World}{base:Nat}{p:Pl}{M:MV}(h:Mem w base p M)(r:Int)(k:Bool)(hB:Below w.heap.size w w'):DidK base w (M.flags r k) (.returned (mVal p (M.flags r k))) w':=⟨Did.flags h r k hB,Kept.below hB⟩
theorem DidK.fault{w w':World}{base:Nat}{p:Pl}{M:MV}(h:Mem w base p M)(hB:Below w.heap.size w w'):DidK base w (M.fault) (.returned (mVal p (M.fault))) w':=⟨Did.fault h hB,Kept.below hB⟩
theorem do_b(h0:Mem w base p M)(hk:M.Ok)(kk d a b h:Nat)(imm:Int)(hd:d<8)(ha:a<8)(hb:b<8)(hsh:(kk=12∨kk=13)->0<=imm/\imm<=63)(hop:kk=12∨kk=13∨kk=14∨kk=16∨kk=17∨kk=18∨kk=19∨kk=20):
 Calls Tryz.prog 74 #[.agg #[.slice (some ⟨p.bR,0,none⟩) 8 p.cR,.bool M.z,.bool M.c,.bool M.hz,.bool M.hc,.slice p.aH M.nH p.cH,.int .i64 M.pc,.int .i64 M.st,.slice p.aO M.nO p.cO],.agg #[.int .i64 kk,.int .i64 d,.int .i64 a,.int .i64 b,.int .i64 imm,.int .i64 h]] w (DidK base w (doM kk d a b h imm M)):=by
 have hd':(d:Int)<8:=by omega
 have ha':(a:Int)<8:=by omega
 have hb':(b:Int)<8:=by omega
 have ra:=h0.reg ha;have rb:=h0.reg hb;have rd:=h0.reg hd;have fd:=h0.freeR d;have zR:=h0.ltR.2;have pa:=hk.reg a ha;have pb:=hk.reg b hb;obtain⟨pa0,pa1⟩:=pa;obtain⟨pb0,pb1⟩:=pb;have H0:Hid (Mem w base p M):=h0;clear h0 hk;go_enter Tryz.func74,Tryz.ntmps74;go_upto_region 1 with fail;generalize hw0:((w.alloc (.cells #[.slice (some ⟨p.bR,0,none⟩) 8 p.cR,.bool M.z,.bool M.c,.bool M.hz,.bool M.hc,.slice p.aH M.nH p.cH,.int .i64 M.pc,.int .i64 M.st,.slice p.aO M.nO p.cO] 28)).alloc (.cells #[.int .i64 kk,.int .i64 d,.int .i64 a,.int .i64 b,.int .i64 imm,.int .i64 h] 73)).alloc (.cells #[.slice none 0 0,.bool false,.bool false,.bool false,.bool false,.slice none 0 0,.int .i64 0,.int .i64 0,.slice none 0 0] 28)=w0;have b0:Below w.heap.size w w0:=by rw[<-hw0];exact(((Below.refl _ _).alloc (Nat.le_refl _) _).alloc (by simp) _).alloc (by simp;omega) _
 have z0:w0.heap.size=w.heap.size+3:=by rw[<-hw0];simp
 have XM:w0.ownsRow w.heap.size 28 9 (.slice (some ⟨w.heap.size,0,none⟩) 1 1) 1 [.slice (some ⟨p.bR,0,none⟩) 8 p.cR,.bool M.z,.bool M.c,.bool M.hz,.bool M.hc,.slice p.aH M.nH p.cH,.int .i64 M.pc,.int .i64 M.st,.slice p.aO M.nO p.cO]:=by rw[<-hw0];exact((World.ownsRow_lit w #[.slice (some ⟨p.bR,0,none⟩) 8 p.cR,.bool M.z,.bool M.c,.bool M.hz,.bool M.hc,.slice p.aH M.nH p.cH,.int .i64 M.pc,.int .i64 M.st,.slice p.aO M.nO p.cO] 1 (Nat.le_refl _) (by unfold maxLen;omega) rfl).alloc _).alloc _
 have XI:w0.ownsRow w.heap.size 73 6 (.slice (some ⟨w.heap.size+1,0,none⟩) 1 1) 1 [.int .i64 kk,.int .i64 d,.int .i64 a,.int .i64 b,.int .i64 imm,.int .i64 h]:=by
  rw[<-hw0];have:=(World.ownsRow_lit (base:=w.heap.size) (e:=73) (size:=6) (w.alloc (.cells #[.slice (some ⟨p.bR,0,none⟩) 8 p.cR,.bool M.z,.bool M.c,.bool M.hz,.bool M.hc,.slice p.aH M.nH p.cH,.int .i64 M.pc,.int .i64 M.st,.slice p.aO M.nO p.cO] 28)) #[.int .i64 kk,.int .i64 d,.int .i64 a,.int .i64 b,.int .i64 imm,.int .i64 h] 1 (by simp) (by unfold maxLen;omega) rfl).alloc (.cells #[.slice none 0 0,.bool false,.bool false,.bool false,.bool false,.slice none 0 0,.int .i64 0,.int .i64 0,.slice none 0 0] 28);rw[World.size_alloc]at this;exact this
 have XZ:w0.ownsRow w.heap.size 28 9 (.slice (some ⟨w.heap.size+1+1,0,none⟩) 1 1) 1 [.slice none 0 0,.bool false,.bool false,.bool false,.bool false,.slice none 0 0,.int .i64 0,.int .i64 0,.slice none 0 0]:=by
  rw[<-hw0];have:=World.ownsRow_lit (base:=w.heap.size) (e:=28) (size:=9) ((w.alloc (.cells #[.slice (some ⟨p.bR,0,none⟩) 8 p.cR,.bool M.z,.bool M.c,.bool M.hz,.bool M.hc,.slice p.aH M.nH p.cH,.int .i64 M.pc,.int .i64 M.st,.slice p.aO M.nO p.cO] 28)).alloc (.cells #[.int .i64 kk,.int .i64 d,.int .i64 a,.int .i64 b,.int .i64 imm,.int .i64 h] 73)) #[.slice none 0 0,.bool false,.bool false,.bool false,.bool false,.slice none 0 0,.int .i64 0,.int .i64 0,.slice none 0 0] 1 (by simp;omega) (by unfold maxLen;omega) rfl;rw[World.size_alloc,World.size_alloc]at this;exact this
 obtain⟨m0,m1,m2,m3,m4,m5,m6,m7,m8⟩:=cells9 XM;obtain⟨i0,i1,i2,i3,i4,i5⟩:=cells6 XI;obtain⟨s0,s1,s2,s3,s4,s5,s6,s7,s8⟩:=cells9 XZ;have mf:∀i,w0.frozen? ⟨w.heap.size,i,none⟩=false:=fun i=>XM.frozenAt i
 have sf:∀i,w0.frozen? ⟨w.heap.size+1+1,i,none⟩=false:=fun i=>XZ.frozenAt i
 have ra0:=(b0.cell (p:=⟨p.bR,a,none⟩) zR).trans ra;have rb0:=(b0.cell (p:=⟨p.bR,b,none⟩) zR).trans rb;have rd0:=(b0.cell (p:=⟨p.bR,d,none⟩) zR).trans rd;have fd0:=(b0.frozen (p:=⟨p.bR,d,none⟩) zR).trans fd;have zR0:p.bR<w0.heap.size:=by omega
 have y0:w.heap.size<w0.heap.size:=by omega
 have y1:w.heap.size+1<w0.heap.size:=by omega
 have y2:w.heap.size+1+1<w0.heap.size:=by omega
 have n0:p.bR≠w.heap.size:=by omega
 have n1:p.bR≠w.heap.size+1:=by omega
 have n2:p.bR≠w.heap.size+1+1:=by omega
 have HB0:Hid (Below w.heap.size w w0):=b0;clear hw0 b0 XM XI XZ ra rb rd fd;rcases hop with rfl|rfl|rfl|rfl|rfl|rfl|rfl|rfl
 ·obtain⟨t0,t1⟩:=hsh (by decide)
  have hpow:∀w,Calls Tryz.prog 125 #[.int .i64 imm] w fun e w'=>e=.returned (.int .u64 ((2:Int)^imm.toNat))/\w'=w:=fun w=>by
   have:=l1Pow_any imm.toNat w (by omega);rw[show((imm.toNat:Nat):Int)=imm by omega]at this;simpa using this
  have hPP:(0:Int)<2^imm.toNat:=Int.pow_pos (by decide);have hE:doM 12 d a b h imm M=M.setR d (IntKind.u64.wrap (M.R a*2^imm.toNat)):=by
   unfold doM exec;simp only[show IntKind.u64.wrap imm=imm by rw[u64_mod];omega]
  have HE:Hid _:=hE;have HPW:Hid _:=hpow;clear hE hpow;go_wp2_with fail;refine(HPW.out _).mono ?_;rintro e w1⟨rfl,rfl⟩;go_wp2;refine bodyPost_ret (v:=.agg #[.slice (some ⟨p.bR,0,none⟩) 8 p.cR,.bool M.z,.bool M.c,.bool M.hz,.bool M.hc,.slice p.aH M.nH p.cH,.int .i64 M.pc,.int .i64 M.st,.slice p.aO M.nO p.cO]) (by simp[results,Tryz.results74,go_sem,s0,s1,s2,s3,s4,s5,s6,s7,s8]) rfl ?_;rw[HE.out];refine DidK.set H0.out d _ ?_;iterate 9 refine Below.setCell ?_ (by simp;omega) _
  exact setCell_both (p:=⟨p.bR,d,none⟩) HB0.out zR _
 ·obtain⟨t0,t1⟩:=hsh (by decide)
  have hpow:∀w,Calls Tryz.prog 125 #[.int .i64 imm] w fun e w'=>e=.returned (.int .u64 ((2:Int)^imm.toNat))/\w'=w:=fun w=>by
   have:=l1Pow_any imm.toNat w (by omega);rw[show((imm.toNat:Nat):Int)=imm by omega]at this;simpa using this
  have hPP:(0:Int)<2^imm.toNat:=Int.pow_pos (by decide);have hE:doM 13 d a b h imm M=M.setR d (M.R a/2^imm.toNat):=by
   unfold doM exec;simp only[show IntKind.u64.wrap imm=imm by rw[u64_mod];omega]
  have HE:Hid _:=hE;have HPW:Hid _:=hpow;clear hE hpow;go_wp2_with fail;refine(HPW.out _).mono ?_;rintro e w1⟨rfl,rfl⟩;go_wp2;refine bodyPost_ret (v:=.agg #[.slice (some ⟨p.bR,0,none⟩) 8 p.cR,.bool M.z,.bool M.c,.bool M.hz,.bool M.hc,.slice p.aH M.nH p.cH,.int .i64 M.pc,.int .i64 M.st,.slice p.aO M.nO p.cO]) (by simp[results,Tryz.results74,go_sem,s0,s1,s2,s3,s4,s5,s6,s7,s8]) rfl ?_;rw[HE.out];refine DidK.set H0.out d _ ?_;iterate 9 refine Below.setCell ?_ (by simp;omega) _
  exact setCell_both (p:=⟨p.bR,d,none⟩) HB0.out zR _
 ·go_wp2_with fail
  refine(l1SetFlags_any _ _ _ _ _ _ _ _ _ _ _ _ _ _ _ (IntKind.u64.wrap (M.R a+M.R b)) (decide (IntKind.u64.wrap (M.R a+M.R b)<M.R a)) _).mono ?_;rintro e w1⟨rfl,b1⟩;obtain⟨m0',m1',m2',m3',m4',m5',m6',m7',m8'⟩:=c9b b1 y0 m0 m1 m2 m3 m4 m5 m6 m7 m8;obtain⟨i0',i1',i2',i3',i4',i5'⟩:=c6b b1 y1 i0 i1 i2 i3 i4 i5;obtain⟨s0',s1',s2',s3',s4',s5',s6',s7',s8'⟩:=c9b b1 y2 s0 s1 s2 s3 s4 s5 s6 s7 s8;have mf':∀i,w1.frozen? ⟨w.heap.size,i,none⟩=false:=fun i=>(b1.frozen (p:=⟨w.heap.size,i,none⟩) y0).trans (mf i)
  have sf':∀i,w1.frozen? ⟨w.heap.size+1+1,i,none⟩=false:=fun i=>(b1.frozen (p:=⟨w.heap.size+1+1,i,none⟩) y2).trans (sf i)
  have rd1:=(b1.cell (p:=⟨p.bR,d,none⟩) zR0).trans rd0;have fd1:=(b1.frozen (p:=⟨p.bR,d,none⟩) zR0).trans fd0;have v0:w.heap.size<w1.heap.size:=Nat.lt_of_lt_of_le y0 b1.size;have v1:w.heap.size+1<w1.heap.size:=Nat.lt_of_lt_of_le y1 b1.size;have v2:w.heap.size+1+1<w1.heap.size:=Nat.lt_of_lt_of_le y2 b1.size;have vR:p.bR<w1.heap.size:=Nat.lt_of_lt_of_le zR0 b1.size;have HB1:Hid (Below w.heap.size w w1):=HB0.out.trans (b1.mono (by omega));clear b1 m0 m1 m2 m3 m4 m5 m6 m7 m8 i0 i1 i2 i3 i4 i5 s0 s1 s2 s3 s4 s5 s6 s7 s8 mf sf rd0 fd0 ra0 rb0;have hE:doM 14 d a b h imm M=(M.setR d (IntKind.u64.wrap (M.R a+M.R b))).flags (IntKind.u64.wrap (M.R a+M.R b)) (decide (IntKind.u64.wrap (M.R a+M.R b)<M.R a)):=by
   show((M.setR d (wadd (M.R a) (M.R b) 0)).flags (wadd (M.R a) (M.R b) 0) (carry (M.R a) (M.R b) 0 !=0))=_;rw[add_wadd,add_carry pa0 pa1 pb0 pb1];try rfl
  generalize hV:IntKind.u64.wrap (M.R a+M.R b)=V at hE⊢;generalize hZ:decide (V=0)=zb;generalize hC:(decide (V<M.R a))=cb at hE⊢;have HE:Hid _:=hE;have HZ:Hid _:=hZ;clear hE hV hZ hC;go_wp2;refine bodyPost_ret (v:=.agg #[.slice (some ⟨p.bR,0,none⟩) 8 p.cR,.bool (zb),.bool (cb),.bool true,.bool true,.slice p.aH M.nH p.cH,.int .i64 M.pc,.int .i64 M.st,.slice p.aO M.nO p.cO]) (by simp[results,Tryz.results74,go_sem,s0',s1',s2',s3',s4',s5',s6',s7',s8']) rfl ?_;rw[HE.out,<-HZ.out];refine DidK.setF H0.out d _ _ _ ?_;iterate 9 refine Below.setCell ?_ (by simp;omega) _
  refine setCell_both (p:=⟨p.bR,d,none⟩) ?_ zR _;iterate 9 refine Below.setCell ?_ (by simp) _
  exact HB1.out
 ·go_wp2_with fail
  refine(l1SetFlags_any _ _ _ _ _ _ _ _ _ _ _ _ _ _ _ (IntKind.u64.wrap (M.R a-M.R b)) (decide (M.R a<M.R b)) _).mono ?_;rintro e w1⟨rfl,b1⟩;obtain⟨m0',m1',m2',m3',m4',m5',m6',m7',m8'⟩:=c9b b1 y0 m0 m1 m2 m3 m4 m5 m6 m7 m8;obtain⟨i0',i1',i2',i3',i4',i5'⟩:=c6b b1 y1 i0 i1 i2 i3 i4 i5;obtain⟨s0',s1',s2',s3',s4',s5',s6',s7',s8'⟩:=c9b b1 y2 s0 s1 s2 s3 s4 s5 s6 s7 s8;have mf':∀i,w1.frozen? ⟨w.heap.size,i,none⟩=false:=fun i=>(b1.frozen (p:=⟨w.heap.size,i,none⟩) y0).trans (mf i)
  have sf':∀i,w1.frozen? ⟨w.heap.size+1+1,i,none⟩=false:=fun i=>(b1.frozen (p:=⟨w.heap.size+1+1,i,none⟩) y2).trans (sf i)
  have rd1:=(b1.cell (p:=⟨p.bR,d,none⟩) zR0).trans rd0;have fd1:=(b1.frozen (p:=⟨p.bR,d,none⟩) zR0).trans fd0;have v0:w.heap.size<w1.heap.size:=Nat.lt_of_lt_of_le y0 b1.size;have v1:w.heap.size+1<w1.heap.size:=Nat.lt_of_lt_of_le y1 b1.size;have v2:w.heap.size+1+1<w1.heap.size:=Nat.lt_of_lt_of_le y2 b1.size;have vR:p.bR<w1.heap.size:=Nat.lt_of_lt_of_le zR0 b1.size;have HB1:Hid (Below w.heap.size w w1):=HB0.out.trans (b1.mono (by omega));clear b1 m0 m1 m2 m3 m4 m5 m6 m7 m8 i0 i1 i2 i3 i4 i5 s0 s1 s2 s3 s4 s5 s6 s7 s8 mf sf rd0 fd0 ra0 rb0;have hE:doM 16 d a b h imm M=(M.setR d (IntKind.u64.wrap (M.R a-M.R b))).flags (IntKind.u64.wrap (M.R a-M.R b)) (decide (M.R a<M.R b)):=by
   show((M.flags (wsub (M.R a) (M.R b)) (borrow (M.R a) (M.R b) !=0)).setR d (wsub (M.R a) (M.R b)))=_;rw[sub_wsub,sub_borrow];try rfl
  generalize hV:IntKind.u64.wrap (M.R a-M.R b)=V at hE⊢;generalize hZ:decide (V=0)=zb;generalize hC:(decide (M.R a<M.R b))=cb at hE⊢;have HE:Hid _:=hE;have HZ:Hid _:=hZ;clear hE hV hZ hC;go_wp2;refine bodyPost_ret (v:=.agg #[.slice (some ⟨p.bR,0,none⟩) 8 p.cR,.bool (zb),.bool (cb),.bool true,.bool true,.slice p.aH M.nH p.cH,.int .i64 M.pc,.int .i64 M.st,.slice p.aO M.nO p.cO]) (by simp[results,Tryz.results74,go_sem,s0',s1',s2',s3',s4',s5',s6',s7',s8']) rfl ?_;rw[HE.out,<-HZ.out];refine DidK.setF H0.out d _ _ _ ?_;iterate 9 refine Below.setCell ?_ (by simp;omega) _
  refine setCell_both (p:=⟨p.bR,d,none⟩) ?_ zR _;iterate 9 refine Below.setCell ?_ (by simp) _
  exact HB1.out
 ·go_wp2_with fail
  refine(l1SetFlags_any _ _ _ _ _ _ _ _ _ _ _ _ _ _ _ (IntKind.u64.wrap (M.R a-M.R b)) (decide (M.R a<M.R b)) _).mono ?_;rintro e w1⟨rfl,b1⟩;obtain⟨m0',m1',m2',m3',m4',m5',m6',m7',m8'⟩:=c9b b1 y0 m0 m1 m2 m3 m4 m5 m6 m7 m8;obtain⟨i0',i1',i2',i3',i4',i5'⟩:=c6b b1 y1 i0 i1 i2 i3 i4 i5;obtain⟨s0',s1',s2',s3',s4',s5',s6',s7',s8'⟩:=c9b b1 y2 s0 s1 s2 s3 s4 s5 s6 s7 s8;have mf':∀i,w1.frozen? ⟨w.heap.size,i,none⟩=false:=fun i=>(b1.frozen (p:=⟨w.heap.size,i,none⟩) y0).trans (mf i)
  have sf':∀i,w1.frozen? ⟨w.heap.size+1+1,i,none⟩=false:=fun i=>(b1.frozen (p:=⟨w.heap.size+1+1,i,none⟩) y2).trans (sf i)
  have rd1:=(b1.cell (p:=⟨p.bR,d,none⟩) zR0).trans rd0;have fd1:=(b1.frozen (p:=⟨p.bR,d,none⟩) zR0).trans fd0;have v0:w.heap.size<w1.heap.size:=Nat.lt_of_lt_of_le y0 b1.size;have v1:w.heap.size+1<w1.heap.size:=Nat.lt_of_lt_of_le y1 b1.size;have v2:w.heap.size+1+1<w1.heap.size:=Nat.lt_of_lt_of_le y2 b1.size;have vR:p.bR<w1.heap.size:=Nat.lt_of_lt_of_le zR0 b1.size;have HB1:Hid (Below w.heap.size w w1):=HB0.out.trans (b1.mono (by omega));clear b1 m0 m1 m2 m3 m4 m5 m6 m7 m8 i0 i1 i2 i3 i4 i5 s0 s1 s2 s3 s4 s5 s6 s7 s8 mf sf rd0 fd0 ra0 rb0;have hE:doM 17 d a b h imm M=M.flags (IntKind.u64.wrap (M.R a-M.R b)) (decide (M.R a<M.R b)):=by
   show M.flags (wsub (M.R a) (M.R b)) (borrow (M.R a) (M.R b) !=0)=_;rw[sub_wsub,sub_borrow]
  generalize hV:IntKind.u64.wrap (M.R a-M.R b)=V at hE⊢;generalize hZ:decide (V=0)=zb;generalize hC:(decide (M.R a<M.R b))=cb at hE⊢;have HE:Hid _:=hE;have HZ:Hid _:=hZ;clear hE hV hZ hC;go_wp2;refine bodyPost_ret (v:=.agg #[.slice (some ⟨p.bR,0,none⟩) 8 p.cR,.bool (zb),.bool (cb),.bool true,.bool true,.slice p.aH M.nH p.cH,.int .i64 M.pc,.int .i64 M.st,.slice p.aO M.nO p.cO]) (by simp[results,Tryz.results74,go_sem,s0',s1',s2',s3',s4',s5',s6',s7',s8']) rfl ?_;rw[HE.out,<-HZ.out];refine DidK.flags H0.out _ _ ?_;iterate 9 refine Below.setCell ?_ (by simp;omega) _
  exact HB1.out
 ·go_wp2_with fail
  refine(l1SetFlags_any _ _ _ _ _ _ _ _ _ _ _ _ _ _ _ (IntKind.u64.wrap (M.R a-IntKind.u64.wrap imm)) (decide (M.R a<IntKind.u64.wrap imm)) _).mono ?_;rintro e w1⟨rfl,b1⟩;obtain⟨m0',m1',m2',m3',m4',m5',m6',m7',m8'⟩:=c9b b1 y0 m0 m1 m2 m3 m4 m5 m6 m7 m8;obtain⟨i0',i1',i2',i3',i4',i5'⟩:=c6b b1 y1 i0 i1 i2 i3 i4 i5;obtain⟨s0',s1',s2',s3',s4',s5',s6',s7',s8'⟩:=c9b b1 y2 s0 s1 s2 s3 s4 s5 s6 s7 s8;have mf':∀i,w1.frozen? ⟨w.heap.size,i,none⟩=false:=fun i=>(b1.frozen (p:=⟨w.heap.size,i,none⟩) y0).trans (mf i)
  have sf':∀i,w1.frozen? ⟨w.heap.size+1+1,i,none⟩=false:=fun i=>(b1.frozen (p:=⟨w.heap.size+1+1,i,none⟩) y2).trans (sf i)
  have rd1:=(b1.cell (p:=⟨p.bR,d,none⟩) zR0).trans rd0;have fd1:=(b1.frozen (p:=⟨p.bR,d,none⟩) zR0).trans fd0;have v0:w.heap.size<w1.heap.size:=Nat.lt_of_lt_of_le y0 b1.size;have v1:w.heap.size+1<w1.heap.size:=Nat.lt_of_lt_of_le y1 b1.size;have v2:w.heap.size+1+1<w1.heap.size:=Nat.lt_of_lt_of_le y2 b1.size;have vR:p.bR<w1.heap.size:=Nat.lt_of_lt_of_le zR0 b1.size;have HB1:Hid (Below w.heap.size w w1):=HB0.out.trans (b1.mono (by omega));clear b1 m0 m1 m2 m3 m4 m5 m6 m7 m8 i0 i1 i2 i3 i4 i5 s0 s1 s2 s3 s4 s5 s6 s7 s8 mf sf rd0 fd0 ra0 rb0;have hE:doM 18 d a b h imm M=M.flags (IntKind.u64.wrap (M.R a-IntKind.u64.wrap imm)) (decide (M.R a<IntKind.u64.wrap imm)):=by
   show M.flags (wsub (M.R a) (IntKind.u64.wrap imm)) (borrow (M.R a) (IntKind.u64.wrap imm) !=0)=_;rw[sub_wsub,sub_borrow]
  generalize hV:IntKind.u64.wrap (M.R a-IntKind.u64.wrap imm)=V at hE⊢;generalize hZ:decide (V=0)=zb;generalize hC:(decide (M.R a<IntKind.u64.wrap imm))=cb at hE⊢;have HE:Hid _:=hE;have HZ:Hid _:=hZ;clear hE hV hZ hC;go_wp2;refine bodyPost_ret (v:=.agg #[.slice (some ⟨p.bR,0,none⟩) 8 p.cR,.bool (zb),.bool (cb),.bool true,.bool true,.slice p.aH M.nH p.cH,.int .i64 M.pc,.int .i64 M.st,.slice p.aO M.nO p.cO]) (by simp[results,Tryz.results74,go_sem,s0',s1',s2',s3',s4',s5',s6',s7',s8']) rfl ?_;rw[HE.out,<-HZ.out];refine DidK.flags H0.out _ _ ?_;iterate 9 refine Below.setCell ?_ (by simp;omega) _
  exact HB1.out
 ·cases hh:M.hz with
  |false=>
   have hE:doM 19 d a b h imm M=M.fault:=by unfold doM exec;simp[hh]
   have HE:Hid _:=hE;clear hE;rw[hh]at m3;go_wp2_with fail;refine(l1Fault_any _ _ _ _ _ _ _ _ _ _ _ _ _ _ _ _).mono ?_;rintro e w1⟨rfl,b1⟩;obtain⟨m0',m1',m2',m3',m4',m5',m6',m7',m8'⟩:=c9b b1 y0 m0 m1 m2 m3 m4 m5 m6 m7 m8;obtain⟨i0',i1',i2',i3',i4',i5'⟩:=c6b b1 y1 i0 i1 i2 i3 i4 i5;obtain⟨s0',s1',s2',s3',s4',s5',s6',s7',s8'⟩:=c9b b1 y2 s0 s1 s2 s3 s4 s5 s6 s7 s8;have mf':∀i,w1.frozen? ⟨w.heap.size,i,none⟩=false:=fun i=>(b1.frozen (p:=⟨w.heap.size,i,none⟩) y0).trans (mf i)
   have sf':∀i,w1.frozen? ⟨w.heap.size+1+1,i,none⟩=false:=fun i=>(b1.frozen (p:=⟨w.heap.size+1+1,i,none⟩) y2).trans (sf i)
   have rd1:=(b1.cell (p:=⟨p.bR,d,none⟩) zR0).trans rd0;have fd1:=(b1.frozen (p:=⟨p.bR,d,none⟩) zR0).trans fd0;have v0:w.heap.size<w1.heap.size:=Nat.lt_of_lt_of_le y0 b1.size;have v1:w.heap.size+1<w1.heap.size:=Nat.lt_of_lt_of_le y1 b1.size;have v2:w.heap.size+1+1<w1.heap.size:=Nat.lt_of_lt_of_le y2 b1.size;have vR:p.bR<w1.heap.size:=Nat.lt_of_lt_of_le zR0 b1.size;have HB1:Hid (Below w.heap.size w w1):=HB0.out.trans (b1.mono (by omega));clear b1 m0 m1 m2 m3 m4 m5 m6 m7 m8 i0 i1 i2 i3 i4 i5 s0 s1 s2 s3 s4 s5 s6 s7 s8 mf sf rd0 fd0 ra0 rb0;go_wp2;refine bodyPost_ret (v:=.agg #[.slice (some ⟨p.bR,0,none⟩) 8 p.cR,.bool (M.z),.bool (M.c),.bool false,.bool M.hc,.slice p.aH M.nH p.cH,.int .i64 M.pc,.int .i64 2,.slice p.aO M.nO p.cO]) (by simp[results,Tryz.results74,go_sem,s0',s1',s2',s3',s4',s5',s6',s7',s8']) rfl ?_;rw[HE.out,<-hh];refine DidK.fault H0.out ?_;iterate 9 refine Below.setCell ?_ (by simp;omega) _
   exact HB1.out
  |true=>
   rw[hh]at m3;cases hf:M.z with
   |false=>
    have hE:doM 19 d a b h imm M=M.setR d (M.R b):=by unfold doM exec;simp[hh,hf]
    have HE:Hid _:=hE;clear hE;rw[hf]at m1;go_wp2;refine bodyPost_ret (v:=.agg #[.slice (some ⟨p.bR,0,none⟩) 8 p.cR,.bool (false),.bool (M.c),.bool true,.bool M.hc,.slice p.aH M.nH p.cH,.int .i64 M.pc,.int .i64 M.st,.slice p.aO M.nO p.cO]) (by simp[results,Tryz.results74,go_sem,s0,s1,s2,s3,s4,s5,s6,s7,s8]) rfl ?_;rw[HE.out];rw[show .agg #[.slice (some ⟨p.bR,0,none⟩) 8 p.cR,.bool (false),.bool (M.c),.bool true,.bool M.hc,.slice p.aH M.nH p.cH,.int .i64 M.pc,.int .i64 M.st,.slice p.aO M.nO p.cO]=mVal p (M.setR d (M.R b))by unfold mVal MV.setR;simp only[hh,hf]];refine DidK.set H0.out d _ ?_;iterate 9 refine Below.setCell ?_ (by simp;omega) _
    exact setCell_both (p:=⟨p.bR,d,none⟩) HB0.out zR _
   |true=>
    have hE:doM 19 d a b h imm M=M.setR d (M.R a):=by unfold doM exec;simp[hh,hf]
    have HE:Hid _:=hE;clear hE;rw[hf]at m1;go_wp2;refine bodyPost_ret (v:=.agg #[.slice (some ⟨p.bR,0,none⟩) 8 p.cR,.bool (true),.bool (M.c),.bool true,.bool M.hc,.slice p.aH M.nH p.cH,.int .i64 M.pc,.int .i64 M.st,.slice p.aO M.nO p.cO]) (by simp[results,Tryz.results74,go_sem,s0,s1,s2,s3,s4,s5,s6,s7,s8]) rfl ?_;rw[HE.out];rw[show .agg #[.slice (some ⟨p.bR,0,none⟩) 8 p.cR,.bool (true),.bool (M.c),.bool true,.bool M.hc,.slice p.aH M.nH p.cH,.int .i64 M.pc,.int .i64 M.st,.slice p.aO M.nO p.cO]=mVal p (M.setR d (M.R a))by unfold mVal MV.setR;simp only[hh,hf]];refine DidK.set H0.out d _ ?_;iterate 9 refine Below.setCell ?_ (by simp;omega) _
    exact setCell_both (p:=⟨p.bR,d,none⟩) HB0.out zR _
 ·cases hh:M.hc with
  |false=>
   have hE:doM 20 d a b h imm M=M.fault:=by unfold doM exec;simp[hh]
   have HE:Hid _:=hE;clear hE;rw[hh]at m4;go_wp2_with fail;refine(l1Fault_any _ _ _ _ _ _ _ _ _ _ _ _ _ _ _ _).mono ?_;rintro e w1⟨rfl,b1⟩;obtain⟨m0',m1',m2',m3',m4',m5',m6',m7',m8'⟩:=c9b b1 y0 m0 m1 m2 m3 m4 m5 m6 m7 m8;obtain⟨i0',i1',i2',i3',i4',i5'⟩:=c6b b1 y1 i0 i1 i2 i3 i4 i5;obtain⟨s0',s1',s2',s3',s4',s5',s6',s7',s8'⟩:=c9b b1 y2 s0 s1 s2 s3 s4 s5 s6 s7 s8;have mf':∀i,w1.frozen? ⟨w.heap.size,i,none⟩=false:=fun i=>(b1.frozen (p:=⟨w.heap.size,i,none⟩) y0).trans (mf i)
   have sf':∀i,w1.frozen? ⟨w.heap.size+1+1,i,none⟩=false:=fun i=>(b1.frozen (p:=⟨w.heap.size+1+1,i,none⟩) y2).trans (sf i)
   have rd1:=(b1.cell (p:=⟨p.bR,d,none⟩) zR0).trans rd0;have fd1:=(b1.frozen (p:=⟨p.bR,d,none⟩) zR0).trans fd0;have v0:w.heap.size<w1.heap.size:=Nat.lt_of_lt_of_le y0 b1.size;have v1:w.heap.size+1<w1.heap.size:=Nat.lt_of_lt_of_le y1 b1.size;have v2:w.heap.size+1+1<w1.heap.size:=Nat.lt_of_lt_of_le y2 b1.size;have vR:p.bR<w1.heap.size:=Nat.lt_of_lt_of_le zR0 b1.size;have HB1:Hid (Below w.heap.size w w1):=HB0.out.trans (b1.mono (by omega));clear b1 m0 m1 m2 m3 m4 m5 m6 m7 m8 i0 i1 i2 i3 i4 i5 s0 s1 s2 s3 s4 s5 s6 s7 s8 mf sf rd0 fd0 ra0 rb0;go_wp2;refine bodyPost_ret (v:=.agg #[.slice (some ⟨p.bR,0,none⟩) 8 p.cR,.bool (M.z),.bool (M.c),.bool M.hz,.bool false,.slice p.aH M.nH p.cH,.int .i64 M.pc,.int .i64 2,.slice p.aO M.nO p.cO]) (by simp[results,Tryz.results74,go_sem,s0',s1',s2',s3',s4',s5',s6',s7',s8']) rfl ?_;rw[HE.out,<-hh];refine DidK.fault H0.out ?_;iterate 9 refine Below.setCell ?_ (by simp;omega) _
   exact HB1.out
  |true=>
   rw[hh]at m4;cases hf:M.c with
   |false=>
    have hE:doM 20 d a b h imm M=M.setR d (M.R b):=by unfold doM exec;simp[hh,hf]
    have HE:Hid _:=hE;clear hE;rw[hf]at m2;go_wp2;refine bodyPost_ret (v:=.agg #[.slice (some ⟨p.bR,0,none⟩) 8 p.cR,.bool (M.z),.bool (false),.bool M.hz,.bool true,.slice p.aH M.nH p.cH,.int .i64 M.pc,.int .i64 M.st,.slice p.aO M.nO p.cO]) (by simp[results,Tryz.results74,go_sem,s0,s1,s2,s3,s4,s5,s6,s7,s8]) rfl ?_;rw[HE.out];rw[show .agg #[.slice (some ⟨p.bR,0,none⟩) 8 p.cR,.bool (M.z),.bool (false),.bool M.hz,.bool true,.slice p.aH M.nH p.cH,.int .i64 M.pc,.int .i64 M.st,.slice p.aO M.nO p.cO]=mVal p (M.setR d (M.R b))by unfold mVal MV.setR;simp only[hh,hf]];refine DidK.set H0.out d _ ?_;iterate 9 refine Below.setCell ?_ (by simp;omega) _
    exact setCell_both (p:=⟨p.bR,d,none⟩) HB0.out zR _
   |true=>
    have hE:doM 20 d a b h imm M=M.setR d (M.R a):=by unfold doM exec;simp[hh,hf]
    have HE:Hid _:=hE;clear hE;rw[hf]at m2;go_wp2;refine bodyPost_ret (v:=.agg #[.slice (some ⟨p.bR,0,none⟩) 8 p.cR,.bool (M.z),.bool (true),.bool M.hz,.bool true,.slice p.aH M.nH p.cH,.int .i64 M.pc,.int .i64 M.st,.slice p.aO M.nO p.cO]) (by simp[results,Tryz.results74,go_sem,s0,s1,s2,s3,s4,s5,s6,s7,s8]) rfl ?_;rw[HE.out];rw[show .agg #[.slice (some ⟨p.bR,0,none⟩) 8 p.cR,.bool (M.z),.bool (true),.bool M.hz,.bool true,.slice p.aH M.nH p.cH,.int .i64 M.pc,.int .i64 M.st,.slice p.aO M.nO p.cO]=mVal p (M.setR d (M.R a))by unfold mVal MV.setR;simp only[hh,hf]];refine DidK.set H0.out d _ ?_;iterate 9 refine Below.setCell ?_ (by simp;omega) _
    exact setCell_both (p:=⟨p.bR,d,none⟩) HB0.out zR _
end
end Go.Proofs.YtpbceodheeepoaaGreat
