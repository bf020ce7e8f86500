import Derived.Test.YtpbceodheeepoaaGreatSpecDoB
import Derived.Deep.RegionHeld
set_option maxHeartbeats 4000000
set_option maxRecDepth 20000
namespace Go.Proofs.YtpbceodheeepoaaGreat
open Go.RowKit
section
variable{w:World}{base:Nat}{p:Pl}{M:MV}
theorem do_15(h0:Mem w base p M)(hk:M.Ok)(d a b h:Nat)(imm:Int)(hd:d<8)(ha:a<8)(hb:b<8):
 Calls Tryz.prog 74 #[.agg #[.slice (some ⟨p.bR,0,none⟩) 8 p.cR,.bool M.z,.bool M.c,.bool M.hz,.bool M.hc,.slice p.aH M.nH p.cH,.int .i64 M.pc,.int .i64 M.st,.slice p.aO M.nO p.cO],.agg #[.int .i64 15,.int .i64 d,.int .i64 a,.int .i64 b,.int .i64 imm,.int .i64 h]] w (DidK base w (doM 15 d a b h imm M)):=by
 have hd':(d:Int)<8:=by omega
 have ha':(a:Int)<8:=by omega
 have hb':(b:Int)<8:=by omega
 have ra:=h0.reg ha;have rb:=h0.reg hb;have rd:=h0.reg hd;have fd:=h0.freeR d;have zR:=h0.ltR.2;have pa:=hk.reg a ha;have pb:=hk.reg b hb;obtain⟨pa0,pa1⟩:=pa;obtain⟨pb0,pb1⟩:=pb;have H0:Hid (Mem w base p M):=h0;clear h0 hk;go_enter Tryz.func74,Tryz.ntmps74;go_upto_region 1 with fail;generalize hw0:((w.alloc (.cells #[.slice (some ⟨p.bR,0,none⟩) 8 p.cR,.bool M.z,.bool M.c,.bool M.hz,.bool M.hc,.slice p.aH M.nH p.cH,.int .i64 M.pc,.int .i64 M.st,.slice p.aO M.nO p.cO] 28)).alloc (.cells #[.int .i64 15,.int .i64 d,.int .i64 a,.int .i64 b,.int .i64 imm,.int .i64 h] 73)).alloc (.cells #[.slice none 0 0,.bool false,.bool false,.bool false,.bool false,.slice none 0 0,.int .i64 0,.int .i64 0,.slice none 0 0] 28)=w0;have b0:Below w.heap.size w w0:=by rw[<-hw0];exact(((Below.refl _ _).alloc (Nat.le_refl _) _).alloc (by simp) _).alloc (by simp;omega) _
 have z0:w0.heap.size=w.heap.size+3:=by rw[<-hw0];simp
 have XM:w0.ownsRow w.heap.size 28 9 (.slice (some ⟨w.heap.size,0,none⟩) 1 1) 1 [.slice (some ⟨p.bR,0,none⟩) 8 p.cR,.bool M.z,.bool M.c,.bool M.hz,.bool M.hc,.slice p.aH M.nH p.cH,.int .i64 M.pc,.int .i64 M.st,.slice p.aO M.nO p.cO]:=by rw[<-hw0];exact((World.ownsRow_lit w #[.slice (some ⟨p.bR,0,none⟩) 8 p.cR,.bool M.z,.bool M.c,.bool M.hz,.bool M.hc,.slice p.aH M.nH p.cH,.int .i64 M.pc,.int .i64 M.st,.slice p.aO M.nO p.cO] 1 (Nat.le_refl _) (by unfold maxLen;omega) rfl).alloc _).alloc _
 have XI:w0.ownsRow w.heap.size 73 6 (.slice (some ⟨w.heap.size+1,0,none⟩) 1 1) 1 [.int .i64 15,.int .i64 d,.int .i64 a,.int .i64 b,.int .i64 imm,.int .i64 h]:=by
  rw[<-hw0];have:=(World.ownsRow_lit (base:=w.heap.size) (e:=73) (size:=6) (w.alloc (.cells #[.slice (some ⟨p.bR,0,none⟩) 8 p.cR,.bool M.z,.bool M.c,.bool M.hz,.bool M.hc,.slice p.aH M.nH p.cH,.int .i64 M.pc,.int .i64 M.st,.slice p.aO M.nO p.cO] 28)) #[.int .i64 15,.int .i64 d,.int .i64 a,.int .i64 b,.int .i64 imm,.int .i64 h] 1 (by simp) (by unfold maxLen;omega) rfl).alloc (.cells #[.slice none 0 0,.bool false,.bool false,.bool false,.bool false,.slice none 0 0,.int .i64 0,.int .i64 0,.slice none 0 0] 28);rw[World.size_alloc]at this;exact this
 have XZ:w0.ownsRow w.heap.size 28 9 (.slice (some ⟨w.heap.size+1+1,0,none⟩) 1 1) 1 [.slice none 0 0,.bool false,.bool false,.bool false,.bool false,.slice none 0 0,.int .i64 0,.int .i64 0,.slice none 0 0]:=by
  rw[<-hw0];have:=World.ownsRow_lit (base:=w.heap.size) (e:=28) (size:=9) ((w.alloc (.cells #[.slice (some ⟨p.bR,0,none⟩) 8 p.cR,.bool M.z,.bool M.c,.bool M.hz,.bool M.hc,.slice p.aH M.nH p.cH,.int .i64 M.pc,.int .i64 M.st,.slice p.aO M.nO p.cO] 28)).alloc (.cells #[.int .i64 15,.int .i64 d,.int .i64 a,.int .i64 b,.int .i64 imm,.int .i64 h] 73)) #[.slice none 0 0,.bool false,.bool false,.bool false,.bool false,.slice none 0 0,.int .i64 0,.int .i64 0,.slice none 0 0] 1 (by simp;omega) (by unfold maxLen;omega) rfl;rw[World.size_alloc,World.size_alloc]at this;exact this
 obtain⟨m0,m1,m2,m3,m4,m5,m6,m7,m8⟩:=cells9 XM;obtain⟨i0,i1,i2,i3,i4,i5⟩:=cells6 XI;obtain⟨s0,s1,s2,s3,s4,s5,s6,s7,s8⟩:=cells9 XZ;have mf:∀i,w0.frozen? ⟨w.heap.size,i,none⟩=false:=fun i=>XM.frozenAt i
 have sf:∀i,w0.frozen? ⟨w.heap.size+1+1,i,none⟩=false:=fun i=>XZ.frozenAt i
 have ra0:=(b0.cell (p:=⟨p.bR,a,none⟩) zR).trans ra;have rb0:=(b0.cell (p:=⟨p.bR,b,none⟩) zR).trans rb;have rd0:=(b0.cell (p:=⟨p.bR,d,none⟩) zR).trans rd;have fd0:=(b0.frozen (p:=⟨p.bR,d,none⟩) zR).trans fd;have zR0:p.bR<w0.heap.size:=by omega
 have y0:w.heap.size<w0.heap.size:=by omega
 have y1:w.heap.size+1<w0.heap.size:=by omega
 have y2:w.heap.size+1+1<w0.heap.size:=by omega
 have n0:p.bR≠w.heap.size:=by omega
 have n1:p.bR≠w.heap.size+1:=by omega
 have n2:p.bR≠w.heap.size+1+1:=by omega
 have HB0:Hid (Below w.heap.size w w0):=b0;clear hw0 b0 XM XI XZ ra rb rd fd;cases hh:M.hc with
 |false=>
  have hE:doM 15 d a b h imm M=M.fault:=by unfold doM exec;simp[hh]
  have HE:Hid _:=hE;clear hE;rw[hh]at m4;go_wp2_with fail;refine(l1Fault_any _ _ _ _ _ _ _ _ _ _ _ _ _ _ _ _).mono ?_;rintro e w1⟨rfl,b1⟩;obtain⟨m0',m1',m2',m3',m4',m5',m6',m7',m8'⟩:=c9b b1 y0 m0 m1 m2 m3 m4 m5 m6 m7 m8;obtain⟨i0',i1',i2',i3',i4',i5'⟩:=c6b b1 y1 i0 i1 i2 i3 i4 i5;obtain⟨s0',s1',s2',s3',s4',s5',s6',s7',s8'⟩:=c9b b1 y2 s0 s1 s2 s3 s4 s5 s6 s7 s8;have mf':∀i,w1.frozen? ⟨w.heap.size,i,none⟩=false:=fun i=>(b1.frozen (p:=⟨w.heap.size,i,none⟩) y0).trans (mf i)
  have sf':∀i,w1.frozen? ⟨w.heap.size+1+1,i,none⟩=false:=fun i=>(b1.frozen (p:=⟨w.heap.size+1+1,i,none⟩) y2).trans (sf i)
  have rd1:=(b1.cell (p:=⟨p.bR,d,none⟩) zR0).trans rd0;have fd1:=(b1.frozen (p:=⟨p.bR,d,none⟩) zR0).trans fd0;have v0:w.heap.size<w1.heap.size:=Nat.lt_of_lt_of_le y0 b1.size;have v1:w.heap.size+1<w1.heap.size:=Nat.lt_of_lt_of_le y1 b1.size;have v2:w.heap.size+1+1<w1.heap.size:=Nat.lt_of_lt_of_le y2 b1.size;have vR:p.bR<w1.heap.size:=Nat.lt_of_lt_of_le zR0 b1.size;have HB1:Hid (Below w.heap.size w w1):=HB0.out.trans (b1.mono (by omega));clear b1 m0 m1 m2 m3 m4 m5 m6 m7 m8 i0 i1 i2 i3 i4 i5 s0 s1 s2 s3 s4 s5 s6 s7 s8 mf sf rd0 fd0 ra0 rb0;go_wp2;refine bodyPost_ret (v:=.agg #[.slice (some ⟨p.bR,0,none⟩) 8 p.cR,.bool (M.z),.bool (M.c),.bool M.hz,.bool false,.slice p.aH M.nH p.cH,.int .i64 M.pc,.int .i64 2,.slice p.aO M.nO p.cO]) (by simp[results,Tryz.results74,go_sem,s0',s1',s2',s3',s4',s5',s6',s7',s8']) rfl ?_;rw[HE.out,<-hh];refine DidK.fault H0.out ?_;iterate 9 refine Below.setCell ?_ (by simp;omega) _
  exact HB1.out
 |true=>
  rw[hh]at m4;cases hf:M.c with
  |false=>
   rw[hf]at m2;go_wp2_with fail;refine(l1SetFlags_any _ _ _ _ _ _ _ _ _ _ _ _ _ _ _ (IntKind.u64.wrap (M.R a+M.R b)) (decide (IntKind.u64.wrap (M.R a+M.R b)<M.R a)) _).mono ?_;rintro e w1⟨rfl,b1⟩;obtain⟨m0',m1',m2',m3',m4',m5',m6',m7',m8'⟩:=c9b b1 y0 m0 m1 m2 m3 m4 m5 m6 m7 m8;obtain⟨i0',i1',i2',i3',i4',i5'⟩:=c6b b1 y1 i0 i1 i2 i3 i4 i5;obtain⟨s0',s1',s2',s3',s4',s5',s6',s7',s8'⟩:=c9b b1 y2 s0 s1 s2 s3 s4 s5 s6 s7 s8;have mf':∀i,w1.frozen? ⟨w.heap.size,i,none⟩=false:=fun i=>(b1.frozen (p:=⟨w.heap.size,i,none⟩) y0).trans (mf i)
   have sf':∀i,w1.frozen? ⟨w.heap.size+1+1,i,none⟩=false:=fun i=>(b1.frozen (p:=⟨w.heap.size+1+1,i,none⟩) y2).trans (sf i)
   have rd1:=(b1.cell (p:=⟨p.bR,d,none⟩) zR0).trans rd0;have fd1:=(b1.frozen (p:=⟨p.bR,d,none⟩) zR0).trans fd0;have v0:w.heap.size<w1.heap.size:=Nat.lt_of_lt_of_le y0 b1.size;have v1:w.heap.size+1<w1.heap.size:=Nat.lt_of_lt_of_le y1 b1.size;have v2:w.heap.size+1+1<w1.heap.size:=Nat.lt_of_lt_of_le y2 b1.size;have vR:p.bR<w1.heap.size:=Nat.lt_of_lt_of_le zR0 b1.size;have HB1:Hid (Below w.heap.size w w1):=HB0.out.trans (b1.mono (by omega));clear b1 m0 m1 m2 m3 m4 m5 m6 m7 m8 i0 i1 i2 i3 i4 i5 s0 s1 s2 s3 s4 s5 s6 s7 s8 mf sf rd0 fd0 ra0 rb0;have hE:doM 15 d a b h imm M=(M.setR d (IntKind.u64.wrap (M.R a+M.R b))).flags (IntKind.u64.wrap (M.R a+M.R b)) (decide (IntKind.u64.wrap (M.R a+M.R b)<M.R a)):=by
    have e1:doM 15 d a b h imm M=(M.setR d (wadd (M.R a) (M.R b) 0)).flags (wadd (M.R a) (M.R b) 0) (carry (M.R a) (M.R b) 0 !=0):=by unfold doM exec;simp[hh,hf]
    rw[e1,add_wadd,add_carry pa0 pa1 pb0 pb1]
   generalize hV:IntKind.u64.wrap (M.R a+M.R b)=V at hE⊢;generalize hZ:decide (V=0)=zb;generalize hC:(decide (V<M.R a))=cb at hE⊢;have HE:Hid _:=hE;have HZ:Hid _:=hZ;clear hE hV hZ hC;go_wp2;refine bodyPost_ret (v:=.agg #[.slice (some ⟨p.bR,0,none⟩) 8 p.cR,.bool (zb),.bool (cb),.bool true,.bool true,.slice p.aH M.nH p.cH,.int .i64 M.pc,.int .i64 M.st,.slice p.aO M.nO p.cO]) (by simp[results,Tryz.results74,go_sem,s0',s1',s2',s3',s4',s5',s6',s7',s8']) rfl ?_;rw[HE.out,<-HZ.out];refine DidK.setF H0.out d _ _ _ ?_;iterate 9 refine Below.setCell ?_ (by simp;omega) _
   refine setCell_both (p:=⟨p.bR,d,none⟩) ?_ zR _;iterate 9 refine Below.setCell ?_ (by simp) _
   exact HB1.out
  |true=>
   rw[hf]at m2;have e1:doM 15 d a b h imm M=(M.setR d (wadd (M.R a) (M.R b) 1)).flags (wadd (M.R a) (M.R b) 1) (carry (M.R a) (M.R b) 1 !=0):=by unfold doM exec;simp[hh,hf]
   have e2:=adc_carry pa0 pa1 pb0 pb1;have E1:Hid _:=e1;have E2:Hid _:=e2;clear e1 e2;by_cases q:IntKind.u64.wrap (M.R a+M.R b)<M.R a
   ·go_wp2_with fail
    refine(l1SetFlags_any _ _ _ _ _ _ _ _ _ _ _ _ _ _ _ (IntKind.u64.wrap (IntKind.u64.wrap (M.R a+M.R b)+1)) (true) _).mono ?_;rintro e w1⟨rfl,b1⟩;obtain⟨m0',m1',m2',m3',m4',m5',m6',m7',m8'⟩:=c9b b1 y0 m0 m1 m2 m3 m4 m5 m6 m7 m8;obtain⟨i0',i1',i2',i3',i4',i5'⟩:=c6b b1 y1 i0 i1 i2 i3 i4 i5;obtain⟨s0',s1',s2',s3',s4',s5',s6',s7',s8'⟩:=c9b b1 y2 s0 s1 s2 s3 s4 s5 s6 s7 s8;have mf':∀i,w1.frozen? ⟨w.heap.size,i,none⟩=false:=fun i=>(b1.frozen (p:=⟨w.heap.size,i,none⟩) y0).trans (mf i)
    have sf':∀i,w1.frozen? ⟨w.heap.size+1+1,i,none⟩=false:=fun i=>(b1.frozen (p:=⟨w.heap.size+1+1,i,none⟩) y2).trans (sf i)
    have rd1:=(b1.cell (p:=⟨p.bR,d,none⟩) zR0).trans rd0;have fd1:=(b1.frozen (p:=⟨p.bR,d,none⟩) zR0).trans fd0;have v0:w.heap.size<w1.heap.size:=Nat.lt_of_lt_of_le y0 b1.size;have v1:w.heap.size+1<w1.heap.size:=Nat.lt_of_lt_of_le y1 b1.size;have v2:w.heap.size+1+1<w1.heap.size:=Nat.lt_of_lt_of_le y2 b1.size;have vR:p.bR<w1.heap.size:=Nat.lt_of_lt_of_le zR0 b1.size;have HB1:Hid (Below w.heap.size w w1):=HB0.out.trans (b1.mono (by omega));clear b1 m0 m1 m2 m3 m4 m5 m6 m7 m8 i0 i1 i2 i3 i4 i5 s0 s1 s2 s3 s4 s5 s6 s7 s8 mf sf rd0 fd0 ra0 rb0;have hE:doM 15 d a b h imm M=(M.setR d (IntKind.u64.wrap (IntKind.u64.wrap (M.R a+M.R b)+1))).flags (IntKind.u64.wrap (IntKind.u64.wrap (M.R a+M.R b)+1)) (true):=by
     rw[E1.out,add_wadd (M.R a) (M.R b),adc_wadd,<-E2.out];rw[add_wadd]at q;simp[q]
    generalize hV:IntKind.u64.wrap (IntKind.u64.wrap (M.R a+M.R b)+1)=V at hE⊢;generalize hZ:decide (V=0)=zb;have HE:Hid _:=hE;have HZ:Hid _:=hZ;clear hE hV hZ;go_wp2;refine bodyPost_ret (v:=.agg #[.slice (some ⟨p.bR,0,none⟩) 8 p.cR,.bool (zb),.bool (true),.bool true,.bool true,.slice p.aH M.nH p.cH,.int .i64 M.pc,.int .i64 M.st,.slice p.aO M.nO p.cO]) (by simp[results,Tryz.results74,go_sem,s0',s1',s2',s3',s4',s5',s6',s7',s8']) rfl ?_;rw[HE.out,<-HZ.out];refine DidK.setF H0.out d _ _ _ ?_;iterate 9 refine Below.setCell ?_ (by simp;omega) _
    refine setCell_both (p:=⟨p.bR,d,none⟩) ?_ zR _;iterate 9 refine Below.setCell ?_ (by simp) _
    exact HB1.out
   ·go_wp2_with fail
    refine(l1SetFlags_any _ _ _ _ _ _ _ _ _ _ _ _ _ _ _ (IntKind.u64.wrap (IntKind.u64.wrap (M.R a+M.R b)+1)) (IntKind.u64.wrap (IntKind.u64.wrap (M.R a+M.R b)+1)==0) _).mono ?_;rintro e w1⟨rfl,b1⟩;obtain⟨m0',m1',m2',m3',m4',m5',m6',m7',m8'⟩:=c9b b1 y0 m0 m1 m2 m3 m4 m5 m6 m7 m8;obtain⟨i0',i1',i2',i3',i4',i5'⟩:=c6b b1 y1 i0 i1 i2 i3 i4 i5;obtain⟨s0',s1',s2',s3',s4',s5',s6',s7',s8'⟩:=c9b b1 y2 s0 s1 s2 s3 s4 s5 s6 s7 s8;have mf':∀i,w1.frozen? ⟨w.heap.size,i,none⟩=false:=fun i=>(b1.frozen (p:=⟨w.heap.size,i,none⟩) y0).trans (mf i)
    have sf':∀i,w1.frozen? ⟨w.heap.size+1+1,i,none⟩=false:=fun i=>(b1.frozen (p:=⟨w.heap.size+1+1,i,none⟩) y2).trans (sf i)
    have rd1:=(b1.cell (p:=⟨p.bR,d,none⟩) zR0).trans rd0;have fd1:=(b1.frozen (p:=⟨p.bR,d,none⟩) zR0).trans fd0;have v0:w.heap.size<w1.heap.size:=Nat.lt_of_lt_of_le y0 b1.size;have v1:w.heap.size+1<w1.heap.size:=Nat.lt_of_lt_of_le y1 b1.size;have v2:w.heap.size+1+1<w1.heap.size:=Nat.lt_of_lt_of_le y2 b1.size;have vR:p.bR<w1.heap.size:=Nat.lt_of_lt_of_le zR0 b1.size;have HB1:Hid (Below w.heap.size w w1):=HB0.out.trans (b1.mono (by omega));clear b1 m0 m1 m2 m3 m4 m5 m6 m7 m8 i0 i1 i2 i3 i4 i5 s0 s1 s2 s3 s4 s5 s6 s7 s8 mf sf rd0 fd0 ra0 rb0;have hE:doM 15 d a b h imm M=(M.setR d (IntKind.u64.wrap (IntKind.u64.wrap (M.R a+M.R b)+1))).flags (IntKind.u64.wrap (IntKind.u64.wrap (M.R a+M.R b)+1)) (IntKind.u64.wrap (IntKind.u64.wrap (M.R a+M.R b)+1)==0):=by
     rw[E1.out,add_wadd (M.R a) (M.R b),adc_wadd,<-E2.out];rw[add_wadd]at q;have q2:¬wadd (M.R a) (M.R b) 0<M.R a:=by omega
     simp[q2]
    generalize hV:IntKind.u64.wrap (IntKind.u64.wrap (M.R a+M.R b)+1)=V at hE⊢;generalize hZ:decide (V=0)=zb;generalize hC:(V==0)=cb at hE⊢;have HE:Hid _:=hE;have HZ:Hid _:=hZ;clear hE hV hZ hC;go_wp2;refine bodyPost_ret (v:=.agg #[.slice (some ⟨p.bR,0,none⟩) 8 p.cR,.bool (zb),.bool (cb),.bool true,.bool true,.slice p.aH M.nH p.cH,.int .i64 M.pc,.int .i64 M.st,.slice p.aO M.nO p.cO]) (by simp[results,Tryz.results74,go_sem,s0',s1',s2',s3',s4',s5',s6',s7',s8']) rfl ?_;rw[HE.out,<-HZ.out];refine DidK.setF H0.out d _ _ _ ?_;iterate 9 refine Below.setCell ?_ (by simp;omega) _
    refine setCell_both (p:=⟨p.bR,d,none⟩) ?_ zR _;iterate 9 refine Below.setCell ?_ (by simp) _
    exact HB1.out
end
end Go.Proofs.YtpbceodheeepoaaGreat
