import Derived.Test.YtpbceodheeepoaaGreatSpecMemN
import Derived.Test.YtpbceodheeepoaaGreatSpecMemX
import Derived.Test.YtpbceodheeepoaaGreatOfSpecOff
set_option maxHeartbeats 4000000
set_option maxRecDepth 20000
namespace Go.Proofs.YtpbceodheeepoaaGreat
open Go.RowKit
section
variable{w:World}{base:Nat}{p:Pl}{M:MV}
theorem do_m(h0:Mem w base p M)(hk:M.Ok)(kk d a b h:Nat)(imm:Int)(hd:d<8)(ha:a<8)(hb:b<8)(hn:M.nO<=1048576)(hop:kk=21∨kk=22∨kk=23∨kk=24∨kk=25∨kk=26∨kk=27∨kk=28):
 Calls Tryz.prog 74 #[.agg #[.slice (some ⟨p.bR,0,none⟩) 8 p.cR,.bool M.z,.bool M.c,.bool M.hz,.bool M.hc,.slice p.aH M.nH p.cH,.int .i64 M.pc,.int .i64 M.st,.slice p.aO M.nO p.cO],.agg #[.int .i64 kk,.int .i64 d,.int .i64 a,.int .i64 b,.int .i64 imm,.int .i64 h]] w (DidK base w (doM kk d a b h imm M)):=by
 have hd':(d:Int)<8:=by omega
 have ha':(a:Int)<8:=by omega
 have hb':(b:Int)<8:=by omega
 have ra:=h0.reg ha;have rb:=h0.reg hb;have rd:=h0.reg hd;have fd:=h0.freeR d;have zR:=h0.ltR.2;have pa:=hk.reg a ha;have pb:=hk.reg b hb;obtain⟨pa0,pa1⟩:=pa;obtain⟨pb0,pb1⟩:=pb;have H0:Hid (Mem w base p M):=h0;have HK:Hid M.Ok:=hk;clear h0 hk;go_enter Tryz.func74,Tryz.ntmps74;go_upto_region 1 with fail;generalize hw0:((w.alloc (.cells #[.slice (some ⟨p.bR,0,none⟩) 8 p.cR,.bool M.z,.bool M.c,.bool M.hz,.bool M.hc,.slice p.aH M.nH p.cH,.int .i64 M.pc,.int .i64 M.st,.slice p.aO M.nO p.cO] 28)).alloc (.cells #[.int .i64 kk,.int .i64 d,.int .i64 a,.int .i64 b,.int .i64 imm,.int .i64 h] 73)).alloc (.cells #[.slice none 0 0,.bool false,.bool false,.bool false,.bool false,.slice none 0 0,.int .i64 0,.int .i64 0,.slice none 0 0] 28)=w0;have b0:Below w.heap.size w w0:=by rw[<-hw0];exact(((Below.refl _ _).alloc (Nat.le_refl _) _).alloc (by simp) _).alloc (by simp;omega) _
 have z0:w0.heap.size=w.heap.size+3:=by rw[<-hw0];simp
 have XM:w0.ownsRow w.heap.size 28 9 (.slice (some ⟨w.heap.size,0,none⟩) 1 1) 1 [.slice (some ⟨p.bR,0,none⟩) 8 p.cR,.bool M.z,.bool M.c,.bool M.hz,.bool M.hc,.slice p.aH M.nH p.cH,.int .i64 M.pc,.int .i64 M.st,.slice p.aO M.nO p.cO]:=by rw[<-hw0];exact((World.ownsRow_lit w #[.slice (some ⟨p.bR,0,none⟩) 8 p.cR,.bool M.z,.bool M.c,.bool M.hz,.bool M.hc,.slice p.aH M.nH p.cH,.int .i64 M.pc,.int .i64 M.st,.slice p.aO M.nO p.cO] 1 (Nat.le_refl _) (by unfold maxLen;omega) rfl).alloc _).alloc _
 have XI:w0.ownsRow w.heap.size 73 6 (.slice (some ⟨w.heap.size+1,0,none⟩) 1 1) 1 [.int .i64 kk,.int .i64 d,.int .i64 a,.int .i64 b,.int .i64 imm,.int .i64 h]:=by
  rw[<-hw0];have:=(World.ownsRow_lit (base:=w.heap.size) (e:=73) (size:=6) (w.alloc (.cells #[.slice (some ⟨p.bR,0,none⟩) 8 p.cR,.bool M.z,.bool M.c,.bool M.hz,.bool M.hc,.slice p.aH M.nH p.cH,.int .i64 M.pc,.int .i64 M.st,.slice p.aO M.nO p.cO] 28)) #[.int .i64 kk,.int .i64 d,.int .i64 a,.int .i64 b,.int .i64 imm,.int .i64 h] 1 (by simp) (by unfold maxLen;omega) rfl).alloc (.cells #[.slice none 0 0,.bool false,.bool false,.bool false,.bool false,.slice none 0 0,.int .i64 0,.int .i64 0,.slice none 0 0] 28);rw[World.size_alloc]at this;exact this
 have XZ:w0.ownsRow w.heap.size 28 9 (.slice (some ⟨w.heap.size+1+1,0,none⟩) 1 1) 1 [.slice none 0 0,.bool false,.bool false,.bool false,.bool false,.slice none 0 0,.int .i64 0,.int .i64 0,.slice none 0 0]:=by
  rw[<-hw0];have:=World.ownsRow_lit (base:=w.heap.size) (e:=28) (size:=9) ((w.alloc (.cells #[.slice (some ⟨p.bR,0,none⟩) 8 p.cR,.bool M.z,.bool M.c,.bool M.hz,.bool M.hc,.slice p.aH M.nH p.cH,.int .i64 M.pc,.int .i64 M.st,.slice p.aO M.nO p.cO] 28)).alloc (.cells #[.int .i64 kk,.int .i64 d,.int .i64 a,.int .i64 b,.int .i64 imm,.int .i64 h] 73)) #[.slice none 0 0,.bool false,.bool false,.bool false,.bool false,.slice none 0 0,.int .i64 0,.int .i64 0,.slice none 0 0] 1 (by simp;omega) (by unfold maxLen;omega) rfl;rw[World.size_alloc,World.size_alloc]at this;exact this
 obtain⟨m0,m1,m2,m3,m4,m5,m6,m7,m8⟩:=cells9 XM;obtain⟨i0,i1,i2,i3,i4,i5⟩:=cells6 XI;obtain⟨s0,s1,s2,s3,s4,s5,s6,s7,s8⟩:=cells9 XZ;have mf:∀i,w0.frozen? ⟨w.heap.size,i,none⟩=false:=fun i=>XM.frozenAt i
 have sf:∀i,w0.frozen? ⟨w.heap.size+1+1,i,none⟩=false:=fun i=>XZ.frozenAt i
 have ra0:=(b0.cell (p:=⟨p.bR,a,none⟩) zR).trans ra;have rb0:=(b0.cell (p:=⟨p.bR,b,none⟩) zR).trans rb;have rd0:=(b0.cell (p:=⟨p.bR,d,none⟩) zR).trans rd;have fd0:=(b0.frozen (p:=⟨p.bR,d,none⟩) zR).trans fd;have zR0:p.bR<w0.heap.size:=by omega
 have y0:w.heap.size<w0.heap.size:=by omega
 have y1:w.heap.size+1<w0.heap.size:=by omega
 have y2:w.heap.size+1+1<w0.heap.size:=by omega
 have n0:p.bR≠w.heap.size:=by omega
 have n1:p.bR≠w.heap.size+1:=by omega
 have n2:p.bR≠w.heap.size+1+1:=by omega
 have HB0:Hid (Below w.heap.size w w0):=b0;have HXZ:Hid (w0.ownsRow w.heap.size 28 9 (.slice (some ⟨w.heap.size+1+1,0,none⟩) 1 1) 1 [.slice none 0 0,.bool false,.bool false,.bool false,.bool false,.slice none 0 0,.int .i64 0,.int .i64 0,.slice none 0 0]):=XZ;clear hw0 b0 XM XI XZ ra rb rd fd;have HMW:Hid (Mem w0 base p M):=H0.out.below HB0.out;have HMEM:Hid (Calls Tryz.prog 127 #[.agg #[.slice (some ⟨p.bR,0,none⟩) 8 p.cR,.bool M.z,.bool M.c,.bool M.hz,.bool M.hc,.slice p.aH M.nH p.cH,.int .i64 M.pc,.int .i64 M.st,.slice p.aO M.nO p.cO],.agg #[.int .i64 kk,.int .i64 d,.int .i64 a,.int .i64 b,.int .i64 imm,.int .i64 h]] w0 fun e w'=>Did base w0 (doM kk d a b h imm M) e w'/\∀k,k<w0.heap.size->Off p M.nH M.nO k->w'.heap[k]?=w0.heap[k]?):=by
  rcases hop with rfl|rfl|rfl|rfl|rfl|rfl|rfl|rfl
  ·exact mem_n_ld HMW.out HK.out 21 d a b h imm hd ha hb hn (by decide)
  ·exact mem_n_ld HMW.out HK.out 22 d a b h imm hd ha hb hn (by decide)
  ·exact mem_n_st HMW.out HK.out 23 d a b h imm hd ha hb hn (by decide)
  ·exact mem_n_st HMW.out HK.out 24 d a b h imm hd ha hb hn (by decide)
  ·exact mem_x_ld HMW.out HK.out 25 d a b h imm hd ha hb hn (by decide)
  ·exact mem_x_ld HMW.out HK.out 26 d a b h imm hd ha hb hn (by decide)
  ·exact mem_x_st HMW.out HK.out 27 d a b h imm hd ha hb hn (by decide)
  ·exact mem_x_st HMW.out HK.out 28 d a b h imm hd ha hb hn (by decide)
 rcases hop with rfl|rfl|rfl|rfl|rfl|rfl|rfl|rfl;all_goals
  go_wp2_with fail;refine HMEM.out.mono ?_;rintro e w1⟨⟨p',rfl,b1,mm⟩,k1⟩;have HK1:Hid (∀k,k<w0.heap.size->Off p M.nH M.nO k->w1.heap[k]?=w0.heap[k]?):=k1;have hz:w1.heap[w.heap.size+1+1]?=w0.heap[w.heap.size+1+1]?:=k1 _ y2 (off_old H0.out (by omega));generalize hMQ:doM _ d a b h imm M=M' at mm⊢;have HMQ:Hid _:=hMQ;clear hMQ;have Z1:=row_same HXZ.out hz;obtain⟨t0,t1,t2,t3,t4,t5,t6,t7,t8⟩:=cells9 Z1;have tf:∀i,w1.frozen? ⟨w.heap.size+1+1,i,none⟩=false:=fun i=>Z1.frozenAt i
  have v2:w.heap.size+1+1<w1.heap.size:=Nat.lt_of_lt_of_le y2 b1.size;have HZ1:Hid (w1.ownsRow w.heap.size 28 9 (.slice (some ⟨w.heap.size+1+1,0,none⟩) 1 1) 1 [.slice none 0 0,.bool false,.bool false,.bool false,.bool false,.slice none 0 0,.int .i64 0,.int .i64 0,.slice none 0 0]):=Z1;have HM1:Hid (Mem w1 base p' M'):=mm;have HB1:Hid (Below base w w1):=(HB0.out.mono (Nat.le_of_lt (Nat.lt_of_le_of_lt H0.out.ltR.1 H0.out.ltR.2))).trans b1;clear m0 m1 m2 m3 m4 m5 m6 m7 m8 i0 i1 i2 i3 i4 i5 s0 s1 s2 s3 s4 s5 s6 s7 s8 mf sf rd0 fd0 ra0 rb0 hz k1 b1 mm Z1 HMW HXZ;simp only[mVal];go_wp2;refine bodyPost_ret (v:=.agg #[.slice (some ⟨p'.bR,0,none⟩) 8 p'.cR,.bool M'.z,.bool M'.c,.bool M'.hz,.bool M'.hc,.slice p'.aH M'.nH p'.cH,.int .i64 M'.pc,.int .i64 M'.st,.slice p'.aO M'.nO p'.cO]) (by simp[results,Tryz.results74,go_sem,t0,t1,t2,t3,t4,t5,t6,t7,t8]) rfl ?_;rw[HMQ.out];refine⟨⟨p',rfl,?_,?_⟩,?_⟩
  ·iterate 9 refine Below.setCell ?_ (by simp;have:=H0.out.ltR;omega) _
   exact HB1.out
  ·refine Mem.other HM1.out HZ1.out ?_ (by decide) (by decide) (by decide) (by decide)
   iterate 9 refine grown_same ?_ _ _
   exact⟨rfl,rfl,rfl,Nat.le_refl _,fun _ _ _=>rfl⟩
  ·intro k cur ty fr hk n1 n2 n3 n4
   have hkl:=Kept.lt hk;iterate 9 rw[heap_setCell_other _ _ _ _ (show k≠w.heap.size+1+1 by omega)]
   exact(HK1.out k (by omega) (off_type H0.out hk n1 n2 n3 n4)).trans (HB0.out.block k hkl)
end
end Go.Proofs.YtpbceodheeepoaaGreat
