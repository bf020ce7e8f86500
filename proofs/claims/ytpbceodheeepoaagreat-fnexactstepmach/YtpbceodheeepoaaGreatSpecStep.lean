import Derived.Test.YtpbceodheeepoaaGreatOfSpecOff
import Derived.Test.YtpbceodheeepoaaGreatOfSpecI64
set_option maxHeartbeats 4000000
set_option maxRecDepth 20000
namespace Go.Proofs.YtpbceodheeepoaaGreat
open Go.RowKit
def DoAny:Prop:=∀(w:World)(base:Nat)(p:Pl)(M:MV),Mem w base p M->M.Ok->M.nO<=1048576->∀(op d a b h:Nat)(imm:Int),1<=op->op<=28->d<8->a<8->b<8->((op=12∨op=13)->0<=imm/\imm<=63)->
 Calls Tryz.prog 74 #[.agg #[.slice (some ⟨p.bR,0,none⟩) 8 p.cR,.bool M.z,.bool M.c,.bool M.hz,.bool M.hc,.slice p.aH M.nH p.cH,.int .i64 M.pc,.int .i64 M.st,.slice p.aO M.nO p.cO],.agg #[.int .i64 op,.int .i64 d,.int .i64 a,.int .i64 b,.int .i64 imm,.int .i64 h]] w (DidK base w (doM op d a b h imm M))
theorem Kept.row{w w':World}{base size n k cap:Nat}{xs:List Value}(h:Kept w w')(hr:w.ownsRow base 28 size (.slice (some ⟨k,0,none⟩) n cap) n xs):w'.ownsRow base 28 size (.slice (some ⟨k,0,none⟩) n cap) n xs:=by
 obtain⟨cur,hc⟩:=row_ty hr rfl;exact row_same hr (h k cur _ _ hc (by decide) (by decide) (by decide) (by decide))
section
variable{w:World}{base:Nat}{p:Pl}{M:MV}
theorem sstep_stay(h0:Mem w base p M)(hst:M.st≠0)(ao:Option Addr)(len cap:Nat):
 Calls Tryz.prog 34 #[.slice ao len cap,.agg #[.slice (some ⟨p.bR,0,none⟩) 8 p.cR,.bool M.z,.bool M.c,.bool M.hz,.bool M.hc,.slice p.aH M.nH p.cH,.int .i64 M.pc,.int .i64 M.st,.slice p.aO M.nO p.cO]] w (DidK base w (M)):=by
 have H0:Hid (Mem w base p M):=h0;clear h0;go_enter Tryz.func34,Tryz.ntmps34;go_upto_region 1 with fail;generalize hw0:(w.alloc (.cells #[.slice (some ⟨p.bR,0,none⟩) 8 p.cR,.bool M.z,.bool M.c,.bool M.hz,.bool M.hc,.slice p.aH M.nH p.cH,.int .i64 M.pc,.int .i64 M.st,.slice p.aO M.nO p.cO] 28)).alloc (.cells #[.slice none 0 0,.bool false,.bool false,.bool false,.bool false,.slice none 0 0,.int .i64 0,.int .i64 0,.slice none 0 0] 28)=w0;have b0:Below w.heap.size w w0:=by rw[<-hw0];exact((Below.refl _ _).alloc (Nat.le_refl _) _).alloc (by simp) _
 have z0:w0.heap.size=w.heap.size+2:=by rw[<-hw0];simp
 have XM:w0.ownsRow w.heap.size 28 9 (.slice (some ⟨w.heap.size,0,none⟩) 1 1) 1 [.slice (some ⟨p.bR,0,none⟩) 8 p.cR,.bool M.z,.bool M.c,.bool M.hz,.bool M.hc,.slice p.aH M.nH p.cH,.int .i64 M.pc,.int .i64 M.st,.slice p.aO M.nO p.cO]:=by rw[<-hw0];exact(World.ownsRow_lit w #[.slice (some ⟨p.bR,0,none⟩) 8 p.cR,.bool M.z,.bool M.c,.bool M.hz,.bool M.hc,.slice p.aH M.nH p.cH,.int .i64 M.pc,.int .i64 M.st,.slice p.aO M.nO p.cO] 1 (Nat.le_refl _) (by unfold maxLen;omega) rfl).alloc _
 have XZ:w0.ownsRow w.heap.size 28 9 (.slice (some ⟨w.heap.size+1,0,none⟩) 1 1) 1 [.slice none 0 0,.bool false,.bool false,.bool false,.bool false,.slice none 0 0,.int .i64 0,.int .i64 0,.slice none 0 0]:=by
  rw[<-hw0];have:=World.ownsRow_lit (base:=w.heap.size) (e:=28) (size:=9) (w.alloc (.cells #[.slice (some ⟨p.bR,0,none⟩) 8 p.cR,.bool M.z,.bool M.c,.bool M.hz,.bool M.hc,.slice p.aH M.nH p.cH,.int .i64 M.pc,.int .i64 M.st,.slice p.aO M.nO p.cO] 28)) #[.slice none 0 0,.bool false,.bool false,.bool false,.bool false,.slice none 0 0,.int .i64 0,.int .i64 0,.slice none 0 0] 1 (by simp) (by unfold maxLen;omega) rfl;rw[World.size_alloc]at this;exact this
 obtain⟨m0,m1,m2,m3,m4,m5,m6,m7,m8⟩:=cells9 XM;obtain⟨s0,s1,s2,s3,s4,s5,s6,s7,s8⟩:=cells9 XZ;have mf:∀i,w0.frozen? ⟨w.heap.size,i,none⟩=false:=fun i=>XM.frozenAt i
 have sf:∀i,w0.frozen? ⟨w.heap.size+1,i,none⟩=false:=fun i=>XZ.frozenAt i
 have y0:w.heap.size<w0.heap.size:=by omega
 have y1:w.heap.size+1<w0.heap.size:=by omega
 have z0':w.heap.size+2<=w0.heap.size:=by omega
 have HB0:Hid (Below w.heap.size w w0):=b0;have HXM:Hid (w0.ownsRow w.heap.size 28 9 (.slice (some ⟨w.heap.size,0,none⟩) 1 1) 1 [.slice (some ⟨p.bR,0,none⟩) 8 p.cR,.bool M.z,.bool M.c,.bool M.hz,.bool M.hc,.slice p.aH M.nH p.cH,.int .i64 M.pc,.int .i64 M.st,.slice p.aO M.nO p.cO]):=XM;have HXZ:Hid (w0.ownsRow w.heap.size 28 9 (.slice (some ⟨w.heap.size+1,0,none⟩) 1 1) 1 [.slice none 0 0,.bool false,.bool false,.bool false,.bool false,.slice none 0 0,.int .i64 0,.int .i64 0,.slice none 0 0]):=XZ;clear hw0 b0 XM XZ z0;go_wp2;refine bodyPost_ret (v:=.agg #[.slice (some ⟨p.bR,0,none⟩) 8 p.cR,.bool M.z,.bool M.c,.bool M.hz,.bool M.hc,.slice p.aH M.nH p.cH,.int .i64 M.pc,.int .i64 M.st,.slice p.aO M.nO p.cO]) (by simp[results,Tryz.results34,go_sem,s0,s1,s2,s3,s4,s5,s6,s7,s8]) rfl ?_;refine DidK.stay H0.out ?_;iterate 9 refine Below.setCell ?_ (by simp) _
 exact HB0.out
theorem sstep_out(h0:Mem w base p M)(ao:Option Addr)(len cap:Nat)(hpc:(len:Int)<=M.pc):
 Calls Tryz.prog 34 #[.slice ao len cap,.agg #[.slice (some ⟨p.bR,0,none⟩) 8 p.cR,.bool M.z,.bool M.c,.bool M.hz,.bool M.hc,.slice p.aH M.nH p.cH,.int .i64 M.pc,.int .i64 0,.slice p.aO M.nO p.cO]] w (DidK base w (M.fault)):=by
 have H0:Hid (Mem w base p M):=h0;clear h0;go_enter Tryz.func34,Tryz.ntmps34;go_upto_region 1 with fail;generalize hw0:(w.alloc (.cells #[.slice (some ⟨p.bR,0,none⟩) 8 p.cR,.bool M.z,.bool M.c,.bool M.hz,.bool M.hc,.slice p.aH M.nH p.cH,.int .i64 M.pc,.int .i64 0,.slice p.aO M.nO p.cO] 28)).alloc (.cells #[.slice none 0 0,.bool false,.bool false,.bool false,.bool false,.slice none 0 0,.int .i64 0,.int .i64 0,.slice none 0 0] 28)=w0;have b0:Below w.heap.size w w0:=by rw[<-hw0];exact((Below.refl _ _).alloc (Nat.le_refl _) _).alloc (by simp) _
 have z0:w0.heap.size=w.heap.size+2:=by rw[<-hw0];simp
 have XM:w0.ownsRow w.heap.size 28 9 (.slice (some ⟨w.heap.size,0,none⟩) 1 1) 1 [.slice (some ⟨p.bR,0,none⟩) 8 p.cR,.bool M.z,.bool M.c,.bool M.hz,.bool M.hc,.slice p.aH M.nH p.cH,.int .i64 M.pc,.int .i64 0,.slice p.aO M.nO p.cO]:=by rw[<-hw0];exact(World.ownsRow_lit w #[.slice (some ⟨p.bR,0,none⟩) 8 p.cR,.bool M.z,.bool M.c,.bool M.hz,.bool M.hc,.slice p.aH M.nH p.cH,.int .i64 M.pc,.int .i64 0,.slice p.aO M.nO p.cO] 1 (Nat.le_refl _) (by unfold maxLen;omega) rfl).alloc _
 have XZ:w0.ownsRow w.heap.size 28 9 (.slice (some ⟨w.heap.size+1,0,none⟩) 1 1) 1 [.slice none 0 0,.bool false,.bool false,.bool false,.bool false,.slice none 0 0,.int .i64 0,.int .i64 0,.slice none 0 0]:=by
  rw[<-hw0];have:=World.ownsRow_lit (base:=w.heap.size) (e:=28) (size:=9) (w.alloc (.cells #[.slice (some ⟨p.bR,0,none⟩) 8 p.cR,.bool M.z,.bool M.c,.bool M.hz,.bool M.hc,.slice p.aH M.nH p.cH,.int .i64 M.pc,.int .i64 0,.slice p.aO M.nO p.cO] 28)) #[.slice none 0 0,.bool false,.bool false,.bool false,.bool false,.slice none 0 0,.int .i64 0,.int .i64 0,.slice none 0 0] 1 (by simp) (by unfold maxLen;omega) rfl;rw[World.size_alloc]at this;exact this
 obtain⟨m0,m1,m2,m3,m4,m5,m6,m7,m8⟩:=cells9 XM;obtain⟨s0,s1,s2,s3,s4,s5,s6,s7,s8⟩:=cells9 XZ;have mf:∀i,w0.frozen? ⟨w.heap.size,i,none⟩=false:=fun i=>XM.frozenAt i
 have sf:∀i,w0.frozen? ⟨w.heap.size+1,i,none⟩=false:=fun i=>XZ.frozenAt i
 have y0:w.heap.size<w0.heap.size:=by omega
 have y1:w.heap.size+1<w0.heap.size:=by omega
 have z0':w.heap.size+2<=w0.heap.size:=by omega
 have HB0:Hid (Below w.heap.size w w0):=b0;have HXM:Hid (w0.ownsRow w.heap.size 28 9 (.slice (some ⟨w.heap.size,0,none⟩) 1 1) 1 [.slice (some ⟨p.bR,0,none⟩) 8 p.cR,.bool M.z,.bool M.c,.bool M.hz,.bool M.hc,.slice p.aH M.nH p.cH,.int .i64 M.pc,.int .i64 0,.slice p.aO M.nO p.cO]):=XM;have HXZ:Hid (w0.ownsRow w.heap.size 28 9 (.slice (some ⟨w.heap.size+1,0,none⟩) 1 1) 1 [.slice none 0 0,.bool false,.bool false,.bool false,.bool false,.slice none 0 0,.int .i64 0,.int .i64 0,.slice none 0 0]):=XZ;clear hw0 b0 XM XZ z0;go_wp2_with fail;refine(l1Fault_any _ _ _ _ _ _ _ _ _ _ _ _ _ _ _ _).mono ?_;rintro e w1⟨rfl,b1⟩;have Z1:=row_below HXZ.out b1;obtain⟨t0,t1,t2,t3,t4,t5,t6,t7,t8⟩:=cells9 Z1;have tf:∀i,w1.frozen? ⟨w.heap.size+1,i,none⟩=false:=fun i=>Z1.frozenAt i
 have HB1:Hid (Below w.heap.size w w1):=HB0.out.trans (b1.mono (by omega));have v1:w.heap.size+1<w1.heap.size:=Nat.lt_of_lt_of_le (by omega) b1.size;clear b1 Z1 m0 m1 m2 m3 m4 m5 m6 m7 m8 s0 s1 s2 s3 s4 s5 s6 s7 s8 mf sf;go_wp2;refine bodyPost_ret (v:=.agg #[.slice (some ⟨p.bR,0,none⟩) 8 p.cR,.bool M.z,.bool M.c,.bool M.hz,.bool M.hc,.slice p.aH M.nH p.cH,.int .i64 M.pc,.int .i64 2,.slice p.aO M.nO p.cO]) (by simp[results,Tryz.results34,go_sem,t0,t1,t2,t3,t4,t5,t6,t7,t8]) rfl ?_;refine DidK.fault H0.out ?_;iterate 9 refine Below.setCell ?_ (by simp) _
 exact HB1.out
theorem sstep_34(h0:Mem w base p M)(b off len cap q:Nat)(F:Nat->Nat->Int)(hq:M.pc=q)(_:M.st=0)(hql:q<len)(_:len<=2000)(hat:At w b off (len*6) (insF F))(d a b' h:Nat)(imm:Int)
 (f0:F q 0=34)(f1:F q 1=d)(f2:F q 2=a)(f3:F q 3=b')(f4:F q 4=imm)(f5:F q 5=h):
 Calls Tryz.prog 34 #[.slice (some ⟨b,off,none⟩) len cap,.agg #[.slice (some ⟨p.bR,0,none⟩) 8 p.cR,.bool M.z,.bool M.c,.bool M.hz,.bool M.hc,.slice p.aH M.nH p.cH,.int .i64 q,.int .i64 0,.slice p.aO M.nO p.cO]] w (DidK base w (afterS (exec 34 d a b' h imm M (M.pc+1)))):=by
 have H0:Hid (Mem w base p M):=h0;have hb:=hat.lt;have hq':(q:Int)<len:=by omega
 have g0:=((hat.cell (i:=q*6+0) (by omega)).trans (congrArg some (insF_at F q 0 (by omega))))
 rw[Nat.add_zero,f0]at g0;have g1:=((hat.cell (i:=q*6+1) (by omega)).trans (congrArg some (insF_at F q 1 (by omega))))
 rw[<-Nat.add_assoc,f1]at g1;have g2:=((hat.cell (i:=q*6+2) (by omega)).trans (congrArg some (insF_at F q 2 (by omega))))
 rw[<-Nat.add_assoc,f2]at g2;have g3:=((hat.cell (i:=q*6+3) (by omega)).trans (congrArg some (insF_at F q 3 (by omega))))
 rw[<-Nat.add_assoc,f3]at g3;have g4:=((hat.cell (i:=q*6+4) (by omega)).trans (congrArg some (insF_at F q 4 (by omega))))
 rw[<-Nat.add_assoc,f4]at g4;have g5:=((hat.cell (i:=q*6+5) (by omega)).trans (congrArg some (insF_at F q 5 (by omega))))
 rw[<-Nat.add_assoc,f5]at g5;clear hat f0 f1 f2 f3 f4 f5;clear h0;go_enter Tryz.func34,Tryz.ntmps34;go_upto_region 1 with fail;generalize hw0:(w.alloc (.cells #[.slice (some ⟨p.bR,0,none⟩) 8 p.cR,.bool M.z,.bool M.c,.bool M.hz,.bool M.hc,.slice p.aH M.nH p.cH,.int .i64 q,.int .i64 0,.slice p.aO M.nO p.cO] 28)).alloc (.cells #[.slice none 0 0,.bool false,.bool false,.bool false,.bool false,.slice none 0 0,.int .i64 0,.int .i64 0,.slice none 0 0] 28)=w0;have b0:Below w.heap.size w w0:=by rw[<-hw0];exact((Below.refl _ _).alloc (Nat.le_refl _) _).alloc (by simp) _
 have z0:w0.heap.size=w.heap.size+2:=by rw[<-hw0];simp
 have XM:w0.ownsRow w.heap.size 28 9 (.slice (some ⟨w.heap.size,0,none⟩) 1 1) 1 [.slice (some ⟨p.bR,0,none⟩) 8 p.cR,.bool M.z,.bool M.c,.bool M.hz,.bool M.hc,.slice p.aH M.nH p.cH,.int .i64 q,.int .i64 0,.slice p.aO M.nO p.cO]:=by rw[<-hw0];exact(World.ownsRow_lit w #[.slice (some ⟨p.bR,0,none⟩) 8 p.cR,.bool M.z,.bool M.c,.bool M.hz,.bool M.hc,.slice p.aH M.nH p.cH,.int .i64 q,.int .i64 0,.slice p.aO M.nO p.cO] 1 (Nat.le_refl _) (by unfold maxLen;omega) rfl).alloc _
 have XZ:w0.ownsRow w.heap.size 28 9 (.slice (some ⟨w.heap.size+1,0,none⟩) 1 1) 1 [.slice none 0 0,.bool false,.bool false,.bool false,.bool false,.slice none 0 0,.int .i64 0,.int .i64 0,.slice none 0 0]:=by
  rw[<-hw0];have:=World.ownsRow_lit (base:=w.heap.size) (e:=28) (size:=9) (w.alloc (.cells #[.slice (some ⟨p.bR,0,none⟩) 8 p.cR,.bool M.z,.bool M.c,.bool M.hz,.bool M.hc,.slice p.aH M.nH p.cH,.int .i64 q,.int .i64 0,.slice p.aO M.nO p.cO] 28)) #[.slice none 0 0,.bool false,.bool false,.bool false,.bool false,.slice none 0 0,.int .i64 0,.int .i64 0,.slice none 0 0] 1 (by simp) (by unfold maxLen;omega) rfl;rw[World.size_alloc]at this;exact this
 obtain⟨m0,m1,m2,m3,m4,m5,m6,m7,m8⟩:=cells9 XM;obtain⟨s0,s1,s2,s3,s4,s5,s6,s7,s8⟩:=cells9 XZ;have mf:∀i,w0.frozen? ⟨w.heap.size,i,none⟩=false:=fun i=>XM.frozenAt i
 have sf:∀i,w0.frozen? ⟨w.heap.size+1,i,none⟩=false:=fun i=>XZ.frozenAt i
 have y0:w.heap.size<w0.heap.size:=by omega
 have y1:w.heap.size+1<w0.heap.size:=by omega
 have z0':w.heap.size+2<=w0.heap.size:=by omega
 have HB0:Hid (Below w.heap.size w w0):=b0;have HXM:Hid (w0.ownsRow w.heap.size 28 9 (.slice (some ⟨w.heap.size,0,none⟩) 1 1) 1 [.slice (some ⟨p.bR,0,none⟩) 8 p.cR,.bool M.z,.bool M.c,.bool M.hz,.bool M.hc,.slice p.aH M.nH p.cH,.int .i64 q,.int .i64 0,.slice p.aO M.nO p.cO]):=XM;have HXZ:Hid (w0.ownsRow w.heap.size 28 9 (.slice (some ⟨w.heap.size+1,0,none⟩) 1 1) 1 [.slice none 0 0,.bool false,.bool false,.bool false,.bool false,.slice none 0 0,.int .i64 0,.int .i64 0,.slice none 0 0]):=XZ;have k0:=(b0.cell (p:=⟨b,off+q*6,none⟩) hb).trans g0;have k1:=(b0.cell (p:=⟨b,off+q*6+1,none⟩) hb).trans g1;have k2:=(b0.cell (p:=⟨b,off+q*6+2,none⟩) hb).trans g2
 have k3:=(b0.cell (p:=⟨b,off+q*6+3,none⟩) hb).trans g3
 have k4:=(b0.cell (p:=⟨b,off+q*6+4,none⟩) hb).trans g4
 have k5:=(b0.cell (p:=⟨b,off+q*6+5,none⟩) hb).trans g5
 have hb0:b<w0.heap.size:=by omega
 clear g0 g1 g2 g3 g4 g5
 clear hw0 b0 XM XZ z0
 go_upto_region 6 with fail
 generalize hwx:w0.alloc (.cells #[.int .i64 34,.int .i64 d,.int .i64 a,.int .i64 b',.int .i64 imm,.int .i64 h] 73)=wx
 have bx:Below w0.heap.size w0 wx:=by rw[<-hwx];exact(Below.refl _ _).alloc (Nat.le_refl _) _
 have XI:wx.ownsRow w0.heap.size 73 6 (.slice (some ⟨w0.heap.size,0,none⟩) 1 1) 1 [.int .i64 34,.int .i64 d,.int .i64 a,.int .i64 b',.int .i64 imm,.int .i64 h]:=by rw[<-hwx];exact World.ownsRow_lit w0 #[.int .i64 34,.int .i64 d,.int .i64 a,.int .i64 b',.int .i64 imm,.int .i64 h] 1 (Nat.le_refl _) (by unfold maxLen;omega) rfl
 have yx:w0.heap.size<wx.heap.size:=by rw[<-hwx];simp
 have y0:w.heap.size<wx.heap.size:=by omega
 have y1:w.heap.size+1<wx.heap.size:=by omega
 have MX:=row_below HXM.out bx
 have ZX:=row_below HXZ.out bx
 have HBX:Hid (Below w.heap.size w wx):=HB0.out.trans (bx.mono (by omega))
 clear hwx m0 m1 m2 m3 m4 m5 m6 m7 m8 s0 s1 s2 s3 s4 s5 s6 s7 s8 mf sf k0 k1 k2 k3 k4 k5
 obtain⟨m0,m1,m2,m3,m4,m5,m6,m7,m8⟩:=cells9 MX
 obtain⟨s0,s1,s2,s3,s4,s5,s6,s7,s8⟩:=cells9 ZX
 obtain⟨i0,i1,i2,i3,i4,i5⟩:=cells6 XI
 have mf:∀i,wx.frozen? ⟨w.heap.size,i,none⟩=false:=fun i=>MX.frozenAt i
 have sf:∀i,wx.frozen? ⟨w.heap.size+1,i,none⟩=false:=fun i=>ZX.frozenAt i
 have HXX:Hid (wx.ownsRow w.heap.size 28 9 (.slice (some ⟨w.heap.size,0,none⟩) 1 1) 1 [.slice (some ⟨p.bR,0,none⟩) 8 p.cR,.bool M.z,.bool M.c,.bool M.hz,.bool M.hc,.slice p.aH M.nH p.cH,.int .i64 q,.int .i64 0,.slice p.aO M.nO p.cO]):=MX
 have HZX:Hid (wx.ownsRow w.heap.size 28 9 (.slice (some ⟨w.heap.size+1,0,none⟩) 1 1) 1 [.slice none 0 0,.bool false,.bool false,.bool false,.bool false,.slice none 0 0,.int .i64 0,.int .i64 0,.slice none 0 0]):=ZX
 clear MX ZX XI bx
 go_wp2
 refine bodyPost_ret (v:=.agg #[.slice (some ⟨p.bR,0,none⟩) 8 p.cR,.bool M.z,.bool M.c,.bool M.hz,.bool M.hc,.slice p.aH M.nH p.cH,.int .i64 q,.int .i64 1,.slice p.aO M.nO p.cO]) (by simp[results,Tryz.results34,go_sem,s0,s1,s2,s3,s4,s5,s6,s7,s8]) rfl ?_
 have hE:afterS (exec 34 d a b' h imm M (M.pc+1))=M.but M.z M.c M.hz M.hc q 1:=by
  show M.but M.z M.c M.hz M.hc M.pc 1=_
  rw[hq]
 rw[hE]
 refine DidK.but H0.out M.z M.c M.hz M.hc q 1 ?_
 iterate 9 refine Below.setCell ?_ (by simp) _
 try refine Below.setCell ?_ (by simp) _
 exact HBX.out
theorem sstep_29(h0:Mem w base p M)(b off len cap q:Nat)(F:Nat->Nat->Int)(hq:M.pc=q)(hst:M.st=0)(hql:q<len)(_:len<=2000)(hat:At w b off (len*6) (insF F))(d a b' h:Nat)(imm:Int)
 (f0:F q 0=29)(f1:F q 1=d)(f2:F q 2=a)(f3:F q 3=b')(f4:F q 4=imm)(f5:F q 5=h):
 Calls Tryz.prog 34 #[.slice (some ⟨b,off,none⟩) len cap,.agg #[.slice (some ⟨p.bR,0,none⟩) 8 p.cR,.bool M.z,.bool M.c,.bool M.hz,.bool M.hc,.slice p.aH M.nH p.cH,.int .i64 q,.int .i64 0,.slice p.aO M.nO p.cO]] w (DidK base w (afterS (exec 29 d a b' h imm M (M.pc+1)))):=by
 have H0:Hid (Mem w base p M):=h0;have hb:=hat.lt;have hq':(q:Int)<len:=by omega
 have g0:=((hat.cell (i:=q*6+0) (by omega)).trans (congrArg some (insF_at F q 0 (by omega))))
 rw[Nat.add_zero,f0]at g0;have g1:=((hat.cell (i:=q*6+1) (by omega)).trans (congrArg some (insF_at F q 1 (by omega))))
 rw[<-Nat.add_assoc,f1]at g1;have g2:=((hat.cell (i:=q*6+2) (by omega)).trans (congrArg some (insF_at F q 2 (by omega))))
 rw[<-Nat.add_assoc,f2]at g2;have g3:=((hat.cell (i:=q*6+3) (by omega)).trans (congrArg some (insF_at F q 3 (by omega))))
 rw[<-Nat.add_assoc,f3]at g3;have g4:=((hat.cell (i:=q*6+4) (by omega)).trans (congrArg some (insF_at F q 4 (by omega))))
 rw[<-Nat.add_assoc,f4]at g4;have g5:=((hat.cell (i:=q*6+5) (by omega)).trans (congrArg some (insF_at F q 5 (by omega))))
 rw[<-Nat.add_assoc,f5]at g5;clear hat f0 f1 f2 f3 f4 f5;clear h0;go_enter Tryz.func34,Tryz.ntmps34;go_upto_region 1 with fail;generalize hw0:(w.alloc (.cells #[.slice (some ⟨p.bR,0,none⟩) 8 p.cR,.bool M.z,.bool M.c,.bool M.hz,.bool M.hc,.slice p.aH M.nH p.cH,.int .i64 q,.int .i64 0,.slice p.aO M.nO p.cO] 28)).alloc (.cells #[.slice none 0 0,.bool false,.bool false,.bool false,.bool false,.slice none 0 0,.int .i64 0,.int .i64 0,.slice none 0 0] 28)=w0;have b0:Below w.heap.size w w0:=by rw[<-hw0];exact((Below.refl _ _).alloc (Nat.le_refl _) _).alloc (by simp) _
 have z0:w0.heap.size=w.heap.size+2:=by rw[<-hw0];simp
 have XM:w0.ownsRow w.heap.size 28 9 (.slice (some ⟨w.heap.size,0,none⟩) 1 1) 1 [.slice (some ⟨p.bR,0,none⟩) 8 p.cR,.bool M.z,.bool M.c,.bool M.hz,.bool M.hc,.slice p.aH M.nH p.cH,.int .i64 q,.int .i64 0,.slice p.aO M.nO p.cO]:=by rw[<-hw0];exact(World.ownsRow_lit w #[.slice (some ⟨p.bR,0,none⟩) 8 p.cR,.bool M.z,.bool M.c,.bool M.hz,.bool M.hc,.slice p.aH M.nH p.cH,.int .i64 q,.int .i64 0,.slice p.aO M.nO p.cO] 1 (Nat.le_refl _) (by unfold maxLen;omega) rfl).alloc _
 have XZ:w0.ownsRow w.heap.size 28 9 (.slice (some ⟨w.heap.size+1,0,none⟩) 1 1) 1 [.slice none 0 0,.bool false,.bool false,.bool false,.bool false,.slice none 0 0,.int .i64 0,.int .i64 0,.slice none 0 0]:=by
  rw[<-hw0];have:=World.ownsRow_lit (base:=w.heap.size) (e:=28) (size:=9) (w.alloc (.cells #[.slice (some ⟨p.bR,0,none⟩) 8 p.cR,.bool M.z,.bool M.c,.bool M.hz,.bool M.hc,.slice p.aH M.nH p.cH,.int .i64 q,.int .i64 0,.slice p.aO M.nO p.cO] 28)) #[.slice none 0 0,.bool false,.bool false,.bool false,.bool false,.slice none 0 0,.int .i64 0,.int .i64 0,.slice none 0 0] 1 (by simp) (by unfold maxLen;omega) rfl;rw[World.size_alloc]at this;exact this
 obtain⟨m0,m1,m2,m3,m4,m5,m6,m7,m8⟩:=cells9 XM;obtain⟨s0,s1,s2,s3,s4,s5,s6,s7,s8⟩:=cells9 XZ;have mf:∀i,w0.frozen? ⟨w.heap.size,i,none⟩=false:=fun i=>XM.frozenAt i
 have sf:∀i,w0.frozen? ⟨w.heap.size+1,i,none⟩=false:=fun i=>XZ.frozenAt i
 have y0:w.heap.size<w0.heap.size:=by omega
 have y1:w.heap.size+1<w0.heap.size:=by omega
 have z0':w.heap.size+2<=w0.heap.size:=by omega
 have HB0:Hid (Below w.heap.size w w0):=b0;have HXM:Hid (w0.ownsRow w.heap.size 28 9 (.slice (some ⟨w.heap.size,0,none⟩) 1 1) 1 [.slice (some ⟨p.bR,0,none⟩) 8 p.cR,.bool M.z,.bool M.c,.bool M.hz,.bool M.hc,.slice p.aH M.nH p.cH,.int .i64 q,.int .i64 0,.slice p.aO M.nO p.cO]):=XM;have HXZ:Hid (w0.ownsRow w.heap.size 28 9 (.slice (some ⟨w.heap.size+1,0,none⟩) 1 1) 1 [.slice none 0 0,.bool false,.bool false,.bool false,.bool false,.slice none 0 0,.int .i64 0,.int .i64 0,.slice none 0 0]):=XZ;have k0:=(b0.cell (p:=⟨b,off+q*6,none⟩) hb).trans g0;have k1:=(b0.cell (p:=⟨b,off+q*6+1,none⟩) hb).trans g1;have k2:=(b0.cell (p:=⟨b,off+q*6+2,none⟩) hb).trans g2
 have k3:=(b0.cell (p:=⟨b,off+q*6+3,none⟩) hb).trans g3
 have k4:=(b0.cell (p:=⟨b,off+q*6+4,none⟩) hb).trans g4
 have k5:=(b0.cell (p:=⟨b,off+q*6+5,none⟩) hb).trans g5
 have hb0:b<w0.heap.size:=by omega
 clear g0 g1 g2 g3 g4 g5
 clear hw0 b0 XM XZ z0
 go_upto_region 6 with fail
 generalize hwx:w0.alloc (.cells #[.int .i64 29,.int .i64 d,.int .i64 a,.int .i64 b',.int .i64 imm,.int .i64 h] 73)=wx
 have bx:Below w0.heap.size w0 wx:=by rw[<-hwx];exact(Below.refl _ _).alloc (Nat.le_refl _) _
 have XI:wx.ownsRow w0.heap.size 73 6 (.slice (some ⟨w0.heap.size,0,none⟩) 1 1) 1 [.int .i64 29,.int .i64 d,.int .i64 a,.int .i64 b',.int .i64 imm,.int .i64 h]:=by rw[<-hwx];exact World.ownsRow_lit w0 #[.int .i64 29,.int .i64 d,.int .i64 a,.int .i64 b',.int .i64 imm,.int .i64 h] 1 (Nat.le_refl _) (by unfold maxLen;omega) rfl
 have yx:w0.heap.size<wx.heap.size:=by rw[<-hwx];simp
 have y0:w.heap.size<wx.heap.size:=by omega
 have y1:w.heap.size+1<wx.heap.size:=by omega
 have MX:=row_below HXM.out bx
 have ZX:=row_below HXZ.out bx
 have HBX:Hid (Below w.heap.size w wx):=HB0.out.trans (bx.mono (by omega))
 clear hwx m0 m1 m2 m3 m4 m5 m6 m7 m8 s0 s1 s2 s3 s4 s5 s6 s7 s8 mf sf k0 k1 k2 k3 k4 k5
 obtain⟨m0,m1,m2,m3,m4,m5,m6,m7,m8⟩:=cells9 MX
 obtain⟨s0,s1,s2,s3,s4,s5,s6,s7,s8⟩:=cells9 ZX
 obtain⟨i0,i1,i2,i3,i4,i5⟩:=cells6 XI
 have mf:∀i,wx.frozen? ⟨w.heap.size,i,none⟩=false:=fun i=>MX.frozenAt i
 have sf:∀i,wx.frozen? ⟨w.heap.size+1,i,none⟩=false:=fun i=>ZX.frozenAt i
 have HXX:Hid (wx.ownsRow w.heap.size 28 9 (.slice (some ⟨w.heap.size,0,none⟩) 1 1) 1 [.slice (some ⟨p.bR,0,none⟩) 8 p.cR,.bool M.z,.bool M.c,.bool M.hz,.bool M.hc,.slice p.aH M.nH p.cH,.int .i64 q,.int .i64 0,.slice p.aO M.nO p.cO]):=MX
 have HZX:Hid (wx.ownsRow w.heap.size 28 9 (.slice (some ⟨w.heap.size+1,0,none⟩) 1 1) 1 [.slice none 0 0,.bool false,.bool false,.bool false,.bool false,.slice none 0 0,.int .i64 0,.int .i64 0,.slice none 0 0]):=ZX
 clear MX ZX XI bx
 go_wp2
 refine bodyPost_ret (v:=.agg #[.slice (some ⟨p.bR,0,none⟩) 8 p.cR,.bool M.z,.bool M.c,.bool M.hz,.bool M.hc,.slice p.aH M.nH p.cH,.int .i64 imm,.int .i64 0,.slice p.aO M.nO p.cO]) (by simp[results,Tryz.results34,go_sem,s0,s1,s2,s3,s4,s5,s6,s7,s8]) rfl ?_
 have hE:afterS (exec 29 d a b' h imm M (M.pc+1))=M.but M.z M.c M.hz M.hc imm 0:=by
  show M.but M.z M.c M.hz M.hc imm M.st=_
  rw[hst]
 rw[hE]
 refine DidK.but H0.out M.z M.c M.hz M.hc imm 0 ?_
 iterate 9 refine Below.setCell ?_ (by simp) _
 try refine Below.setCell ?_ (by simp) _
 exact HBX.out
theorem sstep_jz(h0:Mem w base p M)(zz cc hzz hcc want:Bool)(ez:M.z=zz)(ec:M.c=cc)(ehz:M.hz=hzz)(ehc:M.hc=hcc)(hn:M.nO<=1048576)(b off len cap q:Nat)(F:Nat->Nat->Int)(hq:M.pc=q)(hst:M.st=0)(hql:q<len)(hl:len<=2000)(hat:At w b off (len*6) (insF F))(op d a b' h:Nat)(imm:Int)
 (f0:F q 0=op)(f1:F q 1=d)(f2:F q 2=a)(f3:F q 3=b')(f4:F q 4=imm)(f5:F q 5=h)(hop:(op=30/\want=true)∨(op=31/\want=false)):
 Calls Tryz.prog 34 #[.slice (some ⟨b,off,none⟩) len cap,.agg #[.slice (some ⟨p.bR,0,none⟩) 8 p.cR,.bool zz,.bool cc,.bool hzz,.bool hcc,.slice p.aH M.nH p.cH,.int .i64 q,.int .i64 0,.slice p.aO M.nO p.cO]] w (DidK base w (afterS (exec op d a b' h imm M (M.pc+1)))):=by
 have H0:Hid (Mem w base p M):=h0;have hb:=hat.lt;have hq':(q:Int)<len:=by omega
 have g0:=((hat.cell (i:=q*6+0) (by omega)).trans (congrArg some (insF_at F q 0 (by omega))))
 rw[Nat.add_zero,f0]at g0;have g1:=((hat.cell (i:=q*6+1) (by omega)).trans (congrArg some (insF_at F q 1 (by omega))))
 rw[<-Nat.add_assoc,f1]at g1;have g2:=((hat.cell (i:=q*6+2) (by omega)).trans (congrArg some (insF_at F q 2 (by omega))))
 rw[<-Nat.add_assoc,f2]at g2;have g3:=((hat.cell (i:=q*6+3) (by omega)).trans (congrArg some (insF_at F q 3 (by omega))))
 rw[<-Nat.add_assoc,f3]at g3;have g4:=((hat.cell (i:=q*6+4) (by omega)).trans (congrArg some (insF_at F q 4 (by omega))))
 rw[<-Nat.add_assoc,f4]at g4;have g5:=((hat.cell (i:=q*6+5) (by omega)).trans (congrArg some (insF_at F q 5 (by omega))))
 rw[<-Nat.add_assoc,f5]at g5;clear hat f0 f1 f2 f3 f4 f5;clear h0;go_enter Tryz.func34,Tryz.ntmps34;go_upto_region 1 with fail;generalize hw0:(w.alloc (.cells #[.slice (some ⟨p.bR,0,none⟩) 8 p.cR,.bool zz,.bool cc,.bool hzz,.bool hcc,.slice p.aH M.nH p.cH,.int .i64 q,.int .i64 0,.slice p.aO M.nO p.cO] 28)).alloc (.cells #[.slice none 0 0,.bool false,.bool false,.bool false,.bool false,.slice none 0 0,.int .i64 0,.int .i64 0,.slice none 0 0] 28)=w0;have b0:Below w.heap.size w w0:=by rw[<-hw0];exact((Below.refl _ _).alloc (Nat.le_refl _) _).alloc (by simp) _
 have z0:w0.heap.size=w.heap.size+2:=by rw[<-hw0];simp
 have XM:w0.ownsRow w.heap.size 28 9 (.slice (some ⟨w.heap.size,0,none⟩) 1 1) 1 [.slice (some ⟨p.bR,0,none⟩) 8 p.cR,.bool zz,.bool cc,.bool hzz,.bool hcc,.slice p.aH M.nH p.cH,.int .i64 q,.int .i64 0,.slice p.aO M.nO p.cO]:=by rw[<-hw0];exact(World.ownsRow_lit w #[.slice (some ⟨p.bR,0,none⟩) 8 p.cR,.bool zz,.bool cc,.bool hzz,.bool hcc,.slice p.aH M.nH p.cH,.int .i64 q,.int .i64 0,.slice p.aO M.nO p.cO] 1 (Nat.le_refl _) (by unfold maxLen;omega) rfl).alloc _
 have XZ:w0.ownsRow w.heap.size 28 9 (.slice (some ⟨w.heap.size+1,0,none⟩) 1 1) 1 [.slice none 0 0,.bool false,.bool false,.bool false,.bool false,.slice none 0 0,.int .i64 0,.int .i64 0,.slice none 0 0]:=by
  rw[<-hw0];have:=World.ownsRow_lit (base:=w.heap.size) (e:=28) (size:=9) (w.alloc (.cells #[.slice (some ⟨p.bR,0,none⟩) 8 p.cR,.bool zz,.bool cc,.bool hzz,.bool hcc,.slice p.aH M.nH p.cH,.int .i64 q,.int .i64 0,.slice p.aO M.nO p.cO] 28)) #[.slice none 0 0,.bool false,.bool false,.bool false,.bool false,.slice none 0 0,.int .i64 0,.int .i64 0,.slice none 0 0] 1 (by simp) (by unfold maxLen;omega) rfl;rw[World.size_alloc]at this;exact this
 obtain⟨m0,m1,m2,m3,m4,m5,m6,m7,m8⟩:=cells9 XM;obtain⟨s0,s1,s2,s3,s4,s5,s6,s7,s8⟩:=cells9 XZ;have mf:∀i,w0.frozen? ⟨w.heap.size,i,none⟩=false:=fun i=>XM.frozenAt i
 have sf:∀i,w0.frozen? ⟨w.heap.size+1,i,none⟩=false:=fun i=>XZ.frozenAt i
 have y0:w.heap.size<w0.heap.size:=by omega
 have y1:w.heap.size+1<w0.heap.size:=by omega
 have z0':w.heap.size+2<=w0.heap.size:=by omega
 have HB0:Hid (Below w.heap.size w w0):=b0;have HXM:Hid (w0.ownsRow w.heap.size 28 9 (.slice (some ⟨w.heap.size,0,none⟩) 1 1) 1 [.slice (some ⟨p.bR,0,none⟩) 8 p.cR,.bool zz,.bool cc,.bool hzz,.bool hcc,.slice p.aH M.nH p.cH,.int .i64 q,.int .i64 0,.slice p.aO M.nO p.cO]):=XM;have HXZ:Hid (w0.ownsRow w.heap.size 28 9 (.slice (some ⟨w.heap.size+1,0,none⟩) 1 1) 1 [.slice none 0 0,.bool false,.bool false,.bool false,.bool false,.slice none 0 0,.int .i64 0,.int .i64 0,.slice none 0 0]):=XZ;have k0:=(b0.cell (p:=⟨b,off+q*6,none⟩) hb).trans g0;have k1:=(b0.cell (p:=⟨b,off+q*6+1,none⟩) hb).trans g1;have k2:=(b0.cell (p:=⟨b,off+q*6+2,none⟩) hb).trans g2;have k3:=(b0.cell (p:=⟨b,off+q*6+3,none⟩) hb).trans g3;have k4:=(b0.cell (p:=⟨b,off+q*6+4,none⟩) hb).trans g4;have k5:=(b0.cell (p:=⟨b,off+q*6+5,none⟩) hb).trans g5;have hb0:b<w0.heap.size:=by omega
 clear g0 g1 g2 g3 g4 g5;clear hw0 b0 XM XZ z0;go_upto_region 6 with fail;generalize hwx:w0.alloc (.cells #[.int .i64 op,.int .i64 d,.int .i64 a,.int .i64 b',.int .i64 imm,.int .i64 h] 73)=wx;have bx:Below w0.heap.size w0 wx:=by rw[<-hwx];exact(Below.refl _ _).alloc (Nat.le_refl _) _
 have XI:wx.ownsRow w0.heap.size 73 6 (.slice (some ⟨w0.heap.size,0,none⟩) 1 1) 1 [.int .i64 op,.int .i64 d,.int .i64 a,.int .i64 b',.int .i64 imm,.int .i64 h]:=by rw[<-hwx];exact World.ownsRow_lit w0 #[.int .i64 op,.int .i64 d,.int .i64 a,.int .i64 b',.int .i64 imm,.int .i64 h] 1 (Nat.le_refl _) (by unfold maxLen;omega) rfl
 have yx:w0.heap.size<wx.heap.size:=by rw[<-hwx];simp
 have y0:w.heap.size<wx.heap.size:=by omega
 have y1:w.heap.size+1<wx.heap.size:=by omega
 have MX:=row_below HXM.out bx;have ZX:=row_below HXZ.out bx;have HBX:Hid (Below w.heap.size w wx):=HB0.out.trans (bx.mono (by omega));clear hwx m0 m1 m2 m3 m4 m5 m6 m7 m8 s0 s1 s2 s3 s4 s5 s6 s7 s8 mf sf k0 k1 k2 k3 k4 k5;obtain⟨m0,m1,m2,m3,m4,m5,m6,m7,m8⟩:=cells9 MX;obtain⟨s0,s1,s2,s3,s4,s5,s6,s7,s8⟩:=cells9 ZX;obtain⟨i0,i1,i2,i3,i4,i5⟩:=cells6 XI;have mf:∀i,wx.frozen? ⟨w.heap.size,i,none⟩=false:=fun i=>MX.frozenAt i
 have sf:∀i,wx.frozen? ⟨w.heap.size+1,i,none⟩=false:=fun i=>ZX.frozenAt i
 have HXX:Hid (wx.ownsRow w.heap.size 28 9 (.slice (some ⟨w.heap.size,0,none⟩) 1 1) 1 [.slice (some ⟨p.bR,0,none⟩) 8 p.cR,.bool zz,.bool cc,.bool hzz,.bool hcc,.slice p.aH M.nH p.cH,.int .i64 q,.int .i64 0,.slice p.aO M.nO p.cO]):=MX;have HZX:Hid (wx.ownsRow w.heap.size 28 9 (.slice (some ⟨w.heap.size+1,0,none⟩) 1 1) 1 [.slice none 0 0,.bool false,.bool false,.bool false,.bool false,.slice none 0 0,.int .i64 0,.int .i64 0,.slice none 0 0]):=ZX;clear MX ZX XI bx;have hj:jumpB (op:Int)=true:=by rcases hop with⟨rfl,rfl⟩|⟨rfl,rfl⟩<;>decide
 have HX:Hid (exec op d a b' h imm M (M.pc+1)=jumpOp M.hz M.z want imm M (M.pc+1)):=by show _=_;rcases hop with⟨rfl,rfl⟩|⟨rfl,rfl⟩<;>rfl
 have ho1:¬(op:Int)=34:=by omega
 have ho2:¬(op:Int)=29:=by omega
 have ho3:IntKind.i64.wrap ((op:Int)-29)=op-29:=i64_id (by omega) (by omega);have zR:=H0.out.ltR;have q1:IntKind.i64.wrap ((q:Int)+1)=q+1:=i64_id (by omega) (by omega);go_wp2_with fail;refine(jump_any _ _).mono ?_;rintro e wy⟨rfl,hq2⟩;rw[hq2,hj];clear hq2 wy;go_wp2_with fail;refine(l1Cond_any _ _ _ _ _ _ _ _ _ _ _ _ _ _ _ ((op:Int)-29) _).mono ?_;rintro e w2⟨he,b2⟩;have he':e=.returned (.tuple #[.bool hzz,.bool (zz==want)]):=by
  rw[he];rcases hop with⟨rfl,rfl⟩|⟨rfl,rfl⟩<;>simp
 subst he';have M2:=row_below HXX.out b2;have Z2:=row_below HZX.out b2;have HX2:Hid (w2.ownsRow w.heap.size 28 9 (.slice (some ⟨w.heap.size,0,none⟩) 1 1) 1 [.slice (some ⟨p.bR,0,none⟩) 8 p.cR,.bool zz,.bool cc,.bool hzz,.bool hcc,.slice p.aH M.nH p.cH,.int .i64 q,.int .i64 0,.slice p.aO M.nO p.cO]):=M2;have HZ2:Hid (w2.ownsRow w.heap.size 28 9 (.slice (some ⟨w.heap.size+1,0,none⟩) 1 1) 1 [.slice none 0 0,.bool false,.bool false,.bool false,.bool false,.slice none 0 0,.int .i64 0,.int .i64 0,.slice none 0 0]):=Z2;have HB2:Hid (Below w.heap.size w w2):=HBX.out.trans (b2.mono (by omega));have z2:wx.heap.size<=w2.heap.size:=b2.size;have i42:=(b2.cell (p:=⟨w0.heap.size,4,none⟩) yx).trans i4;clear m0 m1 m2 m3 m4 m5 m6 m7 m8 s0 s1 s2 s3 s4 s5 s6 s7 s8 mf sf i0 i1 i2 i3 i4 i5 he b2 y0 y1;obtain⟨m0,m1,m2,m3,m4,m5,m6,m7,m8⟩:=cells9 M2;obtain⟨s0,s1,s2,s3,s4,s5,s6,s7,s8⟩:=cells9 Z2;have mf:∀i,w2.frozen? ⟨w.heap.size,i,none⟩=false:=fun i=>M2.frozenAt i
 have sf:∀i,w2.frozen? ⟨w.heap.size+1,i,none⟩=false:=fun i=>Z2.frozenAt i
 have y0:w.heap.size<w2.heap.size:=by omega
 have y1:w.heap.size+1<w2.heap.size:=by omega
 have y2:w0.heap.size<w2.heap.size:=by omega
 clear M2 Z2
 cases hzz with
 |false=>
  go_wp2_with fail
  refine(l1Fault_any _ _ _ _ _ _ _ _ _ _ _ _ _ _ _ _).mono ?_
  rintro e w1⟨rfl,b1⟩
  have Z1:=row_below HZ2.out b1
  obtain⟨t0,t1,t2,t3,t4,t5,t6,t7,t8⟩:=cells9 Z1
  have tf:∀i,w1.frozen? ⟨w.heap.size+1,i,none⟩=false:=fun i=>Z1.frozenAt i
  have HB1:Hid (Below w.heap.size w w1):=HB2.out.trans (b1.mono (by omega))
  have v1:w.heap.size+1<w1.heap.size:=Nat.lt_of_lt_of_le (by omega) b1.size
  clear b1 Z1 m0 m1 m2 m3 m4 m5 m6 m7 m8 s0 s1 s2 s3 s4 s5 s6 s7 s8 mf sf
  go_wp2
  refine bodyPost_ret (v:=.agg #[.slice (some ⟨p.bR,0,none⟩) 8 p.cR,.bool zz,.bool cc,.bool false,.bool hcc,.slice p.aH M.nH p.cH,.int .i64 q,.int .i64 2,.slice p.aO M.nO p.cO]) (by simp[results,Tryz.results34,go_sem,t0,t1,t2,t3,t4,t5,t6,t7,t8]) rfl ?_
  have hE:afterS (exec op d a b' h imm M (M.pc+1))=M.fault:=by
   rw[HX.out]
   unfold jumpOp
   rw[ehz]
   rfl
  rw[hE]
  have hV:(Value.agg #[.slice (some ⟨p.bR,0,none⟩) 8 p.cR,.bool zz,.bool cc,.bool false,.bool hcc,.slice p.aH M.nH p.cH,.int .i64 q,.int .i64 2,.slice p.aO M.nO p.cO])=mVal p M.fault:=by
   unfold mVal MV.fault
   simp only[ez,ec,ehz,ehc,hq]
  rw[hV]
  refine DidK.fault H0.out ?_
  iterate 9 refine Below.setCell ?_ (by simp) _
  exact HB1.out
 |true=>
  cases hb0:(zz==want)with
  |true=>
   try rw[hb0]
   go_wp2_with fail
   generalize hw9:w2.setCell ⟨w.heap.size,6,none⟩ (.int .i64 imm)=w9
   have B9:Below w.heap.size w w9:=by rw[<-hw9];exact HB2.out.setCell (by simp) _
   have Z9:w9.ownsRow w.heap.size 28 9 (.slice (some ⟨w.heap.size+1,0,none⟩) 1 1) 1 [.slice none 0 0,.bool false,.bool false,.bool false,.bool false,.slice none 0 0,.int .i64 0,.int .i64 0,.slice none 0 0]:=by rw[<-hw9];exact ownsRow_setCell_other HZ2.out (by simp[Value.ownBlock]) _
   have z9:w9.heap.size=w2.heap.size:=by rw[<-hw9];simp
   clear hw9 m0 m1 m2 m3 m4 m5 m6 m7 m8 s0 s1 s2 s3 s4 s5 s6 s7 s8 mf sf i42
   have M9:=H0.out.below B9
   refine(l1See_any base (first (M.nO*2) (obsF M.K M.V)) _ _ _ _ _ _ _ _ _ _ _ _ p.aO M.nO p.cO 2 1 w9 hn (by omega) M9.obs).mono ?_
   rintro e wc⟨g,cp,rfl,oc,gc⟩
   have NO1:some (w.heap.size+1)≠(Value.slice p.aO M.nO p.cO).ownBlock:=fun qq=>by have:=(H0.out.obs.lt _ qq.symm).2;omega
   have ZC:=Z9.kept gc (.inr NO1)
   have gZ:g≠w.heap.size+1:=by
    have:=apart_some (rows_apart oc ZC (by decide))
    simpa[Value.ownBlock]using this
   have hMC:=M9.see oc gc
   have HMC:Hid (Mem wc base {p with aO:=some ⟨g,0,none⟩,cO:=cp} (M.see 2 1)):=hMC
   have HBC:Hid (Below base w wc):=(B9.mono (by omega)).trans ((Below.refl _ _).grown gc (by omega) (fun k hk=>(H0.out.obs.lt k hk).1))
   have HKC:Hid (Kept w wc):=(Kept.below B9).trans (Kept.grown M9 gc)
   have HOZ:Hid (Off {p with aO:=some ⟨g,0,none⟩,cO:=cp} (M.see 2 1).nH (M.see 2 1).nO (w.heap.size+1)):=off_new (M:=M.see 2 1) H0.out rfl (by omega) gZ cp
   have zc:w9.heap.size<=wc.heap.size:=gc.size
   have v1:w.heap.size+1<wc.heap.size:=by omega
   obtain⟨t0,t1,t2,t3,t4,t5,t6,t7,t8⟩:=cells9 ZC
   have tf:∀i,wc.frozen? ⟨w.heap.size+1,i,none⟩=false:=fun i=>ZC.frozenAt i
   clear ZC Z9 oc gc hMC M9 B9 gZ
   go_wp2
   refine bodyPost_ret (v:=.agg #[.slice (some ⟨p.bR,0,none⟩) 8 p.cR,.bool zz,.bool cc,.bool true,.bool hcc,.slice p.aH M.nH p.cH,.int .i64 imm,.int .i64 0,.slice (some ⟨g,0,none⟩) (M.nO+1) cp]) (by simp[results,Tryz.results34,go_sem,t0,t1,t2,t3,t4,t5,t6,t7,t8]) rfl ?_
   have hE:afterS (exec op d a b' h imm M (M.pc+1))={M.see 2 1 with pc:=imm}:=by
    rw[HX.out]
    unfold jumpOp
    rw[ehz,ez,hb0]
    rfl
   rw[hE]
   refine⟨⟨{p with aO:=some ⟨g,0,none⟩,cO:=cp},?_,?_,?_⟩,?_⟩
   ·unfold mVal MV.see
    simp only[ez,ec,ehz,ehc,hst]
   ·iterate 9 refine Below.setCell ?_ (by simp;omega) _
    exact HBC.out
   ·refine(fun(q:Mem _ base _ (M.see 2 1))=>⟨q.regs,q.heaps,q.data,q.obs,q.ne⟩) ?_
    iterate 9 refine Mem.setOff (M:=M.see 2 1) ?_ HOZ.out _ _
    exact HMC.out
   ·iterate 9 refine Kept.new ?_ (by omega) _ _
    exact HKC.out
  |false=>
   try rw[hb0]
   go_wp2_with fail
   try rw[q1]
   generalize hw9:w2.setCell ⟨w.heap.size,6,none⟩ (.int .i64 (q+1))=w9
   have B9:Below w.heap.size w w9:=by rw[<-hw9];exact HB2.out.setCell (by simp) _
   have Z9:w9.ownsRow w.heap.size 28 9 (.slice (some ⟨w.heap.size+1,0,none⟩) 1 1) 1 [.slice none 0 0,.bool false,.bool false,.bool false,.bool false,.slice none 0 0,.int .i64 0,.int .i64 0,.slice none 0 0]:=by rw[<-hw9];exact ownsRow_setCell_other HZ2.out (by simp[Value.ownBlock]) _
   have z9:w9.heap.size=w2.heap.size:=by rw[<-hw9];simp
   clear hw9 m0 m1 m2 m3 m4 m5 m6 m7 m8 s0 s1 s2 s3 s4 s5 s6 s7 s8 mf sf i42
   have M9:=H0.out.below B9
   refine(l1See_any base (first (M.nO*2) (obsF M.K M.V)) _ _ _ _ _ _ _ _ _ _ _ _ p.aO M.nO p.cO 2 0 w9 hn (by omega) M9.obs).mono ?_
   rintro e wc⟨g,cp,rfl,oc,gc⟩
   have NO1:some (w.heap.size+1)≠(Value.slice p.aO M.nO p.cO).ownBlock:=fun qq=>by have:=(H0.out.obs.lt _ qq.symm).2;omega
   have ZC:=Z9.kept gc (.inr NO1)
   have gZ:g≠w.heap.size+1:=by
    have:=apart_some (rows_apart oc ZC (by decide))
    simpa[Value.ownBlock]using this
   have hMC:=M9.see oc gc
   have HMC:Hid (Mem wc base {p with aO:=some ⟨g,0,none⟩,cO:=cp} (M.see 2 0)):=hMC
   have HBC:Hid (Below base w wc):=(B9.mono (by omega)).trans ((Below.refl _ _).grown gc (by omega) (fun k hk=>(H0.out.obs.lt k hk).1))
   have HKC:Hid (Kept w wc):=(Kept.below B9).trans (Kept.grown M9 gc)
   have HOZ:Hid (Off {p with aO:=some ⟨g,0,none⟩,cO:=cp} (M.see 2 0).nH (M.see 2 0).nO (w.heap.size+1)):=off_new (M:=M.see 2 0) H0.out rfl (by omega) gZ cp
   have zc:w9.heap.size<=wc.heap.size:=gc.size
   have v1:w.heap.size+1<wc.heap.size:=by omega
   obtain⟨t0,t1,t2,t3,t4,t5,t6,t7,t8⟩:=cells9 ZC
   have tf:∀i,wc.frozen? ⟨w.heap.size+1,i,none⟩=false:=fun i=>ZC.frozenAt i
   clear ZC Z9 oc gc hMC M9 B9 gZ
   go_wp2
   refine bodyPost_ret (v:=.agg #[.slice (some ⟨p.bR,0,none⟩) 8 p.cR,.bool zz,.bool cc,.bool true,.bool hcc,.slice p.aH M.nH p.cH,.int .i64 (q+1),.int .i64 0,.slice (some ⟨g,0,none⟩) (M.nO+1) cp]) (by simp[results,Tryz.results34,go_sem,t0,t1,t2,t3,t4,t5,t6,t7,t8]) rfl ?_
   have hE:afterS (exec op d a b' h imm M (M.pc+1))={M.see 2 0 with pc:=(q+1)}:=by
    rw[HX.out]
    unfold jumpOp
    rw[ehz,ez,hb0,hq]
    rfl
   rw[hE]
   refine⟨⟨{p with aO:=some ⟨g,0,none⟩,cO:=cp},?_,?_,?_⟩,?_⟩
   ·unfold mVal MV.see
    simp only[ez,ec,ehz,ehc,hst]
   ·iterate 9 refine Below.setCell ?_ (by simp;omega) _
    exact HBC.out
   ·refine(fun(q:Mem _ base _ (M.see 2 0))=>⟨q.regs,q.heaps,q.data,q.obs,q.ne⟩) ?_
    iterate 9 refine Mem.setOff (M:=M.see 2 0) ?_ HOZ.out _ _
    exact HMC.out
   ·iterate 9 refine Kept.new ?_ (by omega) _ _
    exact HKC.out
theorem sstep_jc(h0:Mem w base p M)(zz cc hzz hcc want:Bool)(ez:M.z=zz)(ec:M.c=cc)(ehz:M.hz=hzz)(ehc:M.hc=hcc)(hn:M.nO<=1048576)(b off len cap q:Nat)(F:Nat->Nat->Int)(hq:M.pc=q)(hst:M.st=0)(hql:q<len)(hl:len<=2000)(hat:At w b off (len*6) (insF F))(op d a b' h:Nat)(imm:Int)
 (f0:F q 0=op)(f1:F q 1=d)(f2:F q 2=a)(f3:F q 3=b')(f4:F q 4=imm)(f5:F q 5=h)(hop:(op=32/\want=true)∨(op=33/\want=false)):
 Calls Tryz.prog 34 #[.slice (some ⟨b,off,none⟩) len cap,.agg #[.slice (some ⟨p.bR,0,none⟩) 8 p.cR,.bool zz,.bool cc,.bool hzz,.bool hcc,.slice p.aH M.nH p.cH,.int .i64 q,.int .i64 0,.slice p.aO M.nO p.cO]] w (DidK base w (afterS (exec op d a b' h imm M (M.pc+1)))):=by
 have H0:Hid (Mem w base p M):=h0;have hb:=hat.lt;have hq':(q:Int)<len:=by omega
 have g0:=((hat.cell (i:=q*6+0) (by omega)).trans (congrArg some (insF_at F q 0 (by omega))))
 rw[Nat.add_zero,f0]at g0;have g1:=((hat.cell (i:=q*6+1) (by omega)).trans (congrArg some (insF_at F q 1 (by omega))))
 rw[<-Nat.add_assoc,f1]at g1;have g2:=((hat.cell (i:=q*6+2) (by omega)).trans (congrArg some (insF_at F q 2 (by omega))))
 rw[<-Nat.add_assoc,f2]at g2;have g3:=((hat.cell (i:=q*6+3) (by omega)).trans (congrArg some (insF_at F q 3 (by omega))))
 rw[<-Nat.add_assoc,f3]at g3;have g4:=((hat.cell (i:=q*6+4) (by omega)).trans (congrArg some (insF_at F q 4 (by omega))))
 rw[<-Nat.add_assoc,f4]at g4;have g5:=((hat.cell (i:=q*6+5) (by omega)).trans (congrArg some (insF_at F q 5 (by omega))))
 rw[<-Nat.add_assoc,f5]at g5;clear hat f0 f1 f2 f3 f4 f5;clear h0;go_enter Tryz.func34,Tryz.ntmps34;go_upto_region 1 with fail;generalize hw0:(w.alloc (.cells #[.slice (some ⟨p.bR,0,none⟩) 8 p.cR,.bool zz,.bool cc,.bool hzz,.bool hcc,.slice p.aH M.nH p.cH,.int .i64 q,.int .i64 0,.slice p.aO M.nO p.cO] 28)).alloc (.cells #[.slice none 0 0,.bool false,.bool false,.bool false,.bool false,.slice none 0 0,.int .i64 0,.int .i64 0,.slice none 0 0] 28)=w0;have b0:Below w.heap.size w w0:=by rw[<-hw0];exact((Below.refl _ _).alloc (Nat.le_refl _) _).alloc (by simp) _
 have z0:w0.heap.size=w.heap.size+2:=by rw[<-hw0];simp
 have XM:w0.ownsRow w.heap.size 28 9 (.slice (some ⟨w.heap.size,0,none⟩) 1 1) 1 [.slice (some ⟨p.bR,0,none⟩) 8 p.cR,.bool zz,.bool cc,.bool hzz,.bool hcc,.slice p.aH M.nH p.cH,.int .i64 q,.int .i64 0,.slice p.aO M.nO p.cO]:=by rw[<-hw0];exact(World.ownsRow_lit w #[.slice (some ⟨p.bR,0,none⟩) 8 p.cR,.bool zz,.bool cc,.bool hzz,.bool hcc,.slice p.aH M.nH p.cH,.int .i64 q,.int .i64 0,.slice p.aO M.nO p.cO] 1 (Nat.le_refl _) (by unfold maxLen;omega) rfl).alloc _
 have XZ:w0.ownsRow w.heap.size 28 9 (.slice (some ⟨w.heap.size+1,0,none⟩) 1 1) 1 [.slice none 0 0,.bool false,.bool false,.bool false,.bool false,.slice none 0 0,.int .i64 0,.int .i64 0,.slice none 0 0]:=by
  rw[<-hw0];have:=World.ownsRow_lit (base:=w.heap.size) (e:=28) (size:=9) (w.alloc (.cells #[.slice (some ⟨p.bR,0,none⟩) 8 p.cR,.bool zz,.bool cc,.bool hzz,.bool hcc,.slice p.aH M.nH p.cH,.int .i64 q,.int .i64 0,.slice p.aO M.nO p.cO] 28)) #[.slice none 0 0,.bool false,.bool false,.bool false,.bool false,.slice none 0 0,.int .i64 0,.int .i64 0,.slice none 0 0] 1 (by simp) (by unfold maxLen;omega) rfl;rw[World.size_alloc]at this;exact this
 obtain⟨m0,m1,m2,m3,m4,m5,m6,m7,m8⟩:=cells9 XM;obtain⟨s0,s1,s2,s3,s4,s5,s6,s7,s8⟩:=cells9 XZ;have mf:∀i,w0.frozen? ⟨w.heap.size,i,none⟩=false:=fun i=>XM.frozenAt i
 have sf:∀i,w0.frozen? ⟨w.heap.size+1,i,none⟩=false:=fun i=>XZ.frozenAt i
 have y0:w.heap.size<w0.heap.size:=by omega
 have y1:w.heap.size+1<w0.heap.size:=by omega
 have z0':w.heap.size+2<=w0.heap.size:=by omega
 have HB0:Hid (Below w.heap.size w w0):=b0;have HXM:Hid (w0.ownsRow w.heap.size 28 9 (.slice (some ⟨w.heap.size,0,none⟩) 1 1) 1 [.slice (some ⟨p.bR,0,none⟩) 8 p.cR,.bool zz,.bool cc,.bool hzz,.bool hcc,.slice p.aH M.nH p.cH,.int .i64 q,.int .i64 0,.slice p.aO M.nO p.cO]):=XM;have HXZ:Hid (w0.ownsRow w.heap.size 28 9 (.slice (some ⟨w.heap.size+1,0,none⟩) 1 1) 1 [.slice none 0 0,.bool false,.bool false,.bool false,.bool false,.slice none 0 0,.int .i64 0,.int .i64 0,.slice none 0 0]):=XZ;have k0:=(b0.cell (p:=⟨b,off+q*6,none⟩) hb).trans g0;have k1:=(b0.cell (p:=⟨b,off+q*6+1,none⟩) hb).trans g1;have k2:=(b0.cell (p:=⟨b,off+q*6+2,none⟩) hb).trans g2;have k3:=(b0.cell (p:=⟨b,off+q*6+3,none⟩) hb).trans g3;have k4:=(b0.cell (p:=⟨b,off+q*6+4,none⟩) hb).trans g4;have k5:=(b0.cell (p:=⟨b,off+q*6+5,none⟩) hb).trans g5;have hb0:b<w0.heap.size:=by omega
 clear g0 g1 g2 g3 g4 g5;clear hw0 b0 XM XZ z0;go_upto_region 6 with fail;generalize hwx:w0.alloc (.cells #[.int .i64 op,.int .i64 d,.int .i64 a,.int .i64 b',.int .i64 imm,.int .i64 h] 73)=wx;have bx:Below w0.heap.size w0 wx:=by rw[<-hwx];exact(Below.refl _ _).alloc (Nat.le_refl _) _
 have XI:wx.ownsRow w0.heap.size 73 6 (.slice (some ⟨w0.heap.size,0,none⟩) 1 1) 1 [.int .i64 op,.int .i64 d,.int .i64 a,.int .i64 b',.int .i64 imm,.int .i64 h]:=by rw[<-hwx];exact World.ownsRow_lit w0 #[.int .i64 op,.int .i64 d,.int .i64 a,.int .i64 b',.int .i64 imm,.int .i64 h] 1 (Nat.le_refl _) (by unfold maxLen;omega) rfl
 have yx:w0.heap.size<wx.heap.size:=by rw[<-hwx];simp
 have y0:w.heap.size<wx.heap.size:=by omega
 have y1:w.heap.size+1<wx.heap.size:=by omega
 have MX:=row_below HXM.out bx;have ZX:=row_below HXZ.out bx;have HBX:Hid (Below w.heap.size w wx):=HB0.out.trans (bx.mono (by omega));clear hwx m0 m1 m2 m3 m4 m5 m6 m7 m8 s0 s1 s2 s3 s4 s5 s6 s7 s8 mf sf k0 k1 k2 k3 k4 k5;obtain⟨m0,m1,m2,m3,m4,m5,m6,m7,m8⟩:=cells9 MX;obtain⟨s0,s1,s2,s3,s4,s5,s6,s7,s8⟩:=cells9 ZX;obtain⟨i0,i1,i2,i3,i4,i5⟩:=cells6 XI;have mf:∀i,wx.frozen? ⟨w.heap.size,i,none⟩=false:=fun i=>MX.frozenAt i
 have sf:∀i,wx.frozen? ⟨w.heap.size+1,i,none⟩=false:=fun i=>ZX.frozenAt i
 have HXX:Hid (wx.ownsRow w.heap.size 28 9 (.slice (some ⟨w.heap.size,0,none⟩) 1 1) 1 [.slice (some ⟨p.bR,0,none⟩) 8 p.cR,.bool zz,.bool cc,.bool hzz,.bool hcc,.slice p.aH M.nH p.cH,.int .i64 q,.int .i64 0,.slice p.aO M.nO p.cO]):=MX;have HZX:Hid (wx.ownsRow w.heap.size 28 9 (.slice (some ⟨w.heap.size+1,0,none⟩) 1 1) 1 [.slice none 0 0,.bool false,.bool false,.bool false,.bool false,.slice none 0 0,.int .i64 0,.int .i64 0,.slice none 0 0]):=ZX;clear MX ZX XI bx;have hj:jumpB (op:Int)=true:=by rcases hop with⟨rfl,rfl⟩|⟨rfl,rfl⟩<;>decide
 have HX:Hid (exec op d a b' h imm M (M.pc+1)=jumpOp M.hc M.c want imm M (M.pc+1)):=by show _=_;rcases hop with⟨rfl,rfl⟩|⟨rfl,rfl⟩<;>rfl
 have ho1:¬(op:Int)=34:=by omega
 have ho2:¬(op:Int)=29:=by omega
 have ho3:IntKind.i64.wrap ((op:Int)-29)=op-29:=i64_id (by omega) (by omega);have zR:=H0.out.ltR;have q1:IntKind.i64.wrap ((q:Int)+1)=q+1:=i64_id (by omega) (by omega);go_wp2_with fail;refine(jump_any _ _).mono ?_;rintro e wy⟨rfl,hq2⟩;rw[hq2,hj];clear hq2 wy;go_wp2_with fail;refine(l1Cond_any _ _ _ _ _ _ _ _ _ _ _ _ _ _ _ ((op:Int)-29) _).mono ?_;rintro e w2⟨he,b2⟩;have he':e=.returned (.tuple #[.bool hcc,.bool (cc==want)]):=by
  rw[he];rcases hop with⟨rfl,rfl⟩|⟨rfl,rfl⟩<;>simp
 subst he';have M2:=row_below HXX.out b2;have Z2:=row_below HZX.out b2;have HX2:Hid (w2.ownsRow w.heap.size 28 9 (.slice (some ⟨w.heap.size,0,none⟩) 1 1) 1 [.slice (some ⟨p.bR,0,none⟩) 8 p.cR,.bool zz,.bool cc,.bool hzz,.bool hcc,.slice p.aH M.nH p.cH,.int .i64 q,.int .i64 0,.slice p.aO M.nO p.cO]):=M2;have HZ2:Hid (w2.ownsRow w.heap.size 28 9 (.slice (some ⟨w.heap.size+1,0,none⟩) 1 1) 1 [.slice none 0 0,.bool false,.bool false,.bool false,.bool false,.slice none 0 0,.int .i64 0,.int .i64 0,.slice none 0 0]):=Z2;have HB2:Hid (Below w.heap.size w w2):=HBX.out.trans (b2.mono (by omega));have z2:wx.heap.size<=w2.heap.size:=b2.size;have i42:=(b2.cell (p:=⟨w0.heap.size,4,none⟩) yx).trans i4;clear m0 m1 m2 m3 m4 m5 m6 m7 m8 s0 s1 s2 s3 s4 s5 s6 s7 s8 mf sf i0 i1 i2 i3 i4 i5 he b2 y0 y1;obtain⟨m0,m1,m2,m3,m4,m5,m6,m7,m8⟩:=cells9 M2;obtain⟨s0,s1,s2,s3,s4,s5,s6,s7,s8⟩:=cells9 Z2;have mf:∀i,w2.frozen? ⟨w.heap.size,i,none⟩=false:=fun i=>M2.frozenAt i
 have sf:∀i,w2.frozen? ⟨w.heap.size+1,i,none⟩=false:=fun i=>Z2.frozenAt i
 have y0:w.heap.size<w2.heap.size:=by omega
 have y1:w.heap.size+1<w2.heap.size:=by omega
 have y2:w0.heap.size<w2.heap.size:=by omega
 clear M2 Z2
 cases hcc with
 |false=>
  go_wp2_with fail
  refine(l1Fault_any _ _ _ _ _ _ _ _ _ _ _ _ _ _ _ _).mono ?_
  rintro e w1⟨rfl,b1⟩
  have Z1:=row_below HZ2.out b1
  obtain⟨t0,t1,t2,t3,t4,t5,t6,t7,t8⟩:=cells9 Z1
  have tf:∀i,w1.frozen? ⟨w.heap.size+1,i,none⟩=false:=fun i=>Z1.frozenAt i
  have HB1:Hid (Below w.heap.size w w1):=HB2.out.trans (b1.mono (by omega))
  have v1:w.heap.size+1<w1.heap.size:=Nat.lt_of_lt_of_le (by omega) b1.size
  clear b1 Z1 m0 m1 m2 m3 m4 m5 m6 m7 m8 s0 s1 s2 s3 s4 s5 s6 s7 s8 mf sf
  go_wp2
  refine bodyPost_ret (v:=.agg #[.slice (some ⟨p.bR,0,none⟩) 8 p.cR,.bool zz,.bool cc,.bool hzz,.bool false,.slice p.aH M.nH p.cH,.int .i64 q,.int .i64 2,.slice p.aO M.nO p.cO]) (by simp[results,Tryz.results34,go_sem,t0,t1,t2,t3,t4,t5,t6,t7,t8]) rfl ?_
  have hE:afterS (exec op d a b' h imm M (M.pc+1))=M.fault:=by
   rw[HX.out]
   unfold jumpOp
   rw[ehc]
   rfl
  rw[hE]
  have hV:(Value.agg #[.slice (some ⟨p.bR,0,none⟩) 8 p.cR,.bool zz,.bool cc,.bool hzz,.bool false,.slice p.aH M.nH p.cH,.int .i64 q,.int .i64 2,.slice p.aO M.nO p.cO])=mVal p M.fault:=by
   unfold mVal MV.fault
   simp only[ez,ec,ehz,ehc,hq]
  rw[hV]
  refine DidK.fault H0.out ?_
  iterate 9 refine Below.setCell ?_ (by simp) _
  exact HB1.out
 |true=>
  cases hb0:(cc==want)with
  |true=>
   try rw[hb0]
   go_wp2_with fail
   generalize hw9:w2.setCell ⟨w.heap.size,6,none⟩ (.int .i64 imm)=w9
   have B9:Below w.heap.size w w9:=by rw[<-hw9];exact HB2.out.setCell (by simp) _
   have Z9:w9.ownsRow w.heap.size 28 9 (.slice (some ⟨w.heap.size+1,0,none⟩) 1 1) 1 [.slice none 0 0,.bool false,.bool false,.bool false,.bool false,.slice none 0 0,.int .i64 0,.int .i64 0,.slice none 0 0]:=by rw[<-hw9];exact ownsRow_setCell_other HZ2.out (by simp[Value.ownBlock]) _
   have z9:w9.heap.size=w2.heap.size:=by rw[<-hw9];simp
   clear hw9 m0 m1 m2 m3 m4 m5 m6 m7 m8 s0 s1 s2 s3 s4 s5 s6 s7 s8 mf sf i42
   have M9:=H0.out.below B9
   refine(l1See_any base (first (M.nO*2) (obsF M.K M.V)) _ _ _ _ _ _ _ _ _ _ _ _ p.aO M.nO p.cO 2 1 w9 hn (by omega) M9.obs).mono ?_
   rintro e wc⟨g,cp,rfl,oc,gc⟩
   have NO1:some (w.heap.size+1)≠(Value.slice p.aO M.nO p.cO).ownBlock:=fun qq=>by have:=(H0.out.obs.lt _ qq.symm).2;omega
   have ZC:=Z9.kept gc (.inr NO1)
   have gZ:g≠w.heap.size+1:=by
    have:=apart_some (rows_apart oc ZC (by decide))
    simpa[Value.ownBlock]using this
   have hMC:=M9.see oc gc
   have HMC:Hid (Mem wc base {p with aO:=some ⟨g,0,none⟩,cO:=cp} (M.see 2 1)):=hMC
   have HBC:Hid (Below base w wc):=(B9.mono (by omega)).trans ((Below.refl _ _).grown gc (by omega) (fun k hk=>(H0.out.obs.lt k hk).1))
   have HKC:Hid (Kept w wc):=(Kept.below B9).trans (Kept.grown M9 gc)
   have HOZ:Hid (Off {p with aO:=some ⟨g,0,none⟩,cO:=cp} (M.see 2 1).nH (M.see 2 1).nO (w.heap.size+1)):=off_new (M:=M.see 2 1) H0.out rfl (by omega) gZ cp
   have zc:w9.heap.size<=wc.heap.size:=gc.size
   have v1:w.heap.size+1<wc.heap.size:=by omega
   obtain⟨t0,t1,t2,t3,t4,t5,t6,t7,t8⟩:=cells9 ZC
   have tf:∀i,wc.frozen? ⟨w.heap.size+1,i,none⟩=false:=fun i=>ZC.frozenAt i
   clear ZC Z9 oc gc hMC M9 B9 gZ
   go_wp2
   refine bodyPost_ret (v:=.agg #[.slice (some ⟨p.bR,0,none⟩) 8 p.cR,.bool zz,.bool cc,.bool hzz,.bool true,.slice p.aH M.nH p.cH,.int .i64 imm,.int .i64 0,.slice (some ⟨g,0,none⟩) (M.nO+1) cp]) (by simp[results,Tryz.results34,go_sem,t0,t1,t2,t3,t4,t5,t6,t7,t8]) rfl ?_
   have hE:afterS (exec op d a b' h imm M (M.pc+1))={M.see 2 1 with pc:=imm}:=by
    rw[HX.out]
    unfold jumpOp
    rw[ehc,ec,hb0]
    rfl
   rw[hE]
   refine⟨⟨{p with aO:=some ⟨g,0,none⟩,cO:=cp},?_,?_,?_⟩,?_⟩
   ·unfold mVal MV.see
    simp only[ez,ec,ehz,ehc,hst]
   ·iterate 9 refine Below.setCell ?_ (by simp;omega) _
    exact HBC.out
   ·refine(fun(q:Mem _ base _ (M.see 2 1))=>⟨q.regs,q.heaps,q.data,q.obs,q.ne⟩) ?_
    iterate 9 refine Mem.setOff (M:=M.see 2 1) ?_ HOZ.out _ _
    exact HMC.out
   ·iterate 9 refine Kept.new ?_ (by omega) _ _
    exact HKC.out
  |false=>
   try rw[hb0]
   go_wp2_with fail
   try rw[q1]
   generalize hw9:w2.setCell ⟨w.heap.size,6,none⟩ (.int .i64 (q+1))=w9
   have B9:Below w.heap.size w w9:=by rw[<-hw9];exact HB2.out.setCell (by simp) _
   have Z9:w9.ownsRow w.heap.size 28 9 (.slice (some ⟨w.heap.size+1,0,none⟩) 1 1) 1 [.slice none 0 0,.bool false,.bool false,.bool false,.bool false,.slice none 0 0,.int .i64 0,.int .i64 0,.slice none 0 0]:=by rw[<-hw9];exact ownsRow_setCell_other HZ2.out (by simp[Value.ownBlock]) _
   have z9:w9.heap.size=w2.heap.size:=by rw[<-hw9];simp
   clear hw9 m0 m1 m2 m3 m4 m5 m6 m7 m8 s0 s1 s2 s3 s4 s5 s6 s7 s8 mf sf i42
   have M9:=H0.out.below B9
   refine(l1See_any base (first (M.nO*2) (obsF M.K M.V)) _ _ _ _ _ _ _ _ _ _ _ _ p.aO M.nO p.cO 2 0 w9 hn (by omega) M9.obs).mono ?_
   rintro e wc⟨g,cp,rfl,oc,gc⟩
   have NO1:some (w.heap.size+1)≠(Value.slice p.aO M.nO p.cO).ownBlock:=fun qq=>by have:=(H0.out.obs.lt _ qq.symm).2;omega
   have ZC:=Z9.kept gc (.inr NO1)
   have gZ:g≠w.heap.size+1:=by
    have:=apart_some (rows_apart oc ZC (by decide))
    simpa[Value.ownBlock]using this
   have hMC:=M9.see oc gc
   have HMC:Hid (Mem wc base {p with aO:=some ⟨g,0,none⟩,cO:=cp} (M.see 2 0)):=hMC
   have HBC:Hid (Below base w wc):=(B9.mono (by omega)).trans ((Below.refl _ _).grown gc (by omega) (fun k hk=>(H0.out.obs.lt k hk).1))
   have HKC:Hid (Kept w wc):=(Kept.below B9).trans (Kept.grown M9 gc)
   have HOZ:Hid (Off {p with aO:=some ⟨g,0,none⟩,cO:=cp} (M.see 2 0).nH (M.see 2 0).nO (w.heap.size+1)):=off_new (M:=M.see 2 0) H0.out rfl (by omega) gZ cp
   have zc:w9.heap.size<=wc.heap.size:=gc.size
   have v1:w.heap.size+1<wc.heap.size:=by omega
   obtain⟨t0,t1,t2,t3,t4,t5,t6,t7,t8⟩:=cells9 ZC
   have tf:∀i,wc.frozen? ⟨w.heap.size+1,i,none⟩=false:=fun i=>ZC.frozenAt i
   clear ZC Z9 oc gc hMC M9 B9 gZ
   go_wp2
   refine bodyPost_ret (v:=.agg #[.slice (some ⟨p.bR,0,none⟩) 8 p.cR,.bool zz,.bool cc,.bool hzz,.bool true,.slice p.aH M.nH p.cH,.int .i64 (q+1),.int .i64 0,.slice (some ⟨g,0,none⟩) (M.nO+1) cp]) (by simp[results,Tryz.results34,go_sem,t0,t1,t2,t3,t4,t5,t6,t7,t8]) rfl ?_
   have hE:afterS (exec op d a b' h imm M (M.pc+1))={M.see 2 0 with pc:=(q+1)}:=by
    rw[HX.out]
    unfold jumpOp
    rw[ehc,ec,hb0,hq]
    rfl
   rw[hE]
   refine⟨⟨{p with aO:=some ⟨g,0,none⟩,cO:=cp},?_,?_,?_⟩,?_⟩
   ·unfold mVal MV.see
    simp only[ez,ec,ehz,ehc,hst]
   ·iterate 9 refine Below.setCell ?_ (by simp;omega) _
    exact HBC.out
   ·refine(fun(q:Mem _ base _ (M.see 2 0))=>⟨q.regs,q.heaps,q.data,q.obs,q.ne⟩) ?_
    iterate 9 refine Mem.setOff (M:=M.see 2 0) ?_ HOZ.out _ _
    exact HMC.out
   ·iterate 9 refine Kept.new ?_ (by omega) _ _
    exact HKC.out
theorem sstep_do(h0:Mem w base p M)(hdo:DoAny)(hk:M.Ok)(hn:M.nO<=1048576)(b off len cap q:Nat)(F:Nat->Nat->Int)(hq:M.pc=q)(hst:M.st=0)(hql:q<len)(hl:len<=2000)(hat:At w b off (len*6) (insF F))(op d a b' h:Nat)(imm:Int)
 (f0:F q 0=op)(f1:F q 1=d)(f2:F q 2=a)(f3:F q 3=b')(f4:F q 4=imm)(f5:F q 5=h)(o1:1<=op)(o2:op<=28)(hd:d<8)(ha:a<8)(hb':b'<8)(hsh:(op=12∨op=13)->0<=imm/\imm<=63):
 Calls Tryz.prog 34 #[.slice (some ⟨b,off,none⟩) len cap,.agg #[.slice (some ⟨p.bR,0,none⟩) 8 p.cR,.bool M.z,.bool M.c,.bool M.hz,.bool M.hc,.slice p.aH M.nH p.cH,.int .i64 q,.int .i64 0,.slice p.aO M.nO p.cO]] w (DidK base w (afterS (exec op d a b' h imm M (M.pc+1)))):=by
 have H0:Hid (Mem w base p M):=h0;have hb:=hat.lt;have hq':(q:Int)<len:=by omega
 have g0:=((hat.cell (i:=q*6+0) (by omega)).trans (congrArg some (insF_at F q 0 (by omega))))
 rw[Nat.add_zero,f0]at g0;have g1:=((hat.cell (i:=q*6+1) (by omega)).trans (congrArg some (insF_at F q 1 (by omega))))
 rw[<-Nat.add_assoc,f1]at g1;have g2:=((hat.cell (i:=q*6+2) (by omega)).trans (congrArg some (insF_at F q 2 (by omega))))
 rw[<-Nat.add_assoc,f2]at g2;have g3:=((hat.cell (i:=q*6+3) (by omega)).trans (congrArg some (insF_at F q 3 (by omega))))
 rw[<-Nat.add_assoc,f3]at g3;have g4:=((hat.cell (i:=q*6+4) (by omega)).trans (congrArg some (insF_at F q 4 (by omega))))
 rw[<-Nat.add_assoc,f4]at g4;have g5:=((hat.cell (i:=q*6+5) (by omega)).trans (congrArg some (insF_at F q 5 (by omega))))
 rw[<-Nat.add_assoc,f5]at g5;clear hat f0 f1 f2 f3 f4 f5;clear h0;go_enter Tryz.func34,Tryz.ntmps34;go_upto_region 1 with fail;generalize hw0:(w.alloc (.cells #[.slice (some ⟨p.bR,0,none⟩) 8 p.cR,.bool M.z,.bool M.c,.bool M.hz,.bool M.hc,.slice p.aH M.nH p.cH,.int .i64 q,.int .i64 0,.slice p.aO M.nO p.cO] 28)).alloc (.cells #[.slice none 0 0,.bool false,.bool false,.bool false,.bool false,.slice none 0 0,.int .i64 0,.int .i64 0,.slice none 0 0] 28)=w0;have b0:Below w.heap.size w w0:=by rw[<-hw0];exact((Below.refl _ _).alloc (Nat.le_refl _) _).alloc (by simp) _
 have z0:w0.heap.size=w.heap.size+2:=by rw[<-hw0];simp
 have XM:w0.ownsRow w.heap.size 28 9 (.slice (some ⟨w.heap.size,0,none⟩) 1 1) 1 [.slice (some ⟨p.bR,0,none⟩) 8 p.cR,.bool M.z,.bool M.c,.bool M.hz,.bool M.hc,.slice p.aH M.nH p.cH,.int .i64 q,.int .i64 0,.slice p.aO M.nO p.cO]:=by rw[<-hw0];exact(World.ownsRow_lit w #[.slice (some ⟨p.bR,0,none⟩) 8 p.cR,.bool M.z,.bool M.c,.bool M.hz,.bool M.hc,.slice p.aH M.nH p.cH,.int .i64 q,.int .i64 0,.slice p.aO M.nO p.cO] 1 (Nat.le_refl _) (by unfold maxLen;omega) rfl).alloc _
 have XZ:w0.ownsRow w.heap.size 28 9 (.slice (some ⟨w.heap.size+1,0,none⟩) 1 1) 1 [.slice none 0 0,.bool false,.bool false,.bool false,.bool false,.slice none 0 0,.int .i64 0,.int .i64 0,.slice none 0 0]:=by
  rw[<-hw0];have:=World.ownsRow_lit (base:=w.heap.size) (e:=28) (size:=9) (w.alloc (.cells #[.slice (some ⟨p.bR,0,none⟩) 8 p.cR,.bool M.z,.bool M.c,.bool M.hz,.bool M.hc,.slice p.aH M.nH p.cH,.int .i64 q,.int .i64 0,.slice p.aO M.nO p.cO] 28)) #[.slice none 0 0,.bool false,.bool false,.bool false,.bool false,.slice none 0 0,.int .i64 0,.int .i64 0,.slice none 0 0] 1 (by simp) (by unfold maxLen;omega) rfl;rw[World.size_alloc]at this;exact this
 obtain⟨m0,m1,m2,m3,m4,m5,m6,m7,m8⟩:=cells9 XM;obtain⟨s0,s1,s2,s3,s4,s5,s6,s7,s8⟩:=cells9 XZ;have mf:∀i,w0.frozen? ⟨w.heap.size,i,none⟩=false:=fun i=>XM.frozenAt i
 have sf:∀i,w0.frozen? ⟨w.heap.size+1,i,none⟩=false:=fun i=>XZ.frozenAt i
 have y0:w.heap.size<w0.heap.size:=by omega
 have y1:w.heap.size+1<w0.heap.size:=by omega
 have z0':w.heap.size+2<=w0.heap.size:=by omega
 have HB0:Hid (Below w.heap.size w w0):=b0;have HXM:Hid (w0.ownsRow w.heap.size 28 9 (.slice (some ⟨w.heap.size,0,none⟩) 1 1) 1 [.slice (some ⟨p.bR,0,none⟩) 8 p.cR,.bool M.z,.bool M.c,.bool M.hz,.bool M.hc,.slice p.aH M.nH p.cH,.int .i64 q,.int .i64 0,.slice p.aO M.nO p.cO]):=XM;have HXZ:Hid (w0.ownsRow w.heap.size 28 9 (.slice (some ⟨w.heap.size+1,0,none⟩) 1 1) 1 [.slice none 0 0,.bool false,.bool false,.bool false,.bool false,.slice none 0 0,.int .i64 0,.int .i64 0,.slice none 0 0]):=XZ;have k0:=(b0.cell (p:=⟨b,off+q*6,none⟩) hb).trans g0;have k1:=(b0.cell (p:=⟨b,off+q*6+1,none⟩) hb).trans g1;have k2:=(b0.cell (p:=⟨b,off+q*6+2,none⟩) hb).trans g2;have k3:=(b0.cell (p:=⟨b,off+q*6+3,none⟩) hb).trans g3;have k4:=(b0.cell (p:=⟨b,off+q*6+4,none⟩) hb).trans g4;have k5:=(b0.cell (p:=⟨b,off+q*6+5,none⟩) hb).trans g5;have hb0:b<w0.heap.size:=by omega
 clear g0 g1 g2 g3 g4 g5;clear hw0 b0 XM XZ z0;go_upto_region 6 with fail;generalize hwx:w0.alloc (.cells #[.int .i64 op,.int .i64 d,.int .i64 a,.int .i64 b',.int .i64 imm,.int .i64 h] 73)=wx;have bx:Below w0.heap.size w0 wx:=by rw[<-hwx];exact(Below.refl _ _).alloc (Nat.le_refl _) _
 have XI:wx.ownsRow w0.heap.size 73 6 (.slice (some ⟨w0.heap.size,0,none⟩) 1 1) 1 [.int .i64 op,.int .i64 d,.int .i64 a,.int .i64 b',.int .i64 imm,.int .i64 h]:=by rw[<-hwx];exact World.ownsRow_lit w0 #[.int .i64 op,.int .i64 d,.int .i64 a,.int .i64 b',.int .i64 imm,.int .i64 h] 1 (Nat.le_refl _) (by unfold maxLen;omega) rfl
 have yx:w0.heap.size<wx.heap.size:=by rw[<-hwx];simp
 have y0:w.heap.size<wx.heap.size:=by omega
 have y1:w.heap.size+1<wx.heap.size:=by omega
 have MX:=row_below HXM.out bx;have ZX:=row_below HXZ.out bx;have HBX:Hid (Below w.heap.size w wx):=HB0.out.trans (bx.mono (by omega));clear hwx m0 m1 m2 m3 m4 m5 m6 m7 m8 s0 s1 s2 s3 s4 s5 s6 s7 s8 mf sf k0 k1 k2 k3 k4 k5;obtain⟨m0,m1,m2,m3,m4,m5,m6,m7,m8⟩:=cells9 MX;obtain⟨s0,s1,s2,s3,s4,s5,s6,s7,s8⟩:=cells9 ZX;obtain⟨i0,i1,i2,i3,i4,i5⟩:=cells6 XI;have mf:∀i,wx.frozen? ⟨w.heap.size,i,none⟩=false:=fun i=>MX.frozenAt i
 have sf:∀i,wx.frozen? ⟨w.heap.size+1,i,none⟩=false:=fun i=>ZX.frozenAt i
 have HXX:Hid (wx.ownsRow w.heap.size 28 9 (.slice (some ⟨w.heap.size,0,none⟩) 1 1) 1 [.slice (some ⟨p.bR,0,none⟩) 8 p.cR,.bool M.z,.bool M.c,.bool M.hz,.bool M.hc,.slice p.aH M.nH p.cH,.int .i64 q,.int .i64 0,.slice p.aO M.nO p.cO]):=MX;have HZX:Hid (wx.ownsRow w.heap.size 28 9 (.slice (some ⟨w.heap.size+1,0,none⟩) 1 1) 1 [.slice none 0 0,.bool false,.bool false,.bool false,.bool false,.slice none 0 0,.int .i64 0,.int .i64 0,.slice none 0 0]):=ZX;clear MX ZX XI bx;have ho1:¬(op:Int)=34:=by omega
 have ho2:¬(op:Int)=29:=by omega
 have hj:jumpB (op:Int)=false:=by unfold jumpB;simp;omega
 have zR:=H0.out.ltR;have q1:IntKind.i64.wrap ((q:Int)+1)=q+1:=i64_id (by omega) (by omega);have HDO:Hid DoAny:=hdo;have HK:Hid M.Ok:=hk;clear hdo hk;go_wp2_with fail;refine(jump_any _ _).mono ?_;rintro e wy⟨rfl,hq2⟩;rw[hq2,hj];clear hq2 wy
 go_wp2_with fail
 have Bx:Below w.heap.size w wx:=HBX.out
 have hc:=HDO.out wx base p M (H0.out.below Bx) HK.out hn op d a b' h imm o1 o2 hd ha hb' hsh
 rw[hq,hst]at hc
 refine hc.mono ?_
 rintro e w2⟨⟨p',rfl,b2,mm⟩,kp⟩
 have M2:=kp.row HXX.out
 have Z2:=kp.row HZX.out
 have hst2:=step_doM op d a b' h imm M o1 o2 hst
 generalize doM op d a b' h imm M=N at mm hst2⊢
 have HM2:Hid (Mem w2 base p' N):=mm
 have HB2:Hid (Below base w w2):=(Bx.mono (by omega)).trans b2
 have HK2:Hid (Kept w w2):=(Kept.below Bx).trans kp
 have HOM:Hid (Off p' N.nH N.nO w.heap.size):=off_row mm M2
 have HOZ:Hid (Off p' N.nH N.nO (w.heap.size+1)):=off_row mm Z2
 have z2:wx.heap.size<=w2.heap.size:=b2.size
 clear m0 m1 m2 m3 m4 m5 m6 m7 m8 s0 s1 s2 s3 s4 s5 s6 s7 s8 mf sf i0 i1 i2 i3 i4 i5 hc b2 kp Bx mm HDO HK
 obtain⟨m0,m1,m2,m3,m4,m5,m6,m7,m8⟩:=cells9 M2
 obtain⟨s0,s1,s2,s3,s4,s5,s6,s7,s8⟩:=cells9 Z2
 have mf:∀i,w2.frozen? ⟨w.heap.size,i,none⟩=false:=fun i=>M2.frozenAt i
 have sf:∀i,w2.frozen? ⟨w.heap.size+1,i,none⟩=false:=fun i=>Z2.frozenAt i
 have v0:w.heap.size<w2.heap.size:=by omega
 have v1:w.heap.size+1<w2.heap.size:=by omega
 clear M2 Z2 y0 y1 z2
 rcases hst2 with⟨e1,e2,e3⟩|⟨e1,e3⟩
 ·rw[hq]at e2
  rw[hq]at e3
  have HE3:Hid _:=e3
  clear e3
  simp only[mVal,e1,e2]
  go_upto_region 22 with fail
  generalize hw5:(((((((((w2.setCell ⟨w.heap.size,0,none⟩ (.slice (some ⟨p'.bR,0,none⟩) 8 p'.cR)).setCell ⟨w.heap.size,1,none⟩ (.bool N.z)).setCell ⟨w.heap.size,2,none⟩ (.bool N.c)).setCell ⟨w.heap.size,3,none⟩ (.bool N.hz)).setCell ⟨w.heap.size,4,none⟩ (.bool N.hc)).setCell ⟨w.heap.size,5,none⟩ (.slice p'.aH N.nH p'.cH)).setCell ⟨w.heap.size,6,none⟩ (.int .i64 q)).setCell ⟨w.heap.size,7,none⟩ (.int .i64 0)).setCell ⟨w.heap.size,8,none⟩ (.slice p'.aO N.nO p'.cO))=w5
  have HM5:Hid (Mem w5 base p' N):=by
   rw[<-hw5]
   iterate 9 refine Mem.setOff (M:=N) ?_ HOM.out _ _
   exact HM2.out
  have HB5:Hid (Below base w w5):=by
   rw[<-hw5]
   iterate 9 refine Below.setCell ?_ (by simp;omega) _
   exact HB2.out
  have HK5:Hid (Kept w w5):=by
   rw[<-hw5]
   iterate 9 refine Kept.new ?_ (Nat.le_refl _) _ _
   exact HK2.out
  have n0:w5.cell? ⟨w.heap.size,0,none⟩=some (.slice (some ⟨p'.bR,0,none⟩) 8 p'.cR):=by rw[<-hw5];simp[go_sem,m0]
  have n1:w5.cell? ⟨w.heap.size,1,none⟩=some (.bool N.z):=by rw[<-hw5];simp[go_sem,m1]
  have n2:w5.cell? ⟨w.heap.size,2,none⟩=some (.bool N.c):=by rw[<-hw5];simp[go_sem,m2]
  have n3:w5.cell? ⟨w.heap.size,3,none⟩=some (.bool N.hz):=by rw[<-hw5];simp[go_sem,m3]
  have n4:w5.cell? ⟨w.heap.size,4,none⟩=some (.bool N.hc):=by rw[<-hw5];simp[go_sem,m4]
  have n5:w5.cell? ⟨w.heap.size,5,none⟩=some (.slice p'.aH N.nH p'.cH):=by rw[<-hw5];simp[go_sem,m5]
  have n6:w5.cell? ⟨w.heap.size,6,none⟩=some (.int .i64 q):=by rw[<-hw5];simp[go_sem,m6]
  have n7:w5.cell? ⟨w.heap.size,7,none⟩=some (.int .i64 0):=by rw[<-hw5];simp[go_sem,m7]
  have n8:w5.cell? ⟨w.heap.size,8,none⟩=some (.slice p'.aO N.nO p'.cO):=by rw[<-hw5];simp[go_sem,m8]
  have t0:w5.cell? ⟨w.heap.size+1,0,none⟩=some (.slice none 0 0):=by rw[<-hw5];simp[go_sem,s0]
  have t1:w5.cell? ⟨w.heap.size+1,1,none⟩=some (.bool false):=by rw[<-hw5];simp[go_sem,s1]
  have t2:w5.cell? ⟨w.heap.size+1,2,none⟩=some (.bool false):=by rw[<-hw5];simp[go_sem,s2]
  have t3:w5.cell? ⟨w.heap.size+1,3,none⟩=some (.bool false):=by rw[<-hw5];simp[go_sem,s3]
  have t4:w5.cell? ⟨w.heap.size+1,4,none⟩=some (.bool false):=by rw[<-hw5];simp[go_sem,s4]
  have t5:w5.cell? ⟨w.heap.size+1,5,none⟩=some (.slice none 0 0):=by rw[<-hw5];simp[go_sem,s5]
  have t6:w5.cell? ⟨w.heap.size+1,6,none⟩=some (.int .i64 0):=by rw[<-hw5];simp[go_sem,s6]
  have t7:w5.cell? ⟨w.heap.size+1,7,none⟩=some (.int .i64 0):=by rw[<-hw5];simp[go_sem,s7]
  have t8:w5.cell? ⟨w.heap.size+1,8,none⟩=some (.slice none 0 0):=by rw[<-hw5];simp[go_sem,s8]
  have nf:∀i,w5.frozen? ⟨w.heap.size,i,none⟩=false:=fun i=>by rw[<-hw5];simp[go_sem,mf]
  have tf:∀i,w5.frozen? ⟨w.heap.size+1,i,none⟩=false:=fun i=>by rw[<-hw5];simp[go_sem,sf]
  have x0:w.heap.size<w5.heap.size:=by rw[<-hw5];simpa using v0
  have x1:w.heap.size+1<w5.heap.size:=by rw[<-hw5];simpa using v1
  clear hw5 m0 m1 m2 m3 m4 m5 m6 m7 m8 s0 s1 s2 s3 s4 s5 s6 s7 s8 mf sf v0 v1 HM2 HB2 HK2
  go_wp2
  refine bodyPost_ret (v:=.agg #[.slice (some ⟨p'.bR,0,none⟩) 8 p'.cR,.bool N.z,.bool N.c,.bool N.hz,.bool N.hc,.slice p'.aH N.nH p'.cH,.int .i64 (q+1),.int .i64 0,.slice p'.aO N.nO p'.cO]) (by simp[results,Tryz.results34,go_sem,t0,t1,t2,t3,t4,t5,t6,t7,t8]) rfl ?_
  try simp only[hq]
  rw[HE3.out]
  refine⟨⟨p',?_,?_,?_⟩,?_⟩
  ·unfold mVal
   simp only[e1]
  ·repeat refine Below.setCell ?_ (by simp;omega) _
   exact HB5.out
  ·skip
   refine(fun(q:Mem _ base p' N)=>⟨q.regs,q.heaps,q.data,q.obs,q.ne⟩) ?_
   iterate 9 refine Mem.setOff (M:=N) ?_ HOZ.out _ _
   refine Mem.setOff (M:=N) ?_ HOM.out _ _
   exact HM5.out
  ·repeat refine Kept.new ?_ (by omega) _ _
   exact HK5.out
 ·rw[hq]at e3
  have HE3:Hid _:=e3
  clear e3
  simp only[mVal,e1]
  go_upto_region 22 with fail
  generalize hw5:(((((((((w2.setCell ⟨w.heap.size,0,none⟩ (.slice (some ⟨p'.bR,0,none⟩) 8 p'.cR)).setCell ⟨w.heap.size,1,none⟩ (.bool N.z)).setCell ⟨w.heap.size,2,none⟩ (.bool N.c)).setCell ⟨w.heap.size,3,none⟩ (.bool N.hz)).setCell ⟨w.heap.size,4,none⟩ (.bool N.hc)).setCell ⟨w.heap.size,5,none⟩ (.slice p'.aH N.nH p'.cH)).setCell ⟨w.heap.size,6,none⟩ (.int .i64 N.pc)).setCell ⟨w.heap.size,7,none⟩ (.int .i64 2)).setCell ⟨w.heap.size,8,none⟩ (.slice p'.aO N.nO p'.cO))=w5
  have HM5:Hid (Mem w5 base p' N):=by
   rw[<-hw5]
   iterate 9 refine Mem.setOff (M:=N) ?_ HOM.out _ _
   exact HM2.out
  have HB5:Hid (Below base w w5):=by
   rw[<-hw5]
   iterate 9 refine Below.setCell ?_ (by simp;omega) _
   exact HB2.out
  have HK5:Hid (Kept w w5):=by
   rw[<-hw5]
   iterate 9 refine Kept.new ?_ (Nat.le_refl _) _ _
   exact HK2.out
  have n0:w5.cell? ⟨w.heap.size,0,none⟩=some (.slice (some ⟨p'.bR,0,none⟩) 8 p'.cR):=by rw[<-hw5];simp[go_sem,m0]
  have n1:w5.cell? ⟨w.heap.size,1,none⟩=some (.bool N.z):=by rw[<-hw5];simp[go_sem,m1]
  have n2:w5.cell? ⟨w.heap.size,2,none⟩=some (.bool N.c):=by rw[<-hw5];simp[go_sem,m2]
  have n3:w5.cell? ⟨w.heap.size,3,none⟩=some (.bool N.hz):=by rw[<-hw5];simp[go_sem,m3]
  have n4:w5.cell? ⟨w.heap.size,4,none⟩=some (.bool N.hc):=by rw[<-hw5];simp[go_sem,m4]
  have n5:w5.cell? ⟨w.heap.size,5,none⟩=some (.slice p'.aH N.nH p'.cH):=by rw[<-hw5];simp[go_sem,m5]
  have n6:w5.cell? ⟨w.heap.size,6,none⟩=some (.int .i64 N.pc):=by rw[<-hw5];simp[go_sem,m6]
  have n7:w5.cell? ⟨w.heap.size,7,none⟩=some (.int .i64 2):=by rw[<-hw5];simp[go_sem,m7]
  have n8:w5.cell? ⟨w.heap.size,8,none⟩=some (.slice p'.aO N.nO p'.cO):=by rw[<-hw5];simp[go_sem,m8]
  have t0:w5.cell? ⟨w.heap.size+1,0,none⟩=some (.slice none 0 0):=by rw[<-hw5];simp[go_sem,s0]
  have t1:w5.cell? ⟨w.heap.size+1,1,none⟩=some (.bool false):=by rw[<-hw5];simp[go_sem,s1]
  have t2:w5.cell? ⟨w.heap.size+1,2,none⟩=some (.bool false):=by rw[<-hw5];simp[go_sem,s2]
  have t3:w5.cell? ⟨w.heap.size+1,3,none⟩=some (.bool false):=by rw[<-hw5];simp[go_sem,s3]
  have t4:w5.cell? ⟨w.heap.size+1,4,none⟩=some (.bool false):=by rw[<-hw5];simp[go_sem,s4]
  have t5:w5.cell? ⟨w.heap.size+1,5,none⟩=some (.slice none 0 0):=by rw[<-hw5];simp[go_sem,s5]
  have t6:w5.cell? ⟨w.heap.size+1,6,none⟩=some (.int .i64 0):=by rw[<-hw5];simp[go_sem,s6]
  have t7:w5.cell? ⟨w.heap.size+1,7,none⟩=some (.int .i64 0):=by rw[<-hw5];simp[go_sem,s7]
  have t8:w5.cell? ⟨w.heap.size+1,8,none⟩=some (.slice none 0 0):=by rw[<-hw5];simp[go_sem,s8]
  have nf:∀i,w5.frozen? ⟨w.heap.size,i,none⟩=false:=fun i=>by rw[<-hw5];simp[go_sem,mf]
  have tf:∀i,w5.frozen? ⟨w.heap.size+1,i,none⟩=false:=fun i=>by rw[<-hw5];simp[go_sem,sf]
  have x0:w.heap.size<w5.heap.size:=by rw[<-hw5];simpa using v0
  have x1:w.heap.size+1<w5.heap.size:=by rw[<-hw5];simpa using v1
  clear hw5 m0 m1 m2 m3 m4 m5 m6 m7 m8 s0 s1 s2 s3 s4 s5 s6 s7 s8 mf sf v0 v1 HM2 HB2 HK2
  go_wp2
  refine bodyPost_ret (v:=.agg #[.slice (some ⟨p'.bR,0,none⟩) 8 p'.cR,.bool N.z,.bool N.c,.bool N.hz,.bool N.hc,.slice p'.aH N.nH p'.cH,.int .i64 N.pc,.int .i64 2,.slice p'.aO N.nO p'.cO]) (by simp[results,Tryz.results34,go_sem,t0,t1,t2,t3,t4,t5,t6,t7,t8]) rfl ?_
  try simp only[hq]
  rw[HE3.out]
  refine⟨⟨p',?_,?_,?_⟩,?_⟩
  ·unfold mVal
   simp only[e1]
  ·repeat refine Below.setCell ?_ (by simp;omega) _
   exact HB5.out
  ·skip
   iterate 9 refine Mem.setOff (M:=N) ?_ HOZ.out _ _
   exact HM5.out
  ·repeat refine Kept.new ?_ (by omega) _ _
   exact HK5.out
theorem l1Step_any(hdo:DoAny)(h0:Mem w base p M)(hk:M.Ok)(hn:M.nO<=1048576)(pc0:0<=M.pc)(b off len cap:Nat)(F:Nat->Nat->Int)(hat:At w b off (len*6) (insF F))(hf:flatOK len F=true):
 Calls Tryz.prog 34 #[.slice (some ⟨b,off,none⟩) len cap,mVal p M] w (DidK base w (if M.st=0 then stepM len F M else M)):=by
 by_cases hst:M.st=0
 ·rw[if_pos hst]
  by_cases hpc:(len:Int)<=M.pc
  ·have he:stepM len F M=M.fault:=by unfold stepM;rw[if_pos hpc]
   have:=sstep_out h0 (some ⟨b,off,none⟩) len cap hpc;rw[he];unfold mVal;rw[hst];exact this
  ·obtain⟨q,hq⟩:=Int.eq_ofNat_of_zero_le pc0
   have hql:q<len:=by omega
   have hl:len<=2000/\insOK F q=true:=by
    unfold flatOK at hf;simp only[Bool.and_eq_true,decide_eq_true_eq,List.all_eq_true,List.mem_range]at hf;refine⟨by omega,?_⟩;have:=hf.1.2 q hql;unfold flatAt at this;simp only[Bool.and_eq_true]at this;exact this.1
   obtain⟨hl,hi⟩:=hl;unfold insOK at hi;have hs:=fun ho=>ins_shift hi ho
   obtain⟨⟨a1,a2⟩,⟨d1,d2⟩,⟨x1,x2⟩,⟨y1,y2⟩,⟨z1,z2⟩⟩:=ins_range hi;obtain⟨op,f0⟩:=Int.eq_ofNat_of_zero_le (show 0<=F q 0 by omega);obtain⟨d,f1⟩:=Int.eq_ofNat_of_zero_le d1;obtain⟨a,f2⟩:=Int.eq_ofNat_of_zero_le x1;obtain⟨b',f3⟩:=Int.eq_ofNat_of_zero_le y1;obtain⟨h,f5⟩:=Int.eq_ofNat_of_zero_le z1;have hsh:(op=12∨op=13)->0<=F q 4/\F q 4<=63:=fun ho=>hs (by omega)
   rw[stepM_in len F M hpc,show M.pc.toNat=q by omega,f0,f1,f2,f3,f5,Int.toNat_natCast,Int.toNat_natCast,Int.toNat_natCast,Int.toNat_natCast,Int.toNat_natCast];have hV:mVal p M=.agg #[.slice (some ⟨p.bR,0,none⟩) 8 p.cR,.bool M.z,.bool M.c,.bool M.hz,.bool M.hc,.slice p.aH M.nH p.cH,.int .i64 q,.int .i64 0,.slice p.aO M.nO p.cO]:=by unfold mVal;rw[hq,hst]
   rw[hV];by_cases ho:op<=28
   ·exact sstep_do h0 hdo hk hn b off len cap q F hq hst hql hl hat op d a b' h (F q 4) f0 f1 f2 f3 rfl f5 (by omega) ho (by omega) (by omega) (by omega) hsh
   ·have hc:op=29∨op=30∨op=31∨op=32∨op=33∨op=34:=by omega
    rcases hc with rfl|rfl|rfl|rfl|rfl|rfl
    ·exact sstep_29 h0 b off len cap q F hq hst hql hl hat d a b' h (F q 4) f0 f1 f2 f3 rfl f5
    ·exact sstep_jz h0 _ _ _ _ true rfl rfl rfl rfl hn b off len cap q F hq hst hql hl hat 30 d a b' h (F q 4) f0 f1 f2 f3 rfl f5 (by decide)
    ·exact sstep_jz h0 _ _ _ _ false rfl rfl rfl rfl hn b off len cap q F hq hst hql hl hat 31 d a b' h (F q 4) f0 f1 f2 f3 rfl f5 (by decide)
    ·exact sstep_jc h0 _ _ _ _ true rfl rfl rfl rfl hn b off len cap q F hq hst hql hl hat 32 d a b' h (F q 4) f0 f1 f2 f3 rfl f5 (by decide)
    ·exact sstep_jc h0 _ _ _ _ false rfl rfl rfl rfl hn b off len cap q F hq hst hql hl hat 33 d a b' h (F q 4) f0 f1 f2 f3 rfl f5 (by decide)
    ·exact sstep_34 h0 b off len cap q F hq hst hql hl hat d a b' h (F q 4) f0 f1 f2 f3 rfl f5
 ·rw[if_neg hst]
  exact sstep_stay h0 hst _ len cap
end
end Go.Proofs.YtpbceodheeepoaaGreat
