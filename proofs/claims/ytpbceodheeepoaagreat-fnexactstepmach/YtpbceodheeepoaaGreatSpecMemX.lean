import Derived.Test.YtpbceodheeepoaaGreatSpecRestL
import Derived.Test.YtpbceodheeepoaaGreatSpecRestS
set_option maxHeartbeats 40000000
set_option maxRecDepth 1000000
namespace Go.Proofs.YtpbceodheeepoaaGreat
open Go.RowKit
section
variable{w:World}{base:Nat}{p:Pl}{M:MV}
theorem mem_x_ld(h0:Mem w base p M)(hk:M.Ok)(kk d a b h:Nat)(imm:Int)(hd:d<8)(ha:a<8)(hb:b<8)(hn:M.nO<=1048576)(hop:kk=25∨kk=26):
 Calls Tryz.prog 127 #[.agg #[.slice (some ⟨p.bR,0,none⟩) 8 p.cR,.bool M.z,.bool M.c,.bool M.hz,.bool M.hc,.slice p.aH M.nH p.cH,.int .i64 M.pc,.int .i64 M.st,.slice p.aO M.nO p.cO],.agg #[.int .i64 kk,.int .i64 d,.int .i64 a,.int .i64 b,.int .i64 imm,.int .i64 h]] w fun e w'=>Did base w (doM kk d a b h imm M) e w'/\∀k,k<w.heap.size->Off p M.nH M.nO k->w'.heap[k]?=w.heap[k]?:=by
 have hd':(d:Int)<8:=by omega
 have ha':(a:Int)<8:=by omega
 have hb':(b:Int)<8:=by omega
 have ra:=h0.reg ha;have rb:=h0.reg hb;have rd:=h0.reg hd;have fd:=h0.freeR d;have zR:=h0.ltR.2;have pa:=hk.reg a ha;have pb:=hk.reg b hb;obtain⟨pa0,pa1⟩:=pa;obtain⟨pb0,pb1⟩:=pb;have HHP:Hid (∀i,i<M.nH->0<=(M.Hp i).base/\1<=(M.Hp i).len/\(M.Hp i).len<=4096/\(M.Hp i).base+(M.Hp i).len<=18446744073709551615):=hk.heap;have HDT:Hid (∀i,i<M.nH->∀j,j<(M.Hp i).len->0<=(M.Hp i).dat j/\(M.Hp i).dat j<=255):=hk.dat;have pd:=hk.reg d hd;obtain⟨pd0,pd1⟩:=pd;have H0:Hid (Mem w base p M):=h0;have HK:Hid M.Ok:=hk;clear h0 hk;go_enter Tryz.func127,Tryz.ntmps127;go_upto_region 1 with fail;generalize hw0:((w.alloc (.cells #[.slice (some ⟨p.bR,0,none⟩) 8 p.cR,.bool M.z,.bool M.c,.bool M.hz,.bool M.hc,.slice p.aH M.nH p.cH,.int .i64 M.pc,.int .i64 M.st,.slice p.aO M.nO p.cO] 28)).alloc (.cells #[.int .i64 kk,.int .i64 d,.int .i64 a,.int .i64 b,.int .i64 imm,.int .i64 h] 73)).alloc (.cells #[.slice none 0 0,.bool false,.bool false,.bool false,.bool false,.slice none 0 0,.int .i64 0,.int .i64 0,.slice none 0 0] 28)=w0;have b0:Below w.heap.size w w0:=by rw[<-hw0];exact(((Below.refl _ _).alloc (Nat.le_refl _) _).alloc (by simp) _).alloc (by simp;omega) _
 have z0:w0.heap.size=w.heap.size+3:=by rw[<-hw0];simp
 have XM:w0.ownsRow w.heap.size 28 9 (.slice (some ⟨w.heap.size,0,none⟩) 1 1) 1 [.slice (some ⟨p.bR,0,none⟩) 8 p.cR,.bool M.z,.bool M.c,.bool M.hz,.bool M.hc,.slice p.aH M.nH p.cH,.int .i64 M.pc,.int .i64 M.st,.slice p.aO M.nO p.cO]:=by rw[<-hw0];exact((World.ownsRow_lit w #[.slice (some ⟨p.bR,0,none⟩) 8 p.cR,.bool M.z,.bool M.c,.bool M.hz,.bool M.hc,.slice p.aH M.nH p.cH,.int .i64 M.pc,.int .i64 M.st,.slice p.aO M.nO p.cO] 1 (Nat.le_refl _) (by unfold maxLen;omega) rfl).alloc _).alloc _
 have XI:w0.ownsRow w.heap.size 73 6 (.slice (some ⟨w.heap.size+1,0,none⟩) 1 1) 1 [.int .i64 kk,.int .i64 d,.int .i64 a,.int .i64 b,.int .i64 imm,.int .i64 h]:=by
  rw[<-hw0];have:=(World.ownsRow_lit (base:=w.heap.size) (e:=73) (size:=6) (w.alloc (.cells #[.slice (some ⟨p.bR,0,none⟩) 8 p.cR,.bool M.z,.bool M.c,.bool M.hz,.bool M.hc,.slice p.aH M.nH p.cH,.int .i64 M.pc,.int .i64 M.st,.slice p.aO M.nO p.cO] 28)) #[.int .i64 kk,.int .i64 d,.int .i64 a,.int .i64 b,.int .i64 imm,.int .i64 h] 1 (by simp) (by unfold maxLen;omega) rfl).alloc (.cells #[.slice none 0 0,.bool false,.bool false,.bool false,.bool false,.slice none 0 0,.int .i64 0,.int .i64 0,.slice none 0 0] 28);rw[World.size_alloc]at this;exact this
 have XZ:w0.ownsRow w.heap.size 28 9 (.slice (some ⟨w.heap.size+1+1,0,none⟩) 1 1) 1 [.slice none 0 0,.bool false,.bool false,.bool false,.bool false,.slice none 0 0,.int .i64 0,.int .i64 0,.slice none 0 0]:=by
  rw[<-hw0];have:=World.ownsRow_lit (base:=w.heap.size) (e:=28) (size:=9) ((w.alloc (.cells #[.slice (some ⟨p.bR,0,none⟩) 8 p.cR,.bool M.z,.bool M.c,.bool M.hz,.bool M.hc,.slice p.aH M.nH p.cH,.int .i64 M.pc,.int .i64 M.st,.slice p.aO M.nO p.cO] 28)).alloc (.cells #[.int .i64 kk,.int .i64 d,.int .i64 a,.int .i64 b,.int .i64 imm,.int .i64 h] 73)) #[.slice none 0 0,.bool false,.bool false,.bool false,.bool false,.slice none 0 0,.int .i64 0,.int .i64 0,.slice none 0 0] 1 (by simp;omega) (by unfold maxLen;omega) rfl;rw[World.size_alloc,World.size_alloc]at this;exact this
 obtain⟨m0,m1,m2,m3,m4,m5,m6,m7,m8⟩:=cells9 XM;obtain⟨i0,i1,i2,i3,i4,i5⟩:=cells6 XI;obtain⟨s0,s1,s2,s3,s4,s5,s6,s7,s8⟩:=cells9 XZ;have mf:∀i,w0.frozen? ⟨w.heap.size,i,none⟩=false:=fun i=>XM.frozenAt i
 have sf:∀i,w0.frozen? ⟨w.heap.size+1+1,i,none⟩=false:=fun i=>XZ.frozenAt i
 have ra0:=(b0.cell (p:=⟨p.bR,a,none⟩) zR).trans ra;have rb0:=(b0.cell (p:=⟨p.bR,b,none⟩) zR).trans rb;have rd0:=(b0.cell (p:=⟨p.bR,d,none⟩) zR).trans rd;have fd0:=(b0.frozen (p:=⟨p.bR,d,none⟩) zR).trans fd;have zR0:p.bR<w0.heap.size:=by omega
 have y0:w.heap.size<w0.heap.size:=by omega
 have y1:w.heap.size+1<w0.heap.size:=by omega
 have y2:w.heap.size+1+1<w0.heap.size:=by omega
 have n0:p.bR≠w.heap.size:=by omega
 have n1:p.bR≠w.heap.size+1:=by omega
 have n2:p.bR≠w.heap.size+1+1:=by omega
 have HB0:Hid (Below w.heap.size w w0):=b0;have HXM:Hid (w0.ownsRow w.heap.size 28 9 (.slice (some ⟨w.heap.size,0,none⟩) 1 1) 1 [.slice (some ⟨p.bR,0,none⟩) 8 p.cR,.bool M.z,.bool M.c,.bool M.hz,.bool M.hc,.slice p.aH M.nH p.cH,.int .i64 M.pc,.int .i64 M.st,.slice p.aO M.nO p.cO]):=XM;have HXZ:Hid (w0.ownsRow w.heap.size 28 9 (.slice (some ⟨w.heap.size+1+1,0,none⟩) 1 1) 1 [.slice none 0 0,.bool false,.bool false,.bool false,.bool false,.slice none 0 0,.int .i64 0,.int .i64 0,.slice none 0 0]):=XZ;have HXI:Hid (w0.ownsRow w.heap.size 73 6 (.slice (some ⟨w.heap.size+1,0,none⟩) 1 1) 1 [.int .i64 kk,.int .i64 d,.int .i64 a,.int .i64 b,.int .i64 imm,.int .i64 h]):=XI;have HZ0:Hid (w0.heap.size=w.heap.size+3):=z0;clear hw0 b0 XM XI XZ z0 ra rb rd fd;go_wp2_with fail;go_cut [5]from 12(fun s5 wx=>s5=.int .u64 (IntKind.u64.wrap (M.R a+IntKind.u64.wrap imm))/\wx=w0.drew)
 case first=>
  go_region;all_goals
   go_wp2_with fail;go_meet;exact⟨rfl,rfl⟩
 case rest=>
 obtain⟨rfl,rfl⟩:=hcut;have h25:(25:Int)<=kk:=by omega
 go_upto_region 3 with fail;go_cut [5]from 12(fun s5 wx=>s5=.int .u64 (IntKind.u64.wrap (M.R a+M.R b))/\wx=w0.drew.drew)
 case first=>
  go_region;all_goals
   go_wp2_with fail;go_meet;exact⟨rfl,rfl⟩
 case rest=>
 obtain⟨rfl,rfl⟩:=hcut;have hA:=wrap_range (M.R a+M.R b);have HE:Hid (∀k2,kk=k2->doM kk d a b h imm M=doM k2 d a b h imm M):=fun _ e=>by rw[e]
 generalize hAA:IntKind.u64.wrap (M.R a+M.R b)=A at hA⊢;have HAA:Hid (IntKind.u64.wrap (M.R a+M.R b)=A):=hAA;obtain⟨hA0,hA1⟩:=hA;clear hAA;rcases hop with rfl|rfl
 ·go_upto_region 7 with fail
  go_cut [7]from 12(fun s7 wx=>s7=.bool false/\wx=w0.drew.drew)
  case first=>
   go_wp2_with fail;go_meet;exact⟨rfl,rfl⟩
  case rest=>
  obtain⟨rfl,rfl⟩:=hcut;refine(by assumption:∀(a_1:Act)(w_1:World),_->_) _ _ ?_;exact rest_ld H0.out HK.out _ 1 d a b h imm hd ha hb hn _ A (by rw[<-HAA.out];rfl) hA0 hA1 (by decide) (by decide) HB0.out HZ0.out HXM.out HXI.out HXZ.out (Below.refl _ _).drew.drew rfl _ _ _ _ _ _ _ _ _ _ _ _ _ _ _ _ _ _ _ _ _ _ _ _ _ _ _ _ _ _ _ _ _ _ _ _ _ _ _ _ _ _ _ _ _ _ _ _ _ _ _ _ _ _ _ _ _ _ _ _ _ _ _ _ _ _ _ _ _ _ _ _ _ _ _ _ _ _ _ _ _ _ _ _ _ _ _ _ _ _ _ _ _ _ _ _ _ _ _ _ _ _ _ _ _ _ _ _ _ _ _ _ _ _ _ _ _ _ _ _ _ _ _ _ _ _ _ _ _ _ _ _ _ _ _ _ _ _ _ _ _ _ _ _ _ _ _ _ _ _ _ _ _ _ _ _ _ _ _ _ _ _ _ _ _
 ·go_upto_region 7 with fail
  go_cut [7]from 12(fun s7 wx=>s7=.bool false/\wx=w0.drew.drew)
  case first=>
   go_wp2_with fail;go_meet;exact⟨rfl,rfl⟩
  case rest=>
  obtain⟨rfl,rfl⟩:=hcut;refine(by assumption:∀(a_1:Act)(w_1:World),_->_) _ _ ?_;exact rest_ld H0.out HK.out _ 8 d a b h imm hd ha hb hn _ A (by rw[<-HAA.out];rfl) hA0 hA1 (by decide) (by decide) HB0.out HZ0.out HXM.out HXI.out HXZ.out (Below.refl _ _).drew.drew rfl _ _ _ _ _ _ _ _ _ _ _ _ _ _ _ _ _ _ _ _ _ _ _ _ _ _ _ _ _ _ _ _ _ _ _ _ _ _ _ _ _ _ _ _ _ _ _ _ _ _ _ _ _ _ _ _ _ _ _ _ _ _ _ _ _ _ _ _ _ _ _ _ _ _ _ _ _ _ _ _ _ _ _ _ _ _ _ _ _ _ _ _ _ _ _ _ _ _ _ _ _ _ _ _ _ _ _ _ _ _ _ _ _ _ _ _ _ _ _ _ _ _ _ _ _ _ _ _ _ _ _ _ _ _ _ _ _ _ _ _ _ _ _ _ _ _ _ _ _ _ _ _ _ _ _ _ _ _ _ _ _ _ _ _ _
theorem mem_x_st(h0:Mem w base p M)(hk:M.Ok)(kk d a b h:Nat)(imm:Int)(hd:d<8)(ha:a<8)(hb:b<8)(hn:M.nO<=1048576)(hop:kk=27∨kk=28):
 Calls Tryz.prog 127 #[.agg #[.slice (some ⟨p.bR,0,none⟩) 8 p.cR,.bool M.z,.bool M.c,.bool M.hz,.bool M.hc,.slice p.aH M.nH p.cH,.int .i64 M.pc,.int .i64 M.st,.slice p.aO M.nO p.cO],.agg #[.int .i64 kk,.int .i64 d,.int .i64 a,.int .i64 b,.int .i64 imm,.int .i64 h]] w fun e w'=>Did base w (doM kk d a b h imm M) e w'/\∀k,k<w.heap.size->Off p M.nH M.nO k->w'.heap[k]?=w.heap[k]?:=by
 have hd':(d:Int)<8:=by omega
 have ha':(a:Int)<8:=by omega
 have hb':(b:Int)<8:=by omega
 have ra:=h0.reg ha;have rb:=h0.reg hb;have rd:=h0.reg hd;have fd:=h0.freeR d;have zR:=h0.ltR.2;have pa:=hk.reg a ha;have pb:=hk.reg b hb;obtain⟨pa0,pa1⟩:=pa;obtain⟨pb0,pb1⟩:=pb;have HHP:Hid (∀i,i<M.nH->0<=(M.Hp i).base/\1<=(M.Hp i).len/\(M.Hp i).len<=4096/\(M.Hp i).base+(M.Hp i).len<=18446744073709551615):=hk.heap;have HDT:Hid (∀i,i<M.nH->∀j,j<(M.Hp i).len->0<=(M.Hp i).dat j/\(M.Hp i).dat j<=255):=hk.dat;have pd:=hk.reg d hd;obtain⟨pd0,pd1⟩:=pd;have H0:Hid (Mem w base p M):=h0;have HK:Hid M.Ok:=hk;clear h0 hk;go_enter Tryz.func127,Tryz.ntmps127;go_upto_region 1 with fail;generalize hw0:((w.alloc (.cells #[.slice (some ⟨p.bR,0,none⟩) 8 p.cR,.bool M.z,.bool M.c,.bool M.hz,.bool M.hc,.slice p.aH M.nH p.cH,.int .i64 M.pc,.int .i64 M.st,.slice p.aO M.nO p.cO] 28)).alloc (.cells #[.int .i64 kk,.int .i64 d,.int .i64 a,.int .i64 b,.int .i64 imm,.int .i64 h] 73)).alloc (.cells #[.slice none 0 0,.bool false,.bool false,.bool false,.bool false,.slice none 0 0,.int .i64 0,.int .i64 0,.slice none 0 0] 28)=w0;have b0:Below w.heap.size w w0:=by rw[<-hw0];exact(((Below.refl _ _).alloc (Nat.le_refl _) _).alloc (by simp) _).alloc (by simp;omega) _
 have z0:w0.heap.size=w.heap.size+3:=by rw[<-hw0];simp
 have XM:w0.ownsRow w.heap.size 28 9 (.slice (some ⟨w.heap.size,0,none⟩) 1 1) 1 [.slice (some ⟨p.bR,0,none⟩) 8 p.cR,.bool M.z,.bool M.c,.bool M.hz,.bool M.hc,.slice p.aH M.nH p.cH,.int .i64 M.pc,.int .i64 M.st,.slice p.aO M.nO p.cO]:=by rw[<-hw0];exact((World.ownsRow_lit w #[.slice (some ⟨p.bR,0,none⟩) 8 p.cR,.bool M.z,.bool M.c,.bool M.hz,.bool M.hc,.slice p.aH M.nH p.cH,.int .i64 M.pc,.int .i64 M.st,.slice p.aO M.nO p.cO] 1 (Nat.le_refl _) (by unfold maxLen;omega) rfl).alloc _).alloc _
 have XI:w0.ownsRow w.heap.size 73 6 (.slice (some ⟨w.heap.size+1,0,none⟩) 1 1) 1 [.int .i64 kk,.int .i64 d,.int .i64 a,.int .i64 b,.int .i64 imm,.int .i64 h]:=by
  rw[<-hw0];have:=(World.ownsRow_lit (base:=w.heap.size) (e:=73) (size:=6) (w.alloc (.cells #[.slice (some ⟨p.bR,0,none⟩) 8 p.cR,.bool M.z,.bool M.c,.bool M.hz,.bool M.hc,.slice p.aH M.nH p.cH,.int .i64 M.pc,.int .i64 M.st,.slice p.aO M.nO p.cO] 28)) #[.int .i64 kk,.int .i64 d,.int .i64 a,.int .i64 b,.int .i64 imm,.int .i64 h] 1 (by simp) (by unfold maxLen;omega) rfl).alloc (.cells #[.slice none 0 0,.bool false,.bool false,.bool false,.bool false,.slice none 0 0,.int .i64 0,.int .i64 0,.slice none 0 0] 28);rw[World.size_alloc]at this;exact this
 have XZ:w0.ownsRow w.heap.size 28 9 (.slice (some ⟨w.heap.size+1+1,0,none⟩) 1 1) 1 [.slice none 0 0,.bool false,.bool false,.bool false,.bool false,.slice none 0 0,.int .i64 0,.int .i64 0,.slice none 0 0]:=by
  rw[<-hw0];have:=World.ownsRow_lit (base:=w.heap.size) (e:=28) (size:=9) ((w.alloc (.cells #[.slice (some ⟨p.bR,0,none⟩) 8 p.cR,.bool M.z,.bool M.c,.bool M.hz,.bool M.hc,.slice p.aH M.nH p.cH,.int .i64 M.pc,.int .i64 M.st,.slice p.aO M.nO p.cO] 28)).alloc (.cells #[.int .i64 kk,.int .i64 d,.int .i64 a,.int .i64 b,.int .i64 imm,.int .i64 h] 73)) #[.slice none 0 0,.bool false,.bool false,.bool false,.bool false,.slice none 0 0,.int .i64 0,.int .i64 0,.slice none 0 0] 1 (by simp;omega) (by unfold maxLen;omega) rfl;rw[World.size_alloc,World.size_alloc]at this;exact this
 obtain⟨m0,m1,m2,m3,m4,m5,m6,m7,m8⟩:=cells9 XM;obtain⟨i0,i1,i2,i3,i4,i5⟩:=cells6 XI;obtain⟨s0,s1,s2,s3,s4,s5,s6,s7,s8⟩:=cells9 XZ;have mf:∀i,w0.frozen? ⟨w.heap.size,i,none⟩=false:=fun i=>XM.frozenAt i
 have sf:∀i,w0.frozen? ⟨w.heap.size+1+1,i,none⟩=false:=fun i=>XZ.frozenAt i
 have ra0:=(b0.cell (p:=⟨p.bR,a,none⟩) zR).trans ra;have rb0:=(b0.cell (p:=⟨p.bR,b,none⟩) zR).trans rb;have rd0:=(b0.cell (p:=⟨p.bR,d,none⟩) zR).trans rd;have fd0:=(b0.frozen (p:=⟨p.bR,d,none⟩) zR).trans fd;have zR0:p.bR<w0.heap.size:=by omega
 have y0:w.heap.size<w0.heap.size:=by omega
 have y1:w.heap.size+1<w0.heap.size:=by omega
 have y2:w.heap.size+1+1<w0.heap.size:=by omega
 have n0:p.bR≠w.heap.size:=by omega
 have n1:p.bR≠w.heap.size+1:=by omega
 have n2:p.bR≠w.heap.size+1+1:=by omega
 have HB0:Hid (Below w.heap.size w w0):=b0;have HXM:Hid (w0.ownsRow w.heap.size 28 9 (.slice (some ⟨w.heap.size,0,none⟩) 1 1) 1 [.slice (some ⟨p.bR,0,none⟩) 8 p.cR,.bool M.z,.bool M.c,.bool M.hz,.bool M.hc,.slice p.aH M.nH p.cH,.int .i64 M.pc,.int .i64 M.st,.slice p.aO M.nO p.cO]):=XM;have HXZ:Hid (w0.ownsRow w.heap.size 28 9 (.slice (some ⟨w.heap.size+1+1,0,none⟩) 1 1) 1 [.slice none 0 0,.bool false,.bool false,.bool false,.bool false,.slice none 0 0,.int .i64 0,.int .i64 0,.slice none 0 0]):=XZ;have HXI:Hid (w0.ownsRow w.heap.size 73 6 (.slice (some ⟨w.heap.size+1,0,none⟩) 1 1) 1 [.int .i64 kk,.int .i64 d,.int .i64 a,.int .i64 b,.int .i64 imm,.int .i64 h]):=XI;have HZ0:Hid (w0.heap.size=w.heap.size+3):=z0;clear hw0 b0 XM XI XZ z0 ra rb rd fd;go_wp2_with fail;go_cut [5]from 12(fun s5 wx=>s5=.int .u64 (IntKind.u64.wrap (M.R a+IntKind.u64.wrap imm))/\wx=w0.drew)
 case first=>
  go_region;all_goals
   go_wp2_with fail;go_meet;exact⟨rfl,rfl⟩
 case rest=>
 obtain⟨rfl,rfl⟩:=hcut;have h25:(25:Int)<=kk:=by omega
 go_upto_region 3 with fail;go_cut [5]from 12(fun s5 wx=>s5=.int .u64 (IntKind.u64.wrap (M.R a+M.R b))/\wx=w0.drew.drew)
 case first=>
  go_region;all_goals
   go_wp2_with fail;go_meet;exact⟨rfl,rfl⟩
 case rest=>
 obtain⟨rfl,rfl⟩:=hcut;have hA:=wrap_range (M.R a+M.R b);have HE:Hid (∀k2,kk=k2->doM kk d a b h imm M=doM k2 d a b h imm M):=fun _ e=>by rw[e]
 generalize hAA:IntKind.u64.wrap (M.R a+M.R b)=A at hA⊢;have HAA:Hid (IntKind.u64.wrap (M.R a+M.R b)=A):=hAA;obtain⟨hA0,hA1⟩:=hA;clear hAA;rcases hop with rfl|rfl
 ·go_upto_region 7 with fail
  go_cut [7]from 12(fun s7 wx=>s7=.bool true/\wx=w0.drew.drew)
  case first=>
   go_wp2_with fail;go_meet;exact⟨rfl,rfl⟩
  case rest=>
  obtain⟨rfl,rfl⟩:=hcut;refine(by assumption:∀(a_1:Act)(w_1:World),_->_) _ _ ?_;exact rest_st H0.out HK.out _ 1 d a b h imm hd ha hb hn _ A (by rw[<-HAA.out];rfl) hA0 hA1 (by decide) (by decide) HB0.out HZ0.out HXM.out HXI.out HXZ.out (Below.refl _ _).drew.drew rfl _ _ _ _ _ _ _ _ _ _ _ _ _ _ _ _ _ _ _ _ _ _ _ _ _ _ _ _ _ _ _ _ _ _ _ _ _ _ _ _ _ _ _ _ _ _ _ _ _ _ _ _ _ _ _ _ _ _ _ _ _ _ _ _ _ _ _ _ _ _ _ _ _ _ _ _ _ _ _ _ _ _ _ _ _ _ _ _ _ _ _ _ _ _ _ _ _ _ _ _ _ _ _ _ _ _ _ _ _ _ _ _ _ _ _ _ _ _ _ _ _ _ _ _ _ _ _ _ _ _ _ _ _ _ _ _ _ _ _ _ _ _ _ _ _ _ _ _ _ _ _ _ _ _ _ _ _ _ _ _ _ _ _ _ _
 ·go_upto_region 7 with fail
  go_cut [7]from 12(fun s7 wx=>s7=.bool true/\wx=w0.drew.drew)
  case first=>
   go_wp2_with fail;go_meet;exact⟨rfl,rfl⟩
  case rest=>
  obtain⟨rfl,rfl⟩:=hcut;refine(by assumption:∀(a_1:Act)(w_1:World),_->_) _ _ ?_;exact rest_st H0.out HK.out _ 8 d a b h imm hd ha hb hn _ A (by rw[<-HAA.out];rfl) hA0 hA1 (by decide) (by decide) HB0.out HZ0.out HXM.out HXI.out HXZ.out (Below.refl _ _).drew.drew rfl _ _ _ _ _ _ _ _ _ _ _ _ _ _ _ _ _ _ _ _ _ _ _ _ _ _ _ _ _ _ _ _ _ _ _ _ _ _ _ _ _ _ _ _ _ _ _ _ _ _ _ _ _ _ _ _ _ _ _ _ _ _ _ _ _ _ _ _ _ _ _ _ _ _ _ _ _ _ _ _ _ _ _ _ _ _ _ _ _ _ _ _ _ _ _ _ _ _ _ _ _ _ _ _ _ _ _ _ _ _ _ _ _ _ _ _ _ _ _ _ _ _ _ _ _ _ _ _ _ _ _ _ _ _ _ _ _ _ _ _ _ _ _ _ _ _ _ _ _ _ _ _ _ _ _ _ _ _ _ _ _ _ _ _ _
end
end Go.Proofs.YtpbceodheeepoaaGreat
