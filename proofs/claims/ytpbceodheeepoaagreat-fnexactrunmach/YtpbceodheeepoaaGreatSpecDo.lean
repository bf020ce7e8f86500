import Derived.Test.YtpbceodheeepoaaGreatOfStepImpl
import Derived.Deep.Cut
set_option maxHeartbeats 4000000
set_option maxRecDepth 20000
namespace Go.Proofs.YtpbceodheeepoaaGreat
open Go.RowKit
def doM(op d a b h:Nat)(imm:Int)(M:MV):MV:=match exec op d a b h imm M 0 with
 |.inl (M',_)=>M'
 |.inr M'=>M'.fault
section
variable{w:World}{base:Nat}{p:Pl}{M:MV}
def Did(base:Nat)(w:World)(M':MV)(e:Ending)(w':World):Prop:=∃p',e=.returned (mVal p' M')/\Below base w w'/\Mem w' base p' M'
def Kept(w w':World):Prop:=∀(k:Nat)(cur:Array Value)(ty:Nat)(fr:Nat×Nat),w.heap[k]?=some (.cells cur ty fr)->ty≠67->ty≠69->ty≠5->ty≠77->w'.heap[k]?=w.heap[k]?
theorem Kept.lt{w:World}{k:Nat}{b:Obj}(h:w.heap[k]?=some b):k<w.heap.size:=(Array.getElem?_eq_some_iff.1 h).1
theorem row_ty{w:World}{base e size n k:Nat}{v:Value}{xs:List Value}(h:w.ownsRow base e size v n xs)(hk:v.ownBlock=some k):∃cur,w.heap[k]?=some (.cells cur e (0,0)):=by
 rcases h.2 with hn|⟨g,cap,cur,hv,h1,hg,rest⟩
 ·rw[hn.1]at hk;cases hk
 ·rw[hv]at hk
  have:g=k:=by simpa[Value.ownBlock]using hk
  subst this;exact⟨cur,hg⟩
theorem row_not{w:World}{base e size n k:Nat}{v:Value}{xs:List Value}(h:w.ownsRow base e size v n xs){cur:Array Value}{ty:Nat}{fr:Nat×Nat}(hk:w.heap[k]?=some (.cells cur ty fr))(hne:ty≠e):v.ownBlock≠some k:=fun q=>by
 obtain⟨c',hc⟩:=row_ty h q;rw[hk]at hc;simp only[Option.some.injEq,Obj.cells.injEq]at hc;exact hne hc.2.1
def DidK(base:Nat)(w:World)(M':MV)(e:Ending)(w':World):Prop:=Did base w M' e w'/\Kept w w'
theorem Kept.below{w w':World}(hB:Below w.heap.size w w'):Kept w w':=fun k _ _ _ hk _ _ _ _=>hB.block k (Kept.lt hk)
theorem Kept.set{w w':World}{base:Nat}{p:Pl}{M:MV}(h:Mem w base p M)(d:Nat)(v:Int)(hB:Below w.heap.size (w.setCell ⟨p.bR,d,none⟩ (.int .u64 v)) w'):Kept w w':=fun k cur ty fr hk h1 _ _ _=>by
 have hne:k≠p.bR:=fun q=>row_not h.regs hk h1 (by rw[q];rfl)
 exact(hB.block k (Kept.lt hk)).trans (heap_setCell_other _ _ _ _ hne)
theorem Mem.ltR(h:Mem w base p M):base<=p.bR/\p.bR<w.heap.size:=h.regs.lt p.bR rfl
theorem Mem.reg(h:Mem w base p M){i:Nat}(hi:i<8):w.cell? ⟨p.bR,i,none⟩=some (.int .u64 (M.R i)):=by
 rw[h.regs.cellAt i (by omega),first_at hi];rfl
theorem Mem.freeR(h:Mem w base p M)(i:Nat):w.frozen? ⟨p.bR,i,none⟩=false:=h.regs.frozenAt i
theorem Did.set{w w':World}{base:Nat}{p:Pl}{M:MV}(h:Mem w base p M)(d:Nat)(v:Int)(hB:Below w.heap.size (w.setCell ⟨p.bR,d,none⟩ (.int .u64 v)) w'):Did base w (M.setR d v) (.returned (mVal p (M.setR d v))) w':=
 ⟨p,rfl,((Below.refl _ _).setCell (by simpa using h.ltR.1) _).trans (hB.mono (Nat.le_of_lt (Nat.lt_of_le_of_lt h.ltR.1 h.ltR.2))),(h.setR d v).below (by simpa using hB)⟩
theorem Mem.flagged(h:Mem w base p M)(r:Int)(k:Bool):Mem w base p (M.flags r k):=⟨h.regs,h.heaps,h.data,h.obs,h.ne⟩
theorem Mem.faulted(h:Mem w base p M):Mem w base p M.fault:=⟨h.regs,h.heaps,h.data,h.obs,h.ne⟩
theorem Did.stay{w w':World}{base:Nat}{p:Pl}{M:MV}(h:Mem w base p M)(hB:Below w.heap.size w w'):Did base w M (.returned (mVal p M)) w':=
 ⟨p,rfl,hB.mono (Nat.le_of_lt (Nat.lt_of_le_of_lt h.ltR.1 h.ltR.2)),h.below hB⟩
theorem DidK.set{w w':World}{base:Nat}{p:Pl}{M:MV}(h:Mem w base p M)(d:Nat)(v:Int)(hB:Below w.heap.size (w.setCell ⟨p.bR,d,none⟩ (.int .u64 v)) w'):DidK base w (M.setR d v) (.returned (mVal p (M.setR d v))) w':=⟨Did.set h d v hB,Kept.set h d v hB⟩
theorem DidK.stay{w w':World}{base:Nat}{p:Pl}{M:MV}(h:Mem w base p M)(hB:Below w.heap.size w w'):DidK base w (M) (.returned (mVal p (M))) w':=⟨Did.stay h hB,Kept.below hB⟩
theorem do_s(h0:Mem w base p M)(hk:M.Ok)(kk d a b h:Nat)(imm:Int)(hd:d<8)(ha:a<8)(hb:b<8)(hop:kk=1∨kk=2∨kk=3∨kk=4∨kk=5∨kk=6∨kk=7∨kk=8∨kk=10∨kk=11):
 Calls Tryz.prog 74 #[.agg #[.slice (some ⟨p.bR,0,none⟩) 8 p.cR,.bool M.z,.bool M.c,.bool M.hz,.bool M.hc,.slice p.aH M.nH p.cH,.int .i64 M.pc,.int .i64 M.st,.slice p.aO M.nO p.cO],.agg #[.int .i64 kk,.int .i64 d,.int .i64 a,.int .i64 b,.int .i64 imm,.int .i64 h]] w (DidK base w (doM kk d a b h imm M)):=by
 have hd':(d:Int)<8:=by omega
 have ha':(a:Int)<8:=by omega
 have hb':(b:Int)<8:=by omega
 have ra:=h0.reg ha;have rb:=h0.reg hb;have rd:=h0.reg hd;have fd:=h0.freeR d;have zR:=h0.ltR.2;have pa:=hk.reg a ha;have pb:=hk.reg b hb;obtain⟨pa0,pa1⟩:=pa;obtain⟨pb0,pb1⟩:=pb;have H0:Hid (Mem w base p M):=h0;clear h0 hk;go_enter Tryz.func74,Tryz.ntmps74;go_upto_region 1 with fail;generalize hw0:((w.alloc (.cells #[.slice (some ⟨p.bR,0,none⟩) 8 p.cR,.bool M.z,.bool M.c,.bool M.hz,.bool M.hc,.slice p.aH M.nH p.cH,.int .i64 M.pc,.int .i64 M.st,.slice p.aO M.nO p.cO] 28)).alloc (.cells #[.int .i64 kk,.int .i64 d,.int .i64 a,.int .i64 b,.int .i64 imm,.int .i64 h] 73)).alloc (.cells #[.slice none 0 0,.bool false,.bool false,.bool false,.bool false,.slice none 0 0,.int .i64 0,.int .i64 0,.slice none 0 0] 28)=w0;have b0:Below w.heap.size w w0:=by rw[<-hw0];exact(((Below.refl _ _).alloc (Nat.le_refl _) _).alloc (by simp) _).alloc (by simp;omega) _
 have z0:w0.heap.size=w.heap.size+3:=by rw[<-hw0];simp
 have XM:w0.ownsRow w.heap.size 28 9 (.slice (some ⟨w.heap.size,0,none⟩) 1 1) 1 [.slice (some ⟨p.bR,0,none⟩) 8 p.cR,.bool M.z,.bool M.c,.bool M.hz,.bool M.hc,.slice p.aH M.nH p.cH,.int .i64 M.pc,.int .i64 M.st,.slice p.aO M.nO p.cO]:=by rw[<-hw0];exact((World.ownsRow_lit w #[.slice (some ⟨p.bR,0,none⟩) 8 p.cR,.bool M.z,.bool M.c,.bool M.hz,.bool M.hc,.slice p.aH M.nH p.cH,.int .i64 M.pc,.int .i64 M.st,.slice p.aO M.nO p.cO] 1 (Nat.le_refl _) (by unfold maxLen;omega) rfl).alloc _).alloc _
 have XI:w0.ownsRow w.heap.size 73 6 (.slice (some ⟨w.heap.size+1,0,none⟩) 1 1) 1 [.int .i64 kk,.int .i64 d,.int .i64 a,.int .i64 b,.int .i64 imm,.int .i64 h]:=by
  rw[<-hw0];have:=(World.ownsRow_lit (base:=w.heap.size) (e:=73) (size:=6) (w.alloc (.cells #[.slice (some ⟨p.bR,0,none⟩) 8 p.cR,.bool M.z,.bool M.c,.bool M.hz,.bool M.hc,.slice p.aH M.nH p.cH,.int .i64 M.pc,.int .i64 M.st,.slice p.aO M.nO p.cO] 28)) #[.int .i64 kk,.int .i64 d,.int .i64 a,.int .i64 b,.int .i64 imm,.int .i64 h] 1 (by simp) (by unfold maxLen;omega) rfl).alloc (.cells #[.slice none 0 0,.bool false,.bool false,.bool false,.bool false,.slice none 0 0,.int .i64 0,.int .i64 0,.slice none 0 0] 28);rw[World.size_alloc]at this;exact this
 have XZ:w0.ownsRow w.heap.size 28 9 (.slice (some ⟨w.heap.size+1+1,0,none⟩) 1 1) 1 [.slice none 0 0,.bool false,.bool false,.bool false,.bool false,.slice none 0 0,.int .i64 0,.int .i64 0,.slice none 0 0]:=by
  rw[<-hw0];have:=World.ownsRow_lit (base:=w.heap.size) (e:=28) (size:=9) ((w.alloc (.cells #[.slice (some ⟨p.bR,0,none⟩) 8 p.cR,.bool M.z,.bool M.c,.bool M.hz,.bool M.hc,.slice p.aH M.nH p.cH,.int .i64 M.pc,.int .i64 M.st,.slice p.aO M.nO p.cO] 28)).alloc (.cells #[.int .i64 kk,.int .i64 d,.int .i64 a,.int .i64 b,.int .i64 imm,.int .i64 h] 73)) #[.slice none 0 0,.bool false,.bool false,.bool false,.bool false,.slice none 0 0,.int .i64 0,.int .i64 0,.slice none 0 0] 1 (by simp;omega) (by unfold maxLen;omega) rfl;rw[World.size_alloc,World.size_alloc]at this;exact this
 obtain⟨m0,m1,m2,m3,m4,m5,m6,m7,m8⟩:=cells9 XM;obtain⟨i0,i1,i2,i3,i4,i5⟩:=cells6 XI;obtain⟨s0,s1,s2,s3,s4,s5,s6,s7,s8⟩:=cells9 XZ;have mf:∀i,w0.frozen? ⟨w.heap.size,i,none⟩=false:=fun i=>XM.frozenAt i
 have sf:∀i,w0.frozen? ⟨w.heap.size+1+1,i,none⟩=false:=fun i=>XZ.frozenAt i
 have ra0:=(b0.cell (p:=⟨p.bR,a,none⟩) zR).trans ra;have rb0:=(b0.cell (p:=⟨p.bR,b,none⟩) zR).trans rb;have rd0:=(b0.cell (p:=⟨p.bR,d,none⟩) zR).trans rd;have fd0:=(b0.frozen (p:=⟨p.bR,d,none⟩) zR).trans fd;have zR0:p.bR<w0.heap.size:=by omega
 have y0:w.heap.size<w0.heap.size:=by omega
 have y1:w.heap.size+1<w0.heap.size:=by omega
 have y2:w.heap.size+1+1<w0.heap.size:=by omega
 have n0:p.bR≠w.heap.size:=by omega
 have n1:p.bR≠w.heap.size+1:=by omega
 have n2:p.bR≠w.heap.size+1+1:=by omega
 have HB0:Hid (Below w.heap.size w w0):=b0;clear hw0 b0 XM XI XZ ra rb rd fd;rcases hop with rfl|rfl|rfl|rfl|rfl|rfl|rfl|rfl|rfl|rfl;all_goals
  go_wp2;refine bodyPost_ret (v:=.agg #[.slice (some ⟨p.bR,0,none⟩) 8 p.cR,.bool M.z,.bool M.c,.bool M.hz,.bool M.hc,.slice p.aH M.nH p.cH,.int .i64 M.pc,.int .i64 M.st,.slice p.aO M.nO p.cO]) (by simp[results,Tryz.results74,go_sem,s0,s1,s2,s3,s4,s5,s6,s7,s8]) rfl ?_;refine DidK.set H0.out d _ ?_;iterate 9 refine Below.setCell ?_ (by simp;omega) _
  exact setCell_both (p:=⟨p.bR,d,none⟩) HB0.out zR _
end
end Go.Proofs.YtpbceodheeepoaaGreat
