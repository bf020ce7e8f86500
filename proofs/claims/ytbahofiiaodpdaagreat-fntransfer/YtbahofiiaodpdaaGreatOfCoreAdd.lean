import Derived.Test.YtbahofiiaodpdaaGreatRows
import Derived.Test.YtbahofiiaodpdaaGreatOfCl
import Derived.WalkKit
import Derived.WalkSpells
import Derived.WalkLawsBesides
import Derived.Defers
import Derived.Recover
import Derived.BigRegion
import Derived.Test.YtbahofiiaodpdaaGreatCoreFlags
import Derived.Deep.RegionHeld
set_option maxHeartbeats 800000
set_option maxRecDepth 100000
namespace Go.Proofs.YtbahofiiaodpdaaGreat
open Go.RowKit
theorem see_info:(Tryz.prog.info? 82).map (fun i=>(i.zero,i.size,i.bytes))=some (some (.agg #[.int .i64 0,.int .u64 0]),2,16):=by kernel_rfl
theorem row_shape{w:World}{base e size n:Nat}{v:Value}{xs:List Value}(h:w.ownsRow base e size v (n+1) xs):∃g cap,v=.slice (some ⟨g,0,none⟩) (n+1) cap:=by
 rcases h.2 with⟨_,h0⟩|⟨g,cap,_,hv,_⟩
 ·omega
 ·exact⟨g,cap,hv⟩
theorem heap_below(w:World)(o:Obj)(k:Nat)(hk:k<w.heap.size):(w.alloc o).heap[k]?=w.heap[k]?:=heap_alloc_old w o hk
theorem see_any(base bC n:Nat)(vO:Value)(xs:List Value)(kind val:Int)(w:World)(hn:n<=1048576)(hbase:base<=w.heap.size)(hC:bC<w.heap.size)(hne:some bC≠vO.ownBlock)
 (c8:w.cell? ⟨bC,8,none⟩=some vO)(hf:w.frozen? ⟨bC,8,none⟩=false)(hown:w.ownsRow base 82 2 vO n xs):
 Calls Tryz.prog 135 #[.pointer (some ⟨bC,0,none⟩),.int .i64 kind,.int .u64 val] w fun e w'=>∃v' w1,e=.returned (.tuple #[])/\
  w1.ownsRow base 82 2 v' (n+1) (xs++[.int .i64 kind,.int .u64 val])/\w.grownBy w1 vO.ownBlock/\w'=w1.setCell ⟨bC,8,none⟩ v':=by
 obtain⟨i0,hi,hz0,hz1,hz2⟩:=info_parts see_info;have HO:Hid (w.ownsRow base 82 2 vO n xs):=hown;clear hown;go_enter Tryz.func135,Tryz.ntmps135;go_wp2_with(first|(at_builtin;refine wpList_append_own _ rfl _ _ 38 rfl base 82 i0 (.agg #[.int .i64 0,.int .u64 0]) 2 16 Tryz.underlying38 hi hz0 hz1 hz2 rfl (by decide) _ _ _ rfl (HO.out.alloc _) ⟨w.heap.size,0,none⟩ 1 1 [.int .i64 kind,.int .u64 val] rfl rfl ?c1 ?c2 ?c3 ?c4 ?c5 ?_)|go_in)
 case c1=>
  intro j u hj;match j,hj with
  |0,hj=>simp at hj;subst hj;simp[Addr.add,go_sem]
  |1,hj=>simp at hj;subst hj;simp[Addr.add,go_sem]
 case c2=>
  intro u hu;simp at hu;rcases hu with rfl|rfl<;>rfl
 case c3=>unfold maxLen;omega
 case c4=>omega
 case c5=>simp;omega
 ·intro v' w1 hown1 hgrow _
  obtain⟨g,cap,hv⟩:=row_shape hown1;have HG:Hid (w.grownBy w1 vO.ownBlock):=⟨hgrow.os,hgrow.tape,hgrow.output,Nat.le_trans (by simp) hgrow.size,fun k hk hne=>(hgrow.block k (by simp;omega) hne).trans (heap_below w _ k hk)⟩
  have q8:w1.cell? ⟨bC,8,none⟩=some vO:=(World.cell?_of_block (HG.out.block bC hC hne)).trans c8;have qf:w1.frozen? ⟨bC,8,none⟩=false:=(World.frozen?_of_block (HG.out.block bC hC hne)).trans hf;have HO1:Hid (w1.ownsRow base 82 2 v' (n+1) (xs++[.int .i64 kind,.int .u64 val])):=hown1;clear hown1 hgrow c8 hf hi hz0 hz1 hz2;rw[hv];go_wp2;go_end0;exact⟨_,w1,rfl,by rw[<-hv];exact HO1.out,HG.out,rfl⟩
theorem catch_idle(bV:Nat)(w:World):
 CallsD Tryz.prog 78 #[.pointer (some ⟨bV,0,none⟩)] .returning w fun e u' w'=>e=.returned (.tuple #[])/\u'=.returning/\w'=w:=by
 refine callsD_of_wpS Tryz.func78 rfl fun c₀ cs hu=>?_
 apply wpS_seq;apply wpS_region;simp[wpOpsS,go_sem,recoverD,hu,Tryz.ntmps78,Exit.thenS];refine wpS_of_wp ?_;change Code.wp _ _ _ {tmps:=#[.pointer (some ⟨bV,0,none⟩),.nilIface,undef,undef,.nilIface,undef,undef,undef,undef,undef,undef,undef,undef,undef,undef,undef,undef,undef,undef],defers:=[]} w;go_wp2;cases c₀;simp_all[bodyPostS,results,Tryz.results78]
theorem catch_fault(bV bC:Nat)(st:Int)(older:List PanicEntry)(w:World)(hV:bV<w.heap.size)(hC:bC<w.heap.size)(cV:w.cell? ⟨bV,0,none⟩=some (.pointer (some ⟨bC,0,none⟩)))(c7:w.cell? ⟨bC,7,none⟩=some (.int .i64 st))(hf:w.frozen? ⟨bC,7,none⟩=false):
 CallsD Tryz.prog 78 #[.pointer (some ⟨bV,0,none⟩)] (.panicking ({v:=.iface 124 (.agg #[]),recovered:=false}::older)) w fun e u' w'=>
  e=.returned (.tuple #[])/\u'=.panicking ({v:=.iface 124 (.agg #[]),recovered:=true}::older)/\w'=(w.setCell ⟨bC,7,none⟩ (.int .i64 2)).alloc (.cells #[] 124):=by
 have hta:∀w:World,(Instr.typeAssert (.iface 124 (.agg #[])) 20 124 true).run Tryz.prog w=.ok (.tuple #[.agg #[],.bool true]) w:=fun _=>by kernel_rfl
 refine callsD_of_wpS Tryz.func78 rfl fun c₀ cs hu=>?_
 apply wpS_seq;apply wpS_region;simp[wpOpsS,go_sem,recoverD,hu,Tryz.ntmps78,Exit.thenS];refine wpS_of_wp ?_;change Code.wp _ _ _ {tmps:=#[.pointer (some ⟨bV,0,none⟩),.iface 124 (.agg #[]),undef,undef,.iface 124 (.agg #[]),undef,undef,undef,undef,undef,undef,undef,undef,undef,undef,undef,undef,undef,undef],defers:=[]} w;go_wp2;simp[bodyPostS,results,Tryz.results78]
theorem doMov_any(bC bR cap d a:Nat)(op b imm hh:Int)(R:Nat->Int)(w:World)(hd:d<8)(ha:a<8)(hC:bC<w.heap.size)(hR:bR<w.heap.size)
 (c0:w.cell? ⟨bC,0,none⟩=some (.slice (some ⟨bR,0,none⟩) 8 cap))(ra:w.cell? ⟨bR,a,none⟩=some (.int .u64 (R a)))(rd:w.cell? ⟨bR,d,none⟩=some (.int .u64 (R d)))(hf:w.frozen? ⟨bR,d,none⟩=false):
 Calls Tryz.prog 102 #[.pointer (some ⟨bC,0,none⟩),.agg #[.int .i64 op,.int .i64 d,.int .i64 a,.int .i64 b,.int .i64 imm,.int .i64 hh]] w fun e w'=>e=.returned (.tuple #[])/\Below w.heap.size (w.setCell ⟨bR,d,none⟩ (.int .u64 (R a))) w':=by
 have hd':(d:Int)<8:=by omega
 have ha':(a:Int)<8:=by omega
 go_enter Tryz.func102,Tryz.ntmps102;go_wp2;go_region;all_goals(go_end0;exact⟨rfl,((Below.refl _ _).alloc (by simp) _).drew⟩)
theorem doMovi_any(bC bR cap d:Nat)(op a b imm hh:Int)(R:Nat->Int)(w:World)(hd:d<8)(hC:bC<w.heap.size)(hR:bR<w.heap.size)
 (c0:w.cell? ⟨bC,0,none⟩=some (.slice (some ⟨bR,0,none⟩) 8 cap))(rd:w.cell? ⟨bR,d,none⟩=some (.int .u64 (R d)))(hf:w.frozen? ⟨bR,d,none⟩=false):
 Calls Tryz.prog 103 #[.pointer (some ⟨bC,0,none⟩),.agg #[.int .i64 op,.int .i64 d,.int .i64 a,.int .i64 b,.int .i64 imm,.int .i64 hh]] w fun e w'=>e=.returned (.tuple #[])/\Below w.heap.size (w.setCell ⟨bR,d,none⟩ (.int .u64 (IntKind.u64.wrap imm))) w':=by
 have hd':(d:Int)<8:=by omega
 go_enter Tryz.func103,Tryz.ntmps103;go_wp2;go_region;all_goals(go_end0;exact⟨rfl,((Below.refl _ _).alloc (by simp) _).drew⟩)
theorem doJmp_any(bC:Nat)(op d a b imm hh nx:Int)(w:World)(hC:bC<w.heap.size)(c9:w.cell? ⟨bC,9,none⟩=some (.int .i64 nx))(hf:w.frozen? ⟨bC,9,none⟩=false):
 Calls Tryz.prog 127 #[.pointer (some ⟨bC,0,none⟩),.agg #[.int .i64 op,.int .i64 d,.int .i64 a,.int .i64 b,.int .i64 imm,.int .i64 hh]] w fun e w'=>e=.returned (.tuple #[])/\Below w.heap.size (w.setCell ⟨bC,9,none⟩ (.int .i64 imm)) w':=by
 go_enter Tryz.func127,Tryz.ntmps127;go_wp2;go_end0;exact⟨rfl,(Below.refl _ _).alloc (by simp) _⟩
theorem doHalt_any(bC:Nat)(op d a b imm hh nx pc st:Int)(w:World)(hC:bC<w.heap.size)(c6:w.cell? ⟨bC,6,none⟩=some (.int .i64 pc))(c7:w.cell? ⟨bC,7,none⟩=some (.int .i64 st))(c9:w.cell? ⟨bC,9,none⟩=some (.int .i64 nx))(hf7:w.frozen? ⟨bC,7,none⟩=false)(hf:w.frozen? ⟨bC,9,none⟩=false):
 Calls Tryz.prog 129 #[.pointer (some ⟨bC,0,none⟩),.agg #[.int .i64 op,.int .i64 d,.int .i64 a,.int .i64 b,.int .i64 imm,.int .i64 hh]] w fun e w'=>e=.returned (.tuple #[])/\Below w.heap.size ((w.setCell ⟨bC,7,none⟩ (.int .i64 1)).setCell ⟨bC,9,none⟩ (.int .i64 pc)) w':=by
 go_enter Tryz.func129,Tryz.ntmps129;go_wp2;go_end0;exact⟨rfl,(Below.refl _ _).alloc (by simp) _⟩
theorem setCell_both{B:Nat}{W X:World}(h:Below B W X){p:Addr}(_hp:p.block<B)(v:Value):Below B (W.setCell p v) (X.setCell p v):=by
 refine⟨h.os,h.tape,h.output,by simpa using h.size,fun k hk=>?_⟩;by_cases e:k=p.block
 ·subst e
  have hb:=h.block p.block hk;unfold World.setCell;simp only[Array.getElem?_modify,hb]
 ·rw[heap_setCell_other _ _ _ _ e,heap_setCell_other _ _ _ _ e]
  exact h.block k hk
theorem flagged_below{B:Nat}{W X:World}{bC:Nat}{r k:Int}(hC:bC<B)(h:Below B W X):Below B (flagged W bC r k) (flagged X bC r k):=
 setCell_both (setCell_both (setCell_both (setCell_both h hC _) hC _) hC _) hC _
theorem addWith_any(bC bR cap d a b:Nat)(op imm hh k:Int)(R:Nat->Int)(z c hz hc:Bool)(w:World)(hd:d<8)(ha:a<8)(hb:b<8)(hC:bC<w.heap.size)(hR:bR<w.heap.size)(hCR:bC≠bR)(k0:0<=k)(k1:k<=1)(pa:0<=R a)(pb:0<=R b)
 (c0:w.cell? ⟨bC,0,none⟩=some (.slice (some ⟨bR,0,none⟩) 8 cap))(ra:w.cell? ⟨bR,a,none⟩=some (.int .u64 (R a)))(rb:w.cell? ⟨bR,b,none⟩=some (.int .u64 (R b)))(rd:w.cell? ⟨bR,d,none⟩=some (.int .u64 (R d)))(hfr:w.frozen? ⟨bR,d,none⟩=false)(h1:w.cell? ⟨bC,1,none⟩=some (.bool z))(h2:w.cell? ⟨bC,2,none⟩=some (.bool c))(h3:w.cell? ⟨bC,3,none⟩=some (.bool hz))(h4:w.cell? ⟨bC,4,none⟩=some (.bool hc))(hf:∀i,w.frozen? ⟨bC,i,none⟩=false):
 Calls Tryz.prog 137 #[.pointer (some ⟨bC,0,none⟩),.agg #[.int .i64 op,.int .i64 d,.int .i64 a,.int .i64 b,.int .i64 imm,.int .i64 hh],.int .u64 k] w fun e w'=>e=.returned (.tuple #[])/\Below w.heap.size (flagged (w.setCell ⟨bR,d,none⟩ (.int .u64 (wadd (R a) (R b) k))) bC (wadd (R a) (R b) k) (carry (R a) (R b) k)) w':=by
 have hd':(d:Int)<8:=by omega
 have ha':(a:Int)<8:=by omega
 have hb':(b:Int)<8:=by omega
 have hrun:=fun w=>add64_run (R a) (R b) k pa pb k0 k1 w
 go_enter Tryz.func137,Tryz.ntmps137;go_wp2;go_region;go_wp2_with fail;go_region;go_wp2_with fail;have xb:Below w.heap.size (w.setCell ⟨bR,d,none⟩ (.int .u64 (wadd (R a) (R b) k))) ((w.setCell ⟨bR,d,none⟩ (.int .u64 (wadd (R a) (R b) k))).alloc (.cells #[.int .i64 op,.int .i64 d,.int .i64 a,.int .i64 b,.int .i64 imm,.int .i64 hh] 30)).drew.drew:=(((Below.refl _ _).alloc (by simp) _).drew).drew;have XB:Hid _:=xb;refine(setFlags_any bC (wadd (R a) (R b) k) (carry (R a) (R b) k) z c hz hc _ ?g1 ?g2 ?g3 ?g4 ?g5).mono ?_
 case g1=>exact(xb.cell (p:=⟨bC,1,none⟩) hC).trans ((World.cell?_setCell_far _ _ _ _ (Ne.symm hCR)).trans h1)
 case g2=>exact(xb.cell (p:=⟨bC,2,none⟩) hC).trans ((World.cell?_setCell_far _ _ _ _ (Ne.symm hCR)).trans h2)
 case g3=>exact(xb.cell (p:=⟨bC,3,none⟩) hC).trans ((World.cell?_setCell_far _ _ _ _ (Ne.symm hCR)).trans h3)
 case g4=>exact(xb.cell (p:=⟨bC,4,none⟩) hC).trans ((World.cell?_setCell_far _ _ _ _ (Ne.symm hCR)).trans h4)
 case g5=>exact fun i=>(xb.frozen (p:=⟨bC,i,none⟩) hC).trans ((World.frozen?_setCell _ _ _ _).trans (hf i))
 rintro e w1⟨rfl,hw⟩;have HW:Hid _:=hw;clear hw xb c0 ra rb rd hfr h1 h2 h3 h4 hf;go_wp2;go_end0;refine⟨rfl,?_⟩;rw[HW.out];exact flagged_below hC XB.out
end Go.Proofs.YtbahofiiaodpdaaGreat
