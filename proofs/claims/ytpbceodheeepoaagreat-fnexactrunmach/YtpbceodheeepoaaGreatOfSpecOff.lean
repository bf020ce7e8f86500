import Derived.Test.YtpbceodheeepoaaGreatSpecDo
import Derived.Test.YtpbceodheeepoaaGreatOfSpecI64
namespace Go.Proofs.YtpbceodheeepoaaGreat
open Go.RowKit
def afterS(o:Outc):MV:=match o with
 |.inl (M',nx)=>{M' with pc:=nx}
 |.inr M'=>M'.fault
theorem stepM_in(len:Nat)(F:Nat->Nat->Int)(M:MV)(h:¬(len:Int)<=M.pc):
 stepM len F M=afterS (exec (F M.pc.toNat 0).toNat (F M.pc.toNat 1).toNat (F M.pc.toNat 2).toNat (F M.pc.toNat 3).toNat (F M.pc.toNat 5).toNat (F M.pc.toNat 4) M (M.pc+1)):=by
 unfold stepM;rw[if_neg h];rfl
theorem pokeN_rest(M:MV)(h o:Nat)(v:Int):∀k,(M.pokeN h o v k).st=M.st/\(M.pokeN h o v k).pc=M.pc
 |0=>⟨rfl,rfl⟩
 |k+1=>by have:=pokeN_rest M h o v k;exact this
def Plain(M:MV)(f:Int->Outc):Prop:=(∃M',(∀nx,f nx=.done M' nx)/\M'.st=M.st/\M'.pc=M.pc)∨(∃M',∀nx,f nx=.flt M')
theorem Plain.done{M:MV}{f:Int->Outc}(M':MV)(h:∀nx,f nx=.done M' nx)(h1:M'.st=M.st)(h2:M'.pc=M.pc):Plain M f:=.inl ⟨M',h,h1,h2⟩
theorem memOp_plain(s:Bool)(wd:Nat)(A:Int)(d h:Nat)(M:MV):Plain M (memOp s wd A d h M):=by
 unfold memOp;by_cases h1:M.nH<=h
 ·simp only[if_pos h1];exact .inr ⟨_,fun _=>rfl⟩
 ·simp only[if_neg h1]
  by_cases h2:(lies (M.Hp h).base A wd (M.Hp h).len&&(!s||(M.Hp h).wr))=true
  ·simp only[if_pos h2]
   cases s with
   |true=>exact .inl ⟨_,fun _=>rfl,(pokeN_rest _ _ _ _ _).1,(pokeN_rest _ _ _ _ _).2⟩
   |false=>exact .inl ⟨_,fun _=>rfl,rfl,rfl⟩
  ·simp only[if_neg h2];exact .inr ⟨_,fun _=>rfl⟩
theorem if_plain(b:Bool)(M M':MV)(h1:M'.st=M.st)(h2:M'.pc=M.pc):Plain M (fun nx=>if b then .done M' nx else .flt M):=by
 cases b
 ·exact .inr ⟨M,fun _=>rfl⟩
 ·exact .inl ⟨M',fun _=>rfl,h1,h2⟩
theorem exec_plain(op d a b h:Nat)(imm:Int)(M:MV)(h1:1<=op)(h2:op<=28):Plain M (exec op d a b h imm M):=by
 have hc:op=1∨op=2∨op=3∨op=4∨op=5∨op=6∨op=7∨op=8∨op=9∨op=10∨op=11∨op=12∨op=13∨op=14∨op=15∨op=16∨op=17∨op=18∨op=19∨op=20∨op=21∨op=22∨op=23∨op=24∨op=25∨op=26∨op=27∨op=28:=by omega
 rcases hc with rfl|rfl|rfl|rfl|rfl|rfl|rfl|rfl|rfl|rfl|rfl|rfl|rfl|rfl|rfl|rfl|rfl|rfl|rfl|rfl|rfl|rfl|rfl|rfl|rfl|rfl|rfl|rfl;iterate 14 exact .inl ⟨_,fun _=>rfl,rfl,rfl⟩
 ·exact if_plain M.hc M _ rfl rfl
 iterate 3 exact .inl ⟨_,fun _=>rfl,rfl,rfl⟩
 ·exact if_plain M.hz M _ rfl rfl
 ·exact if_plain M.hc M _ rfl rfl
 all_goals exact memOp_plain _ _ _ _ _ _
theorem step_doM(op d a b h:Nat)(imm:Int)(M:MV)(h1:1<=op)(h2:op<=28)(hs:M.st=0):
 ((doM op d a b h imm M).st=0/\(doM op d a b h imm M).pc=M.pc/\afterS (exec op d a b h imm M (M.pc+1))={doM op d a b h imm M with pc:=M.pc+1})∨
 ((doM op d a b h imm M).st=2/\afterS (exec op d a b h imm M (M.pc+1))=doM op d a b h imm M):=by
 rcases exec_plain op d a b h imm M h1 h2 with⟨M',he,e1,e2⟩|⟨M',he⟩
 ·left
  have hd:doM op d a b h imm M=M':=by unfold doM;rw[he]
  rw[hd,he];exact⟨e1.trans hs,e2,rfl⟩
 ·right
  have hd:doM op d a b h imm M=M'.fault:=by unfold doM;rw[he]
  rw[hd,he];exact⟨rfl,rfl⟩
theorem row_same{w w':World}{base e size n cap g:Nat}{xs:List Value}(h:w.ownsRow base e size (.slice (some ⟨g,0,none⟩) n cap) n xs)(hq:w'.heap[g]?=w.heap[g]?):w'.ownsRow base e size (.slice (some ⟨g,0,none⟩) n cap) n xs:=by
 refine⟨h.1,?_⟩;rcases h.2 with hn|⟨g',cap',cur,hv,h1,hg,rest⟩
 ·exact .inl hn
 ·simp only[Value.slice.injEq,Option.some.injEq,Addr.mk.injEq,and_true,true_and]at hv
  obtain⟨rfl,rfl⟩:=hv;exact .inr ⟨g,cap,cur,rfl,h1,hq.trans hg,rest⟩
theorem grown_same{w w':World}{k:Nat}(h:w.grownBy w' (some k))(o:Nat)(v:Value):w.grownBy (w'.setCell ⟨k,o,none⟩ v) (some k):=
 ⟨h.os,h.tape,h.output,by simpa using h.size,fun q hq hne=>(heap_setCell_other _ _ _ _ (fun e=>hne (by rw[e]))).trans (h.block q hq hne)⟩
theorem off_type{w:World}{base:Nat}{p:Pl}{M:MV}(h:Mem w base p M){k:Nat}{cur:Array Value}{ty:Nat}{fr:Nat×Nat}(hk:w.heap[k]?=some (.cells cur ty fr))(n1:ty≠67)(n2:ty≠69)(n3:ty≠5)(n4:ty≠77):Off p M.nH M.nO k:=
 ⟨fun q=>row_not h.regs hk n1 (by rw[q];rfl),row_not h.heaps hk n2,fun i hi q=>row_not (h.data i hi) hk n3 (by rw[<-q];rfl),row_not h.obs hk n4⟩
theorem off_row{w:World}{base base' size n k cap:Nat}{xs:List Value}{p:Pl}{M:MV}(h:Mem w base p M)(hk:w.ownsRow base' 28 size (.slice (some ⟨k,0,none⟩) n cap) n xs):Off p M.nH M.nO k:=by
 obtain⟨cur,hc⟩:=row_ty hk rfl;exact off_type h hc (by decide) (by decide) (by decide) (by decide)
theorem off_old{w:World}{base:Nat}{p:Pl}{M:MV}(h:Mem w base p M){k:Nat}(hk:w.heap.size<=k):Off p M.nH M.nO k:=by
 refine⟨?_,fun q=>?_,fun i hi=>?_,fun q=>?_⟩
 ·have:=(h.regs.lt p.bR rfl).2;omega
 ·have:=(h.heaps.lt k q).2;omega
 ·have:=((h.data i hi).lt (p.blk i) rfl).2;omega
 ·have:=(h.obs.lt k q).2;omega
def MV.but(M:MV)(z c hz hc:Bool)(pc st:Int):MV:={M with z:=z,c:=c,hz:=hz,hc:=hc,pc:=pc,st:=st}
theorem Mem.but{w:World}{base:Nat}{p:Pl}{M:MV}(h:Mem w base p M)(z c hz hc:Bool)(pc st:Int):Mem w base p (M.but z c hz hc pc st):=⟨h.regs,h.heaps,h.data,h.obs,h.ne⟩
theorem DidK.but{w w':World}{base:Nat}{p:Pl}{M:MV}(h:Mem w base p M)(z c hz hc:Bool)(pc st:Int)(hB:Below w.heap.size w w'):DidK base w (M.but z c hz hc pc st) (.returned (mVal p (M.but z c hz hc pc st))) w':=
 ⟨⟨p,rfl,hB.mono (Nat.le_of_lt (Nat.lt_of_le_of_lt h.ltR.1 h.ltR.2)),(h.but z c hz hc pc st).below hB⟩,Kept.below hB⟩
theorem Kept.trans{a b c:World}(h:Kept a b)(k:Kept b c):Kept a c:=fun i cur ty fr hi n1 n2 n3 n4=>by
 have:=h i cur ty fr hi n1 n2 n3 n4;exact(k i cur ty fr (this.trans hi) n1 n2 n3 n4).trans this
theorem Kept.new{w w':World}(h:Kept w w'){k:Nat}(hk:w.heap.size<=k)(o:Nat)(v:Value):Kept w (w'.setCell ⟨k,o,none⟩ v):=fun i cur ty fr hi n1 n2 n3 n4=>by
 have hl:=Kept.lt hi;rw[heap_setCell_other _ _ _ _ (show i≠k by omega)];exact h i cur ty fr hi n1 n2 n3 n4
theorem Kept.grown{w w':World}{base:Nat}{p:Pl}{M:MV}(h:Mem w base p M)(hg:w.grownBy w' (Value.slice p.aO M.nO p.cO).ownBlock):Kept w w':=fun k _ _ _ hk _ _ _ n4=>
 hg.block k (Kept.lt hk) (fun q=>row_not h.obs hk n4 q.symm)
end Go.Proofs.YtpbceodheeepoaaGreat
