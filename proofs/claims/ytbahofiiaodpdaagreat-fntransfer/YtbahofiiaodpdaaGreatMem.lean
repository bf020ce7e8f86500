import Derived.Test.YtbahofiiaodpdaaGreatOfCoreAdd
import Derived.Test.YtbahofiiaodpdaaGreatOfAppOwn
import Derived.Test.YtbahofiiaodpdaaGreatOfCl
import Derived.Below
import Derived.OneCell
import Derived.Deep.Onto
namespace Go.Proofs.YtbahofiiaodpdaaGreat
open Go.RowKit
theorem first_at{m:Nat}{f:Nat->Value}{j:Nat}(h:j<m):(first m f)[j]?=some (f j):=by
 unfold first;rw[List.getElem?_map,List.getElem?_range h];rfl
theorem first_congr{m:Nat}{f g:Nat->Value}(h:∀i,i<m->f i=g i):first m f=first m g:=by
 unfold first;exact List.map_congr_left fun i hi=>h i (List.mem_range.1 hi)
theorem first_set(m:Nat)(f:Nat->Value)(j:Nat)(u:Value):(first m f).set j u=first m (fun i=>if i=j then u else f i):=by
 apply List.ext_getElem?;intro i;by_cases hi:i<m
 ·rw[first_at hi,List.getElem?_set]
  by_cases e:j=i
  ·subst e;simp[first_length,hi]
  ·rw[if_neg e,first_at hi,if_neg (fun h=>e h.symm)]
 ·rw[List.getElem?_eq_none (by simp[first_length];omega),List.getElem?_eq_none (by simp[first_length];omega)]
theorem first_two(m:Nat)(f:Nat->Value):first (m+1+1) f=first m f++[f m,f (m+1)]:=by
 unfold first;rw[List.range_succ,List.range_succ];simp
theorem rows_apart{w:World}{base base' e e' size size' n n':Nat}{v v':Value}{xs xs':List Value}(h:w.ownsRow base e size v n xs)(h':w.ownsRow base' e' size' v' n' xs')(he:e≠e'):v.ownBlock=none∨v.ownBlock≠v'.ownBlock:=by
 rcases h.2 with⟨rfl,_⟩|⟨g,cap,cur,rfl,_,hg,_⟩
 ·exact .inl rfl
 ·rcases h'.2 with⟨rfl,_⟩|⟨g',cap',cur',rfl,_,hg',_⟩
  ·exact .inr (by simp[Value.ownBlock])
  ·refine .inr fun q=>?_
   simp only[Value.ownBlock,Option.some.injEq]at q;subst q;rw[hg]at hg';simp only[Option.some.injEq,Obj.cells.injEq]at hg';exact he hg'.2.1
theorem apart_some{v:Value}{b n cap:Nat}(h:(Value.slice (some ⟨b,0,none⟩) n cap).ownBlock=none∨(Value.slice (some ⟨b,0,none⟩) n cap).ownBlock≠v.ownBlock):some b≠v.ownBlock:=by
 rcases h with h|h
 ·simp[Value.ownBlock]at h
 ·exact h
theorem grown_below{w w':World}(h:Below w.heap.size w w')(row:Option Nat):w.grownBy w' row:=⟨h.os,h.tape,h.output,h.size,fun k hk _=>h.block k hk⟩
theorem row_below{w w':World}{base e size n:Nat}{v:Value}{xs:List Value}(h:w.ownsRow base e size v n xs)(hb:Below w.heap.size w w'):w'.ownsRow base e size v n xs:=
 h.kept (grown_below hb none) (by cases v.ownBlock<;>simp)
theorem row_arr{w:World}{base e size n b cap:Nat}{m:Nat}{f:Nat->Value}(h:w.ownsRow base e size (.slice (some ⟨b,0,none⟩) n cap) n (first m f)):base<=b/\n<=cap/\m=n*size/\Arr w b m f:=by
 have hl:=h.1;rw[first_length]at hl;have hlt:=h.lt b rfl;refine⟨hlt.1,?_,hl,hlt.2,fun i=>h.frozenAt i,fun i hi=>?_⟩
 ·rcases h.2 with⟨q,_⟩|⟨g',cap',cur,q,_,_,hc,_⟩
  ·cases q
  ·simp only[Value.slice.injEq]at q;rw[q.2.2];exact hc
 ·rw[h.cellAt i (by omega),first_at hi]
structure MV where
 R:Nat->Int
 z:Bool
 c:Bool
 hz:Bool
 hc:Bool
 nH:Nat
 Hp:Nat->HeapV
 pc:Int
 st:Int
 nO:Nat
 K:Nat->Int
 V:Nat->Int
def MV.setR(M:MV)(d:Nat)(v:Int):MV:={M with R:=fun i=>if i=d then v else M.R i}
def MV.see(M:MV)(k v:Int):MV:={M with nO:=M.nO+1,K:=fun i=>if i=M.nO then k else M.K i,V:=fun i=>if i=M.nO then v else M.V i}
def MV.flags(M:MV)(r:Int)(cy:Bool):MV:={M with z:=decide (r=0),c:=cy,hz:=true,hc:=true}
def MV.fault(M:MV):MV:={M with st:=2}
def MV.poke(M:MV)(h j:Nat)(u:Int):MV:={M with Hp:=fun i=>if i=h then{M.Hp i with dat:=fun q=>if q=j then u else(M.Hp i).dat q}else M.Hp i}
structure Pl where
 bR:Nat
 cR:Nat
 aH:Option Addr
 cH:Nat
 blk:Nat->Nat
 cap:Nat->Nat
 aO:Option Addr
 cO:Nat
def place(Hp:Nat->HeapV)(blk cap:Nat->Nat)(i:Nat):HeapV:={Hp i with ao:=some ⟨blk i,0,none⟩,cap:=cap i}
structure Mem(w:World)(base:Nat)(p:Pl)(M:MV):Prop where
 regs:w.ownsRow base 77 1 (.slice (some ⟨p.bR,0,none⟩) 8 p.cR) 8 (first 8 (numF .u64 M.R))
 heaps:w.ownsRow base 79 3 (.slice p.aH M.nH p.cH) M.nH (first (M.nH*3) (heapF (place M.Hp p.blk p.cap)))
 data:∀i,i<M.nH->w.ownsRow base 5 1 (.slice (some ⟨p.blk i,0,none⟩) (M.Hp i).len (p.cap i)) (M.Hp i).len (first (M.Hp i).len (numF .u8 (M.Hp i).dat))
 obs:w.ownsRow base 82 2 (.slice p.aO M.nO p.cO) M.nO (first (M.nO*2) (obsF M.K M.V))
 ne:∀i j,i<M.nH->j<M.nH->i≠j->p.blk i≠p.blk j
theorem Mem.mono{w:World}{base base':Nat}{p:Pl}{M:MV}(h:Mem w base p M)(hb:base'<=base):Mem w base' p M:=
 ⟨h.regs.mono hb,h.heaps.mono hb,fun i hi=>(h.data i hi).mono hb,h.obs.mono hb,h.ne⟩
theorem Mem.below{w w':World}{base:Nat}{p:Pl}{M:MV}(h:Mem w base p M)(hb:Below w.heap.size w w'):Mem w' base p M:=
 ⟨row_below h.regs hb,row_below h.heaps hb,fun i hi=>row_below (h.data i hi) hb,row_below h.obs hb,h.ne⟩
theorem Mem.other{w w':World}{base e size n b cap base':Nat}{xs:List Value}{p:Pl}{M:MV}(h:Mem w base p M)(hr:w.ownsRow base' e size (.slice (some ⟨b,0,none⟩) n cap) n xs)(hg:w.grownBy w' (some b))(h1:e≠77)(h2:e≠79)(h3:e≠5)(h4:e≠82):Mem w' base p M:=
 ⟨h.regs.kept hg (rows_apart h.regs hr (Ne.symm h1)),h.heaps.kept hg (rows_apart h.heaps hr (Ne.symm h2)),fun i hi=>(h.data i hi).kept hg (rows_apart (h.data i hi) hr (Ne.symm h3)),h.obs.kept hg (rows_apart h.obs hr (Ne.symm h4)),h.ne⟩
theorem Mem.setR{w:World}{base:Nat}{p:Pl}{M:MV}(h:Mem w base p M)(d:Nat)(v:Int):Mem (w.setCell ⟨p.bR,d,none⟩ (.int .u64 v)) base p (M.setR d v):=by
 obtain⟨h1,hg⟩:=h.regs.stored d (.int .u64 v);refine⟨?_,h.heaps.kept hg (rows_apart h.heaps h.regs (by decide)),fun i hi=>(h.data i hi).kept hg (rows_apart (h.data i hi) h.regs (by decide)),h.obs.kept hg (rows_apart h.obs h.regs (by decide)),h.ne⟩;rw[first_set]at h1;refine(first_congr fun i _=>?_)▸h1;unfold numF MV.setR;by_cases e:i=d<;>simp[e]
theorem Mem.poke{w:World}{base:Nat}{p:Pl}{M:MV}(h:Mem w base p M){k:Nat}(hk:k<M.nH)(j:Nat)(u:Int):Mem (w.setCell ⟨p.blk k,j,none⟩ (.int .u8 u)) base p (M.poke k j u):=by
 obtain⟨h1,hg⟩:=(h.data k hk).stored j (.int .u8 u);refine⟨h.regs.kept hg (rows_apart h.regs (h.data k hk) (by decide)),?_,fun i hi=>?_,h.obs.kept hg (rows_apart h.obs (h.data k hk) (by decide)),h.ne⟩
 ·have h2:=h.heaps.kept hg (rows_apart h.heaps (h.data k hk) (by decide))
  refine(first_congr fun i _=>?_)▸h2;unfold heapF place MV.poke;by_cases e:i/3=k<;>simp[e]
 ·by_cases e:i=k
  ·subst e
   rw[first_set]at h1;have q:(M.poke i j u).Hp i={M.Hp i with dat:=fun q=>if q=j then u else(M.Hp i).dat q}:=by simp[MV.poke]
   rw[q];refine(first_congr fun t _=>?_)▸h1;unfold numF;by_cases e:t=j<;>simp[e]
  ·have q:(M.poke k j u).Hp i=M.Hp i:=by simp[MV.poke,e]
   rw[q];exact(h.data i hi).kept hg (.inr (by have:=h.ne i k hi hk e;simpa[Value.ownBlock]using this))
theorem see_row(M:MV)(k v:Int):first ((M.see k v).nO*2) (obsF (M.see k v).K (M.see k v).V)=first (M.nO*2) (obsF M.K M.V)++[.int .i64 k,.int .u64 v]:=by
 show first ((M.nO+1)*2) _=_
 rw[show(M.nO+1)*2=M.nO*2+1+1 by omega,first_two];congr 1
 ·refine first_congr fun i hi=>?_
  unfold obsF MV.see;have:i/2≠M.nO:=by omega
  simp[this]
 ·have e0:=obsF_0 (M.see k v).K (M.see k v).V M.nO
  have e1:=obsF_1 (M.see k v).K (M.see k v).V M.nO;simp only[Nat.add_zero]at e0;rw[e0,e1];simp[MV.see]
theorem Mem.see{w w1:World}{base:Nat}{p:Pl}{M:MV}{k v:Int}{g cap:Nat}(h:Mem w base p M)(ho:w1.ownsRow base 82 2 (.slice (some ⟨g,0,none⟩) (M.nO+1) cap) (M.nO+1) (first (M.nO*2) (obsF M.K M.V)++[.int .i64 k,.int .u64 v]))(hg:w.grownBy w1 (Value.slice p.aO M.nO p.cO).ownBlock):Mem w1 base {p with aO:=some ⟨g,0,none⟩,cO:=cap} (M.see k v):=
 ⟨h.regs.kept hg (rows_apart h.regs h.obs (by decide)),h.heaps.kept hg (rows_apart h.heaps h.obs (by decide)),fun i hi=>(h.data i hi).kept hg (rows_apart (h.data i hi) h.obs (by decide)),by rw[see_row];exact ho,h.ne⟩
end Go.Proofs.YtbahofiiaodpdaaGreat
