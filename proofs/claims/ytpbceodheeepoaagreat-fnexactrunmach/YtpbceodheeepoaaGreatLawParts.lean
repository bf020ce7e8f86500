import Derived.Test.YtpbceodheeepoaaGreatMarkMach
import Derived.Test.YtpbceodheeepoaaGreatSpecStepM
namespace Go.Proofs.YtpbceodheeepoaaGreat
open Go.RowKit
structure MVl where
 aR:Option Addr
 nR:Nat
 cR:Nat
 z:Bool
 c:Bool
 hz:Bool
 hc:Bool
 aH:Option Addr
 nH:Nat
 cH:Nat
 pc:Int
 st:Int
 aO:Option Addr
 nO:Nat
 cO:Nat
def MVl.list(x:MVl):List Value:=[.slice x.aR x.nR x.cR,.bool x.z,.bool x.c,.bool x.hz,.bool x.hc,.slice x.aH x.nH x.cH,.int .i64 x.pc,.int .i64 x.st,.slice x.aO x.nO x.cO]
def MVl.val(x:MVl):Value:=.agg #[.slice x.aR x.nR x.cR,.bool x.z,.bool x.c,.bool x.hz,.bool x.hc,.slice x.aH x.nH x.cH,.int .i64 x.pc,.int .i64 x.st,.slice x.aO x.nO x.cO]
theorem row_at{w w':World}{base e size n:Nat}{v:Value}{xs:List Value}(h:w.ownsRow base e size v n xs)(hq:∀k,v.ownBlock=some k->w'.heap[k]?=w.heap[k]?):w'.ownsRow base e size v n xs:=by
 refine⟨h.1,?_⟩;rcases h.2 with hn|⟨g,cap,cur,hv,h1,hg,rest⟩
 ·exact .inl hn
 ·exact .inr ⟨g,cap,cur,hv,h1,(hq g (by rw[hv];rfl)).trans hg,rest⟩
theorem Mem.at{w w':World}{base:Nat}{p:Pl}{M:MV}(h:Mem w base p M)(hq:∀k,base<=k->k<w.heap.size->w'.heap[k]?=w.heap[k]?):Mem w' base p M:=
 ⟨row_at h.regs fun k hk=>hq k (h.regs.lt k hk).1 (h.regs.lt k hk).2,row_at h.heaps fun k hk=>hq k (h.heaps.lt k hk).1 (h.heaps.lt k hk).2,fun i hi=>row_at (h.data i hi) fun k hk=>hq k ((h.data i hi).lt k hk).1 ((h.data i hi).lt k hk).2,row_at h.obs fun k hk=>hq k (h.obs.lt k hk).1 (h.obs.lt k hk).2,h.ne⟩
theorem Ans.at{w w':World}{base:Nat}{v:Value}{o:Option MV}(h:Ans w base v o)(hq:∀k,base<=k->k<w.heap.size->w'.heap[k]?=w.heap[k]?):Ans w' base v o:=by
 cases o with
 |none=>exact h
 |some M=>obtain⟨p,h1,h2⟩:=h;exact⟨p,h1,h2.at hq⟩
theorem Ans.mono{w:World}{base base':Nat}{v:Value}{o:Option MV}(h:Ans w base v o)(hb:base'<=base):Ans w base' v o:=by
 cases o with
 |none=>exact h
 |some M=>obtain⟨p,h1,h2⟩:=h;exact⟨p,h1,h2.mono hb⟩
theorem Ans.form{w:World}{base:Nat}{v:Value}{o:Option MV}(h:Ans w base v o):∃x:MVl,v=x.val:=by
 cases o with
 |none=>exact⟨⟨none,0,0,false,false,false,false,none,0,0,0,0,none,0,0⟩,h⟩
 |some M=>obtain⟨p,h1,_⟩:=h;exact⟨⟨some ⟨p.bR,0,none⟩,8,p.cR,M.z,M.c,M.hz,M.hc,p.aH,M.nH,p.cH,M.pc,M.st,p.aO,M.nO,p.cO⟩,h1⟩
theorem Fr.toBelow{S:Nat->Prop}{w w':World}(h:Fr S w w'){B:Nat}(hB:B<=w.heap.size)(hS:∀q,S q->B<=q):Below B w w':=
 ⟨h.os,h.tape,h.output,h.size,fun k hk=>h.block k (by omega) fun q=>by have:=hS k q;omega⟩
theorem blk_ty{w:World}{base e size n cap q m:Nat}{ao:Option Addr}{xs:List Value}(h:w.ownsRow base e size (.slice ao n cap) n xs)(hq:Blk ao m q):(∃cur,w.heap[q]?=some (.cells cur e (0,0)))/\base<=q/\q<w.heap.size:=by
 obtain⟨_,rfl⟩:=hq;exact⟨row_ty h rfl,h.lt q rfl⟩
theorem blk_apart{w:World}{base e e' size size' n n' cap cap' q m m':Nat}{ao ao':Option Addr}{xs xs':List Value}(h:w.ownsRow base e size (.slice ao n cap) n xs)(h':w.ownsRow base e' size' (.slice ao' n' cap') n' xs')(hne:e≠e')(hq:Blk ao m q)(hq':Blk ao' m' q):False:=by
 obtain⟨⟨c1,h1⟩,_⟩:=blk_ty h hq;obtain⟨⟨c2,h2⟩,_⟩:=blk_ty h' hq';rw[h1]at h2;simp only[Option.some.injEq,Obj.cells.injEq]at h2;exact hne h2.2.1
structure WMr(w:World)(lo hi:Nat)(x:MVl)(Hq:Nat->HeapV):Prop where
 wm:WM w x.aR x.nR x.aH x.nH Hq x.aO x.nO
 r:x.nR<=1048576
 h:x.nH<=1048576
 l:∀i,i<x.nH->(Hq i).len<=1048576
 o:x.nO<=1048576
 s:∀q,SM x.aR x.nR x.aH x.nH Hq x.aO x.nO q->lo<=q/\q<hi
theorem Ans.wm{w:World}{base:Nat}{x:MVl}{o:Option MV}(hs:SmallA o)(h:Ans w base x.val o):∃Hq,WMr w base w.heap.size x Hq:=by
 cases o with
 |none=>
  have he:x.val=zeroV:=h;have:x=⟨none,0,0,false,false,false,false,none,0,0,0,0,none,0,0⟩:=by
   cases x;simp only[MVl.val,zeroV,Value.agg.injEq,Array.mk.injEq,List.cons.injEq,Value.slice.injEq,Value.bool.injEq,Value.int.injEq,and_true,true_and]at he;simp only[MVl.mk.injEq];simp_all
  subst this;have nb:∀(ao:Option Addr)(q:Nat),¬Blk ao 0 q:=fun ao q h=>h.1 rfl
  refine⟨zeroM.Hp,⟨⟨fun _=>undef,.inl rfl⟩,.inl rfl,fun i hi=>absurd hi (Nat.not_lt_zero _),⟨fun _=>undef,.inl rfl⟩,fun q h=>absurd h (nb _ q),fun q h=>absurd h (nb _ q),fun q h=>absurd h (nb _ q),fun i hi=>absurd hi (Nat.not_lt_zero _),fun i hi=>absurd hi (Nat.not_lt_zero _),fun i hi=>absurd hi (Nat.not_lt_zero _),fun i j hi=>absurd hi (Nat.not_lt_zero _)⟩,by decide,by decide,fun i hi=>absurd hi (Nat.not_lt_zero _),by decide,?_⟩;intro q hq;rcases hq with hq|hq|hq
  ·exact absurd hq (nb _ q)
  ·rcases hq with hq|⟨i,hi,_⟩
   ·exact absurd hq (nb _ q)
   ·exact absurd hi (Nat.not_lt_zero _)
  ·exact absurd hq (nb _ q)
 |some M=>
  obtain⟨p,he,m⟩:=h;have:x=⟨some ⟨p.bR,0,none⟩,8,p.cR,M.z,M.c,M.hz,M.hc,p.aH,M.nH,p.cH,M.pc,M.st,p.aO,M.nO,p.cO⟩:=by
   cases x;simp only[MVl.val,mVal,Value.agg.injEq,Array.mk.injEq,List.cons.injEq,Value.slice.injEq,Value.bool.injEq,Value.int.injEq,and_true,true_and]at he;simp only[MVl.mk.injEq];simp_all
  subst this;refine⟨place M.Hp p.blk p.cap,⟨⟨_,wr_own m.regs rfl⟩,wr_own m.heaps rfl,fun i hi=>⟨_,wr_own (m.data i hi) (Nat.mul_one _).symm⟩,⟨_,wr_own m.obs rfl⟩,
   fun q h1 h2=>blk_apart m.regs m.heaps (by decide) h1 h2,fun q h1 h2=>blk_apart m.regs m.obs (by decide) h1 h2,fun q h1 h2=>blk_apart m.heaps m.obs (by decide) h1 h2,
   fun i hi q h1 h2=>blk_apart m.regs (m.data i hi) (by decide) h1 h2,fun i hi q h1 h2=>blk_apart m.heaps (m.data i hi) (by decide) h1 h2,fun i hi q h1 h2=>blk_apart m.obs (m.data i hi) (by decide) h1 h2,
   fun i j hi hj hne q h1 h2=>?_⟩,hs.regs,hs.heaps,hs.data,hs.obs,?_⟩
  ·have e1:some (⟨p.blk i,0,none⟩:Addr)=some ⟨q,0,none⟩:=h1.2
   have e2:some (⟨p.blk j,0,none⟩:Addr)=some ⟨q,0,none⟩:=h2.2;simp only[Option.some.injEq,Addr.mk.injEq,and_true]at e1 e2;exact m.ne i j hi hj hne (e1.trans e2.symm)
  ·intro q hq
   rcases hq with hq|hq|hq
   ·exact(blk_ty m.regs hq).2
   ·rcases hq with hq|⟨i,hi,hq⟩
    ·exact(blk_ty m.heaps hq).2
    ·exact(blk_ty (m.data i hi) hq).2
   ·exact(blk_ty m.obs hq).2
theorem MachCp.wm{w:World}{bR nR:Nat}{R:Nat->Int}{bH nH:Nat}{Hp:Nat->HeapV}{blk:Nat->Nat}{bO nO:Nat}{K V:Nat->Int}(hs:Small nR nH Hp nO)(h:MachCp w bR nR R bH nH Hp blk bO nO K V)(cR:Nat)(z c hz hc:Bool)(cH:Nat)(pc st:Int)(cO:Nat):
 WMr w bR w.heap.size ⟨some ⟨bR,0,none⟩,nR,cR,z,c,hz,hc,some ⟨bH,0,none⟩,nH,cH,pc,st,some ⟨bO,0,none⟩,nO,cO⟩ (fun i=>(Hp i).moved (blk i)):=by
 have eb:∀{b m q:Nat},Blk (some ⟨b,0,none⟩) m q->b=q:=fun{b m q}h=>by
  have:=h.2;simpa using this
 have o1:=h.o1;have o3:=h.o3;refine⟨⟨⟨_,.inr ⟨bR,rfl,h.regs⟩⟩,.inr ⟨bH,rfl,h.heaps.1⟩,fun i hi=>⟨_,.inr ⟨blk i,rfl,(h.heaps.2.1 i hi).2⟩⟩,⟨_,.inr ⟨bO,rfl,h.obs⟩⟩,?_,?_,?_,?_,?_,?_,?_⟩,hs.regs,hs.heaps,hs.data,hs.obs,?_⟩
 ·intro q h1 h2;have:=eb h1;have:=eb h2;omega
 ·intro q h1 h2;have:=eb h1;have:=eb h2;omega
 ·intro q h1 h2;have:=eb h1;have:=eb h2;omega
 ·intro i hi q h1 h2;have:=eb h1;have:=eb h2;have:=(h.heaps.2.1 i hi).1;omega
 ·intro i hi q h1 h2;have:=eb h1;have:=eb h2;have:=(h.heaps.2.1 i hi).1;omega
 ·intro i hi q h1 h2;have:=eb h1;have:=eb h2;have:=h.o2 i hi;omega
 ·intro i j hi hj hne q h1 h2
  have e1:=eb h1;have e2:=eb h2;have hi':i<nH:=hi;have hj':j<nH:=hj;rcases Nat.lt_or_gt_of_ne hne with hl|hl
  ·have:=h.heaps.2.2 i j hl hj';omega
  ·have:=h.heaps.2.2 j i hl hi';omega
 ·intro q hq
  rcases hq with hq|hq|hq
  ·have:=eb hq;have:=h.regs.lt;omega
  ·rcases hq with hq|⟨i,hi,hq⟩
   ·have:=eb hq;have:=h.heaps.1.lt;omega
   ·have:=eb hq;have:=(h.heaps.2.1 i hi).1;have:=(h.heaps.2.1 i hi).2.lt;omega
  ·have:=eb hq;have:=h.obs.lt;omega
theorem Arr.same{w w':World}{b n:Nat}{f:Nat->Value}(h:Arr w b n f)(hs:w.heap.size<=w'.heap.size)(hq:w'.heap[b]?=w.heap[b]?):Arr w' b n f:=
 ⟨Nat.lt_of_lt_of_le h.1 hs,fun i=>(World.frozen?_of_block (a:=⟨b,i,none⟩) hq).trans (h.2.1 i),fun i hi=>(World.cell?_of_block (a:=⟨b,i,none⟩) hq).trans (h.2.2 i hi)⟩
theorem WrR.same{w w':World}{ao:Option Addr}{n:Nat}{f:Nat->Value}(h:WrR w ao n f)(hs:w.heap.size<=w'.heap.size)(hq:∀q,Blk ao n q->w'.heap[q]?=w.heap[q]?):WrR w' ao n f:=by
 by_cases h0:n=0
 ·exact .inl h0
 ·rcases h with h|⟨b,rfl,h⟩
  ·exact .inl h
  ·exact .inr ⟨b,rfl,h.same hs (hq b ⟨h0,rfl⟩)⟩
theorem WMr.at{w w':World}{lo hi:Nat}{x:MVl}{Hq:Nat->HeapV}(h:WMr w lo hi x Hq)(hs:w.heap.size<=w'.heap.size)(hq:∀q,lo<=q->q<hi->w'.heap[q]?=w.heap[q]?):WMr w' lo hi x Hq:=by
 have key:∀q,SM x.aR x.nR x.aH x.nH Hq x.aO x.nO q->w'.heap[q]?=w.heap[q]?:=fun q hS=>hq q (h.s q hS).1 (h.s q hS).2
 refine⟨⟨?_,h.wm.heaps.same hs fun q hb=>key q (.inr (.inl (.inl hb))),fun i hi=>?_,?_,h.wm.rh,h.wm.ro,h.wm.ho,h.wm.rd,h.wm.hd,h.wm.od,h.wm.dd⟩,h.r,h.h,h.l,h.o,h.s⟩
 ·obtain⟨f,hf⟩:=h.wm.regs
  exact⟨f,hf.same hs fun q hb=>key q (.inl hb)⟩
 ·obtain⟨f,hf⟩:=h.wm.dat i hi
  exact⟨f,hf.same hs fun q hb=>key q (.inr (.inl (.inr ⟨i,hi,hb⟩)))⟩
 ·obtain⟨f,hf⟩:=h.wm.obs
  exact⟨f,hf.same hs fun q hb=>key q (.inr (.inr hb))⟩
theorem MachCp.same{w w':World}{bR nR:Nat}{R:Nat->Int}{bH nH:Nat}{Hp:Nat->HeapV}{blk:Nat->Nat}{bO nO:Nat}{K V:Nat->Int}(h:MachCp w bR nR R bH nH Hp blk bO nO K V)(hs:w.heap.size<=w'.heap.size)(hq:∀q,bR<=q->q<w.heap.size->w'.heap[q]?=w.heap[q]?):MachCp w' bR nR R bH nH Hp blk bO nO K V:=by
 have o1:=h.o1;have o3:=h.o3;refine⟨h.regs.same hs (hq _ (Nat.le_refl _) h.regs.lt),⟨h.heaps.1.same hs (hq _ (by omega) h.heaps.1.lt),fun i hi=>⟨(h.heaps.2.1 i hi).1,(h.heaps.2.1 i hi).2.same hs (hq _ ?_ (h.heaps.2.1 i hi).2.lt)⟩,h.heaps.2.2⟩,h.obs.same hs (hq _ (by omega) h.obs.lt),h.o1,h.o2,h.o3⟩;have:=(h.heaps.2.1 i hi).1;omega
def Sz(M M':MV):Prop:=M'.nH=M.nH/\(∀i,(M'.Hp i).len=(M.Hp i).len)/\M'.nO<=M.nO+1
theorem Sz.refl(M:MV):Sz M M:=⟨rfl,fun _=>rfl,Nat.le_succ _⟩
theorem sz_same{M M':MV}(h1:M'.nH=M.nH)(h2:M'.Hp=M.Hp)(h3:M'.nO<=M.nO+1):Sz M M':=⟨h1,fun i=>by rw[h2],h3⟩
def szO(M:MV):Outc->Prop
 |.inl (M',_)=>Sz M M'
 |.inr M'=>Sz M M'
theorem pokeN_nOs(M:MV)(h o:Nat)(v:Int):∀k,(M.pokeN h o v k).nO=M.nO
 |0=>rfl
 |k+1=>pokeN_nOs M h o v k
theorem memOp_sz(s:Bool)(wd:Nat)(A:Int)(d h:Nat)(M:MV)(nx:Int):szO M (memOp s wd A d h M nx):=by
 unfold memOp;split
 ·exact sz_same rfl rfl (Nat.le_refl _)
 ·split
  ·split
   ·have h1:=MV.pokeN_len (M.see 1 A) h (A-(M.Hp h).base).toNat (M.R d) wd
    exact⟨h1.1,h1.2.1,by rw[pokeN_nOs];exact Nat.le_refl _⟩
   ·exact sz_same rfl rfl (Nat.le_refl _)
  ·exact sz_same rfl rfl (Nat.le_refl _)
theorem jumpOp_sz(a b c:Bool)(imm:Int)(M:MV)(nx:Int):szO M (jumpOp a b c imm M nx):=by
 unfold jumpOp;split
 ·split
  ·exact sz_same rfl rfl (Nat.le_refl _)
  ·exact sz_same rfl rfl (Nat.le_refl _)
 ·exact Sz.refl M
theorem exec_sz(op d a b h:Nat)(imm:Int)(M:MV)(nx:Int):szO M (exec op d a b h imm M nx):=by
 unfold exec;split;all_goals first
  |exact memOp_sz _ _ _ _ _ _ _
  |exact jumpOp_sz _ _ _ _ _ _
  |exact sz_same rfl rfl (Nat.le_succ _)
  |exact sz_same rfl rfl (Nat.le_refl _)
  |(split<;>exact sz_same rfl rfl (Nat.le_succ _))
theorem stepM_sz(len:Nat)(F:Nat->Nat->Int)(M:MV):Sz M (stepM len F M):=by
 by_cases h:(len:Int)<=M.pc
 ·unfold stepM;rw[if_pos h];exact sz_same rfl rfl (Nat.le_succ _)
 ·rw[stepM_in len F M h]
  have:=exec_sz (F M.pc.toNat 0).toNat (F M.pc.toNat 1).toNat (F M.pc.toNat 2).toNat (F M.pc.toNat 3).toNat (F M.pc.toNat 5).toNat (F M.pc.toNat 4) M (M.pc+1);generalize exec (F M.pc.toNat 0).toNat (F M.pc.toNat 1).toNat (F M.pc.toNat 2).toNat (F M.pc.toNat 3).toNat (F M.pc.toNat 5).toNat (F M.pc.toNat 4) M (M.pc+1)=o at this⊢;cases o with
  |inl q=>obtain⟨M',nx⟩:=q;exact this
  |inr M'=>exact this
theorem stepA_small(len:Nat)(F:Nat->Nat->Int)(nR:Nat)(M:MV):SmallA (stepA len F nR M):=by
 unfold stepA;cases h:(flatOK len F&&machOK nR M.z M.c M.hz M.hc M.nH M.Hp M.pc M.st M.nO M.K)with
 |false=>exact trivial
 |true=>
  simp only[Bool.and_eq_true]at h;obtain⟨_,h2,h3,_,h5⟩:=mach_facts h.2;rw[if_pos rfl];have key:∀M',Sz M M'->Small 8 M'.nH M'.Hp M'.nO:=fun M' hz=>⟨by decide,by rw[hz.1];omega,fun i hi=>by rw[hz.2.1 i];have:=(h3 i (by rw[<-hz.1];exact hi)).2.1;omega,by have:=hz.2.2;omega⟩
  show Small 8 _ _ _;split
  ·exact key _ (stepM_sz len F M)
  ·exact key _ (Sz.refl M)
end Go.Proofs.YtpbceodheeepoaaGreat
