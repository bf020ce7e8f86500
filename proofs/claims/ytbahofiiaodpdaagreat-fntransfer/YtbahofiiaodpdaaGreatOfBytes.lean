import Derived.Test.YtbahofiiaodpdaaGreatMem
import Derived.Test.YtbahofiiaodpdaaGreatOfCoreLoad
import Derived.Test.YtbahofiiaodpdaaGreatOfCoreNo
import Derived.Test.YtbahofiiaodpdaaGreatCoreCmp
import Derived.Test.YtbahofiiaodpdaaGreatOfLen64
namespace Go.Proofs.YtbahofiiaodpdaaGreat
open Go.RowKit
def Cell1(w:World)(b:Nat)(v:Value)(ty:Nat):Prop:=w.heap[b]?=some (.cells #[v] ty (0,0))
theorem Cell1.cell{w:World}{b:Nat}{v:Value}{ty:Nat}(h:Cell1 w b v ty):w.cell? ⟨b,0,none⟩=some v:=by
 rw[cell_of_row w b 0 #[v] ty (0,0) h];rfl
theorem Cell1.lt{w:World}{b:Nat}{v:Value}{ty:Nat}(h:Cell1 w b v ty):b<w.heap.size:=(Array.getElem?_eq_some_iff.1 h).1
theorem Cell1.below{w w':World}{b:Nat}{v:Value}{ty:Nat}(h:Cell1 w b v ty)(hb:Below w.heap.size w w'):Cell1 w' b v ty:=(hb.block b h.lt).trans h
theorem Cell1.kept{w w':World}{b:Nat}{v:Value}{ty:Nat}(h:Cell1 w b v ty){base e size n:Nat}{u:Value}{xs:List Value}(hr:w.ownsRow base e size u n xs)(hg:w.grownBy w' u.ownBlock)(he:e≠ty∨1<n*size):Cell1 w' b v ty:=by
 refine(hg.block b h.lt fun q=>?_).trans h;rcases hr.2 with⟨rfl,_⟩|⟨g,cap,cur,rfl,_,hgg,hn,_,hs,_⟩
 ·simp[Value.ownBlock]at q
 ·simp only[Value.ownBlock,Option.some.injEq]at q
  subst q;rw[h]at hgg;simp only[Option.some.injEq,Obj.cells.injEq]at hgg;rcases he with he|he
  ·exact he hgg.2.1.symm
  ·rw[<-hgg.1]at hs
   have:n*size<=cap*size:=Nat.mul_le_mul_right _ hn;simp at hs;omega
abbrev Ent:=Sum Nat (Sum (Nat×Value×Nat) (Nat×Value×Nat×Value×Nat))
abbrev Ent.plain(f:Nat):Ent:=.inl f
abbrev Ent.one(f:Nat)(v:Value)(ty:Nat):Ent:=.inr (.inl (f,v,ty))
abbrev Ent.two(f:Nat)(v:Value)(ty:Nat)(v':Value)(ty':Nat):Ent:=.inr (.inr (f,v,ty,v',ty'))
def fnV(f:Nat):Value:=.func (.func f) #[] #[]
def ent:Nat->Ent
 |1=>.plain 102
 |2=>.plain 103
 |3=>.one 134 (fnV 105) 139
 |4=>.one 134 (fnV 106) 139
 |5=>.one 134 (fnV 107) 139
 |6=>.one 134 (fnV 108) 139
 |7=>.one 134 (fnV 109) 139
 |8=>.one 134 (fnV 110) 139
 |9=>.plain 111
 |10=>.one 136 (fnV 105) 139
 |11=>.one 136 (fnV 108) 139
 |12=>.one 136 (fnV 113) 139
 |13=>.one 136 (fnV 114) 139
 |14=>.plain 115
 |15=>.plain 116
 |16=>.plain 117
 |17=>.plain 118
 |18=>.plain 119
 |19=>.one 139 (fnV 121) 150
 |20=>.one 139 (fnV 122) 150
 |21=>.two 141 (fnV 124) 152 (.int .u64 1) 77
 |22=>.two 141 (fnV 124) 152 (.int .u64 8) 77
 |23=>.two 143 (fnV 124) 152 (.int .u64 1) 77
 |24=>.two 143 (fnV 124) 152 (.int .u64 8) 77
 |25=>.two 141 (fnV 126) 152 (.int .u64 1) 77
 |26=>.two 141 (fnV 126) 152 (.int .u64 8) 77
 |27=>.two 143 (fnV 126) 152 (.int .u64 1) 77
 |28=>.two 143 (fnV 126) 152 (.int .u64 8) 77
 |29=>.plain 127
 |30=>.two 144 (fnV 121) 150 (.bool true) 4
 |31=>.two 144 (fnV 121) 150 (.bool false) 4
 |32=>.two 144 (fnV 122) 150 (.bool true) 4
 |33=>.two 144 (fnV 122) 150 (.bool false) 4
 |_=>.plain 129
def tyOK(ty:Nat):Prop:=ty≠79/\ty≠5/\ty≠82/\ty≠90
def EntOK(w:World)(base:Nat)(v:Value):Ent->Prop
 |.inl f=>v=.func (.func f) #[] #[]
 |.inr (.inl (f,u,ty))=>tyOK ty/\∃b,base<=b/\Cell1 w b u ty/\v=.func (.func f) #[] #[.pointer (some ⟨b,0,none⟩)]
 |.inr (.inr (f,u,ty,u',ty'))=>tyOK ty/\tyOK ty'/\∃b b',base<=b/\base<=b'/\Cell1 w b u ty/\Cell1 w b' u' ty'/\v=.func (.func f) #[] #[.pointer (some ⟨b,0,none⟩),.pointer (some ⟨b',0,none⟩)]
theorem EntOK.kept{w w':World}{base:Nat}{v:Value}{e:Ent}(h:EntOK w base v e)(k:∀b u ty,tyOK ty->Cell1 w b u ty->Cell1 w' b u ty):EntOK w' base v e:=by
 rcases e with f|⟨f,u,ty⟩|⟨f,u,ty,u',ty'⟩
 ·exact h
 ·obtain⟨ht,b,h1,h2,h3⟩:=h;exact⟨ht,b,h1,k _ _ _ ht h2,h3⟩
 ·obtain⟨ht,ht',b,b',h1,h2,h3,h4,h5⟩:=h;exact⟨ht,ht',b,b',h1,h2,k _ _ _ ht h3,k _ _ _ ht' h4,h5⟩
def Tab(w:World)(base:Nat)(tab:List Value):Prop:=tab.length=35/\∀op,1<=op->op<=34->∃v,tab[op]?=some v/\EntOK w base v (ent op)
theorem Tab.kept{w w':World}{base:Nat}{tab:List Value}(h:Tab w base tab)(k:∀b u ty,tyOK ty->Cell1 w b u ty->Cell1 w' b u ty):Tab w' base tab:=
 ⟨h.1,fun op h1 h2=>by obtain⟨v,hv,he⟩:=h.2 op h1 h2;exact⟨v,hv,he.kept k⟩⟩
def coreL(p:Pl)(M:MV)(nx:Int)(tab:List Value):List Value:=
 .slice (some ⟨p.bR,0,none⟩) 8 p.cR::.bool M.z::.bool M.c::.bool M.hz::.bool M.hc::.slice p.aH M.nH p.cH::.int .i64 M.pc::.int .i64 M.st::.slice p.aO M.nO p.cO::.int .i64 nx::tab
structure Core(w:World)(base bC:Nat)(p:Pl)(nx:Int)(tab:List Value)(M:MV):Prop where
 mem:Mem w base p M
 core:w.ownsRow base 90 45 (.slice (some ⟨bC,0,none⟩) 1 1) 1 (coreL p M nx tab)
 tab:Tab w base tab
section
variable{w w':World}{base bC:Nat}{p:Pl}{nx:Int}{tab:List Value}{M:MV}
theorem Core.below(h:Core w base bC p nx tab M)(hb:Below w.heap.size w w'):Core w' base bC p nx tab M:=
 ⟨h.mem.below hb,row_below h.core hb,h.tab.kept fun _ _ _ _ hc=>hc.below hb⟩
theorem Core.lt(h:Core w base bC p nx tab M):base<=bC/\bC<w.heap.size:=h.core.lt bC rfl
theorem Core.ltR(h:Core w base bC p nx tab M):base<=p.bR/\p.bR<w.heap.size:=h.mem.regs.lt p.bR rfl
theorem Core.size(h:Core w base bC p nx tab M):base<=w.heap.size:=Nat.le_of_lt (Nat.lt_of_le_of_lt h.lt.1 h.lt.2)
theorem Core.neR(h:Core w base bC p nx tab M):bC≠p.bR:=by
 have:=apart_some (rows_apart h.core h.mem.regs (by decide));simpa[Value.ownBlock]using this
theorem Core.neO(h:Core w base bC p nx tab M):some bC≠(Value.slice p.aO M.nO p.cO).ownBlock:=apart_some (rows_apart h.core h.mem.obs (by decide))
theorem Core.reg(h:Core w base bC p nx tab M){i:Nat}(hi:i<8):w.cell? ⟨p.bR,i,none⟩=some (.int .u64 (M.R i)):=by
 rw[h.mem.regs.cellAt i (by omega),first_at hi];rfl
theorem Core.free(h:Core w base bC p nx tab M)(i:Nat):w.frozen? ⟨bC,i,none⟩=false:=h.core.frozenAt i
theorem Core.freeR(h:Core w base bC p nx tab M)(i:Nat):w.frozen? ⟨p.bR,i,none⟩=false:=h.mem.regs.frozenAt i
theorem Core.c0(h:Core w base bC p nx tab M):w.cell? ⟨bC,0,none⟩=some (.slice (some ⟨p.bR,0,none⟩) 8 p.cR):=h.core.cellAt 0 (by decide)
theorem Core.c1(h:Core w base bC p nx tab M):w.cell? ⟨bC,1,none⟩=some (.bool M.z):=h.core.cellAt 1 (by decide)
theorem Core.c2(h:Core w base bC p nx tab M):w.cell? ⟨bC,2,none⟩=some (.bool M.c):=h.core.cellAt 2 (by decide)
theorem Core.c3(h:Core w base bC p nx tab M):w.cell? ⟨bC,3,none⟩=some (.bool M.hz):=h.core.cellAt 3 (by decide)
theorem Core.c4(h:Core w base bC p nx tab M):w.cell? ⟨bC,4,none⟩=some (.bool M.hc):=h.core.cellAt 4 (by decide)
theorem Core.c5(h:Core w base bC p nx tab M):w.cell? ⟨bC,5,none⟩=some (.slice p.aH M.nH p.cH):=h.core.cellAt 5 (by decide)
theorem Core.c6(h:Core w base bC p nx tab M):w.cell? ⟨bC,6,none⟩=some (.int .i64 M.pc):=h.core.cellAt 6 (by decide)
theorem Core.c7(h:Core w base bC p nx tab M):w.cell? ⟨bC,7,none⟩=some (.int .i64 M.st):=h.core.cellAt 7 (by decide)
theorem Core.c8(h:Core w base bC p nx tab M):w.cell? ⟨bC,8,none⟩=some (.slice p.aO M.nO p.cO):=h.core.cellAt 8 (by decide)
theorem Core.c9(h:Core w base bC p nx tab M):w.cell? ⟨bC,9,none⟩=some (.int .i64 nx):=h.core.cellAt 9 (by decide)
theorem Core.setR(h:Core w base bC p nx tab M)(d:Nat)(v:Int):Core (w.setCell ⟨p.bR,d,none⟩ (.int .u64 v)) base bC p nx tab (M.setR d v):=by
 have hg:=(h.mem.regs.stored d (.int .u64 v)).2;exact⟨h.mem.setR d v,h.core.kept hg (rows_apart h.core h.mem.regs (by decide)),h.tab.kept fun _ _ _ _ hc=>hc.kept h.mem.regs hg (.inr (by decide))⟩
theorem Core.poke(h:Core w base bC p nx tab M){k:Nat}(hk:k<M.nH)(j:Nat)(u:Int):Core (w.setCell ⟨p.blk k,j,none⟩ (.int .u8 u)) base bC p nx tab (M.poke k j u):=by
 have hg:=((h.mem.data k hk).stored j (.int .u8 u)).2;exact⟨h.mem.poke hk j u,h.core.kept hg (rows_apart h.core (h.mem.data k hk) (by decide)),h.tab.kept fun _ _ _ ht hc=>hc.kept (h.mem.data k hk) hg (.inl (Ne.symm ht.2.1))⟩
theorem Core.put(h:Core w base bC p nx tab M)(j:Nat)(u:Value){nx':Int}{M':MV}(hm:∀v,Mem v base p M->Mem v base p M')(hl:(coreL p M nx tab).set j u=coreL p M' nx' tab):Core (w.setCell ⟨bC,j,none⟩ u) base bC p nx' tab M':=by
 obtain⟨h1,hg⟩:=h.core.stored j u;rw[hl]at h1;exact⟨hm _ (h.mem.other h.core hg (by decide) (by decide) (by decide) (by decide)),h1,h.tab.kept fun _ _ _ ht hc=>hc.kept h.core hg (.inl (Ne.symm ht.2.2.2))⟩
theorem Core.next(h:Core w base bC p nx tab M)(v:Int):Core (w.setCell ⟨bC,9,none⟩ (.int .i64 v)) base bC p v tab M:=h.put 9 _ (fun _ q=>q) rfl
theorem Core.setSt(h:Core w base bC p nx tab M)(v:Int):Core (w.setCell ⟨bC,7,none⟩ (.int .i64 v)) base bC p nx tab {M with st:=v}:=h.put 7 _ (fun _ q=>⟨q.regs,q.heaps,q.data,q.obs,q.ne⟩) rfl
theorem Core.setPc(h:Core w base bC p nx tab M)(v:Int):Core (w.setCell ⟨bC,6,none⟩ (.int .i64 v)) base bC p nx tab {M with pc:=v}:=h.put 6 _ (fun _ q=>⟨q.regs,q.heaps,q.data,q.obs,q.ne⟩) rfl
theorem Core.setZ(h:Core w base bC p nx tab M)(v:Bool):Core (w.setCell ⟨bC,1,none⟩ (.bool v)) base bC p nx tab {M with z:=v}:=h.put 1 _ (fun _ q=>⟨q.regs,q.heaps,q.data,q.obs,q.ne⟩) rfl
theorem Core.setC(h:Core w base bC p nx tab M)(v:Bool):Core (w.setCell ⟨bC,2,none⟩ (.bool v)) base bC p nx tab {M with c:=v}:=h.put 2 _ (fun _ q=>⟨q.regs,q.heaps,q.data,q.obs,q.ne⟩) rfl
theorem Core.setHz(h:Core w base bC p nx tab M)(v:Bool):Core (w.setCell ⟨bC,3,none⟩ (.bool v)) base bC p nx tab {M with hz:=v}:=h.put 3 _ (fun _ q=>⟨q.regs,q.heaps,q.data,q.obs,q.ne⟩) rfl
theorem Core.setHc(h:Core w base bC p nx tab M)(v:Bool):Core (w.setCell ⟨bC,4,none⟩ (.bool v)) base bC p nx tab {M with hc:=v}:=h.put 4 _ (fun _ q=>⟨q.regs,q.heaps,q.data,q.obs,q.ne⟩) rfl
theorem Core.flagged(h:Core w base bC p nx tab M)(r k:Int):Core (flagged w bC r k) base bC p nx tab (M.flags r (k !=0)):=
 (((h.setZ (r==0)).setHz true).setC (k !=0)).setHc true
theorem Core.seen(h:Core w base bC p nx tab M){kind val:Int}(hs:Seen base bC M.nO (.slice p.aO M.nO p.cO) (first (M.nO*2) (obsF M.K M.V)) kind val w w'):
 ∃g cap,Core w' base bC {p with aO:=some ⟨g,0,none⟩,cO:=cap} nx tab (M.see kind val):=by
 obtain⟨v',w1,o1,g1,hb⟩:=hs;obtain⟨g,cap,rfl⟩:=row_shape o1;refine⟨g,cap,?_⟩;have m1:=h.mem.see o1 g1;have r1:=h.core.kept g1 (rows_apart h.core h.mem.obs (by decide));have t1:Tab w1 base tab:=h.tab.kept fun _ _ _ ht hc=>hc.kept h.mem.obs g1 (.inl (Ne.symm ht.2.2.1))
 obtain⟨r2,hg⟩:=r1.stored 8 (.slice (some ⟨g,0,none⟩) (M.nO+1) cap);have m2:=m1.other r1 hg (by decide) (by decide) (by decide) (by decide);have t2:=t1.kept (w':=w1.setCell ⟨bC,8,none⟩ (.slice (some ⟨g,0,none⟩) (M.nO+1) cap)) fun _ _ _ ht hc=>hc.kept r1 hg (.inl (Ne.symm ht.2.2.2))
 have hc:Core (w1.setCell ⟨bC,8,none⟩ (.slice (some ⟨g,0,none⟩) (M.nO+1) cap)) base bC {p with aO:=some ⟨g,0,none⟩,cO:=cap} nx tab (M.see kind val):=⟨m2,r2,t2⟩
 exact hc.below (by simpa using hb)
def Keep(w w':World):Prop:=∀b u ty,tyOK ty->Cell1 w b u ty->Cell1 w' b u ty
theorem Keep.refl(w:World):Keep w w:=fun _ _ _ _ h=>h
theorem Keep.trans{a b c:World}(h:Keep a b)(k:Keep b c):Keep a c:=fun _ _ _ ht hc=>k _ _ _ ht (h _ _ _ ht hc)
theorem Keep.below{w w':World}(hb:Below w.heap.size w w'):Keep w w':=fun _ _ _ _ hc=>hc.below hb
theorem Core.keepR(h:Core w base bC p nx tab M)(d:Nat)(v:Int):Keep w (w.setCell ⟨p.bR,d,none⟩ (.int .u64 v)):=
 fun _ _ _ _ hc=>hc.kept h.mem.regs (h.mem.regs.stored d (.int .u64 v)).2 (.inr (by decide))
theorem Core.keepD(h:Core w base bC p nx tab M){k:Nat}(hk:k<M.nH)(j:Nat)(u:Int):Keep w (w.setCell ⟨p.blk k,j,none⟩ (.int .u8 u)):=
 fun _ _ _ ht hc=>hc.kept (h.mem.data k hk) ((h.mem.data k hk).stored j (.int .u8 u)).2 (.inl (Ne.symm ht.2.1))
theorem Core.keepC(h:Core w base bC p nx tab M)(j:Nat)(u:Value):Keep w (w.setCell ⟨bC,j,none⟩ u):=
 fun _ _ _ ht hc=>hc.kept h.core (h.core.stored j u).2 (.inl (Ne.symm ht.2.2.2))
theorem Core.keepF(h:Core w base bC p nx tab M)(r k:Int):Keep w (Go.Proofs.YtbahofiiaodpdaaGreat.flagged w bC r k):=
 (((h.keepC 1 _).trans ((h.setZ (r==0)).keepC 3 _)).trans (((h.setZ (r==0)).setHz true).keepC 2 _)).trans ((((h.setZ (r==0)).setHz true).setC (k !=0)).keepC 4 _)
theorem Core.keepS(h:Core w base bC p nx tab M){kind val:Int}(hs:Seen base bC M.nO (.slice p.aO M.nO p.cO) (first (M.nO*2) (obsF M.K M.V)) kind val w w'):Keep w w':=by
 obtain⟨v',w1,o1,g1,hb⟩:=hs;have r1:=h.core.kept g1 (rows_apart h.core h.mem.obs (by decide));have k1:Keep w w1:=fun _ _ _ ht hc=>hc.kept h.mem.obs g1 (.inl (Ne.symm ht.2.2.1))
 have k2:Keep w1 (w1.setCell ⟨bC,8,none⟩ v'):=fun _ _ _ ht hc=>hc.kept r1 (r1.stored 8 v').2 (.inl (Ne.symm ht.2.2.2))
 exact(k1.trans k2).trans (Keep.below (by simpa using hb))
theorem Seen.below{base bC n:Nat}{vO:Value}{xs:List Value}{kind val:Int}{w w':World}(hs:Seen base bC n vO xs kind val w w')(hb:base<=w.heap.size)(hC:base<=bC)(ho:w.ownsRow base 82 2 vO n xs):Below base w w':=by
 obtain⟨v',w1,_,g1,hb1⟩:=hs;have b1:Below base w w1:=(Below.refl _ _).grown g1 hb (fun k hk=>(ho.lt k hk).1);exact(b1.setCell (by simpa using hC) _).trans (hb1.mono (Nat.le_trans hb g1.size))
end
abbrev Outc:=Sum (MV×Int) MV
abbrev Outc.done(M:MV)(nx:Int):Outc:=.inl (M,nx)
abbrev Outc.flt(M:MV):Outc:=.inr M
def loadV(f:Nat->Int)(o:Nat):Nat->Int
 |0=>0
 |k+1=>loadV f o k+f (o+k)*2^(8*k)
def MV.pokeN(M:MV)(h o:Nat)(v:Int):Nat->MV
 |0=>M
 |k+1=>(M.pokeN h o v k).poke h (o+k) (v/2^(8*k)%256)
def memOp(store:Bool)(width:Nat)(addr:Int)(d h:Nat)(M:MV)(nx:Int):Outc:=
 if M.nH<=h then .flt (M.see 1 addr)
 else if lies (M.Hp h).base addr width (M.Hp h).len&&(!store||(M.Hp h).wr)then
  if store then .done ((M.see 1 addr).pokeN h (addr-(M.Hp h).base).toNat (M.R d) width) nx
  else .done ((M.see 1 addr).setR d (loadV (M.Hp h).dat (addr-(M.Hp h).base).toNat width)) nx
 else .flt (M.see 1 addr)
def jumpOp(has flag wanted:Bool)(imm:Int)(M:MV)(nx:Int):Outc:=
 if has then(if flag==wanted then .done (M.see 2 1) imm else .done (M.see 2 0) nx)else .flt M
def adrN(M:MV)(a:Nat)(imm:Int):Int:=IntKind.u64.wrap (M.R a+IntKind.u64.wrap imm)
def adrX(M:MV)(a b:Nat):Int:=IntKind.u64.wrap (M.R a+M.R b)
def exec(op d a b h:Nat)(imm:Int)(M:MV)(nx:Int):Outc:=
 match op with
 |1=>.done (M.setR d (M.R a)) nx
 |2=>.done (M.setR d (IntKind.u64.wrap imm)) nx
 |3=>.done (M.setR d (IntKind.u64.wrap (M.R a+M.R b))) nx
 |4=>.done (M.setR d (IntKind.u64.wrap (M.R a-M.R b))) nx
 |5=>.done (M.setR d (IntKind.u64.wrap (M.R a*M.R b))) nx
 |6=>.done (M.setR d (bits BinOp.and IntKind.u64 (M.R a) (M.R b))) nx
 |7=>.done (M.setR d (bits BinOp.or IntKind.u64 (M.R a) (M.R b))) nx
 |8=>.done (M.setR d (bits BinOp.xor IntKind.u64 (M.R a) (M.R b))) nx
 |9=>.done ((M.see 3 (bitsN (M.R a).toNat*65+bitsN (M.R b).toNat)).setR d (if M.R b=0 then 0 else M.R a/M.R b)) nx
 |10=>.done (M.setR d (IntKind.u64.wrap (M.R a+IntKind.u64.wrap imm))) nx
 |11=>.done (M.setR d (bits BinOp.and IntKind.u64 (M.R a) (IntKind.u64.wrap imm))) nx
 |12=>.done (M.setR d (IntKind.u64.wrap (M.R a*2^(IntKind.u64.wrap imm).toNat))) nx
 |13=>.done (M.setR d (M.R a/2^(IntKind.u64.wrap imm).toNat)) nx
 |14=>.done ((M.setR d (wadd (M.R a) (M.R b) 0)).flags (wadd (M.R a) (M.R b) 0) (carry (M.R a) (M.R b) 0 !=0)) nx
 |15=>if M.hc then .done ((M.setR d (wadd (M.R a) (M.R b) (if M.c then 1 else 0))).flags (wadd (M.R a) (M.R b) (if M.c then 1 else 0)) (carry (M.R a) (M.R b) (if M.c then 1 else 0) !=0)) nx else .flt M
 |16=>.done ((M.flags (wsub (M.R a) (M.R b)) (borrow (M.R a) (M.R b) !=0)).setR d (wsub (M.R a) (M.R b))) nx
 |17=>.done (M.flags (wsub (M.R a) (M.R b)) (borrow (M.R a) (M.R b) !=0)) nx
 |18=>.done (M.flags (wsub (M.R a) (IntKind.u64.wrap imm)) (borrow (M.R a) (IntKind.u64.wrap imm) !=0)) nx
 |19=>if M.hz then .done (M.setR d (if M.z then M.R a else M.R b)) nx else .flt M
 |20=>if M.hc then .done (M.setR d (if M.c then M.R a else M.R b)) nx else .flt M
 |21=>memOp false 1 (adrN M a imm) d h M nx
 |22=>memOp false 8 (adrN M a imm) d h M nx
 |23=>memOp true 1 (adrN M a imm) d h M nx
 |24=>memOp true 8 (adrN M a imm) d h M nx
 |25=>memOp false 1 (adrX M a b) d h M nx
 |26=>memOp false 8 (adrX M a b) d h M nx
 |27=>memOp true 1 (adrX M a b) d h M nx
 |28=>memOp true 8 (adrX M a b) d h M nx
 |29=>.done M imm
 |30=>jumpOp M.hz M.z true imm M nx
 |31=>jumpOp M.hz M.z false imm M nx
 |32=>jumpOp M.hc M.c true imm M nx
 |33=>jumpOp M.hc M.c false imm M nx
 |_=>.done {M with st:=1} M.pc
structure MV.Ok(M:MV):Prop where
 reg:∀i,i<8->0<=M.R i/\M.R i<=18446744073709551615
 heaps:M.nH<=8
 heap:∀i,i<M.nH->0<=(M.Hp i).base/\1<=(M.Hp i).len/\(M.Hp i).len<=4096/\(M.Hp i).base+(M.Hp i).len<=18446744073709551615
 dat:∀i,i<M.nH->∀j,j<(M.Hp i).len->0<=(M.Hp i).dat j/\(M.Hp i).dat j<=255
def Res(base bC:Nat)(tab:List Value)(w:World)(o:Outc)(e:Ending)(w':World):Prop:=
 Below base w w'/\Keep w w'/\match o with
  |.inl (M,nx)=>e=.returned (.tuple #[])/\∃p,Core w' base bC p nx tab M
  |.inr M=>e=.panicked [{v:=.iface 124 (.agg #[]),recovered:=false}]/\∃p nx,Core w' base bC p nx tab M
theorem wrap_range(x:Int):0<=IntKind.u64.wrap x/\IntKind.u64.wrap x<=18446744073709551615:=by
 have h:IntKind.u64.wrap x=x%18446744073709551616:=by rfl
 rw[h];omega
theorem loadV_range(f:Nat->Int)(o:Nat):∀k,(∀j,j<k->0<=f (o+j)/\f (o+j)<=255)->0<=loadV f o k/\loadV f o k<2^(8*k)
 |0,_=>by simp[loadV]
 |k+1,h=>by
  have ih:=loadV_range f o k fun j hj=>h j (by omega)
  have hk:=h k (by omega);have e:(2:Int)^(8*(k+1))=256*2^(8*k):=by rw[show 8*(k+1)=8*k+8 by omega,Int.pow_add];omega
  unfold loadV;rw[e];have p:(0:Int)<2^(8*k):=Int.pow_pos (by decide);have m0:0<=f (o+k)*2^(8*k):=Int.mul_nonneg hk.1 (Int.le_of_lt p);have m1:f (o+k)*2^(8*k)<=255*2^(8*k):=Int.mul_le_mul_of_nonneg_right hk.2 (Int.le_of_lt p);omega
theorem wrap_id{x:Int}(h0:0<=x)(h1:x<18446744073709551616):IntKind.u64.wrap x=x:=by
 have h:IntKind.u64.wrap x=x%18446744073709551616:=by rfl
 rw[h];omega
theorem pow_le_64{k:Nat}(h:k<=7):(256:Int)*2^(8*k)<=18446744073709551616:=by
 match k,h with
 |0,_|1,_|2,_|3,_|4,_|5,_|6,_|7,_=>decide
theorem byte_up{y:Int}{k:Nat}(hk:k<=7)(h0:0<=y)(h1:y<=255):0<=y*2^(8*k)/\y*2^(8*k)<18446744073709551616:=by
 have p:(0:Int)<2^(8*k):=Int.pow_pos (by decide);have m0:0<=y*2^(8*k):=Int.mul_nonneg h0 (Int.le_of_lt p);have m1:y*2^(8*k)<=255*2^(8*k):=Int.mul_le_mul_of_nonneg_right h1 (Int.le_of_lt p);have:=pow_le_64 hk;omega
theorem or_add{x y:Int}{k:Nat}(hk:k<=7)(x0:0<=x)(x1:x<2^(8*k))(h0:0<=y)(h1:y<=255):bits BinOp.or IntKind.u64 x (y*2^(8*k))=x+y*2^(8*k):=by
 obtain⟨X,rfl⟩:=Int.eq_ofNat_of_zero_le x0;obtain⟨Y,rfl⟩:=Int.eq_ofNat_of_zero_le h0;have hb:=byte_up hk h0 h1;have hp:=pow_le_64 hk;have hX:X<2^(8*k):=by exact_mod_cast x1
 have e:((Y:Int)*2^(8*k))=((Y<<<(8*k):Nat):Int):=by rw[Nat.shiftLeft_eq];push_cast;rfl
 rw[e]at hb⊢;have hs:((X:Int)+((Y<<<(8*k):Nat):Int))=((Y<<<(8*k)|||X:Nat):Int):=by rw[<-Nat.shiftLeft_add_eq_or_of_lt hX];push_cast;omega
 rw[hs];have hZ:Y<<<(8*k)<2^64:=by have:=hb.2;omega
 have hX2:X<2^64:=by
  have:(X:Int)<18446744073709551616:=by
   have p:(0:Int)<2^(8*k):=Int.pow_pos (by decide);omega
  omega
 have hor:Y<<<(8*k)|||X<2^64:=Nat.or_lt_two_pow hZ hX2;unfold bits;show IntKind.u64.wrap ((BitVec.ofInt 64 (X:Int)|||BitVec.ofInt 64 ((Y<<<(8*k):Nat):Int)).toNat:Int)=_;rw[BitVec.ofInt_natCast,BitVec.ofInt_natCast,BitVec.toNat_or,BitVec.toNat_ofNat,BitVec.toNat_ofNat,Nat.mod_eq_of_lt hX2,Nat.mod_eq_of_lt hZ,Nat.or_comm];exact wrap_id (by omega) (by omega)
end Go.Proofs.YtbahofiiaodpdaaGreat
