import Derived.Test.YtdbhgaegblclaaaDoorRdPrg
import Derived.Maps.OwnSet
namespace Go.Proofs.YtdbhgaegblclaaaDoor
open Go.RowKit
structure LabD(D:DataW Unit)(rows:List Row):Prop where
 I:Maps.IsMap D
 H:∀k:Int,Maps.has D (.int .i64 k)=(labOf rows k).isSome
 A:∀k:Int,D.atKey (.int .i64 k) (.lit (.int .i64 0))=.lit (.int .i64 (((labOf rows k).getD 0:Nat):Int))
theorem LabD.nil:LabD (.map []) []:=⟨⟨_,rfl⟩,fun _=>rfl,fun _=>rfl⟩
theorem LabD.ins{D:DataW Unit}{rows:List Row}(h:LabD D rows)(x:NV):LabD D (rows++[(false,x)]):=by
 have e:∀k,labOf (rows++[(false,x)]) k=labOf rows k:=fun k=>by
  unfold labOf;rw[lab_app];cases labI rows 0 k with
  |some a=>rfl
  |none=>simp
 exact⟨h.I,fun k=>by rw[e];exact h.H k,fun k=>by rw[e];exact h.A k⟩
theorem LabD.lab{D:DataW Unit}{rows:List Row}(h:LabD D rows)(x:NV)(hx:labOf rows x.imm=none):LabD (D.put (.int .i64 x.imm) (.lit (.int .i64 (cntI rows:Int)))) (rows++[(true,x)]):=by
 have e:∀k,labOf (rows++[(true,x)]) k=if x.imm=k then some (cntI rows)else labOf rows k:=fun k=>by
  unfold labOf at hx⊢;rw[lab_app];by_cases hk:x.imm=k
  ·subst hk
   rw[hx];simp
  ·rw[if_neg hk]
   cases labI rows 0 k with
   |some a=>rfl
   |none=>simp[hk]
 obtain⟨es,hes⟩:=h.I;refine⟨by rw[hes];exact⟨_,rfl⟩,fun k=>?_,fun k=>?_⟩
 ·rw[e]
  by_cases hk:x.imm=k
  ·subst hk
   rw[if_pos rfl,Maps.has_put_same h.I (show WideAt.IsKeyLit (.int .i64 x.imm)from trivial)];rfl
  ·rw[if_neg hk,<-h.H k,Maps.has_put_other]
   intro hq;injection hq with _ hq;exact hk hq.symm
 ·rw[e]
  by_cases hk:x.imm=k
  ·subst hk
   rw[if_pos rfl,Maps.atKey_put_same h.I (show WideAt.IsKeyLit (.int .i64 x.imm)from trivial)];rfl
  ·rw[if_neg hk,<-h.A k,Maps.atKey_put_other]
   intro hq;injection hq with _ hq;exact hk hq.symm
structure RW(w:World)(B rb mb n:Nat)(lv:Value)(rows:List Row):Prop where
 R:w.heap[rb]?=some (.cells #[lv,.map (some mb),.int .i64 (cntI rows:Int)] 67)
 L:w.ownsRow B 109 7 lv rows.length (lnL rows)
 M:∃D,w.ownsMap Tryd.prog 2 (plainElem (H:=Unit) Tryd.prog 2) mb n D/\LabD D rows
 bR:B<=rb
 bM:B<=mb
theorem RW.below{w w':World}{B rb mb n:Nat}{lv:Value}{rows:List Row}(h:RW w B rb mb n lv rows)(hb:Below w.heap.size w w'):RW w' B rb mb n lv rows:=by
 refine⟨(hb.block rb (Array.getElem?_eq_some_iff.1 h.R).1).trans h.R,row_belowB h.L hb,?_,h.bR,h.bM⟩;obtain⟨D,⟨es,c,h1,h2⟩,h3⟩:=h.M;exact⟨D,⟨es,c,(hb.block mb (Array.getElem?_eq_some_iff.1 h1).1).trans h1,h2⟩,h3⟩
theorem RW.labs{w:World}{B rb mb n:Nat}{lv:Value}{rows:List Row}(h:RW w B rb mb n lv rows):LabAt w mb rows:=by
 obtain⟨D,⟨es,c,h1,h2,h3,h4⟩,hD⟩:=h.M;refine⟨_,h1,fun w' hw k hk=>?_⟩;have hD':w'.ownsMap Tryd.prog 2 (plainElem (H:=Unit) Tryd.prog 2) mb n D:=⟨es,c,hw,h2,h3,h4⟩
 have hkey:keyOf Tryd.prog 2 (.int .i64 k)=some (.int .i64 k):=Maps.keyOf_int_mk Tryd.underlying2 hk;have hz:(zeroValue 2).run Tryd.prog w'=.ok (.int .i64 0) w':=by kernel_rfl
 constructor
 ·obtain⟨v,ps,r1,r2⟩:=hD'.look_ok (Maps.int_keyed Tryd.underlying2) Tryd.underlying64 hz (plainElem_int Tryd.underlying2 (by decide)) hkey
  rw[hD.A]at r2;obtain⟨c',rfl,hc,_⟩:=plainElem_int_inv Tryd.underlying2 r2;simp only[Prod.mk.injEq,DataW.lit.injEq,Lit.int.injEq,true_and]at hc;rw[r1,hD.H,<-hc.1]
 ·obtain⟨cv,r1,r2,_⟩:=hD'.lookup_int (Maps.int_keyed Tryd.underlying2) Tryd.underlying64 Tryd.underlying2 hz hkey
  rw[hD.A]at r2;simp only[DataW.lit.injEq,Lit.int.injEq,true_and]at r2;rw[r1,<-r2]
theorem RW.rd{w:World}{B rb mb n:Nat}{lv:Value}{rows:List Row}(h:RW w B rb mb n lv rows):RD w B rb mb lv rows:=⟨h.R,h.L,h.labs⟩
end Go.Proofs.YtdbhgaegblclaaaDoor
