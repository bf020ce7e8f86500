import Derived.Test.YtdbhgaegblclaaaDoorRdTake
import Derived.Test.YtdbhgaegblclaaaDoorAsmNew
set_option maxHeartbeats 3200000
set_option maxRecDepth 20000
namespace Go.Proofs.YtdbhgaegblclaaaDoor
open Go.RowKit
theorem opK_none:∀(k:Nat)(l:List UInt8),(∀j:Nat,j<k->l≠(nmS ((j:Int)+1)).data.toList)->opK k l=0
 |0,_,_=>rfl
 |k+1,l,h=>by
  show(if l=_ then _ else opK k l)=0;rw[if_neg (h k (by omega)),opK_none k l fun j hj=>h j (by omega)]
theorem opK_nm:∀k:Nat,k<34->opK 34 (nmL ((k:Int)+1))=(k:Int)+1:=by decide
theorem opK_of(l:List UInt8):opK 34 l=opOf l:=by
 by_cases h:opOf l=0
 ·rw[h]
  refine opK_none 34 l fun j hj e=>?_
  have h1:=(nm_all (op:=(j:Int)+1) (by omega) (by omega)).2.2;have:opOf l=(j:Int)+1:=by rw[e];exact h1
  omega
 ·obtain⟨h1,h2,h3⟩:=op_back rfl h
  have h4:=opK_nm (opOf l-1).toNat (by omega);rw[show(((opOf l-1).toNat:Nat):Int)+1=opOf l by omega,<-h3]at h4;exact h4
theorem conv_bytes{w:World}{b o:Nat}{l:List UInt8}(cap:Nat)(h:At w b o l.length (numF .u8 (bF l))):(convert 22 9 (.slice (some ⟨b,o,none⟩) l.length cap)).run Tryd.prog w=.ok (.string (stB l)) w:=by
 have hx:=run_convert_bytes_arg (P:=Tryd.prog) w 22 5 Tryd.underlying22 Tryd.underlying5 b o l.length cap (l.map fun c=>(c.toNat:Int)) (by simp) (fun i hi=>by
  rw[h.2 i hi];unfold numF bF;simp[List.getD_eq_getElem?_getD,hi]) 9 Tryd.underlying9
 rw[hx];have:strOfNums (l.map fun c=>(c.toNat:Int))=stB l:=by
  unfold strOfNums stB;rw[List.map_map];have:(fun n:Int=>UInt8.ofNat n.toNat)∘(fun c:UInt8=>(c.toNat:Int))=id:=by
   funext c
   simp
  rw[this,List.map_id]
 rw[this]
def NameR(l:List UInt8)(b o cap:Nat)(e:Ending):Prop:=
 ∃o',e=.returned (.tuple #[.int .i64 (opOf (l.take (pre isAz l))),.slice (some ⟨b,o',none⟩) (l.length-pre isAz l) (cap-pre isAz l)])/\(o'=o+pre isAz l∨l.length-pre isAz l=0)
theorem takeName_any(sb nb ob mb:Nat)(d:Int)(b o cap:Nat)(l:List UInt8)(w:World)(p:SC w sb nb ob mb d)(hops:OpsAt w ob)(hl:(l.length:Int)<=1048576)(hcap:l.length<=cap)(hat:At w b o l.length (numF .u8 (bF l))):
 Calls Tryd.prog 82 #[.pointer (some ⟨sb,0,none⟩),.slice (some ⟨b,o,none⟩) l.length cap] w fun e w'=>NameR l b o cap e/\Below w.heap.size w w':=by
 have HA:Hid (At w b o l.length (numF .u8 (bF l))):=hat;have HSC:Hid (SC w sb nb ob mb d):=p;have HOP:Hid (OpsAt w ob):=hops;clear hat p hops;go_enter Tryd.func82,Tryd.ntmps82;go_wp2_with fail;go_loopw [6](fun jv wr=>wr=w/\∃j:Nat,j<=l.length/\j<=pre isAz l/\jv=.int .i64 j)(fun jv _=>l.length-(intOf jv).toNat)
 case atStart=>exact⟨rfl,0,Nat.zero_le _,Nat.zero_le _,rfl⟩
 case round=>
  obtain⟨hw,j,hj,hp,rfl⟩:=hrel;rw[hw];clear hw;have HP:Hid (j<=pre isAz l):=hp;clear hp;obtain⟨lc,hlc⟩:∃lc,(decide (j<l.length)&&isAz (l.getD j 0))=lc:=⟨_,rfl⟩
  have HLC:Hid ((decide (j<l.length)&&isAz (l.getD j 0))=lc):=hlc;clear hlc;go_upto_region 2 with fail;go_cut [24](fun b wx=>wx=w/\b=.bool lc)
  case first=>
   by_cases hlt:j<l.length
   ·have hl1:(j:Int)<l.length:=by omega
    obtain⟨c,hc⟩:∃c,l.getD j 0=c:=⟨_,rfl⟩
    have g0:w.cell? ⟨b,o+j,none⟩=some (.int .u8 (c.toNat:Int)):=by rw[<-hc];exact at_byte HA.out hlt
    have HC:Hid (l.getD j 0=c):=hc;clear hc;by_cases h97:97<=c.toNat
    ·have k97:(97:Int)<=(c.toNat:Int):=by omega
     have e:decide ((c.toNat:Int)<=122)=lc:=by
      rw[<-HLC.out,HC.out];simp[isAz,hlt,h97];omega
     go_wp2_with fail;go_meet;exact⟨rfl,rfl⟩
    ·have k97:¬(97:Int)<=(c.toNat:Int):=by omega
     have e:Hid (false=lc):=(by rw[<-HLC.out,HC.out];simp[isAz,h97]:false=lc)
     go_wp2_with fail;go_meet;exact⟨rfl,congrArg Value.bool e.out⟩
   ·have hl1:¬(j:Int)<l.length:=by omega
    have e:Hid (false=lc):=(by rw[<-HLC.out];simp[hlt]:false=lc)
    go_wp2_with fail;go_meet;exact⟨rfl,congrArg Value.bool e.out⟩
  case rest=>
  obtain⟨hw,rfl⟩:=hcut;rw[hw];clear hw;cases lc with
  |true=>
   have h1:j<l.length/\isAz (l.getD j 0)=true:=by simpa using HLC.out
   have HS:Hid (j+1<=pre isAz l):=(pre_step isAz l j HP.out h1.1).1 h1.2;have hj1:=h1.1;clear h1;go_wp2_with fail;go_roundw
   case rel=>exact⟨trivial,j+1,by omega,HS.out,by go_num⟩
   case measure=>simp[intOf];omega
  |false=>
   have hpj:pre isAz l=j:=by
    have h1:=HLC.out;by_cases hlt:j<l.length
    ·exact(pre_step isAz l j HP.out hlt).2 (by simpa[hlt]using h1)
    ·exact pre_all isAz l j HP.out (by omega)
   have HPJ:Hid (pre isAz l=j):=hpj;have hjc:(j:Int)<=cap:=by omega
   have hjl:(j:Int)<=l.length:=by omega
   have lsz:sb<w.heap.size:=(Array.getElem?_eq_some_iff.1 HSC.out.S).1;have c2:∀w',Below w.heap.size w w'->w'.cell? ⟨sb,2,none⟩=some (.map (some ob)):=fun w' hb=>(hb.cell (p:=⟨sb,2,none⟩) lsz).trans (heap_cell HSC.out.S 2)
   have hcv:∀w',Below w.heap.size w w'->(convert 22 9 (.slice (some ⟨b,o,none⟩) j cap)).run Tryd.prog w'=.ok (.string (stB (l.take j))) w':=fun w' hb=>by
    have h1:=conv_bytes (w:=w') (b:=b) (o:=o) (l:=l.take j) cap ((at_take HA.out j).below hb HA.out.lt);rw[List.length_take,show min j l.length=j by omega]at h1;exact h1
   have hlk:∀w',Below w.heap.size w w'->(Instr.lookup 93 (.map (some ob)) (.string (stB (l.take j))) false).run Tryd.prog w'=.ok (.int .i64 (opOf (l.take j))) w':=fun w' hb=>by
    obtain⟨ob1,h1,h2⟩:=HOP.out;have h3:=h2 w' ((hb.block ob (Array.getElem?_eq_some_iff.1 h1).1).trans h1) (stB (l.take j)) (by
     have:(stB (l.take j)).size=(l.take j).length:=by show(l.take j).toArray.size=_;simp
     rw[this,List.length_take];unfold maxLen;omega)
    rw[stB_list,opK_of]at h3;exact h3
   obtain⟨v,hv⟩:∃v,opOf (l.take j)=v:=⟨_,rfl⟩
   have HV:Hid (opOf (l.take j)=v):=hv;rw[hv]at hlk;clear hpj HLC HP hv;by_cases hjx:j=cap
   ·have hc1:(j:Int)=cap:=by omega
    have hj0:l.length-j=0:=by omega
    subst hjx;go_upto_region 4 with fail
    refine wp_region_held_drew (S:=fun w'=>Below w.heap.size w w') (by kernel_rfl) (Below.refl _ _).drew (fun _=>?_)
    refine wpAnyH_tk 0 ?k1v rfl ?k1y ?k1r
    case k1y=>(intro w hSw;(try dsimp only at hSw);go_simp;try with_reducible rfl)
    try simp only[Act.put,List.getElem_toArray,List.getElem_cons_zero,List.setIfInBounds_toArray,List.set_cons_zero,List.set_cons_succ]
    refine wpAnyH_tk 1 ?k2v rfl ?k2y ?k2r
    case k2y=>(intro w hSw;(try dsimp only at hSw);go_simp;try with_reducible rfl)
    try simp only[Act.put,List.getElem_toArray,List.getElem_cons_zero,List.getElem_cons_succ,List.setIfInBounds_toArray,List.set_cons_zero,List.set_cons_succ]
    refine wpAnyH_tk 2 ?k3v rfl ?k3y ?k3r
    case k3y=>(intro w hSw;(try dsimp only at hSw);go_simp;try with_reducible rfl)
    try simp only[Act.put,List.getElem_toArray,List.getElem_cons_zero,List.getElem_cons_succ,List.setIfInBounds_toArray,List.set_cons_zero,List.set_cons_succ]
    refine wpAnyH_tk 3 ?k4v rfl ?k4y ?k4r
    case k4y=>(intro w hSw;(try dsimp only at hSw);go_simp;try with_reducible rfl)
    try simp only[Act.put,List.getElem_toArray,List.getElem_cons_zero,List.getElem_cons_succ,List.setIfInBounds_toArray,List.set_cons_zero,List.set_cons_succ]
    refine wpAnyH_tk 4 ?k5v rfl ?k5y ?k5r
    case k5y=>(intro w hSw;(try dsimp only at hSw);go_simp;try with_reducible rfl)
    try simp only[Act.put,List.getElem_toArray,List.getElem_cons_zero,List.getElem_cons_succ,List.setIfInBounds_toArray,List.set_cons_zero,List.set_cons_succ]
    refine wpAnyH_tk 5 ?k6v rfl ?k6y ?k6r
    case k6y=>(intro w hSw;(try dsimp only at hSw);go_simp;try with_reducible rfl)
    try simp only[Act.put,List.getElem_toArray,List.getElem_cons_zero,List.getElem_cons_succ,List.setIfInBounds_toArray,List.set_cons_zero,List.set_cons_succ]
    refine wpAnyH_tk 6 ?k7v rfl ?k7y ?k7r
    case k7y=>(intro w hSw;(try dsimp only at hSw);go_simp;try with_reducible rfl)
    try simp only[Act.put,List.getElem_toArray,List.getElem_cons_zero,List.getElem_cons_succ,List.setIfInBounds_toArray,List.set_cons_zero,List.set_cons_succ]
    refine wpAnyH_tk 7 ?k8v rfl ?k8y ?k8r
    case k8y=>(intro w hSw;(try dsimp only at hSw);go_simp;try with_reducible rfl)
    try simp only[Act.put,List.getElem_toArray,List.getElem_cons_zero,List.getElem_cons_succ,List.setIfInBounds_toArray,List.set_cons_zero,List.set_cons_succ]
    refine wpAnyH_tk 8 ?k9v rfl ?k9y ?k9r
    case k9y=>(intro w hSw;(try dsimp only at hSw);go_simp;try with_reducible rfl)
    try simp only[Act.put,List.getElem_toArray,List.getElem_cons_zero,List.getElem_cons_succ,List.setIfInBounds_toArray,List.set_cons_zero,List.set_cons_succ]
    refine wpAnyH_tk 9 ?k10v rfl ?k10y ?k10r
    case k10y=>(intro w hSw;(try dsimp only at hSw);go_simp;try with_reducible rfl)
    try simp only[Act.put,List.getElem_toArray,List.getElem_cons_zero,List.getElem_cons_succ,List.setIfInBounds_toArray,List.set_cons_zero,List.set_cons_succ]
    refine wpAnyH_tk 10 ?k11v rfl ?k11y ?k11r
    case k11y=>(intro w hSw;(try dsimp only at hSw);go_simp;try with_reducible rfl)
    try simp only[Act.put,List.getElem_toArray,List.getElem_cons_zero,List.getElem_cons_succ,List.setIfInBounds_toArray,List.set_cons_zero,List.set_cons_succ]
    refine wpAnyH_tk 11 ?k12v rfl ?k12y ?k12r
    case k12y=>(intro w hSw;(try dsimp only at hSw);go_simp;try with_reducible rfl)
    try simp only[Act.put,List.getElem_toArray,List.getElem_cons_zero,List.getElem_cons_succ,List.setIfInBounds_toArray,List.set_cons_zero,List.set_cons_succ]
    refine wpAnyH_tk 12 ?k13v rfl ?k13y ?k13r
    case k13y=>(intro w hSw;(try dsimp only at hSw);go_simp;try with_reducible rfl)
    try simp only[Act.put,List.getElem_toArray,List.getElem_cons_zero,List.getElem_cons_succ,List.setIfInBounds_toArray,List.set_cons_zero,List.set_cons_succ]
    refine wpAnyH_tk 13 ?k14v rfl ?k14y ?k14r
    case k14y=>(intro w hSw;(try dsimp only at hSw);go_simp;try with_reducible rfl)
    try simp only[Act.put,List.getElem_toArray,List.getElem_cons_zero,List.getElem_cons_succ,List.setIfInBounds_toArray,List.set_cons_zero,List.set_cons_succ]
    refine wpAnyH_done (by kernel_rfl) ?_ _
    go_wp2_with fail
    go_ret2
    refine⟨?_,(Below.refl _ _).drew⟩
    unfold NameR
    rw[HPJ.out,HV.out]
    exact⟨o,by rw[hj0,Nat.sub_self];rfl,.inr hj0⟩
   ·have hc1:¬(j:Int)=cap:=by omega
    go_upto_region 4 with fail
    refine wp_region_held_drew (S:=fun w'=>Below w.heap.size w w') (by kernel_rfl) (Below.refl _ _).drew (fun _=>?_)
    refine wpAnyH_tk 0 ?k15v rfl ?k15y ?k15r
    case k15y=>(intro w hSw;(try dsimp only at hSw);go_simp;try with_reducible rfl)
    try simp only[Act.put,List.getElem_toArray,List.getElem_cons_zero,List.setIfInBounds_toArray,List.set_cons_zero,List.set_cons_succ]
    refine wpAnyH_tk 1 ?k16v rfl ?k16y ?k16r
    case k16y=>(intro w hSw;(try dsimp only at hSw);go_simp;try with_reducible rfl)
    try simp only[Act.put,List.getElem_toArray,List.getElem_cons_zero,List.getElem_cons_succ,List.setIfInBounds_toArray,List.set_cons_zero,List.set_cons_succ]
    refine wpAnyH_tk 2 ?k17v rfl ?k17y ?k17r
    case k17y=>(intro w hSw;(try dsimp only at hSw);go_simp;try with_reducible rfl)
    try simp only[Act.put,List.getElem_toArray,List.getElem_cons_zero,List.getElem_cons_succ,List.setIfInBounds_toArray,List.set_cons_zero,List.set_cons_succ]
    refine wpAnyH_tk 3 ?k18v rfl ?k18y ?k18r
    case k18y=>(intro w hSw;(try dsimp only at hSw);go_simp;try with_reducible rfl)
    try simp only[Act.put,List.getElem_toArray,List.getElem_cons_zero,List.getElem_cons_succ,List.setIfInBounds_toArray,List.set_cons_zero,List.set_cons_succ]
    refine wpAnyH_tk 4 ?k19v rfl ?k19y ?k19r
    case k19y=>(intro w hSw;(try dsimp only at hSw);go_simp;try with_reducible rfl)
    try simp only[Act.put,List.getElem_toArray,List.getElem_cons_zero,List.getElem_cons_succ,List.setIfInBounds_toArray,List.set_cons_zero,List.set_cons_succ]
    refine wpAnyH_tk 5 ?k20v rfl ?k20y ?k20r
    case k20y=>(intro w hSw;(try dsimp only at hSw);go_simp;try with_reducible rfl)
    try simp only[Act.put,List.getElem_toArray,List.getElem_cons_zero,List.getElem_cons_succ,List.setIfInBounds_toArray,List.set_cons_zero,List.set_cons_succ]
    refine wpAnyH_tk 6 ?k21v rfl ?k21y ?k21r
    case k21y=>(intro w hSw;(try dsimp only at hSw);go_simp;try with_reducible rfl)
    try simp only[Act.put,List.getElem_toArray,List.getElem_cons_zero,List.getElem_cons_succ,List.setIfInBounds_toArray,List.set_cons_zero,List.set_cons_succ]
    refine wpAnyH_tk 7 ?k22v rfl ?k22y ?k22r
    case k22y=>(intro w hSw;(try dsimp only at hSw);go_simp;try with_reducible rfl)
    try simp only[Act.put,List.getElem_toArray,List.getElem_cons_zero,List.getElem_cons_succ,List.setIfInBounds_toArray,List.set_cons_zero,List.set_cons_succ]
    refine wpAnyH_tk 8 ?k23v rfl ?k23y ?k23r
    case k23y=>(intro w hSw;(try dsimp only at hSw);go_simp;try with_reducible rfl)
    try simp only[Act.put,List.getElem_toArray,List.getElem_cons_zero,List.getElem_cons_succ,List.setIfInBounds_toArray,List.set_cons_zero,List.set_cons_succ]
    refine wpAnyH_tk 9 ?k24v rfl ?k24y ?k24r
    case k24y=>(intro w hSw;(try dsimp only at hSw);go_simp;try with_reducible rfl)
    try simp only[Act.put,List.getElem_toArray,List.getElem_cons_zero,List.getElem_cons_succ,List.setIfInBounds_toArray,List.set_cons_zero,List.set_cons_succ]
    refine wpAnyH_tk 10 ?k25v rfl ?k25y ?k25r
    case k25y=>(intro w hSw;(try dsimp only at hSw);go_simp;try with_reducible rfl)
    try simp only[Act.put,List.getElem_toArray,List.getElem_cons_zero,List.getElem_cons_succ,List.setIfInBounds_toArray,List.set_cons_zero,List.set_cons_succ]
    refine wpAnyH_tk 11 ?k26v rfl ?k26y ?k26r
    case k26y=>(intro w hSw;(try dsimp only at hSw);go_simp;try with_reducible rfl)
    try simp only[Act.put,List.getElem_toArray,List.getElem_cons_zero,List.getElem_cons_succ,List.setIfInBounds_toArray,List.set_cons_zero,List.set_cons_succ]
    refine wpAnyH_tk 12 ?k27v rfl ?k27y ?k27r
    case k27y=>(intro w hSw;(try dsimp only at hSw);go_simp;try with_reducible rfl)
    try simp only[Act.put,List.getElem_toArray,List.getElem_cons_zero,List.getElem_cons_succ,List.setIfInBounds_toArray,List.set_cons_zero,List.set_cons_succ]
    refine wpAnyH_tk 13 ?k28v rfl ?k28y ?k28r
    case k28y=>(intro w hSw;(try dsimp only at hSw);go_simp;try with_reducible rfl)
    try simp only[Act.put,List.getElem_toArray,List.getElem_cons_zero,List.getElem_cons_succ,List.setIfInBounds_toArray,List.set_cons_zero,List.set_cons_succ]
    refine wpAnyH_done (by kernel_rfl) ?_ _
    go_wp2_with fail
    go_ret2
    refine⟨?_,(Below.refl _ _).drew⟩
    unfold NameR
    rw[HPJ.out,HV.out]
    exact⟨o+j,rfl,.inl rfl⟩
end Go.Proofs.YtdbhgaegblclaaaDoor
