import Derived.Test.YtdbhgaegblclaaaDoorRdHold
import Derived.Test.YtdbhgaegblclaaaDoorOfRegT
set_option maxHeartbeats 6400000
set_option maxRecDepth 20000
namespace Go.Proofs.YtdbhgaegblclaaaDoor
open Go.RowKit
def Kp(w w':World)(rb mb:Nat)(lv lv':Value):Prop:=(∀(k:Nat)(o:Obj),w.heap[k]?=some o->k≠rb->k≠mb->lv.ownBlock≠some k->w'.heap[k]?=some o)/\(∀k,lv'.ownBlock=some k->lv.ownBlock=some k∨w.heap.size<=k)
def addE(rows:List Row)(lo:Option Row):Int×List Row:=
 match lo with
 |none=>(2,rows)
 |some r=>if r.1=true/\(labOf rows r.2.imm).isSome=true then(3,rows)else(0,rows++[r])
theorem wpAnyL_append{P:Program}{md:Region.Mode}{ops:Array Oper}{Q:Exit->Act->World->Prop}{T:World->Prop}{s' fuel i:Nat}{listed:Array Bool}{a:Act}{w w':World}{o:Oper}(s x:Operand){t:TypeId}{v u v':Value}(ho:ops[i]?=some o)(hr:Region.ready md ops listed=[i])(hw:Region.wanted o (yielded ops a.tmps)=true)
 (hop:o.op=.call {callee:=.builtin .append,args:=#[s,x],argTypes:=#[t,t]})(hs:a.eval s=v)(hx:a.eval x=u)(hrun:(Builtin.append_ #[t,t] o.type #[v,u]).run P w=.ok v' w')(hT:T w')(h:T w'->wpAnyL P md ops Q T s' fuel (listed.setIfInBounds i true) (a.put o.dst v') w'):wpAnyL P md ops Q T s' (fuel+1) listed a w:=
 wpAnyL_call ho hr (fun K' hK=>by
  rw[if_pos hw];unfold Oper.wp execOp;simp only[hop,resolve,invoke,builtin,Sem.run_bind,Sem.run_pure,Result.andThen_ok,List.map_toArray,List.map_cons,List.map_nil,hs,hx,hrun];exact hK _ _ hT h)
theorem info_line:(Tryd.prog.info? 109).map (fun i=>(i.zero,i.size,i.bytes))=some (some (.agg #[.bool false,.int .i64 0,.int .i64 0,.int .i64 0,.int .i64 0,.int .i64 0,.int .i64 0]),7,56):=by kernel_rfl
theorem RW.alloc{w:World}{B rb mb n:Nat}{lv:Value}{rows:List Row}(h:RW w B rb mb n lv rows)(o:Obj):RW (w.alloc o) B rb mb n lv rows:=h.below ((Below.refl _ _).alloc (Nat.le_refl _) _)
theorem RW.drew{w:World}{B rb mb n:Nat}{lv:Value}{rows:List Row}(h:RW w B rb mb n lv rows):RW w.drew B rb mb n lv rows:=h.below (Below.refl _ _).drew
theorem addLine_none(B rb mb n:Nat)(lv:Value)(rows:List Row)(w:World)(h:RW w B rb mb n lv rows)(hB:B<=w.heap.size):
 Calls Tryd.prog 71 #[.pointer (some ⟨rb,0,none⟩),.agg (lnA none)] w fun e w'=>∃n' lv',e=.returned (.int .i64 (addE rows none).1)/\RW w' B rb mb n' lv' (addE rows none).2/\n'<=n+1/\Below B w w'/\Kp w w' rb mb lv lv':=by
 have X:Hid (RW w B rb mb n lv rows):=h;have HB:Hid (∀o,Below B w (w.alloc o)):=fun o=>(Below.refl _ _).alloc hB _
 clear h;show Calls Tryd.prog 71 #[.pointer (some ⟨rb,0,none⟩),.agg #[.bool false,.int .i64 0,.int .i64 0,.int .i64 0,.int .i64 0,.int .i64 0,.int .i64 0]] w _;go_enter Tryd.func71,Tryd.ntmps71;go_wp2_with fail;go_ret;exact⟨n,lv,rfl,X.out.alloc _,by omega,HB.out _,fun k o h1 _ _ _=>(((Below.refl _ _).alloc (Nat.le_refl _) _:Below w.heap.size w _).block k (Array.getElem?_eq_some_iff.1 h1).1).trans h1,fun k hk=>.inl hk⟩
theorem addLine_ins(B rb mb n:Nat)(lv:Value)(rows:List Row)(x:NV)(w:World)(h:RW w B rb mb n lv rows)(hB:B<=w.heap.size)(hx:x.op≠0)(hn:(rows.length:Int)<=1048576):
 Calls Tryd.prog 71 #[.pointer (some ⟨rb,0,none⟩),.agg (lnA (some (false,x)))] w fun e w'=>∃n' lv',e=.returned (.int .i64 (addE rows (some (false,x))).1)/\RW w' B rb mb n' lv' (addE rows (some (false,x))).2/\n'<=n+1/\Below B w w'/\Kp w w' rb mb lv lv':=by
 obtain⟨iL,hi1,hi2,hi3,hi4⟩:∃i,Tryd.prog.info? 109=some i/\i.zero=some (.agg #[.bool false,.int .i64 0,.int .i64 0,.int .i64 0,.int .i64 0,.int .i64 0,.int .i64 0])/\i.size=7/\i.bytes=56:=by
  have:=info_line
  rcases hh:Tryd.prog.info? 109 with _|i
  ·rw[hh]at this;simp at this
  ·rw[hh]at this;simp at this;exact⟨i,rfl,this⟩
 have HIL:Hid (Tryd.prog.info? 109=some iL/\iL.zero=some (.agg #[.bool false,.int .i64 0,.int .i64 0,.int .i64 0,.int .i64 0,.int .i64 0,.int .i64 0])/\iL.size=7/\iL.bytes=56):=⟨hi1,hi2,hi3,hi4⟩
 clear hi1 hi2 hi3 hi4
 have X:Hid (RW w B rb mb n lv rows):=h
 have h0:(x.op==0)=false:=by rw[beq_eq_false_iff_ne];exact hx
 clear h hx
 show Calls Tryd.prog 71 #[.pointer (some ⟨rb,0,none⟩),.agg #[.bool false,.int .i64 x.op,.int .i64 x.d,.int .i64 x.a,.int .i64 x.b,.int .i64 x.imm,.int .i64 x.h]] w _
 go_enter Tryd.func71,Tryd.ntmps71
 have hRb:=X.out.bR
 have hMb:=X.out.bM
 have HAE:Hid (Ending.returned (.int .i64 0)=.returned (.int .i64 (addE rows (some (false,x))).1)/\(addE rows (some (false,x))).2=rows++[(false,x)]):=(by
  have e:addE rows (some (false,x))=(0,rows++[(false,x)]):=by unfold addE;simp
  rw[e]
  exact⟨rfl,rfl⟩:Ending.returned (.int .i64 0)=.returned (.int .i64 (addE rows (some (false,x))).1)/\(addE rows (some (false,x))).2=rows++[(false,x)])
 obtain⟨q,hq⟩:∃q,w.heap.size=q:=⟨_,rfl⟩
 obtain⟨u0,hu0,XU,UQ0⟩:∃v,w.alloc (.cells #[.bool false,.int .i64 x.op,.int .i64 x.d,.int .i64 x.a,.int .i64 x.b,.int .i64 x.imm,.int .i64 x.h] 109)=v/\RW v B rb mb n lv rows/\v.heap[q]?=some (.cells #[.bool false,.int .i64 x.op,.int .i64 x.d,.int .i64 x.a,.int .i64 x.b,.int .i64 x.imm,.int .i64 x.h] 109):=⟨_,rfl,X.out.alloc _,by rw[<-hq];exact heap_alloc_newB w _⟩
 have UB0:Hid (Below B w u0):=(by rw[<-hu0];exact(Below.refl _ _).alloc hB _:Below B w u0)
 have HK0:Hid (∀(k:Nat)(o:Obj),w.heap[k]?=some o->u0.heap[k]?=some o):=fun k o h1=>by
  rw[<-hu0]
  exact(((Below.refl _ _).alloc (Nat.le_refl _) _:Below w.heap.size w _).block k (Array.getElem?_eq_some_iff.1 h1).1).trans h1
 have HQ9:∀k,lv.ownBlock=some k->k≠q:=fun k hk=>by have:=(X.out.L.lt k hk).2;omega
 have hrq:rb≠q:=by have:=(Array.getElem?_eq_some_iff.1 X.out.R).1;omega
 have m2:=hp_cell XU.R 2
 have mf:=hp_free XU.R
 have y0:=hp_cell UQ0 0
 have y1:=hp_cell UQ0 1
 have y2:=hp_cell UQ0 2
 have y3:=hp_cell UQ0 3
 have y4:=hp_cell UQ0 4
 have y5:=hp_cell UQ0 5
 have y6:=hp_cell UQ0 6
 simp only[List.getElem?_toArray,List.getElem?_cons_zero,List.getElem?_cons_succ]at m2 y0 y1 y2 y3 y4 y5 y6
 have hlr:rb<u0.heap.size:=(Array.getElem?_eq_some_iff.1 XU.R).1
 obtain⟨c0,hc0⟩:∃c,cntI rows=c:=⟨_,rfl⟩
 have hcb:c0<=rows.length:=by rw[<-hc0];exact cnt_le rows
 rw[hc0]at m2
 have hcw:IntKind.i64.wrap ((c0:Int)+1)=(c0:Int)+1:=i64_idR (by omega) (by omega)
 have HC0:Hid (cntI rows=c0):=hc0
 have XUh:Hid (RW u0 B rb mb n lv rows):=XU
 have UQh:Hid (u0.heap[q]?=some (.cells #[.bool false,.int .i64 x.op,.int .i64 x.d,.int .i64 x.a,.int .i64 x.b,.int .i64 x.imm,.int .i64 x.h] 109)):=UQ0
 clear hc0 XU UQ0
 go_upto_region 1 with fail
 try rw[hu0]
 try rw[hq]
 clear hu0
 go_upto_region 9 with fail
 obtain⟨cn,hcn⟩:∃c:Int,(c0:Int)+1=c:=⟨_,rfl⟩
 have HCN:Hid (cn=(cntI (rows++[(false,x)]):Int)):=(by rw[<-hcn,cnt_snoc,HC0.out];simp:cn=(cntI (rows++[(false,x)]):Int))
 obtain⟨u,hu,UR,UQ,UL,UM,UB⟩:∃v,u0.setCell ⟨rb,2,none⟩ (.int .i64 ((c0:Int)+1))=v/\v.heap[rb]?=some (.cells #[lv,.map (some mb),.int .i64 cn] 67)/\v.heap[q]?=some (.cells #[.bool false,.int .i64 x.op,.int .i64 x.d,.int .i64 x.a,.int .i64 x.b,.int .i64 x.imm,.int .i64 x.h] 109)/\Hid (v.ownsRow B 109 7 lv rows.length (lnL rows))/\Hid (∃D,v.ownsMap Tryd.prog 2 (plainElem (H:=Unit) Tryd.prog 2) mb n D/\LabD D (rows++[(false,x)]))/\Hid (Below B w v):=by
  refine⟨_,rfl,?_,hp_other UQh.out (fun e=>hrq e.symm) _ _,?_,?_,UB0.out.setCell hRb _⟩
  ·have:=hp_set XUh.out.R 2 (.int .i64 ((c0:Int)+1))
   rw[hcn]at this⊢
   exact this
  ·refine(⟨XUh.out.L.1,?_⟩:World.ownsRow _ _ _ _ _ _ _)
   rcases XUh.out.L.2 with h|⟨g,cp,cur,h,a1,a2,a3⟩
   ·exact .inl h
   ·refine .inr ⟨g,cp,cur,h,a1,hp_other a2 ?_ _ _,a3⟩
    intro e
    have:=XUh.out.R
    rw[<-e,a2]at this
    simp only[Option.some.injEq,Obj.cells.injEq]at this
    exact absurd this.2.1 (by decide)
  ·obtain⟨D,⟨es,c,h1,h2⟩,h3⟩:=XUh.out.M
   refine(⟨D,⟨es,c,hp_other h1 (fun e=>?_) _ _,h2⟩,h3.ins x⟩:∃D:DataW Unit,World.ownsMap (H:=Unit) _ Tryd.prog 2 (plainElem (H:=Unit) Tryd.prog 2) mb n D/\LabD D (rows++[(false,x)]))
   have:=XUh.out.R
   rw[<-e,h1]at this
   cases this
 have KU:Hid (∀(k:Nat)(o:Obj),w.heap[k]?=some o->k≠rb->k≠mb->u.heap[k]?=some o):=fun k o h1 h2 _=>by
  rw[<-hu]
  exact hp_other (HK0.out k o h1) h2 _ _
 rw[hu]
 obtain⟨nn,hnn⟩:∃m,n=m:=⟨_,rfl⟩
 rw[hnn]at UM
 have HNN:Hid (nn<=n+1):=(by omega:nn<=n+1)
 clear hu hcn XUh UQh UB0 m2 mf y0 y1 y2 y3 y4 y5 y6 X hnn
 have r0:∀w':World,(w'.heap[rb]?=some (.cells #[lv,.map (some mb),.int .i64 cn] 67)/\w'.heap[q]?=some (.cells #[.bool false,.int .i64 x.op,.int .i64 x.d,.int .i64 x.a,.int .i64 x.b,.int .i64 x.imm,.int .i64 x.h] 109))->w'.cell? ⟨rb,0,none⟩=some lv:=fun w' h=>hp_cell h.1 0
 have x0:∀w':World,(w'.heap[rb]?=some (.cells #[lv,.map (some mb),.int .i64 cn] 67)/\w'.heap[q]?=some (.cells #[.bool false,.int .i64 x.op,.int .i64 x.d,.int .i64 x.a,.int .i64 x.b,.int .i64 x.imm,.int .i64 x.h] 109))->w'.cell? ⟨q,0,none⟩=some (.bool false):=fun w' h=>hp_cell h.2 0
 have x1:∀w':World,(w'.heap[rb]?=some (.cells #[lv,.map (some mb),.int .i64 cn] 67)/\w'.heap[q]?=some (.cells #[.bool false,.int .i64 x.op,.int .i64 x.d,.int .i64 x.a,.int .i64 x.b,.int .i64 x.imm,.int .i64 x.h] 109))->w'.cell? ⟨q,1,none⟩=some (.int .i64 x.op):=fun w' h=>hp_cell h.2 1
 have x2:∀w':World,(w'.heap[rb]?=some (.cells #[lv,.map (some mb),.int .i64 cn] 67)/\w'.heap[q]?=some (.cells #[.bool false,.int .i64 x.op,.int .i64 x.d,.int .i64 x.a,.int .i64 x.b,.int .i64 x.imm,.int .i64 x.h] 109))->w'.cell? ⟨q,2,none⟩=some (.int .i64 x.d):=fun w' h=>hp_cell h.2 2
 have x3:∀w':World,(w'.heap[rb]?=some (.cells #[lv,.map (some mb),.int .i64 cn] 67)/\w'.heap[q]?=some (.cells #[.bool false,.int .i64 x.op,.int .i64 x.d,.int .i64 x.a,.int .i64 x.b,.int .i64 x.imm,.int .i64 x.h] 109))->w'.cell? ⟨q,3,none⟩=some (.int .i64 x.a):=fun w' h=>hp_cell h.2 3
 have x4:∀w':World,(w'.heap[rb]?=some (.cells #[lv,.map (some mb),.int .i64 cn] 67)/\w'.heap[q]?=some (.cells #[.bool false,.int .i64 x.op,.int .i64 x.d,.int .i64 x.a,.int .i64 x.b,.int .i64 x.imm,.int .i64 x.h] 109))->w'.cell? ⟨q,4,none⟩=some (.int .i64 x.b):=fun w' h=>hp_cell h.2 4
 have x5:∀w':World,(w'.heap[rb]?=some (.cells #[lv,.map (some mb),.int .i64 cn] 67)/\w'.heap[q]?=some (.cells #[.bool false,.int .i64 x.op,.int .i64 x.d,.int .i64 x.a,.int .i64 x.b,.int .i64 x.imm,.int .i64 x.h] 109))->w'.cell? ⟨q,5,none⟩=some (.int .i64 x.imm):=fun w' h=>hp_cell h.2 5
 have x6:∀w':World,(w'.heap[rb]?=some (.cells #[lv,.map (some mb),.int .i64 cn] 67)/\w'.heap[q]?=some (.cells #[.bool false,.int .i64 x.op,.int .i64 x.d,.int .i64 x.a,.int .i64 x.b,.int .i64 x.imm,.int .i64 x.h] 109))->w'.cell? ⟨q,6,none⟩=some (.int .i64 x.h):=fun w' h=>hp_cell h.2 6
 have TD:u.drew.heap[rb]?=some (.cells #[lv,.map (some mb),.int .i64 cn] 67)/\u.drew.heap[q]?=some (.cells #[.bool false,.int .i64 x.op,.int .i64 x.d,.int .i64 x.a,.int .i64 x.b,.int .i64 x.imm,.int .i64 x.h] 109):=⟨UR,UQ⟩
 have OD:Hid (u.drew.ownsRow B 109 7 lv rows.length (lnL rows)):=UL.out
 have MD:Hid (∃D,u.drew.ownsMap Tryd.prog 2 (plainElem (H:=Unit) Tryd.prog 2) mb nn D/\LabD D (rows++[(false,x)])):=UM.out
 have BD:Hid (Below B w u.drew):=UB.out.drew
 have KD:Hid (∀(k:Nat)(o:Obj),w.heap[k]?=some o->k≠rb->k≠mb->u.drew.heap[k]?=some o):=KU.out
 clear UL UM UB UR UQ KU
 refine wp_region_L (T:=fun w'=>w'.heap[rb]?=some (.cells #[lv,.map (some mb),.int .i64 cn] 67)/\w'.heap[q]?=some (.cells #[.bool false,.int .i64 x.op,.int .i64 x.d,.int .i64 x.a,.int .i64 x.b,.int .i64 x.imm,.int .i64 x.h] 109)) (s:=10) (by kernel_rfl) TD (fun hHeld=>?_)
 clear TD
 generalize u.drew=t0 at hHeld OD BD MD KD⊢
 refine wpAnyL_tk 0 ?k1v rfl ?k1y ?k1r
 case k1y=>(intro w hSw;(try dsimp only at hSw);go_simp;try with_reducible rfl)
 try simp only[Act.put,List.getElem_toArray,List.getElem_cons_zero,List.setIfInBounds_toArray,List.set_cons_zero,List.set_cons_succ]
 refine wpAnyL_tk 1 ?k2v rfl ?k2y ?k2r
 case k2y=>(intro w hSw;(try dsimp only at hSw);go_simp;try with_reducible rfl)
 try simp only[Act.put,List.getElem_toArray,List.getElem_cons_zero,List.getElem_cons_succ,List.setIfInBounds_toArray,List.set_cons_zero,List.set_cons_succ]
 refine wpAnyL_tk 2 ?k3v rfl ?k3y ?k3r
 case k3y=>(intro w hSw;(try dsimp only at hSw);go_simp;try with_reducible rfl)
 try simp only[Act.put,List.getElem_toArray,List.getElem_cons_zero,List.getElem_cons_succ,List.setIfInBounds_toArray,List.set_cons_zero,List.set_cons_succ]
 refine wpAnyL_tk 3 ?k4v rfl ?k4y ?k4r
 case k4y=>(intro w hSw;(try dsimp only at hSw);go_simp;try with_reducible rfl)
 try simp only[Act.put,List.getElem_toArray,List.getElem_cons_zero,List.getElem_cons_succ,List.setIfInBounds_toArray,List.set_cons_zero,List.set_cons_succ]
 refine wpAnyL_tk 4 ?k5v rfl ?k5y ?k5r
 case k5y=>(intro w hSw;(try dsimp only at hSw);go_simp;try with_reducible rfl)
 try simp only[Act.put,List.getElem_toArray,List.getElem_cons_zero,List.getElem_cons_succ,List.setIfInBounds_toArray,List.set_cons_zero,List.set_cons_succ]
 refine wpAnyL_tk 5 ?k6v rfl ?k6y ?k6r
 case k6y=>(intro w hSw;(try dsimp only at hSw);go_simp;try with_reducible rfl)
 try simp only[Act.put,List.getElem_toArray,List.getElem_cons_zero,List.getElem_cons_succ,List.setIfInBounds_toArray,List.set_cons_zero,List.set_cons_succ]
 refine wpAnyL_call (i:=6) rfl (by kernel_rfl) (fun KK hK=>?_)
 go_simp
 obtain⟨t1,ht1,hbA,hnw⟩:∃y,t0.alloc (.cells #[.bool false,.int .i64 x.op,.int .i64 x.d,.int .i64 x.a,.int .i64 x.b,.int .i64 x.imm,.int .i64 x.h] 109)=y/\Below t0.heap.size t0 y/\(∀j u,(lnV (false,x))[j]?=some u->y.cell? ((⟨t0.heap.size,0,none⟩:Addr).add j)=some u):=⟨_,rfl,(Below.refl _ _).alloc (Nat.le_refl _) _,cells_newR _ _ _⟩
 rw[ht1]
 have OE:Hid (t1.ownsRow B 109 7 lv rows.length (lnL rows)):=row_belowB OD.out hbA
 have BE:Hid (Below B w t1):=BD.out.trans (hbA.mono (Nat.le_trans hB BD.out.size))
 have ME:Hid (∃D,t1.ownsMap Tryd.prog 2 (plainElem (H:=Unit) Tryd.prog 2) mb nn D/\LabD D (rows++[(false,x)])):=(by
  obtain⟨D,⟨es,c,h1,h2⟩,h3⟩:=MD.out
  exact⟨D,⟨es,c,(hbA.block mb (Array.getElem?_eq_some_iff.1 h1).1).trans h1,h2⟩,h3⟩:∃D,t1.ownsMap Tryd.prog 2 (plainElem (H:=Unit) Tryd.prog 2) mb nn D/\LabD D (rows++[(false,x)]))
 have TE:t1.heap[rb]?=some (.cells #[lv,.map (some mb),.int .i64 cn] 67)/\t1.heap[q]?=some (.cells #[.bool false,.int .i64 x.op,.int .i64 x.d,.int .i64 x.a,.int .i64 x.b,.int .i64 x.imm,.int .i64 x.h] 109):=⟨(hbA.block rb (Array.getElem?_eq_some_iff.1 hHeld.1).1).trans hHeld.1,(hbA.block q (Array.getElem?_eq_some_iff.1 hHeld.2).1).trans hHeld.2⟩
 have KE:Hid (∀(k:Nat)(o:Obj),w.heap[k]?=some o->k≠rb->k≠mb->t1.heap[k]?=some o):=fun k o h1 h2 h3=>(hbA.block k (Array.getElem?_eq_some_iff.1 (KD.out k o h1 h2 h3)).1).trans (KD.out k o h1 h2 h3)
 have hz1:w.heap.size<=t1.heap.size:=Nat.le_trans BD.out.size hbA.size
 have HQZ:Hid (q<t1.heap.size/\B<=t1.heap.size/\t0.heap.size<=t1.heap.size):=⟨(Array.getElem?_eq_some_iff.1 TE.2).1,Nat.le_trans hB (Nat.le_trans BD.out.size hbA.size),hbA.size⟩
 have NW:Hid _:=hnw
 clear ht1 hbA hnw OD BD MD KD
 refine hK.out _ _ TE (fun hHeld1=>?_)
 clear hK KK
 try simp only[Act.put,List.getElem_toArray,List.getElem_cons_zero,List.getElem_cons_succ,List.setIfInBounds_toArray,List.set_cons_zero,List.set_cons_succ]
 obtain⟨v',w5,hrun,hown,hgrow,_,hat⟩:=run_append_own_at (P:=Tryd.prog) t1 B 65 65 109 iL _ 7 56 Tryd.underlying65 HIL.out.1 HIL.out.2.1 HIL.out.2.2.1 HIL.out.2.2.2 rfl (by decide) lv rows.length (lnL rows) OE.out ⟨t0.heap.size,0,none⟩ 1 1 (lnV (false,x)) rfl NW.out (by simp[lnV,Value.oneCell']) (by unfold maxLen;omega) (by omega) HQZ.out.2.1
 have HQL:Hid (∀k,lv.ownBlock=some k->k≠q):=HQ9
 have T5:w5.heap[rb]?=some (.cells #[lv,.map (some mb),.int .i64 cn] 67)/\w5.heap[q]?=some (.cells #[.bool false,.int .i64 x.op,.int .i64 x.d,.int .i64 x.a,.int .i64 x.b,.int .i64 x.imm,.int .i64 x.h] 109):=⟨obj_two TE.1 OE.out (by decide) hgrow,(hgrow.block q HQZ.out.1 (fun e=>HQL.out q e.symm rfl)).trans TE.2⟩
 refine wpAnyL_append (.tmp 46) (.tmp 48) (i:=7) rfl (by kernel_rfl) (by kernel_rfl) rfl rfl rfl hrun T5 (fun hHeld5=>?_)
 try simp only[Act.put,List.getElem_toArray,List.getElem_cons_zero,List.getElem_cons_succ,List.setIfInBounds_toArray,List.set_cons_zero,List.set_cons_succ]
 refine wpAnyL_tkT 8 ?k7v rfl ?k7y ?k7r
 case k7y=>(intro w hSw;(try dsimp only at hSw);go_simp;try with_reducible rfl)
 try simp only[Act.put,List.getElem_toArray,List.getElem_cons_zero,List.getElem_cons_succ,List.setIfInBounds_toArray,List.set_cons_zero,List.set_cons_succ]
 refine wpAnyL_tk 9 ?k8v rfl ?k8y ?k8r
 case k8y=>(intro w hSw;(try dsimp only at hSw);go_simp;try with_reducible rfl)
 try simp only[Act.put,List.getElem_toArray,List.getElem_cons_zero,List.getElem_cons_succ,List.setIfInBounds_toArray,List.set_cons_zero,List.set_cons_succ]
 have HO5:w5.ownsRow B 109 7 v' (rows++[(false,x)]).length (lnL (rows++[(false,x)])):=by
  have e:lnL [(false,x)]=lnV (false,x):=by simp[lnL]
  rw[List.length_append,lnL_app,e];exact hown
 have F5:=hp_free T5.1
 have l5:rb<w5.heap.size:=(Array.getElem?_eq_some_iff.1 T5.1).1
 have B5:Below B w w5:=BE.out.grown hgrow (HQZ.out.2.1) (fun k hk=>(OE.out.lt k hk).1)
 have P5:Hid (RW (w5.setCell ⟨rb,0,none⟩ v') B rb mb nn v' (rows++[(false,x)])):=(by
  refine⟨?_,?_,?_,hRb,hMb⟩
  ·have:=hp_set T5.1 0 v'
   rw[HCN.out]at this
   exact this
  ·refine⟨HO5.1,?_⟩
   rcases HO5.2 with h|⟨g,cp,cur,h,a1,a2,a3⟩
   ·exact .inl h
   ·refine .inr ⟨g,cp,cur,h,a1,hp_other a2 ?_ _ _,a3⟩
    intro e
    rw[e,T5.1]at a2
    simp only[Option.some.injEq,Obj.cells.injEq]at a2
    exact absurd a2.2.1 (by decide)
  ·obtain⟨D,⟨es,c,h1,h2⟩,h3⟩:=ME.out
   have hm5:w5.heap[mb]?=some (.map es c):=(hgrow.block mb (Array.getElem?_eq_some_iff.1 h1).1 (fun e=>by
    rcases OE.out.2 with⟨hh,_⟩|⟨g2,c2,cur2,hh,_,b2,_⟩
    ·rw[hh]at e;cases e
    ·rw[hh]at e
     have e2:mb=g2:=by simpa[Value.ownBlock]using e
     rw[e2,b2]at h1
     cases h1)).trans h1
   refine⟨D,⟨es,c,hp_other hm5 (fun e=>?_) _ _,h2⟩,h3⟩
   rw[e,T5.1]at hm5
   exact(by cases hm5):RW (w5.setCell ⟨rb,0,none⟩ v') B rb mb nn v' (rows++[(false,x)]))
 have K5:Hid (Kp w (w5.setCell ⟨rb,0,none⟩ v') rb mb lv v'):=⟨fun k o h1 h2 h3 h4=>hp_other ((hgrow.block k (Array.getElem?_eq_some_iff.1 (KE.out k o h1 h2 h3)).1 (fun e=>h4 e.symm)).trans (KE.out k o h1 h2 h3)) h2 _ _,fun k hk=>by
  rcases hat with e|e
  ·exact .inl (by rw[<-e];exact hk)
  ·right;rw[hk]at e;have:=Option.some.inj e;omega⟩
 have S5:Hid (Below B w (w5.setCell ⟨rb,0,none⟩ v')):=B5.setCell hRb _
 obtain⟨ao5,c5,hv5⟩:=row_sl HO5
 subst hv5
 have e9:(rows++[(false,x)]).length=rows.length+1:=by simp
 rw[e9]at P5 S5 K5
 have t5:w5.cell? ⟨rb,0,none⟩=some lv:=hp_cell T5.1 0
 clear hown hgrow hat hrun HO5 OE BE ME NW T5 TE hHeld hHeld1 hHeld5 r0 x0 x1 x2 x3 x4 x5 x6 B5 KE
 refine wpAnyL_store rfl (by kernel_rfl) (by kernel_rfl) (fun KK hK=>?_)
 go_simp
 refine hK.out _ _ ?_
 clear hK KK
 go_wp2_with fail
 go_ret
 exact⟨nn,_,HAE.out.1,by rw[HAE.out.2];exact P5.out,HNN.out,S5.out,K5.out⟩
theorem wf_i64{x:Int}(h0:0<=x)(h1:x<=1099511627776):(Lit.int .i64 x).wf=true:=by
 simp[Lit.wf,IntKind.min,IntKind.max,IntKind.signed,IntKind.bits];omega
theorem addLine_lab(B rb mb n:Nat)(lv:Value)(rows:List Row)(x:NV)(w:World)(h:RW w B rb mb n lv rows)(hB:B<=w.heap.size)(hn:(rows.length:Int)<=1048576)(hnm:(n:Int)<=1048576)(hwk:(Lit.int .i64 x.imm).wf=true):
 Calls Tryd.prog 71 #[.pointer (some ⟨rb,0,none⟩),.agg (lnA (some (true,x)))] w fun e w'=>∃n' lv',e=.returned (.int .i64 (addE rows (some (true,x))).1)/\RW w' B rb mb n' lv' (addE rows (some (true,x))).2/\n'<=n+1/\Below B w w'/\Kp w w' rb mb lv lv':=by
 obtain⟨iL,hi1,hi2,hi3,hi4⟩:∃i,Tryd.prog.info? 109=some i/\i.zero=some (.agg #[.bool false,.int .i64 0,.int .i64 0,.int .i64 0,.int .i64 0,.int .i64 0,.int .i64 0])/\i.size=7/\i.bytes=56:=by
  have:=info_line
  rcases hh:Tryd.prog.info? 109 with _|i
  ·rw[hh]at this;simp at this
  ·rw[hh]at this;simp at this;exact⟨i,rfl,this⟩
 have HIL:Hid (Tryd.prog.info? 109=some iL/\iL.zero=some (.agg #[.bool false,.int .i64 0,.int .i64 0,.int .i64 0,.int .i64 0,.int .i64 0,.int .i64 0])/\iL.size=7/\iL.bytes=56):=⟨hi1,hi2,hi3,hi4⟩
 clear hi1 hi2 hi3 hi4
 have X:Hid (RW w B rb mb n lv rows):=h
 clear h
 show Calls Tryd.prog 71 #[.pointer (some ⟨rb,0,none⟩),.agg #[.bool true,.int .i64 x.op,.int .i64 x.d,.int .i64 x.a,.int .i64 x.b,.int .i64 x.imm,.int .i64 x.h]] w _
 go_enter Tryd.func71,Tryd.ntmps71
 have hRb:=X.out.bR
 have hMb:=X.out.bM
 obtain⟨q,hq⟩:∃q,w.heap.size=q:=⟨_,rfl⟩
 obtain⟨u0,hu0,XU,UQ0⟩:∃v,w.alloc (.cells #[.bool true,.int .i64 x.op,.int .i64 x.d,.int .i64 x.a,.int .i64 x.b,.int .i64 x.imm,.int .i64 x.h] 109)=v/\RW v B rb mb n lv rows/\v.heap[q]?=some (.cells #[.bool true,.int .i64 x.op,.int .i64 x.d,.int .i64 x.a,.int .i64 x.b,.int .i64 x.imm,.int .i64 x.h] 109):=⟨_,rfl,X.out.alloc _,by rw[<-hq];exact heap_alloc_newB w _⟩
 have UB0:Hid (Below B w u0):=(by rw[<-hu0];exact(Below.refl _ _).alloc hB _:Below B w u0)
 have HK0:Hid (∀(k:Nat)(o:Obj),w.heap[k]?=some o->u0.heap[k]?=some o):=fun k o h1=>by
  rw[<-hu0]
  exact(((Below.refl _ _).alloc (Nat.le_refl _) _:Below w.heap.size w _).block k (Array.getElem?_eq_some_iff.1 h1).1).trans h1
 have HQ9:∀k,lv.ownBlock=some k->k≠q:=fun k hk=>by have:=(X.out.L.lt k hk).2;omega
 have y0:=hp_cell UQ0 0
 have y1:=hp_cell UQ0 1
 have y2:=hp_cell UQ0 2
 have y3:=hp_cell UQ0 3
 have y4:=hp_cell UQ0 4
 have y5:=hp_cell UQ0 5
 have y6:=hp_cell UQ0 6
 simp only[List.getElem?_toArray,List.getElem?_cons_zero,List.getElem?_cons_succ]at y0 y1 y2 y3 y4 y5 y6
 have hlr:rb<u0.heap.size:=(Array.getElem?_eq_some_iff.1 XU.R).1
 have hlq:q<u0.heap.size:=(Array.getElem?_eq_some_iff.1 UQ0).1
 obtain⟨c0,hc0⟩:∃c,cntI rows=c:=⟨_,rfl⟩
 have hcb:c0<=rows.length:=by rw[<-hc0];exact cnt_le rows
 have HC0:Hid (cntI rows=c0):=hc0
 have M1:∀w',Below u0.heap.size u0 w'->w'.cell? ⟨rb,1,none⟩=some (.map (some mb)):=fun w' hb=>(hb.cell (p:=⟨rb,1,none⟩) hlr).trans (hp_cell XU.R 1)
 have M2:∀w',Below u0.heap.size u0 w'->w'.cell? ⟨rb,2,none⟩=some (.int .i64 (c0:Int)):=fun w' hb=>(hb.cell (p:=⟨rb,2,none⟩) hlr).trans ((hp_cell XU.R 2).trans (by rw[hc0];rfl))
 have Y5:∀w',Below u0.heap.size u0 w'->w'.cell? ⟨q,5,none⟩=some (.int .i64 x.imm):=fun w' hb=>(hb.cell (p:=⟨q,5,none⟩) hlq).trans y5
 obtain⟨ok,hok⟩:∃b,(labOf rows x.imm).isSome=b:=⟨_,rfl⟩
 obtain⟨a,ha⟩:∃a,(labOf rows x.imm).getD 0=a:=⟨_,rfl⟩
 have hlk:∀w',Below u0.heap.size u0 w'->(Instr.lookup 64 (.map (some mb)) (.int .i64 x.imm) true).run Tryd.prog w'=.ok (.tuple #[.int .i64 (a:Int),.bool ok]) w':=fun w' hb=>by
  obtain⟨o,h1,h2⟩:=XU.labs
  have:=(h2 w' ((hb.block mb (Array.getElem?_eq_some_iff.1 h1).1).trans h1) x.imm hwk).1
  rw[hok,ha]at this
  exact this
 have HOK:Hid ((labOf rows x.imm).isSome=ok):=hok
 have XUh:Hid (RW u0 B rb mb n lv rows):=XU
 have UQh:Hid (u0.heap[q]?=some (.cells #[.bool true,.int .i64 x.op,.int .i64 x.d,.int .i64 x.a,.int .i64 x.b,.int .i64 x.imm,.int .i64 x.h] 109)):=UQ0
 clear hc0 XU UQ0 hok ha
 go_upto_region 1 with fail
 try rw[hu0]
 try rw[hq]
 clear hu0
 go_upto_region 4 with fail
 refine wp_region_held_drew (S:=fun w'=>Below u0.heap.size u0 w') (by kernel_rfl) (Below.refl _ _).drew (fun _=>?_)
 refine wpAnyH_tk 0 ?k9v rfl ?k9y ?k9r
 case k9y=>(intro w hSw;(try dsimp only at hSw);go_simp;try with_reducible rfl)
 try simp only[Act.put,List.getElem_toArray,List.getElem_cons_zero,List.setIfInBounds_toArray,List.set_cons_zero,List.set_cons_succ]
 refine wpAnyH_tk 1 ?k10v rfl ?k10y ?k10r
 case k10y=>(intro w hSw;(try dsimp only at hSw);go_simp;try with_reducible rfl)
 try simp only[Act.put,List.getElem_toArray,List.getElem_cons_zero,List.getElem_cons_succ,List.setIfInBounds_toArray,List.set_cons_zero,List.set_cons_succ]
 refine wpAnyH_tk 2 ?k11v rfl ?k11y ?k11r
 case k11y=>(intro w hSw;(try dsimp only at hSw);go_simp;try with_reducible rfl)
 try simp only[Act.put,List.getElem_toArray,List.getElem_cons_zero,List.getElem_cons_succ,List.setIfInBounds_toArray,List.set_cons_zero,List.set_cons_succ]
 refine wpAnyH_tk 3 ?k12v rfl ?k12y ?k12r
 case k12y=>(intro w hSw;(try dsimp only at hSw);go_simp;try with_reducible rfl)
 try simp only[Act.put,List.getElem_toArray,List.getElem_cons_zero,List.getElem_cons_succ,List.setIfInBounds_toArray,List.set_cons_zero,List.set_cons_succ]
 refine wpAnyH_tk 4 ?k13v rfl ?k13y ?k13r
 case k13y=>(intro w hSw;(try dsimp only at hSw);go_simp;try with_reducible rfl)
 try simp only[Act.put,List.getElem_toArray,List.getElem_cons_zero,List.getElem_cons_succ,List.setIfInBounds_toArray,List.set_cons_zero,List.set_cons_succ]
 refine wpAnyH_tk 5 ?k14v rfl ?k14y ?k14r
 case k14y=>(intro w hSw;(try dsimp only at hSw);go_simp;try with_reducible rfl)
 try simp only[Act.put,List.getElem_toArray,List.getElem_cons_zero,List.getElem_cons_succ,List.setIfInBounds_toArray,List.set_cons_zero,List.set_cons_succ]
 refine wpAnyH_tk 6 ?k15v rfl ?k15y ?k15r
 case k15y=>(intro w hSw;(try dsimp only at hSw);go_simp;try with_reducible rfl)
 try simp only[Act.put,List.getElem_toArray,List.getElem_cons_zero,List.getElem_cons_succ,List.setIfInBounds_toArray,List.set_cons_zero,List.set_cons_succ]
 refine wpAnyH_tk 7 ?k16v rfl ?k16y ?k16r
 case k16y=>(intro w hSw;(try dsimp only at hSw);go_simp;try with_reducible rfl)
 try simp only[Act.put,List.getElem_toArray,List.getElem_cons_zero,List.getElem_cons_succ,List.setIfInBounds_toArray,List.set_cons_zero,List.set_cons_succ]
 refine wpAnyH_tk 8 ?k17v rfl ?k17y ?k17r
 case k17y=>(intro w hSw;(try dsimp only at hSw);go_simp;try with_reducible rfl)
 try simp only[Act.put,List.getElem_toArray,List.getElem_cons_zero,List.getElem_cons_succ,List.setIfInBounds_toArray,List.set_cons_zero,List.set_cons_succ]
 refine wpAnyH_tk 9 ?k18v rfl ?k18y ?k18r
 case k18y=>(intro w hSw;(try dsimp only at hSw);go_simp;try with_reducible rfl)
 try simp only[Act.put,List.getElem_toArray,List.getElem_cons_zero,List.getElem_cons_succ,List.setIfInBounds_toArray,List.set_cons_zero,List.set_cons_succ]
 refine wpAnyH_tk 10 ?k19v rfl ?k19y ?k19r
 case k19y=>(intro w hSw;(try dsimp only at hSw);go_simp;try with_reducible rfl)
 try simp only[Act.put,List.getElem_toArray,List.getElem_cons_zero,List.getElem_cons_succ,List.setIfInBounds_toArray,List.set_cons_zero,List.set_cons_succ]
 refine wpAnyH_tk 11 ?k20v rfl ?k20y ?k20r
 case k20y=>(intro w hSw;(try dsimp only at hSw);go_simp;try with_reducible rfl)
 try simp only[Act.put,List.getElem_toArray,List.getElem_cons_zero,List.getElem_cons_succ,List.setIfInBounds_toArray,List.set_cons_zero,List.set_cons_succ]
 refine wpAnyH_tk 12 ?k21v rfl ?k21y ?k21r
 case k21y=>(intro w hSw;(try dsimp only at hSw);go_simp;try with_reducible rfl)
 try simp only[Act.put,List.getElem_toArray,List.getElem_cons_zero,List.getElem_cons_succ,List.setIfInBounds_toArray,List.set_cons_zero,List.set_cons_succ]
 refine wpAnyH_done (by kernel_rfl) ?_ _
 clear hlk
 cases ok with
 |true=>
  have HAE:Hid (addE rows (some (true,x))=(3,rows)):=(by unfold addE;simp[HOK.out]:addE rows (some (true,x))=(3,rows))
  clear M1 M2 Y5
  go_wp2_with fail
  go_ret
  refine⟨n,lv,by rw[HAE.out];rfl,by rw[HAE.out];exact XUh.out.drew,by omega,UB0.out.drew,fun k o h1 _ _ _=>HK0.out k o h1,fun k hk=>.inl hk⟩
 |false=>
  have hln:labOf rows x.imm=none:=by
   have:=HOK.out
   cases hh:labOf rows x.imm with
   |none=>rfl
   |some a=>rw[hh]at this;cases this
  have HAE:Hid (Ending.returned (.int .i64 0)=.returned (.int .i64 (addE rows (some (true,x))).1)/\(addE rows (some (true,x))).2=rows++[(true,x)]):=(by
   have e:addE rows (some (true,x))=(0,rows++[(true,x)]):=by unfold addE;simp[hln]
   rw[e]
   exact⟨rfl,rfl⟩:Ending.returned (.int .i64 0)=.returned (.int .i64 (addE rows (some (true,x))).1)/\(addE rows (some (true,x))).2=rows++[(true,x)])
  go_upto_region 7 with fail
  refine wp_region_L (T:=fun w'=>Below u0.heap.size u0 w') (s:=11) (by kernel_rfl) (Below.refl _ _).drew.drew (fun hHeld=>?_)
  refine wpAnyL_tk 0 ?k22v rfl ?k22y ?k22r
  case k22y=>(intro w hSw;(try dsimp only at hSw);go_simp;try with_reducible rfl)
  try simp only[Act.put,List.getElem_toArray,List.getElem_cons_zero,List.setIfInBounds_toArray,List.set_cons_zero,List.set_cons_succ]
  refine wpAnyL_tk 1 ?k23v rfl ?k23y ?k23r
  case k23y=>(intro w hSw;(try dsimp only at hSw);go_simp;try with_reducible rfl)
  try simp only[Act.put,List.getElem_toArray,List.getElem_cons_zero,List.getElem_cons_succ,List.setIfInBounds_toArray,List.set_cons_zero,List.set_cons_succ]
  refine wpAnyL_tk 2 ?k24v rfl ?k24y ?k24r
  case k24y=>(intro w hSw;(try dsimp only at hSw);go_simp;try with_reducible rfl)
  try simp only[Act.put,List.getElem_toArray,List.getElem_cons_zero,List.getElem_cons_succ,List.setIfInBounds_toArray,List.set_cons_zero,List.set_cons_succ]
  refine wpAnyL_tk 3 ?k25v rfl ?k25y ?k25r
  case k25y=>(intro w hSw;(try dsimp only at hSw);go_simp;try with_reducible rfl)
  try simp only[Act.put,List.getElem_toArray,List.getElem_cons_zero,List.getElem_cons_succ,List.setIfInBounds_toArray,List.set_cons_zero,List.set_cons_succ]
  refine wpAnyL_tk 4 ?k26v rfl ?k26y ?k26r
  case k26y=>(intro w hSw;(try dsimp only at hSw);go_simp;try with_reducible rfl)
  try simp only[Act.put,List.getElem_toArray,List.getElem_cons_zero,List.getElem_cons_succ,List.setIfInBounds_toArray,List.set_cons_zero,List.set_cons_succ]
  refine wpAnyL_tk 5 ?k27v rfl ?k27y ?k27r
  case k27y=>(intro w hSw;(try dsimp only at hSw);go_simp;try with_reducible rfl)
  try simp only[Act.put,List.getElem_toArray,List.getElem_cons_zero,List.getElem_cons_succ,List.setIfInBounds_toArray,List.set_cons_zero,List.set_cons_succ]
  refine wpAnyL_tk 6 ?k28v rfl ?k28y ?k28r
  case k28y=>(intro w hSw;(try dsimp only at hSw);go_simp;try with_reducible rfl)
  try simp only[Act.put,List.getElem_toArray,List.getElem_cons_zero,List.getElem_cons_succ,List.setIfInBounds_toArray,List.set_cons_zero,List.set_cons_succ]
  refine wpAnyL_tk 7 ?k29v rfl ?k29y ?k29r
  case k29y=>(intro w hSw;(try dsimp only at hSw);go_simp;try with_reducible rfl)
  try simp only[Act.put,List.getElem_toArray,List.getElem_cons_zero,List.getElem_cons_succ,List.setIfInBounds_toArray,List.set_cons_zero,List.set_cons_succ]
  refine wpAnyL_tk 8 ?k30v rfl ?k30y ?k30r
  case k30y=>(intro w hSw;(try dsimp only at hSw);go_simp;try with_reducible rfl)
  try simp only[Act.put,List.getElem_toArray,List.getElem_cons_zero,List.getElem_cons_succ,List.setIfInBounds_toArray,List.set_cons_zero,List.set_cons_succ]
  refine wpAnyL_tk 9 ?k31v rfl ?k31y ?k31r
  case k31y=>(intro w hSw;(try dsimp only at hSw);go_simp;try with_reducible rfl)
  try simp only[Act.put,List.getElem_toArray,List.getElem_cons_zero,List.getElem_cons_succ,List.setIfInBounds_toArray,List.set_cons_zero,List.set_cons_succ]
  refine wpAnyL_tk 10 ?k32v rfl ?k32y ?k32r
  case k32y=>(intro w hSw;(try dsimp only at hSw);go_simp;try with_reducible rfl)
  try simp only[Act.put,List.getElem_toArray,List.getElem_cons_zero,List.getElem_cons_succ,List.setIfInBounds_toArray,List.set_cons_zero,List.set_cons_succ]
  obtain⟨D,hD,hLD⟩:=XUh.out.M
  have hD2:u0.drew.drew.ownsMap Tryd.prog 2 (plainElem (H:=Unit) Tryd.prog 2) mb n D:=hD
  obtain⟨w6,hrun,hm6,hg6⟩:=hD2.update (Maps.int_keyed Tryd.underlying2) (t:=64) (e:=2) Tryd.underlying64 (by unfold maxLen;omega) (Maps.keyOf_int_mk Tryd.underlying2 hwk) (plainElem_int Tryd.underlying2 (wf_i64 (x:=(c0:Int)) (by omega) (by omega)))
  refine wpAnyL_store rfl (by kernel_rfl) (by kernel_rfl) (fun KK hK=>?_)
  go_simp
  refine hK.out _ _ ?_
  clear hK KK hHeld M1 M2 Y5
  obtain⟨cn,hcn⟩:∃c:Int,(c0:Int)=c:=⟨_,rfl⟩
  have HCN:Hid (cn=(cntI (rows++[(true,x)]):Int)):=(by rw[<-hcn,cnt_snoc,HC0.out];simp:cn=(cntI (rows++[(true,x)]):Int))
  have hmo:∀(k:Nat)(o:Obj),k≠mb->u0.heap[k]?=some o->w6.heap[k]?=some o:=fun k o hk ho=>(hg6.block k (Array.getElem?_eq_some_iff.1 (show u0.drew.drew.heap[k]?=some o from ho)).1 (fun e=>hk (Option.some.inj e))).trans ho
  have hmb0:∃es c,u0.heap[mb]?=some (.map es c):=by
   obtain⟨es,c,h1,_⟩:=hD
   exact⟨es,c,h1⟩
  have hcm:∀(k:Nat)(cs:Array Value)(t:TypeId),u0.heap[k]?=some (.cells cs t)->k≠mb:=fun k cs t hk e=>by
   obtain⟨es,c,h1⟩:=hmb0
   rw[e,h1]at hk
   cases hk
  obtain⟨u,hu,UR,UQ,UL,UM,UB⟩:∃v,w6=v/\v.heap[rb]?=some (.cells #[lv,.map (some mb),.int .i64 cn] 67)/\v.heap[q]?=some (.cells #[.bool true,.int .i64 x.op,.int .i64 x.d,.int .i64 x.a,.int .i64 x.b,.int .i64 x.imm,.int .i64 x.h] 109)/\Hid (v.ownsRow B 109 7 lv rows.length (lnL rows))/\Hid (∃D,v.ownsMap Tryd.prog 2 (plainElem (H:=Unit) Tryd.prog 2) mb (n+1) D/\LabD D (rows++[(true,x)]))/\Hid (Below B w v):=by
   refine⟨_,rfl,?_,hmo q _ (hcm q _ _ UQh.out) UQh.out,?_,?_,?_⟩
   ·have:=hmo rb _ (hcm rb _ _ XUh.out.R) XUh.out.R
    rw[HC0.out,hcn]at this
    exact this
   ·refine(⟨XUh.out.L.1,?_⟩:World.ownsRow _ _ _ _ _ _ _)
    rcases XUh.out.L.2 with h|⟨g,cp,cur,h,a1,a2,a3⟩
    ·exact .inl h
    ·exact .inr ⟨g,cp,cur,h,a1,hmo g _ (hcm g _ _ a2) a2,a3⟩
   ·have hl:=hLD.lab x hln
    rw[HC0.out]at hl
    exact(⟨_,hm6,hl⟩:∃D:DataW Unit,World.ownsMap (H:=Unit) _ Tryd.prog 2 (plainElem (H:=Unit) Tryd.prog 2) mb (n+1) D/\LabD D (rows++[(true,x)]))
   ·exact(UB0.out.drew.drew.grown hg6 (Nat.le_trans hB UB0.out.size) (by intro k e;cases e;exact hMb):Below B w w6)
  have KU:Hid (∀(k:Nat)(o:Obj),w.heap[k]?=some o->k≠rb->k≠mb->u.heap[k]?=some o):=fun k o h1 _ h3=>by
   rw[<-hu]
   exact hmo k o h3 (HK0.out k o h1)
  rw[hu]
  obtain⟨nn,hnn⟩:∃m,n+1=m:=⟨_,rfl⟩
  rw[hnn]at UM
  have HNN:Hid (nn<=n+1):=(by omega:nn<=n+1)
  clear hu hcn XUh UQh UB0 y0 y1 y2 y3 y4 y5 y6 X hnn hD hLD hD2 hrun hm6 hg6 hmo hmb0 hcm hln
  go_upto_region 9 with fail
  have r0:∀w':World,(w'.heap[rb]?=some (.cells #[lv,.map (some mb),.int .i64 cn] 67)/\w'.heap[q]?=some (.cells #[.bool true,.int .i64 x.op,.int .i64 x.d,.int .i64 x.a,.int .i64 x.b,.int .i64 x.imm,.int .i64 x.h] 109))->w'.cell? ⟨rb,0,none⟩=some lv:=fun w' h=>hp_cell h.1 0
  have x0:∀w':World,(w'.heap[rb]?=some (.cells #[lv,.map (some mb),.int .i64 cn] 67)/\w'.heap[q]?=some (.cells #[.bool true,.int .i64 x.op,.int .i64 x.d,.int .i64 x.a,.int .i64 x.b,.int .i64 x.imm,.int .i64 x.h] 109))->w'.cell? ⟨q,0,none⟩=some (.bool true):=fun w' h=>hp_cell h.2 0
  have x1:∀w':World,(w'.heap[rb]?=some (.cells #[lv,.map (some mb),.int .i64 cn] 67)/\w'.heap[q]?=some (.cells #[.bool true,.int .i64 x.op,.int .i64 x.d,.int .i64 x.a,.int .i64 x.b,.int .i64 x.imm,.int .i64 x.h] 109))->w'.cell? ⟨q,1,none⟩=some (.int .i64 x.op):=fun w' h=>hp_cell h.2 1
  have x2:∀w':World,(w'.heap[rb]?=some (.cells #[lv,.map (some mb),.int .i64 cn] 67)/\w'.heap[q]?=some (.cells #[.bool true,.int .i64 x.op,.int .i64 x.d,.int .i64 x.a,.int .i64 x.b,.int .i64 x.imm,.int .i64 x.h] 109))->w'.cell? ⟨q,2,none⟩=some (.int .i64 x.d):=fun w' h=>hp_cell h.2 2
  have x3:∀w':World,(w'.heap[rb]?=some (.cells #[lv,.map (some mb),.int .i64 cn] 67)/\w'.heap[q]?=some (.cells #[.bool true,.int .i64 x.op,.int .i64 x.d,.int .i64 x.a,.int .i64 x.b,.int .i64 x.imm,.int .i64 x.h] 109))->w'.cell? ⟨q,3,none⟩=some (.int .i64 x.a):=fun w' h=>hp_cell h.2 3
  have x4:∀w':World,(w'.heap[rb]?=some (.cells #[lv,.map (some mb),.int .i64 cn] 67)/\w'.heap[q]?=some (.cells #[.bool true,.int .i64 x.op,.int .i64 x.d,.int .i64 x.a,.int .i64 x.b,.int .i64 x.imm,.int .i64 x.h] 109))->w'.cell? ⟨q,4,none⟩=some (.int .i64 x.b):=fun w' h=>hp_cell h.2 4
  have x5:∀w':World,(w'.heap[rb]?=some (.cells #[lv,.map (some mb),.int .i64 cn] 67)/\w'.heap[q]?=some (.cells #[.bool true,.int .i64 x.op,.int .i64 x.d,.int .i64 x.a,.int .i64 x.b,.int .i64 x.imm,.int .i64 x.h] 109))->w'.cell? ⟨q,5,none⟩=some (.int .i64 x.imm):=fun w' h=>hp_cell h.2 5
  have x6:∀w':World,(w'.heap[rb]?=some (.cells #[lv,.map (some mb),.int .i64 cn] 67)/\w'.heap[q]?=some (.cells #[.bool true,.int .i64 x.op,.int .i64 x.d,.int .i64 x.a,.int .i64 x.b,.int .i64 x.imm,.int .i64 x.h] 109))->w'.cell? ⟨q,6,none⟩=some (.int .i64 x.h):=fun w' h=>hp_cell h.2 6
  have TD:u.drew.heap[rb]?=some (.cells #[lv,.map (some mb),.int .i64 cn] 67)/\u.drew.heap[q]?=some (.cells #[.bool true,.int .i64 x.op,.int .i64 x.d,.int .i64 x.a,.int .i64 x.b,.int .i64 x.imm,.int .i64 x.h] 109):=⟨UR,UQ⟩
  have OD:Hid (u.drew.ownsRow B 109 7 lv rows.length (lnL rows)):=UL.out
  have MD:Hid (∃D,u.drew.ownsMap Tryd.prog 2 (plainElem (H:=Unit) Tryd.prog 2) mb nn D/\LabD D (rows++[(true,x)])):=UM.out
  have BD:Hid (Below B w u.drew):=UB.out.drew
  have KD:Hid (∀(k:Nat)(o:Obj),w.heap[k]?=some o->k≠rb->k≠mb->u.drew.heap[k]?=some o):=KU.out
  clear UL UM UB UR UQ KU
  refine wp_region_L (T:=fun w'=>w'.heap[rb]?=some (.cells #[lv,.map (some mb),.int .i64 cn] 67)/\w'.heap[q]?=some (.cells #[.bool true,.int .i64 x.op,.int .i64 x.d,.int .i64 x.a,.int .i64 x.b,.int .i64 x.imm,.int .i64 x.h] 109)) (s:=10) (by kernel_rfl) TD (fun hHeld=>?_)
  clear TD
  generalize u.drew=t0 at hHeld OD BD MD KD⊢
  refine wpAnyL_tk 0 ?k33v rfl ?k33y ?k33r
  case k33y=>(intro w hSw;(try dsimp only at hSw);go_simp;try with_reducible rfl)
  try simp only[Act.put,List.getElem_toArray,List.getElem_cons_zero,List.setIfInBounds_toArray,List.set_cons_zero,List.set_cons_succ]
  refine wpAnyL_tk 1 ?k34v rfl ?k34y ?k34r
  case k34y=>(intro w hSw;(try dsimp only at hSw);go_simp;try with_reducible rfl)
  try simp only[Act.put,List.getElem_toArray,List.getElem_cons_zero,List.getElem_cons_succ,List.setIfInBounds_toArray,List.set_cons_zero,List.set_cons_succ]
  refine wpAnyL_tk 2 ?k35v rfl ?k35y ?k35r
  case k35y=>(intro w hSw;(try dsimp only at hSw);go_simp;try with_reducible rfl)
  try simp only[Act.put,List.getElem_toArray,List.getElem_cons_zero,List.getElem_cons_succ,List.setIfInBounds_toArray,List.set_cons_zero,List.set_cons_succ]
  refine wpAnyL_tk 3 ?k36v rfl ?k36y ?k36r
  case k36y=>(intro w hSw;(try dsimp only at hSw);go_simp;try with_reducible rfl)
  try simp only[Act.put,List.getElem_toArray,List.getElem_cons_zero,List.getElem_cons_succ,List.setIfInBounds_toArray,List.set_cons_zero,List.set_cons_succ]
  refine wpAnyL_tk 4 ?k37v rfl ?k37y ?k37r
  case k37y=>(intro w hSw;(try dsimp only at hSw);go_simp;try with_reducible rfl)
  try simp only[Act.put,List.getElem_toArray,List.getElem_cons_zero,List.getElem_cons_succ,List.setIfInBounds_toArray,List.set_cons_zero,List.set_cons_succ]
  refine wpAnyL_tk 5 ?k38v rfl ?k38y ?k38r
  case k38y=>(intro w hSw;(try dsimp only at hSw);go_simp;try with_reducible rfl)
  try simp only[Act.put,List.getElem_toArray,List.getElem_cons_zero,List.getElem_cons_succ,List.setIfInBounds_toArray,List.set_cons_zero,List.set_cons_succ]
  refine wpAnyL_call (i:=6) rfl (by kernel_rfl) (fun KK hK=>?_)
  go_simp
  obtain⟨t1,ht1,hbA,hnw⟩:∃y,t0.alloc (.cells #[.bool true,.int .i64 x.op,.int .i64 x.d,.int .i64 x.a,.int .i64 x.b,.int .i64 x.imm,.int .i64 x.h] 109)=y/\Below t0.heap.size t0 y/\(∀j u,(lnV (true,x))[j]?=some u->y.cell? ((⟨t0.heap.size,0,none⟩:Addr).add j)=some u):=⟨_,rfl,(Below.refl _ _).alloc (Nat.le_refl _) _,cells_newR _ _ _⟩
  rw[ht1]
  have OE:Hid (t1.ownsRow B 109 7 lv rows.length (lnL rows)):=row_belowB OD.out hbA
  have BE:Hid (Below B w t1):=BD.out.trans (hbA.mono (Nat.le_trans hB BD.out.size))
  have ME:Hid (∃D,t1.ownsMap Tryd.prog 2 (plainElem (H:=Unit) Tryd.prog 2) mb nn D/\LabD D (rows++[(true,x)])):=(by
   obtain⟨D,⟨es,c,h1,h2⟩,h3⟩:=MD.out
   exact⟨D,⟨es,c,(hbA.block mb (Array.getElem?_eq_some_iff.1 h1).1).trans h1,h2⟩,h3⟩:∃D,t1.ownsMap Tryd.prog 2 (plainElem (H:=Unit) Tryd.prog 2) mb nn D/\LabD D (rows++[(true,x)]))
  have TE:t1.heap[rb]?=some (.cells #[lv,.map (some mb),.int .i64 cn] 67)/\t1.heap[q]?=some (.cells #[.bool true,.int .i64 x.op,.int .i64 x.d,.int .i64 x.a,.int .i64 x.b,.int .i64 x.imm,.int .i64 x.h] 109):=⟨(hbA.block rb (Array.getElem?_eq_some_iff.1 hHeld.1).1).trans hHeld.1,(hbA.block q (Array.getElem?_eq_some_iff.1 hHeld.2).1).trans hHeld.2⟩
  have KE:Hid (∀(k:Nat)(o:Obj),w.heap[k]?=some o->k≠rb->k≠mb->t1.heap[k]?=some o):=fun k o h1 h2 h3=>(hbA.block k (Array.getElem?_eq_some_iff.1 (KD.out k o h1 h2 h3)).1).trans (KD.out k o h1 h2 h3)
  have hz1:w.heap.size<=t1.heap.size:=Nat.le_trans BD.out.size hbA.size
  have HQZ:Hid (q<t1.heap.size/\B<=t1.heap.size/\t0.heap.size<=t1.heap.size):=⟨(Array.getElem?_eq_some_iff.1 TE.2).1,Nat.le_trans hB (Nat.le_trans BD.out.size hbA.size),hbA.size⟩
  have NW:Hid _:=hnw
  clear ht1 hbA hnw OD BD MD KD
  refine hK.out _ _ TE (fun hHeld1=>?_)
  clear hK KK
  try simp only[Act.put,List.getElem_toArray,List.getElem_cons_zero,List.getElem_cons_succ,List.setIfInBounds_toArray,List.set_cons_zero,List.set_cons_succ]
  obtain⟨v',w5,hrun,hown,hgrow,_,hat⟩:=run_append_own_at (P:=Tryd.prog) t1 B 65 65 109 iL _ 7 56 Tryd.underlying65 HIL.out.1 HIL.out.2.1 HIL.out.2.2.1 HIL.out.2.2.2 rfl (by decide) lv rows.length (lnL rows) OE.out ⟨t0.heap.size,0,none⟩ 1 1 (lnV (true,x)) rfl NW.out (by simp[lnV,Value.oneCell']) (by unfold maxLen;omega) (by omega) HQZ.out.2.1
  have HQL:Hid (∀k,lv.ownBlock=some k->k≠q):=HQ9
  have T5:w5.heap[rb]?=some (.cells #[lv,.map (some mb),.int .i64 cn] 67)/\w5.heap[q]?=some (.cells #[.bool true,.int .i64 x.op,.int .i64 x.d,.int .i64 x.a,.int .i64 x.b,.int .i64 x.imm,.int .i64 x.h] 109):=⟨obj_two TE.1 OE.out (by decide) hgrow,(hgrow.block q HQZ.out.1 (fun e=>HQL.out q e.symm rfl)).trans TE.2⟩
  refine wpAnyL_append (.tmp 46) (.tmp 48) (i:=7) rfl (by kernel_rfl) (by kernel_rfl) rfl rfl rfl hrun T5 (fun hHeld5=>?_)
  try simp only[Act.put,List.getElem_toArray,List.getElem_cons_zero,List.getElem_cons_succ,List.setIfInBounds_toArray,List.set_cons_zero,List.set_cons_succ]
  refine wpAnyL_tkT 8 ?k39v rfl ?k39y ?k39r
  case k39y=>(intro w hSw;(try dsimp only at hSw);go_simp;try with_reducible rfl)
  try simp only[Act.put,List.getElem_toArray,List.getElem_cons_zero,List.getElem_cons_succ,List.setIfInBounds_toArray,List.set_cons_zero,List.set_cons_succ]
  refine wpAnyL_tk 9 ?k40v rfl ?k40y ?k40r
  case k40y=>(intro w hSw;(try dsimp only at hSw);go_simp;try with_reducible rfl)
  try simp only[Act.put,List.getElem_toArray,List.getElem_cons_zero,List.getElem_cons_succ,List.setIfInBounds_toArray,List.set_cons_zero,List.set_cons_succ]
  have HO5:w5.ownsRow B 109 7 v' (rows++[(true,x)]).length (lnL (rows++[(true,x)])):=by
   have e:lnL [(true,x)]=lnV (true,x):=by simp[lnL]
   rw[List.length_append,lnL_app,e];exact hown
  have F5:=hp_free T5.1
  have l5:rb<w5.heap.size:=(Array.getElem?_eq_some_iff.1 T5.1).1
  have B5:Below B w w5:=BE.out.grown hgrow (HQZ.out.2.1) (fun k hk=>(OE.out.lt k hk).1)
  have P5:Hid (RW (w5.setCell ⟨rb,0,none⟩ v') B rb mb nn v' (rows++[(true,x)])):=(by
   refine⟨?_,?_,?_,hRb,hMb⟩
   ·have:=hp_set T5.1 0 v'
    rw[HCN.out]at this
    exact this
   ·refine⟨HO5.1,?_⟩
    rcases HO5.2 with h|⟨g,cp,cur,h,a1,a2,a3⟩
    ·exact .inl h
    ·refine .inr ⟨g,cp,cur,h,a1,hp_other a2 ?_ _ _,a3⟩
     intro e
     rw[e,T5.1]at a2
     simp only[Option.some.injEq,Obj.cells.injEq]at a2
     exact absurd a2.2.1 (by decide)
   ·obtain⟨D,⟨es,c,h1,h2⟩,h3⟩:=ME.out
    have hm5:w5.heap[mb]?=some (.map es c):=(hgrow.block mb (Array.getElem?_eq_some_iff.1 h1).1 (fun e=>by
     rcases OE.out.2 with⟨hh,_⟩|⟨g2,c2,cur2,hh,_,b2,_⟩
     ·rw[hh]at e;cases e
     ·rw[hh]at e
      have e2:mb=g2:=by simpa[Value.ownBlock]using e
      rw[e2,b2]at h1
      cases h1)).trans h1
    refine⟨D,⟨es,c,hp_other hm5 (fun e=>?_) _ _,h2⟩,h3⟩
    rw[e,T5.1]at hm5
    exact(by cases hm5):RW (w5.setCell ⟨rb,0,none⟩ v') B rb mb nn v' (rows++[(true,x)]))
  have K5:Hid (Kp w (w5.setCell ⟨rb,0,none⟩ v') rb mb lv v'):=⟨fun k o h1 h2 h3 h4=>hp_other ((hgrow.block k (Array.getElem?_eq_some_iff.1 (KE.out k o h1 h2 h3)).1 (fun e=>h4 e.symm)).trans (KE.out k o h1 h2 h3)) h2 _ _,fun k hk=>by
   rcases hat with e|e
   ·exact .inl (by rw[<-e];exact hk)
   ·right;rw[hk]at e;have:=Option.some.inj e;omega⟩
  have S5:Hid (Below B w (w5.setCell ⟨rb,0,none⟩ v')):=B5.setCell hRb _
  obtain⟨ao5,c5,hv5⟩:=row_sl HO5
  subst hv5
  have e9:(rows++[(true,x)]).length=rows.length+1:=by simp
  rw[e9]at P5 S5 K5
  have t5:w5.cell? ⟨rb,0,none⟩=some lv:=hp_cell T5.1 0
  clear hown hgrow hat hrun HO5 OE BE ME NW T5 TE hHeld hHeld1 hHeld5 r0 x0 x1 x2 x3 x4 x5 x6 B5 KE
  refine wpAnyL_store rfl (by kernel_rfl) (by kernel_rfl) (fun KK hK=>?_)
  go_simp
  refine hK.out _ _ ?_
  clear hK KK
  go_wp2_with fail
  go_ret
  exact⟨nn,_,HAE.out.1,by rw[HAE.out.2];exact P5.out,HNN.out,S5.out,K5.out⟩
theorem addLine_any(B rb mb n:Nat)(lv:Value)(rows:List Row)(lo:Option Row)(w:World)(h:RW w B rb mb n lv rows)(hB:B<=w.heap.size)(hn:(rows.length:Int)<=1048576)(hnm:(n:Int)<=1048576)(hwk:∀r,lo=some r->(Lit.int .i64 r.2.imm).wf=true)(hx:∀x,lo=some (false,x)->x.op≠0):
 Calls Tryd.prog 71 #[.pointer (some ⟨rb,0,none⟩),.agg (lnA lo)] w fun e w'=>∃n' lv',e=.returned (.int .i64 (addE rows lo).1)/\RW w' B rb mb n' lv' (addE rows lo).2/\n'<=n+1/\Below B w w'/\Kp w w' rb mb lv lv':=by
 match lo,hwk,hx with
 |none,_,_=>exact addLine_none B rb mb n lv rows w h hB
 |some (false,x),_,hx=>exact addLine_ins B rb mb n lv rows x w h hB (hx x rfl) hn
 |some (true,x),hwk,_=>exact addLine_lab B rb mb n lv rows x w h hB hn hnm (hwk _ rfl)
end Go.Proofs.YtdbhgaegblclaaaDoor
