import Derived.Test.YtblfmpgdhpbffaaGreatDoorOfPzKind
import Derived.Laws.CopyRow
import Derived.Laws.CopyOwn
set_option maxHeartbeats 1600000
set_option maxRecDepth 20000
namespace Go.Proofs.YtblfmpgdhpbffaaGreatDoor
open Go.RowKit Go.Proofs
theorem run_copy_z(P:Program)(w:World)(dT sT ty elem:TypeId)(z g o dLen dCap:Nat)(a:Addr)(sLen sCap:Nat)(cur:Array Value)(t:TypeId)(cs:List Value)
 (hu:P.underlying dT=some (.slice elem))(hs:(P.info? elem).map (·.size)=some z)
 (hg:w.heap[g]?=some (.cells cur t (0,0)))(hn:cs.length=Nat.min sLen dLen*z)
 (hsrc:∀j v,cs[j]?=some v->w.cell? (a.add j)=some v)(hfit:o+cs.length<=cur.size)(h1:∀v∈cs,v.oneCell'=true):
 (Builtin.copy_ #[dT,sT] ty #[.slice (some ⟨g,o,none⟩) dLen dCap,.slice (some a) sLen sCap]).run P w=
   .ok (goInt (Nat.min sLen dLen:Nat)) (w.setRow g (cur.toList.take o++cs++cur.toList.drop (o+cs.length)).toArray):=by
 have hl:=run_loadCells_list (P:=P) w a cs hsrc;have hst:=run_storeCells_at P g o t cs 0 cur w hg (by simpa using hfit) h1;cases hq:P.info? elem with
 |none=>simp[hq]at hs
 |some i=>
  have hi:i.size=z:=by simpa[hq]using hs
  simp[Builtin.copy_,run_underlying hu,Builtin.lenOf,Builtin.firstCells,sizeOf,typeInfo,hq,hi,<-hn,hl,hst]
theorem mul64_8(w:World):Calls Tryz.prog 90 #[.int .u64 1,.int .u64 8] w fun e w'=>e=.returned (.tuple #[.int .u64 0,.int .u64 8])/\w'=w:=by
 go_enter Tryz.func90,Tryz.ntmps90;go_wp2_with fail;exact bodyPost_ret (v:=.tuple #[.int .u64 0,.int .u64 8]) (by simp[results,Tryz.results90,go_sem];kernel_rfl) rfl ⟨rfl,rfl⟩
theorem mul_8(w:World):Calls Tryz.prog 55 #[.int .u64 1,.int .u64 8] w fun e w'=>e=.returned (.tuple #[.int .u64 0,.int .u64 8])/\w'=w:=by
 go_enter Tryz.func55,Tryz.ntmps55;go_wp2_with fail;refine(mul64_8 w).mono ?_;rintro e w1⟨rfl,rfl⟩;go_wp2_with fail;exact bodyPost_ret (v:=.tuple #[.int .u64 0,.int .u64 8]) (by simp[results,Tryz.results55,go_sem]) rfl ⟨rfl,rfl⟩
def rg1:List Value:=[.int .i64 0,.bool true,.int .i64 (-1),.int .i64 0,.int .i64 0,.int .i64 0]
def rg9:List Value:=[.int .i64 0,.bool false,.int .i64 0,.int .i64 0,.int .i64 0,.int .i64 0]
def repL(k:Nat):List Value:=(List.replicate k rg1++List.replicate (8-k) rg9).flatten
theorem rep_copy(g k:Nat)(hk:k=1∨k=2∨k=4)(w:World)(hw:w.heap[g]?=some (.cells (repL k).toArray 47)):(Builtin.copy_ #[24,24] 3 #[.slice (some ⟨g,6*k,none⟩) (8-k) (8-k),.slice (some ⟨g,0,none⟩) k 8]).run Tryz.prog w=.ok (.int .i64 (k:Int)) (w.setRow g (repL (2*k)).toArray):=by
 have h:=run_copy_z Tryz.prog w 24 24 3 47 6 g (6*k) (8-k) (8-k) ⟨g,0,none⟩ k 8 (repL k).toArray 47 ((repL k).take (6*k)) Tryz.underlying24 (by kernel_rfl) hw (by rcases hk with rfl|rfl|rfl<;>rfl) (fun j v hv=>by
  have hlt:j<6*k:=by
   have:=(List.getElem?_eq_some_iff.1 hv).1;rw[List.length_take]at this;omega
  rw[List.getElem?_take,if_pos hlt]at hv;have ha:(⟨g,0,none⟩:Addr).add j=⟨g,j,none⟩:=by unfold Addr.add;split<;>simp_all
  rw[ha,hp_cell hw j,List.getElem?_toArray,hv]) (by rcases hk with rfl|rfl|rfl<;>decide) (by rcases hk with rfl|rfl|rfl<;>decide)
 rw[h];rcases hk with rfl|rfl|rfl<;>rfl
theorem repeat_any(b:Nat)(w:World)(hb:w.heap[b]?=some (.cells rg1.toArray 47)):
 Calls Tryz.prog 27 #[.slice (some ⟨b,0,none⟩) 1 1,.int .i64 8] w fun e w'=>e=.returned (.slice (some ⟨w.heap.size,0,none⟩) 8 8)/\w'.heap[w.heap.size]?=some (.cells (repL 8).toArray 47)/\Below w.heap.size w w':=by
 have hms:∀w:World,(Instr.makeSlice 24 (.int .i64 8) (.int .i64 8)).run Tryz.prog w=.ok (.slice (some ⟨w.heap.size,0,none⟩) 8 8) (w.alloc (.cells (repL 0).toArray 47)):=by intro w;kernel_rfl
 have HB:Hid (w.heap[b]?=some (.cells rg1.toArray 47)):=hb
 clear hb
 go_enter Tryz.func27,Tryz.ntmps27
 go_wp2_with fail
 refine(mul_8 w).mono ?_
 rintro e w1⟨rfl,hw1⟩
 rw[hw1]
 clear hw1
 go_upto_region 7 with fail
 obtain⟨g,hg⟩:∃y,w.heap.size=y:=⟨_,rfl⟩
 have HG:Hid (w.heap.size=g):=hg
 obtain⟨u,hu,bu,cu,cb⟩:∃y,w.alloc (.cells (repL 0).toArray 47)=y/\Hid (Below w.heap.size w y)/\Hid (y.heap[g]?=some (.cells (repL 0).toArray 47))/\Hid (y.heap[b]?=some (.cells rg1.toArray 47)):=by
  refine⟨_,rfl,(Below.refl _ _).alloc (Nat.le_refl _) _,?_,?_⟩
  ·show _=_
   rw[<-hg];exact heap_alloc_newB _ _
  ·exact(((Below.refl _ _).alloc (Nat.le_refl _) _:Below w.heap.size w _).block b (Array.getElem?_eq_some_iff.1 HB.out).1).trans HB.out
 rw[hu,hg]
 clear hu hg hms
 have hcp:(Builtin.copy_ #[24,24] 3 #[.slice (some ⟨g,0,none⟩) 8 8,.slice (some ⟨b,0,none⟩) 1 1]).run Tryz.prog u=.ok (.int .i64 1) (u.setRow g (repL 1).toArray):=by
  have h:=run_copy_z Tryz.prog u 24 24 3 47 6 g 0 8 8 ⟨b,0,none⟩ 1 1 (repL 0).toArray 47 rg1 Tryz.underlying24 (by kernel_rfl) cu.out rfl (fun j v hv=>by
   have ha:(⟨b,0,none⟩:Addr).add j=⟨b,j,none⟩:=by unfold Addr.add;split<;>simp_all
   rw[ha,hp_cell cb.out j,List.getElem?_toArray,hv]) (by decide) (by decide)
  rw[h];rfl
 go_wp2_with fail
 obtain⟨u1,hu1,b1,c1⟩:∃y,u.setRow g (repL 1).toArray=y/\Hid (Below w.heap.size w y)/\Hid (y.heap[g]?=some (.cells (repL 1).toArray 47)):=⟨_,rfl,below_setRow bu.out (Nat.le_of_eq HG.out) _,setRow_heap u g _ _ _ _ cu.out⟩
 rw[hu1]
 clear hu1 hcp bu cu cb
 go_loopw [8](fun nv wr=>∃k:Nat,(k=1∨k=2∨k=4∨k=8)/\nv=.int .i64 k/\Below w.heap.size w wr/\wr.heap[g]?=some (.cells (repL k).toArray 47))(fun nv _=>8-(intOf nv).toNat)
 case atStart=>exact⟨1,.inl rfl,rfl,b1.out,c1.out⟩
 case round=>
  clear b1 c1
  obtain⟨k,hk,rfl,hb,hc⟩:=hrel
  have HB:Hid (Below w.heap.size w wr):=hb
  have HC:Hid (wr.heap[g]?=some (.cells (repL k).toArray 47)):=hc
  clear hb hc
  by_cases h8:k=8
  ·subst h8
   go_wp2_with fail
   go_ret
   have e:=HG.out
   exact⟨by rw[e];rfl,by rw[e];exact HC.out,HB.out⟩
  rcases hk with rfl|rfl|rfl|rfl
  ·obtain⟨t1,ht1,hb1,hc1⟩:∃y,wr.drew.setRow g (repL 2).toArray=y/\Hid (Below w.heap.size w y)/\Hid (y.heap[g]?=some (.cells (repL 2).toArray 47)):=⟨_,rfl,below_setRow (HB.out.trans ((Below.refl _ _).drew.mono HB.out.size)) (Nat.le_of_eq HG.out) _,setRow_heap wr.drew g _ _ _ _ HC.out⟩
   have hcp:(Builtin.copy_ #[24,24] 3 #[.slice (some ⟨g,6,none⟩) 7 7,.slice (some ⟨g,0,none⟩) 1 8]).run Tryz.prog wr.drew=.ok (.int .i64 1) t1:=by
    rw[<-ht1]
    exact rep_copy g 1 (by decide) wr.drew HC.out
   clear ht1
   go_upto_region 9 with fail
   refine wp_region_held_drew (S:=fun _=>True) (by kernel_rfl) trivial (fun hHeld=>?_)
   generalize wr.drew=t0 at hcp⊢
   refine wpAnyH_tk 0 ?k1v rfl ?k1y ?k1r
   case k1y=>(intro w hSw;(try dsimp only at hSw);go_simp;try with_reducible rfl)
   try simp only[Act.put,List.getElem_toArray,List.getElem_cons_zero,List.setIfInBounds_toArray,List.set_cons_zero,List.set_cons_succ]
   refine wpAnyH_tk 1 ?k2v rfl ?k2y ?k2r
   case k2y=>(intro w hSw;(try dsimp only at hSw);go_simp;try with_reducible rfl)
   try simp only[Act.put,List.getElem_toArray,List.getElem_cons_zero,List.getElem_cons_succ,List.setIfInBounds_toArray,List.set_cons_zero,List.set_cons_succ]
   refine wpAnyH_tk 2 ?k3v rfl ?k3y ?k3r
   case k3y=>(intro w hSw;(try dsimp only at hSw);go_simp;try with_reducible rfl)
   try simp only[Act.put,List.getElem_toArray,List.getElem_cons_zero,List.getElem_cons_succ,List.setIfInBounds_toArray,List.set_cons_zero,List.set_cons_succ]
   refine wpAnyH_tk 3 ?k4v rfl ?k4y ?k4r
   case k4y=>(intro w hSw;(try dsimp only at hSw);go_simp;try with_reducible rfl)
   try simp only[Act.put,List.getElem_toArray,List.getElem_cons_zero,List.getElem_cons_succ,List.setIfInBounds_toArray,List.set_cons_zero,List.set_cons_succ]
   refine wpAnyH_tk 4 ?k5v rfl ?k5y ?k5r
   case k5y=>(intro w hSw;(try dsimp only at hSw);go_simp;try with_reducible rfl)
   try simp only[Act.put,List.getElem_toArray,List.getElem_cons_zero,List.getElem_cons_succ,List.setIfInBounds_toArray,List.set_cons_zero,List.set_cons_succ]
   refine wpAnyH_tk 5 ?k6v rfl ?k6y ?k6r
   case k6y=>(intro w hSw;(try dsimp only at hSw);go_simp;try with_reducible rfl)
   try simp only[Act.put,List.getElem_toArray,List.getElem_cons_zero,List.getElem_cons_succ,List.setIfInBounds_toArray,List.set_cons_zero,List.set_cons_succ]
   refine wpAnyH_tk 6 ?k7v rfl ?k7y ?k7r
   case k7y=>(intro w hSw;(try dsimp only at hSw);go_simp;try with_reducible rfl)
   try simp only[Act.put,List.getElem_toArray,List.getElem_cons_zero,List.getElem_cons_succ,List.setIfInBounds_toArray,List.set_cons_zero,List.set_cons_succ]
   refine wpAnyH_ready (rs:=[7]) (by kernel_rfl) (by simp) ?_
   refine AllReadyH.cons rfl (fun KK hK=>?_) AllReadyH.nil
   go_simp
   refine hK.out _ _ trivial (fun hHeld1=>?_)
   clear hK KK hcp
   try simp only[Act.put,List.getElem_toArray,List.getElem_cons_zero,List.getElem_cons_succ,List.setIfInBounds_toArray,List.set_cons_zero,List.set_cons_succ]
   refine wpAnyH_tk 8 ?k8v rfl ?k8y ?k8r
   case k8y=>(intro w hSw;(try dsimp only at hSw);go_simp;try with_reducible rfl)
   try simp only[Act.put,List.getElem_toArray,List.getElem_cons_zero,List.getElem_cons_succ,List.setIfInBounds_toArray,List.set_cons_zero,List.set_cons_succ]
   refine wpAnyH_tk 9 ?k9v rfl ?k9y ?k9r
   case k9y=>(intro w hSw;(try dsimp only at hSw);go_simp;try with_reducible rfl)
   try simp only[Act.put,List.getElem_toArray,List.getElem_cons_zero,List.getElem_cons_succ,List.setIfInBounds_toArray,List.set_cons_zero,List.set_cons_succ]
   refine wpAnyH_done (by kernel_rfl) ?_ _
   go_wp2_with fail
   exact⟨⟨2,by decide,rfl,hb1.out,hc1.out⟩,by decide⟩
  ·obtain⟨t1,ht1,hb1,hc1⟩:∃y,wr.drew.setRow g (repL 4).toArray=y/\Hid (Below w.heap.size w y)/\Hid (y.heap[g]?=some (.cells (repL 4).toArray 47)):=⟨_,rfl,below_setRow (HB.out.trans ((Below.refl _ _).drew.mono HB.out.size)) (Nat.le_of_eq HG.out) _,setRow_heap wr.drew g _ _ _ _ HC.out⟩
   have hcp:(Builtin.copy_ #[24,24] 3 #[.slice (some ⟨g,12,none⟩) 6 6,.slice (some ⟨g,0,none⟩) 2 8]).run Tryz.prog wr.drew=.ok (.int .i64 2) t1:=by
    rw[<-ht1]
    exact rep_copy g 2 (by decide) wr.drew HC.out
   clear ht1
   go_upto_region 9 with fail
   refine wp_region_held_drew (S:=fun _=>True) (by kernel_rfl) trivial (fun hHeld=>?_)
   generalize wr.drew=t0 at hcp⊢
   refine wpAnyH_tk 0 ?k10v rfl ?k10y ?k10r
   case k10y=>(intro w hSw;(try dsimp only at hSw);go_simp;try with_reducible rfl)
   try simp only[Act.put,List.getElem_toArray,List.getElem_cons_zero,List.setIfInBounds_toArray,List.set_cons_zero,List.set_cons_succ]
   refine wpAnyH_tk 1 ?k11v rfl ?k11y ?k11r
   case k11y=>(intro w hSw;(try dsimp only at hSw);go_simp;try with_reducible rfl)
   try simp only[Act.put,List.getElem_toArray,List.getElem_cons_zero,List.getElem_cons_succ,List.setIfInBounds_toArray,List.set_cons_zero,List.set_cons_succ]
   refine wpAnyH_tk 2 ?k12v rfl ?k12y ?k12r
   case k12y=>(intro w hSw;(try dsimp only at hSw);go_simp;try with_reducible rfl)
   try simp only[Act.put,List.getElem_toArray,List.getElem_cons_zero,List.getElem_cons_succ,List.setIfInBounds_toArray,List.set_cons_zero,List.set_cons_succ]
   refine wpAnyH_tk 3 ?k13v rfl ?k13y ?k13r
   case k13y=>(intro w hSw;(try dsimp only at hSw);go_simp;try with_reducible rfl)
   try simp only[Act.put,List.getElem_toArray,List.getElem_cons_zero,List.getElem_cons_succ,List.setIfInBounds_toArray,List.set_cons_zero,List.set_cons_succ]
   refine wpAnyH_tk 4 ?k14v rfl ?k14y ?k14r
   case k14y=>(intro w hSw;(try dsimp only at hSw);go_simp;try with_reducible rfl)
   try simp only[Act.put,List.getElem_toArray,List.getElem_cons_zero,List.getElem_cons_succ,List.setIfInBounds_toArray,List.set_cons_zero,List.set_cons_succ]
   refine wpAnyH_tk 5 ?k15v rfl ?k15y ?k15r
   case k15y=>(intro w hSw;(try dsimp only at hSw);go_simp;try with_reducible rfl)
   try simp only[Act.put,List.getElem_toArray,List.getElem_cons_zero,List.getElem_cons_succ,List.setIfInBounds_toArray,List.set_cons_zero,List.set_cons_succ]
   refine wpAnyH_tk 6 ?k16v rfl ?k16y ?k16r
   case k16y=>(intro w hSw;(try dsimp only at hSw);go_simp;try with_reducible rfl)
   try simp only[Act.put,List.getElem_toArray,List.getElem_cons_zero,List.getElem_cons_succ,List.setIfInBounds_toArray,List.set_cons_zero,List.set_cons_succ]
   refine wpAnyH_ready (rs:=[7]) (by kernel_rfl) (by simp) ?_
   refine AllReadyH.cons rfl (fun KK hK=>?_) AllReadyH.nil
   go_simp
   refine hK.out _ _ trivial (fun hHeld1=>?_)
   clear hK KK hcp
   try simp only[Act.put,List.getElem_toArray,List.getElem_cons_zero,List.getElem_cons_succ,List.setIfInBounds_toArray,List.set_cons_zero,List.set_cons_succ]
   refine wpAnyH_tk 8 ?k17v rfl ?k17y ?k17r
   case k17y=>(intro w hSw;(try dsimp only at hSw);go_simp;try with_reducible rfl)
   try simp only[Act.put,List.getElem_toArray,List.getElem_cons_zero,List.getElem_cons_succ,List.setIfInBounds_toArray,List.set_cons_zero,List.set_cons_succ]
   refine wpAnyH_tk 9 ?k18v rfl ?k18y ?k18r
   case k18y=>(intro w hSw;(try dsimp only at hSw);go_simp;try with_reducible rfl)
   try simp only[Act.put,List.getElem_toArray,List.getElem_cons_zero,List.getElem_cons_succ,List.setIfInBounds_toArray,List.set_cons_zero,List.set_cons_succ]
   refine wpAnyH_done (by kernel_rfl) ?_ _
   go_wp2_with fail
   exact⟨⟨4,by decide,rfl,hb1.out,hc1.out⟩,by decide⟩
  ·obtain⟨t1,ht1,hb1,hc1⟩:∃y,wr.drew.setRow g (repL 8).toArray=y/\Hid (Below w.heap.size w y)/\Hid (y.heap[g]?=some (.cells (repL 8).toArray 47)):=⟨_,rfl,below_setRow (HB.out.trans ((Below.refl _ _).drew.mono HB.out.size)) (Nat.le_of_eq HG.out) _,setRow_heap wr.drew g _ _ _ _ HC.out⟩
   have hcp:(Builtin.copy_ #[24,24] 3 #[.slice (some ⟨g,24,none⟩) 4 4,.slice (some ⟨g,0,none⟩) 4 8]).run Tryz.prog wr.drew=.ok (.int .i64 4) t1:=by
    rw[<-ht1]
    exact rep_copy g 4 (by decide) wr.drew HC.out
   clear ht1
   go_upto_region 9 with fail
   refine wp_region_held_drew (S:=fun _=>True) (by kernel_rfl) trivial (fun hHeld=>?_)
   generalize wr.drew=t0 at hcp⊢
   refine wpAnyH_tk 0 ?k19v rfl ?k19y ?k19r
   case k19y=>(intro w hSw;(try dsimp only at hSw);go_simp;try with_reducible rfl)
   try simp only[Act.put,List.getElem_toArray,List.getElem_cons_zero,List.setIfInBounds_toArray,List.set_cons_zero,List.set_cons_succ]
   refine wpAnyH_tk 1 ?k20v rfl ?k20y ?k20r
   case k20y=>(intro w hSw;(try dsimp only at hSw);go_simp;try with_reducible rfl)
   try simp only[Act.put,List.getElem_toArray,List.getElem_cons_zero,List.getElem_cons_succ,List.setIfInBounds_toArray,List.set_cons_zero,List.set_cons_succ]
   refine wpAnyH_tk 2 ?k21v rfl ?k21y ?k21r
   case k21y=>(intro w hSw;(try dsimp only at hSw);go_simp;try with_reducible rfl)
   try simp only[Act.put,List.getElem_toArray,List.getElem_cons_zero,List.getElem_cons_succ,List.setIfInBounds_toArray,List.set_cons_zero,List.set_cons_succ]
   refine wpAnyH_tk 3 ?k22v rfl ?k22y ?k22r
   case k22y=>(intro w hSw;(try dsimp only at hSw);go_simp;try with_reducible rfl)
   try simp only[Act.put,List.getElem_toArray,List.getElem_cons_zero,List.getElem_cons_succ,List.setIfInBounds_toArray,List.set_cons_zero,List.set_cons_succ]
   refine wpAnyH_tk 4 ?k23v rfl ?k23y ?k23r
   case k23y=>(intro w hSw;(try dsimp only at hSw);go_simp;try with_reducible rfl)
   try simp only[Act.put,List.getElem_toArray,List.getElem_cons_zero,List.getElem_cons_succ,List.setIfInBounds_toArray,List.set_cons_zero,List.set_cons_succ]
   refine wpAnyH_tk 5 ?k24v rfl ?k24y ?k24r
   case k24y=>(intro w hSw;(try dsimp only at hSw);go_simp;try with_reducible rfl)
   try simp only[Act.put,List.getElem_toArray,List.getElem_cons_zero,List.getElem_cons_succ,List.setIfInBounds_toArray,List.set_cons_zero,List.set_cons_succ]
   refine wpAnyH_tk 6 ?k25v rfl ?k25y ?k25r
   case k25y=>(intro w hSw;(try dsimp only at hSw);go_simp;try with_reducible rfl)
   try simp only[Act.put,List.getElem_toArray,List.getElem_cons_zero,List.getElem_cons_succ,List.setIfInBounds_toArray,List.set_cons_zero,List.set_cons_succ]
   refine wpAnyH_ready (rs:=[7]) (by kernel_rfl) (by simp) ?_
   refine AllReadyH.cons rfl (fun KK hK=>?_) AllReadyH.nil
   go_simp
   refine hK.out _ _ trivial (fun hHeld1=>?_)
   clear hK KK hcp
   try simp only[Act.put,List.getElem_toArray,List.getElem_cons_zero,List.getElem_cons_succ,List.setIfInBounds_toArray,List.set_cons_zero,List.set_cons_succ]
   refine wpAnyH_tk 8 ?k26v rfl ?k26y ?k26r
   case k26y=>(intro w hSw;(try dsimp only at hSw);go_simp;try with_reducible rfl)
   try simp only[Act.put,List.getElem_toArray,List.getElem_cons_zero,List.getElem_cons_succ,List.setIfInBounds_toArray,List.set_cons_zero,List.set_cons_succ]
   refine wpAnyH_tk 9 ?k27v rfl ?k27y ?k27r
   case k27y=>(intro w hSw;(try dsimp only at hSw);go_simp;try with_reducible rfl)
   try simp only[Act.put,List.getElem_toArray,List.getElem_cons_zero,List.getElem_cons_succ,List.setIfInBounds_toArray,List.set_cons_zero,List.set_cons_succ]
   refine wpAnyH_done (by kernel_rfl) ?_ _
   go_wp2_with fail
   exact⟨⟨8,by decide,rfl,hb1.out,hc1.out⟩,by decide⟩
  ·exact absurd rfl h8
end Go.Proofs.YtblfmpgdhpbffaaGreatDoor
