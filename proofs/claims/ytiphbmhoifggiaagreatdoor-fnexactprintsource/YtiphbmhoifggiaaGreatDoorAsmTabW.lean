import Derived.Test.YtiphbmhoifggiaaGreatDoorOfAsmTab
set_option maxHeartbeats 8000000
set_option maxRecDepth 20000
namespace Go.Proofs.YtiphbmhoifggiaaGreatDoor
open Go.RowKit
theorem wpAnyH_as{P:Program}{md:Region.Mode}{ops ops':Array Oper}{Q:Exit->Act->World->Prop}{S:World->Prop}{fuel fuel':Nat}{l l':Array Bool}{a:Act}{w:World}(ho:ops=ops')(hl:l=l')(hf:fuel=fuel')(h:wpAnyH P md ops' Q S fuel' l' a w):wpAnyH P md ops Q S fuel l a w:=by
 rw[ho,hl,hf];exact h
def allIns:List Nat:=(List.range 26).map fun j=>3*j+3
theorem formTable_any(w:World):
 Calls Tryz.prog 52 #[] w fun e w'=>e=.returned (.map (some w.heap.size))/\Below w.heap.size w w'/\w.heap.size<w'.heap.size/\FormsAt w' w.heap.size:=by
 go_enter Tryz.func52,Tryz.ntmps52
 go_upto_region 1 with fail
 refine wp_region_held_drew (S:=fun _=>True) (by kernel_rfl) trivial (fun _=>?_)
 refine wpAnyH_tk 1 ?k1v rfl ?k1y ?k1r
 case k1y=>(intro w hSw;(try dsimp only at hSw);go_simp;try with_reducible rfl)
 try simp only[Act.put,List.getElem_toArray,List.setIfInBounds_toArray]
 refine wpAnyH_tk 2 ?k2v rfl ?k2y ?k2r
 case k2y=>(intro w hSw;(try dsimp only at hSw);go_simp;try with_reducible rfl)
 try simp only[Act.put,List.getElem_toArray]
 refine wpAnyH_tk 4 ?k3v rfl ?k3y ?k3r
 case k3y=>(intro w hSw;(try dsimp only at hSw);go_simp;try with_reducible rfl)
 try simp only[Act.put,List.getElem_toArray]
 refine wpAnyH_tk 5 ?k4v rfl ?k4y ?k4r
 case k4y=>(intro w hSw;(try dsimp only at hSw);go_simp;try with_reducible rfl)
 try simp only[Act.put,List.getElem_toArray]
 refine wpAnyH_tk 7 ?k5v rfl ?k5y ?k5r
 case k5y=>(intro w hSw;(try dsimp only at hSw);go_simp;try with_reducible rfl)
 try simp only[Act.put,List.getElem_toArray]
 refine wpAnyH_tk 8 ?k6v rfl ?k6y ?k6r
 case k6y=>(intro w hSw;(try dsimp only at hSw);go_simp;try with_reducible rfl)
 try simp only[Act.put,List.getElem_toArray]
 refine wpAnyH_tk 10 ?k7v rfl ?k7y ?k7r
 case k7y=>(intro w hSw;(try dsimp only at hSw);go_simp;try with_reducible rfl)
 try simp only[Act.put,List.getElem_toArray]
 refine wpAnyH_tk 11 ?k8v rfl ?k8y ?k8r
 case k8y=>(intro w hSw;(try dsimp only at hSw);go_simp;try with_reducible rfl)
 try simp only[Act.put,List.getElem_toArray]
 refine wpAnyH_tk 13 ?k9v rfl ?k9y ?k9r
 case k9y=>(intro w hSw;(try dsimp only at hSw);go_simp;try with_reducible rfl)
 try simp only[Act.put,List.getElem_toArray]
 refine wpAnyH_tk 14 ?k10v rfl ?k10y ?k10r
 case k10y=>(intro w hSw;(try dsimp only at hSw);go_simp;try with_reducible rfl)
 try simp only[Act.put,List.getElem_toArray]
 refine wpAnyH_tk 16 ?k11v rfl ?k11y ?k11r
 case k11y=>(intro w hSw;(try dsimp only at hSw);go_simp;try with_reducible rfl)
 try simp only[Act.put,List.getElem_toArray]
 refine wpAnyH_tk 17 ?k12v rfl ?k12y ?k12r
 case k12y=>(intro w hSw;(try dsimp only at hSw);go_simp;try with_reducible rfl)
 try simp only[Act.put,List.getElem_toArray]
 refine wpAnyH_tk 19 ?k13v rfl ?k13y ?k13r
 case k13y=>(intro w hSw;(try dsimp only at hSw);go_simp;try with_reducible rfl)
 try simp only[Act.put,List.getElem_toArray]
 refine wpAnyH_tk 20 ?k14v rfl ?k14y ?k14r
 case k14y=>(intro w hSw;(try dsimp only at hSw);go_simp;try with_reducible rfl)
 try simp only[Act.put,List.getElem_toArray]
 refine wpAnyH_tk 22 ?k15v rfl ?k15y ?k15r
 case k15y=>(intro w hSw;(try dsimp only at hSw);go_simp;try with_reducible rfl)
 try simp only[Act.put,List.getElem_toArray]
 refine wpAnyH_tk 23 ?k16v rfl ?k16y ?k16r
 case k16y=>(intro w hSw;(try dsimp only at hSw);go_simp;try with_reducible rfl)
 try simp only[Act.put,List.getElem_toArray]
 refine wpAnyH_tk 25 ?k17v rfl ?k17y ?k17r
 case k17y=>(intro w hSw;(try dsimp only at hSw);go_simp;try with_reducible rfl)
 try simp only[Act.put,List.getElem_toArray]
 refine wpAnyH_tk 26 ?k18v rfl ?k18y ?k18r
 case k18y=>(intro w hSw;(try dsimp only at hSw);go_simp;try with_reducible rfl)
 try simp only[Act.put,List.getElem_toArray]
 refine wpAnyH_tk 28 ?k19v rfl ?k19y ?k19r
 case k19y=>(intro w hSw;(try dsimp only at hSw);go_simp;try with_reducible rfl)
 try simp only[Act.put,List.getElem_toArray]
 refine wpAnyH_tk 29 ?k20v rfl ?k20y ?k20r
 case k20y=>(intro w hSw;(try dsimp only at hSw);go_simp;try with_reducible rfl)
 try simp only[Act.put,List.getElem_toArray]
 refine wpAnyH_tk 31 ?k21v rfl ?k21y ?k21r
 case k21y=>(intro w hSw;(try dsimp only at hSw);go_simp;try with_reducible rfl)
 try simp only[Act.put,List.getElem_toArray]
 refine wpAnyH_tk 32 ?k22v rfl ?k22y ?k22r
 case k22y=>(intro w hSw;(try dsimp only at hSw);go_simp;try with_reducible rfl)
 try simp only[Act.put,List.getElem_toArray]
 refine wpAnyH_tk 34 ?k23v rfl ?k23y ?k23r
 case k23y=>(intro w hSw;(try dsimp only at hSw);go_simp;try with_reducible rfl)
 try simp only[Act.put,List.getElem_toArray]
 refine wpAnyH_tk 35 ?k24v rfl ?k24y ?k24r
 case k24y=>(intro w hSw;(try dsimp only at hSw);go_simp;try with_reducible rfl)
 try simp only[Act.put,List.getElem_toArray]
 refine wpAnyH_tk 37 ?k25v rfl ?k25y ?k25r
 case k25y=>(intro w hSw;(try dsimp only at hSw);go_simp;try with_reducible rfl)
 try simp only[Act.put,List.getElem_toArray]
 refine wpAnyH_tk 38 ?k26v rfl ?k26y ?k26r
 case k26y=>(intro w hSw;(try dsimp only at hSw);go_simp;try with_reducible rfl)
 try simp only[Act.put,List.getElem_toArray]
 refine wpAnyH_tk 40 ?k27v rfl ?k27y ?k27r
 case k27y=>(intro w hSw;(try dsimp only at hSw);go_simp;try with_reducible rfl)
 try simp only[Act.put,List.getElem_toArray]
 refine wpAnyH_tk 41 ?k28v rfl ?k28y ?k28r
 case k28y=>(intro w hSw;(try dsimp only at hSw);go_simp;try with_reducible rfl)
 try simp only[Act.put,List.getElem_toArray]
 refine wpAnyH_tk 43 ?k29v rfl ?k29y ?k29r
 case k29y=>(intro w hSw;(try dsimp only at hSw);go_simp;try with_reducible rfl)
 try simp only[Act.put,List.getElem_toArray]
 refine wpAnyH_tk 44 ?k30v rfl ?k30y ?k30r
 case k30y=>(intro w hSw;(try dsimp only at hSw);go_simp;try with_reducible rfl)
 try simp only[Act.put,List.getElem_toArray]
 refine wpAnyH_tk 46 ?k31v rfl ?k31y ?k31r
 case k31y=>(intro w hSw;(try dsimp only at hSw);go_simp;try with_reducible rfl)
 try simp only[Act.put,List.getElem_toArray]
 refine wpAnyH_tk 47 ?k32v rfl ?k32y ?k32r
 case k32y=>(intro w hSw;(try dsimp only at hSw);go_simp;try with_reducible rfl)
 try simp only[Act.put,List.getElem_toArray]
 refine wpAnyH_tk 49 ?k33v rfl ?k33y ?k33r
 case k33y=>(intro w hSw;(try dsimp only at hSw);go_simp;try with_reducible rfl)
 try simp only[Act.put,List.getElem_toArray]
 refine wpAnyH_tk 50 ?k34v rfl ?k34y ?k34r
 case k34y=>(intro w hSw;(try dsimp only at hSw);go_simp;try with_reducible rfl)
 try simp only[Act.put,List.getElem_toArray]
 refine wpAnyH_tk 52 ?k35v rfl ?k35y ?k35r
 case k35y=>(intro w hSw;(try dsimp only at hSw);go_simp;try with_reducible rfl)
 try simp only[Act.put,List.getElem_toArray]
 refine wpAnyH_tk 53 ?k36v rfl ?k36y ?k36r
 case k36y=>(intro w hSw;(try dsimp only at hSw);go_simp;try with_reducible rfl)
 try simp only[Act.put,List.getElem_toArray]
 refine wpAnyH_tk 55 ?k37v rfl ?k37y ?k37r
 case k37y=>(intro w hSw;(try dsimp only at hSw);go_simp;try with_reducible rfl)
 try simp only[Act.put,List.getElem_toArray]
 refine wpAnyH_tk 56 ?k38v rfl ?k38y ?k38r
 case k38y=>(intro w hSw;(try dsimp only at hSw);go_simp;try with_reducible rfl)
 try simp only[Act.put,List.getElem_toArray]
 refine wpAnyH_tk 58 ?k39v rfl ?k39y ?k39r
 case k39y=>(intro w hSw;(try dsimp only at hSw);go_simp;try with_reducible rfl)
 try simp only[Act.put,List.getElem_toArray]
 refine wpAnyH_tk 59 ?k40v rfl ?k40y ?k40r
 case k40y=>(intro w hSw;(try dsimp only at hSw);go_simp;try with_reducible rfl)
 try simp only[Act.put,List.getElem_toArray]
 refine wpAnyH_tk 61 ?k41v rfl ?k41y ?k41r
 case k41y=>(intro w hSw;(try dsimp only at hSw);go_simp;try with_reducible rfl)
 try simp only[Act.put,List.getElem_toArray]
 refine wpAnyH_tk 62 ?k42v rfl ?k42y ?k42r
 case k42y=>(intro w hSw;(try dsimp only at hSw);go_simp;try with_reducible rfl)
 try simp only[Act.put,List.getElem_toArray]
 refine wpAnyH_tk 64 ?k43v rfl ?k43y ?k43r
 case k43y=>(intro w hSw;(try dsimp only at hSw);go_simp;try with_reducible rfl)
 try simp only[Act.put,List.getElem_toArray]
 refine wpAnyH_tk 65 ?k44v rfl ?k44y ?k44r
 case k44y=>(intro w hSw;(try dsimp only at hSw);go_simp;try with_reducible rfl)
 try simp only[Act.put,List.getElem_toArray]
 refine wpAnyH_tk 67 ?k45v rfl ?k45y ?k45r
 case k45y=>(intro w hSw;(try dsimp only at hSw);go_simp;try with_reducible rfl)
 try simp only[Act.put,List.getElem_toArray]
 refine wpAnyH_tk 68 ?k46v rfl ?k46y ?k46r
 case k46y=>(intro w hSw;(try dsimp only at hSw);go_simp;try with_reducible rfl)
 try simp only[Act.put,List.getElem_toArray]
 refine wpAnyH_tk 70 ?k47v rfl ?k47y ?k47r
 case k47y=>(intro w hSw;(try dsimp only at hSw);go_simp;try with_reducible rfl)
 try simp only[Act.put,List.getElem_toArray]
 refine wpAnyH_tk 71 ?k48v rfl ?k48y ?k48r
 case k48y=>(intro w hSw;(try dsimp only at hSw);go_simp;try with_reducible rfl)
 try simp only[Act.put,List.getElem_toArray]
 refine wpAnyH_tk 73 ?k49v rfl ?k49y ?k49r
 case k49y=>(intro w hSw;(try dsimp only at hSw);go_simp;try with_reducible rfl)
 try simp only[Act.put,List.getElem_toArray]
 refine wpAnyH_tk 74 ?k50v rfl ?k50y ?k50r
 case k50y=>(intro w hSw;(try dsimp only at hSw);go_simp;try with_reducible rfl)
 try simp only[Act.put,List.getElem_toArray]
 refine wpAnyH_tk 76 ?k51v rfl ?k51y ?k51r
 case k51y=>(intro w hSw;(try dsimp only at hSw);go_simp;try with_reducible rfl)
 try simp only[Act.put,List.getElem_toArray]
 refine wpAnyH_tk 77 ?k52v rfl ?k52y ?k52r
 case k52y=>(intro w hSw;(try dsimp only at hSw);go_simp;try with_reducible rfl)
 try simp only[Act.put,List.getElem_toArray]
 refine wpAnyH_ready (rs:=[0]) (by kernel_rfl) (by simp) ?_
 refine AllReadyH.cons rfl (fun KK hK=>?_) AllReadyH.nil
 go_simp
 rw[run_makeMap]
 show KK _ _
 refine hK.out _ _ trivial (fun _=>?_)
 clear hK KK
 refine wpAnyH_as (ops':=(fopF Tryz.f52)) (l':=lst allIns) (fuel':=26+2) (by kernel_rfl) (by kernel_rfl) (by kernel_rfl) ?_
 refine fill_any _ w w.heap.size (by kernel_rfl) (by kernel_rfl) (by kernel_rfl) (by kernel_rfl) ?_ 26 allIns _ (by rfl) (by omega) (by decide) ?_ ?_
 ·intro w' hJ
  obtain⟨done,f1,_,f3,f4,f5⟩:=hJ
  simp only[Act.put,List.setIfInBounds_toArray,List.set_cons_zero,List.set_cons_succ]
  go_wp2_with fail
  go_ret
  refine⟨rfl,f4,f5,f1.forms fun y hy=>?_⟩
  obtain⟨j,hj⟩:=List.mem_iff_getElem?.1 hy
  exact f3 j y hj (by simp)
 ·intro i hi
  obtain⟨j,hj,rfl⟩:=List.mem_map.1 hi
  exact⟨j,List.mem_range.1 hj,rfl⟩
 ·refine⟨[],⟨.map [],World.ownsMap_made _ _ _ _,⟨_,rfl⟩,fun x hx=>by cases hx⟩,fun y hy=>(by cases hy),fun j x hx hn=>?_,(Below.refl _ _).drew.alloc (Nat.le_refl _) _,by simp⟩
  have h26:formL.length=26:=rfl
  have hj:j<26:=by
   have:=(List.getElem?_eq_some_iff.1 hx).1
   omega
  exact absurd (List.mem_map.2 ⟨j,List.mem_range.2 hj,rfl⟩) hn
end Go.Proofs.YtiphbmhoifggiaaGreatDoor
