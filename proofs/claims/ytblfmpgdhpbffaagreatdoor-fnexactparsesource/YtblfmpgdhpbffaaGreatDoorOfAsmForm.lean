import Derived.Test.YtblfmpgdhpbffaaGreatDoorOfAsmProg
import Derived.Test.YtblfmpgdhpbffaaGreatDoorOfPsLay
import Derived.Deep.QuietTactic
set_option maxHeartbeats 800000
namespace Go.Proofs.YtblfmpgdhpbffaaGreatDoor
open Go.RowKit
theorem heap_cell{w:World}{p:Nat}{cs:Array Value}{t:TypeId}{fz:Nat×Nat}(h:w.heap[p]?=some (.cells cs t fz))(j:Nat):w.cell? ⟨p,j,none⟩=cs[j]?:=by
 unfold World.cell?;simp only[h];rfl
def FormsAt(w:World)(mb:Nat):Prop:=∃o,w.heap[mb]?=some o/\∀w':World,w'.heap[mb]?=some o->∀d h:Int,(formL.any fun x=>x.1==d&&x.2.1==h)=true->(Instr.lookup 74 (.map (some mb)) (.agg #[.int .i64 d,.int .i64 h]) false).run Tryz.prog w'=.ok (.agg #[.string (ptS d h)]) w'
theorem FormsAt.below{w w':World}{mb:Nat}(h:FormsAt w mb){B:Nat}(hb:Below B w w')(hB:mb<B):FormsAt w' mb:=by
 obtain⟨o,h1,h2⟩:=h;exact⟨o,(hb.block mb hB).trans h1,h2⟩
structure SC(w:World)(sb nb ob mb:Nat)(d:Int):Prop where
 S:w.heap[sb]?=some (.cells #[.int .i64 d,.slice (some ⟨nb,0,none⟩) 34 34,.map (some ob),.map (some mb)] 76)
 N:w.heap[nb]?=some (.cells (nmT.tail.map Value.string).toArray 9)
 M:FormsAt w mb
theorem SC.below{w w':World}{sb nb ob mb:Nat}{d:Int}(p:SC w sb nb ob mb d){B:Nat}(hb:Below B w w')(hs:sb<B)(hn:nb<B)(hm:mb<B):SC w' sb nb ob mb d:=
 ⟨(hb.block sb hs).trans p.S,(hb.block nb hn).trans p.N,p.M.below hb hm⟩
theorem partsOf_any(sb nb ob mb:Nat)(d h:Int)(w:World)(p:SC w sb nb ob mb d)(hf:(formL.any fun x=>x.1==d&&x.2.1==h)=true):
 Calls Tryz.prog 98 #[.pointer (some ⟨sb,0,none⟩),.int .i64 h] w fun e w'=>e=.returned (.string (ptS d h))/\Below w.heap.size w w':=by
 have ls:sb<w.heap.size:=(Array.getElem?_eq_some_iff.1 p.S).1
 have c0:∀w',Below w.heap.size w w'->w'.cell? ⟨sb,0,none⟩=some (.int .i64 d):=fun w' hb=>(hb.cell (p:=⟨sb,0,none⟩) ls).trans (heap_cell p.S 0)
 have c3:∀w',Below w.heap.size w w'->w'.cell? ⟨sb,3,none⟩=some (.map (some mb)):=fun w' hb=>(hb.cell (p:=⟨sb,3,none⟩) ls).trans (heap_cell p.S 3)
 have hl:∀w',Below w.heap.size w w'->(Instr.lookup 74 (.map (some mb)) (.agg #[.int .i64 d,.int .i64 h]) false).run Tryz.prog w'=.ok (.agg #[.string (ptS d h)]) w':=fun w' hb=>by
  obtain⟨o,h1,h2⟩:=p.M
  exact h2 w' ((hb.block mb (Array.getElem?_eq_some_iff.1 h1).1).trans h1) d h hf
 have hfd:∀w:World,(Instr.field 147 (.agg #[.string (ptS d h)]) 0).run Tryz.prog w=.ok (.string (ptS d h)) w:=fun w=>by kernel_rfl
 clear hf p
 go_enter Tryz.func98,Tryz.ntmps98
 go_upto_region 1 with fail
 refine wp_region_held_drew (S:=fun w'=>Below w.heap.size w w') (by kernel_rfl) (Below.refl _ _).drew (fun _=>?_)
 refine wpAnyH_tk 0 ?k1v rfl ?k1y ?k1r
 case k1y=>(intro w hSw;(try dsimp only at hSw);go_simp;try with_reducible rfl)
 try simp only[Act.put,List.getElem_toArray,List.getElem_cons_zero,List.setIfInBounds_toArray,List.set_cons_zero,List.set_cons_succ]
 refine wpAnyH_tk 1 ?k2v rfl ?k2y ?k2r
 case k2y=>(intro w hSw;(try dsimp only at hSw);go_simp;try with_reducible rfl)
 try simp only[Act.put,List.getElem_toArray,List.getElem_cons_zero,List.getElem_cons_succ,List.setIfInBounds_toArray,List.set_cons_zero,List.set_cons_succ]
 refine wpAnyH_tk 2 ?k3v rfl ?k3y ?k3r
 case k3y=>(intro w hSw;(try dsimp only at hSw);go_simp;try with_reducible rfl)
 try simp only[Act.put,List.getElem_toArray,List.getElem_cons_zero,List.getElem_cons_succ,List.setIfInBounds_toArray,List.set_cons_zero,List.set_cons_succ]
 refine wpAnyH_tk 3 ?k4v rfl ?k4y ?k4r
 case k4y=>(intro w hSw;(try dsimp only at hSw);go_simp;try with_reducible rfl)
 try simp only[Act.put,List.getElem_toArray,List.getElem_cons_zero,List.getElem_cons_succ,List.setIfInBounds_toArray,List.set_cons_zero,List.set_cons_succ]
 refine wpAnyH_tk 4 ?k5v rfl ?k5y ?k5r
 case k5y=>(intro w hSw;(try dsimp only at hSw);go_simp;try with_reducible rfl)
 try simp only[Act.put,List.getElem_toArray,List.getElem_cons_zero,List.getElem_cons_succ,List.setIfInBounds_toArray,List.set_cons_zero,List.set_cons_succ]
 refine wpAnyH_tk 5 ?k6v rfl ?k6y ?k6r
 case k6y=>(intro w hSw;(try dsimp only at hSw);go_simp;try with_reducible rfl)
 try simp only[Act.put,List.getElem_toArray,List.getElem_cons_zero,List.getElem_cons_succ,List.setIfInBounds_toArray,List.set_cons_zero,List.set_cons_succ]
 refine wpAnyH_tk 6 ?k7v rfl ?k7y ?k7r
 case k7y=>(intro w hSw;(try dsimp only at hSw);go_simp;try with_reducible rfl)
 try simp only[Act.put,List.getElem_toArray,List.getElem_cons_zero,List.getElem_cons_succ,List.setIfInBounds_toArray,List.set_cons_zero,List.set_cons_succ]
 refine wpAnyH_tk 7 ?k8v rfl ?k8y ?k8r
 case k8y=>(intro w hSw;(try dsimp only at hSw);go_simp;try with_reducible rfl)
 try simp only[Act.put,List.getElem_toArray,List.getElem_cons_zero,List.getElem_cons_succ,List.setIfInBounds_toArray,List.set_cons_zero,List.set_cons_succ]
 refine wpAnyH_tk 8 ?k9v rfl ?k9y ?k9r
 case k9y=>(intro w hSw;(try dsimp only at hSw);go_simp;try with_reducible rfl)
 try simp only[Act.put,List.getElem_toArray,List.getElem_cons_zero,List.getElem_cons_succ,List.setIfInBounds_toArray,List.set_cons_zero,List.set_cons_succ]
 refine wpAnyH_tk 9 ?k10v rfl ?k10y ?k10r
 case k10y=>(intro w hSw;(try dsimp only at hSw);go_simp;try with_reducible rfl)
 try simp only[Act.put,List.getElem_toArray,List.getElem_cons_zero,List.getElem_cons_succ,List.setIfInBounds_toArray,List.set_cons_zero,List.set_cons_succ]
 refine wpAnyH_tk 10 ?k11v rfl ?k11y ?k11r
 case k11y=>(intro w hSw;(try dsimp only at hSw);go_simp;try with_reducible rfl)
 try simp only[Act.put,List.getElem_toArray,List.getElem_cons_zero,List.getElem_cons_succ,List.setIfInBounds_toArray,List.set_cons_zero,List.set_cons_succ]
 refine wpAnyH_tk 11 ?k12v rfl ?k12y ?k12r
 case k12y=>(intro w hSw;(try dsimp only at hSw);go_simp;try with_reducible rfl)
 try simp only[Act.put,List.getElem_toArray,List.getElem_cons_zero,List.getElem_cons_succ,List.setIfInBounds_toArray,List.set_cons_zero,List.set_cons_succ]
 refine wpAnyH_tk 12 ?k13v rfl ?k13y ?k13r
 case k13y=>(intro w hSw;(try dsimp only at hSw);go_simp;try with_reducible rfl)
 try simp only[Act.put,List.getElem_toArray,List.getElem_cons_zero,List.getElem_cons_succ,List.setIfInBounds_toArray,List.set_cons_zero,List.set_cons_succ]
 refine wpAnyH_done (by kernel_rfl) ?_ _
 go_wp2_with fail
 go_ret
 exact⟨rfl,(Below.refl _ _).drew⟩
end Go.Proofs.YtblfmpgdhpbffaaGreatDoor
