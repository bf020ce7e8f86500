import Derived.Test.YtdbhgaegblclaaaDoorAsmJump
import Derived.Deep.QuietTactic
set_option maxHeartbeats 800000
namespace Go.Proofs.YtdbhgaegblclaaaDoor
open Go.RowKit
def FormsAt(w:World)(mb:Nat):Prop:=∃o,w.heap[mb]?=some o/\∀w':World,w'.heap[mb]?=some o->∀d h:Int,(formL.any fun x=>x.1==d&&x.2.1==h)=true->(Instr.lookup 94 (.map (some mb)) (.agg #[.int .i64 d,.int .i64 h]) false).run Tryd.prog w'=.ok (.agg #[.string (ptS d h)]) w'
theorem FormsAt.below{w w':World}{mb:Nat}(h:FormsAt w mb){B:Nat}(hb:Below B w w')(hB:mb<B):FormsAt w' mb:=by
 obtain⟨o,h1,h2⟩:=h;exact⟨o,(hb.block mb hB).trans h1,h2⟩
structure SC(w:World)(sb nb ob mb:Nat)(d:Int):Prop where
 S:w.heap[sb]?=some (.cells #[.int .i64 d,.slice (some ⟨nb,0,none⟩) 34 34,.map (some ob),.map (some mb)] 97)
 N:w.heap[nb]?=some (.cells (nmT.tail.map Value.string).toArray 9)
 M:FormsAt w mb
theorem SC.below{w w':World}{sb nb ob mb:Nat}{d:Int}(p:SC w sb nb ob mb d){B:Nat}(hb:Below B w w')(hs:sb<B)(hn:nb<B)(hm:mb<B):SC w' sb nb ob mb d:=
 ⟨(hb.block sb hs).trans p.S,(hb.block nb hn).trans p.N,p.M.below hb hm⟩
theorem partsOf_any(sb nb ob mb:Nat)(d h:Int)(w:World)(p:SC w sb nb ob mb d)(hf:(formL.any fun x=>x.1==d&&x.2.1==h)=true):
 Calls Tryd.prog 60 #[.pointer (some ⟨sb,0,none⟩),.int .i64 h] w fun e w'=>e=.returned (.string (ptS d h))/\Below w.heap.size w w':=by
 have ls:sb<w.heap.size:=(Array.getElem?_eq_some_iff.1 p.S).1
 have c0:∀w',Below w.heap.size w w'->w'.cell? ⟨sb,0,none⟩=some (.int .i64 d):=fun w' hb=>(hb.cell (p:=⟨sb,0,none⟩) ls).trans (heap_cell p.S 0)
 have c3:∀w',Below w.heap.size w w'->w'.cell? ⟨sb,3,none⟩=some (.map (some mb)):=fun w' hb=>(hb.cell (p:=⟨sb,3,none⟩) ls).trans (heap_cell p.S 3)
 have hl:∀w',Below w.heap.size w w'->(Instr.lookup 94 (.map (some mb)) (.agg #[.int .i64 d,.int .i64 h]) false).run Tryd.prog w'=.ok (.agg #[.string (ptS d h)]) w':=fun w' hb=>by
  obtain⟨o,h1,h2⟩:=p.M
  exact h2 w' ((hb.block mb (Array.getElem?_eq_some_iff.1 h1).1).trans h1) d h hf
 have hfd:∀w:World,(Instr.field 122 (.agg #[.string (ptS d h)]) 0).run Tryd.prog w=.ok (.string (ptS d h)) w:=fun w=>by kernel_rfl
 clear hf p
 go_enter Tryd.func60,Tryd.ntmps60
 go_upto_region 1 with fail
 refine wp_region_held_drew (S:=fun w'=>Below w.heap.size w w') (by kernel_rfl) (Below.refl _ _).drew (fun _=>?_)
 refine wpAnyH_tk 0 ?k1v rfl ?k1y ?k1r
 case k1y=>(intro w hSw;(try dsimp only at hSw);go_simp;try with_reducible rfl)
 try simp only[Act.put,List.getElem_toArray,List.getElem_cons_zero,List.setIfInBounds_toArray,List.set_cons_zero,List.set_cons_succ]
 refine wpAnyH_tk 1 ?k2v rfl ?k2y ?k2r
 case k2y=>(intro w hSw;(try dsimp only at hSw);go_simp;try with_reducible rfl)
 try simp only[Act.put,List.getElem_toArray,List.getElem_cons_zero,List.getElem_cons_succ,List.setIfInBounds_toArray,List.set_cons_zero,List.set_cons_succ]
 refine wpAnyH_tk 2 ?k3v rfl ?k3y ?k3r
 case k3y=>(intro w hSw;(try dsimp only at hSw);go_simp;try with_reducible rfl)
 try simp only[Act.put,List.getElem_toArray,List.getElem_cons_zero,List.getElem_cons_succ,List.setIfInBounds_toArray,List.set_cons_zero,List.set_cons_succ]
 refine wpAnyH_tk 3 ?k4v rfl ?k4y ?k4r
 case k4y=>(intro w hSw;(try dsimp only at hSw);go_simp;try with_reducible rfl)
 try simp only[Act.put,List.getElem_toArray,List.getElem_cons_zero,List.getElem_cons_succ,List.setIfInBounds_toArray,List.set_cons_zero,List.set_cons_succ]
 refine wpAnyH_tk 4 ?k5v rfl ?k5y ?k5r
 case k5y=>(intro w hSw;(try dsimp only at hSw);go_simp;try with_reducible rfl)
 try simp only[Act.put,List.getElem_toArray,List.getElem_cons_zero,List.getElem_cons_succ,List.setIfInBounds_toArray,List.set_cons_zero,List.set_cons_succ]
 refine wpAnyH_tk 5 ?k6v rfl ?k6y ?k6r
 case k6y=>(intro w hSw;(try dsimp only at hSw);go_simp;try with_reducible rfl)
 try simp only[Act.put,List.getElem_toArray,List.getElem_cons_zero,List.getElem_cons_succ,List.setIfInBounds_toArray,List.set_cons_zero,List.set_cons_succ]
 refine wpAnyH_tk 6 ?k7v rfl ?k7y ?k7r
 case k7y=>(intro w hSw;(try dsimp only at hSw);go_simp;try with_reducible rfl)
 try simp only[Act.put,List.getElem_toArray,List.getElem_cons_zero,List.getElem_cons_succ,List.setIfInBounds_toArray,List.set_cons_zero,List.set_cons_succ]
 refine wpAnyH_tk 7 ?k8v rfl ?k8y ?k8r
 case k8y=>(intro w hSw;(try dsimp only at hSw);go_simp;try with_reducible rfl)
 try simp only[Act.put,List.getElem_toArray,List.getElem_cons_zero,List.getElem_cons_succ,List.setIfInBounds_toArray,List.set_cons_zero,List.set_cons_succ]
 refine wpAnyH_tk 8 ?k9v rfl ?k9y ?k9r
 case k9y=>(intro w hSw;(try dsimp only at hSw);go_simp;try with_reducible rfl)
 try simp only[Act.put,List.getElem_toArray,List.getElem_cons_zero,List.getElem_cons_succ,List.setIfInBounds_toArray,List.set_cons_zero,List.set_cons_succ]
 refine wpAnyH_tk 9 ?k10v rfl ?k10y ?k10r
 case k10y=>(intro w hSw;(try dsimp only at hSw);go_simp;try with_reducible rfl)
 try simp only[Act.put,List.getElem_toArray,List.getElem_cons_zero,List.getElem_cons_succ,List.setIfInBounds_toArray,List.set_cons_zero,List.set_cons_succ]
 refine wpAnyH_tk 10 ?k11v rfl ?k11y ?k11r
 case k11y=>(intro w hSw;(try dsimp only at hSw);go_simp;try with_reducible rfl)
 try simp only[Act.put,List.getElem_toArray,List.getElem_cons_zero,List.getElem_cons_succ,List.setIfInBounds_toArray,List.set_cons_zero,List.set_cons_succ]
 refine wpAnyH_tk 11 ?k12v rfl ?k12y ?k12r
 case k12y=>(intro w hSw;(try dsimp only at hSw);go_simp;try with_reducible rfl)
 try simp only[Act.put,List.getElem_toArray,List.getElem_cons_zero,List.getElem_cons_succ,List.setIfInBounds_toArray,List.set_cons_zero,List.set_cons_succ]
 refine wpAnyH_tk 12 ?k13v rfl ?k13y ?k13r
 case k13y=>(intro w hSw;(try dsimp only at hSw);go_simp;try with_reducible rfl)
 try simp only[Act.put,List.getElem_toArray,List.getElem_cons_zero,List.getElem_cons_succ,List.setIfInBounds_toArray,List.set_cons_zero,List.set_cons_succ]
 refine wpAnyH_done (by kernel_rfl) ?_ _
 go_wp2_with fail
 go_ret
 exact⟨rfl,(Below.refl _ _).drew⟩
theorem pt_size(d h:Int):(ptS d h).size<=30:=by
 unfold ptS;rcases hf:formL.find? (fun x=>x.1==d&&x.2.1==h)with _|x
 ·rw[hf];decide
 ·have h1:∀y∈formL,y.2.2.size<=30:=by decide
  rw[hf];exact h1 x (List.mem_of_find?_eq_some hf)
theorem addLabel_any(B n:Nat)(sv:Value)(l:List UInt8)(sb nb ob mb:Nat)(d num:Int)(w:World)(p:SC w sb nb ob mb d)(hd:d=0∨d=1)(hB:B<=w.heap.size)(hown:w.ownsRow B 5 1 sv n (Lib.byteCells l))(hn:n<=100000000000000)
 (ki:num.natAbs<1000001)(htab:Lib.TabBelow Tryd.prog B w "internal/strconv.uint64pow10" .u64 Lib.pow10Tab):
 Calls Tryd.prog 33 #[.pointer (some ⟨sb,0,none⟩),sv,.int .i64 num] w fun e w'=>∃v' n',e=.returned v'/\w'.ownsRow B 5 1 v' n' (Lib.byteCells (l++(labS d num++⟨#[10]⟩).data.toList))/\n'<=n+30000100/\(∀(q:Nat)(cs:Array Value),w.heap[q]?=some (Obj.cells cs 56)->w'.heap[q]?=some (Obj.cells cs 56))/\Below B w w':=by
 have HN:Hid (n<=100000000000000):=hn;have HK:Hid (num.natAbs<1000001):=ki;have HT:Hid (Lib.TabBelow Tryd.prog B w "internal/strconv.uint64pow10" .u64 Lib.pow10Tab):=htab;have HOW:Hid (w.ownsRow B 5 1 sv n (Lib.byteCells l)):=hown;have HP:Hid (SC w sb nb ob mb d):=p;have hf0:(formL.any fun x=>x.1==d&&x.2.1==64)=true:=by rcases hd with rfl|rfl<;>rfl
 have hf:Hid ((formL.any fun x=>x.1==d&&x.2.1==64)=true):=hf0;have HD:Hid (d=0∨d=1):=hd;clear hn ki htab hown p hd hf0;go_enter Tryd.func33,Tryd.ntmps33;go_wp2_with fail;refine(partsOf_any sb nb ob mb d 64 w HP.out hf.out).mono ?_;rintro e w1⟨rfl,hb1⟩;go_wp2_with fail;refine(addParts_any B n sv l (ptS d 64) 0 0 0 0 num 0 w1 (Nat.le_trans hB hb1.size) (row_belowB HOW.out hb1) (pt_size _ _) HN.out (by decide) (by decide) (by decide) HK.out (by decide) (HT.out.on (hb1.mono hB))).mono ?_;rintro e w2⟨v',n',rfl,ho,hn2,hkp,hb2⟩;have O2:Hid (w2.ownsRow B 5 1 v' n' (Lib.byteCells (l++(labS d num++⟨#[10]⟩).data.toList))):=by
  rw[lab_same d num HD.out]at ho;have e9:l++(labS d num).data.toList++[10]=l++(labS d num++⟨#[10]⟩).data.toList:=by simp
  rw[e9]at ho;exact ho
 have HN2:Hid (n'<=n+30000100):=hn2;have HKP:Hid (∀(q:Nat)(cs:Array Value),w1.heap[q]?=some (Obj.cells cs 56)->w2.heap[q]?=some (Obj.cells cs 56)):=fun q cs h=>hkp q _ h (by simp) (fun c fz=>by simp)
 clear ho hn2 hkp;go_wp2_with fail;go_ret;exact⟨v',n',rfl,O2.out,HN2.out,fun q cs hq=>HKP.out q cs ((hb1.block q (Array.getElem?_eq_some_iff.1 hq).1).trans hq),(hb1.mono hB).trans hb2⟩
end Go.Proofs.YtdbhgaegblclaaaDoor
