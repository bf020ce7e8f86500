import Derived.Test.YtblfmpgdhpbffaaGreatDoorOfPzKind
import Derived.Test.YtblfmpgdhpbffaaGreatDoorOfPzL5
import Derived.Test.YtblfmpgdhpbffaaGreatDoorOfPzL7
import Derived.Test.YtblfmpgdhpbffaaGreatDoorPzL8
import Derived.Test.YtblfmpgdhpbffaaGreatDoorOfPzL10
set_option maxHeartbeats 3200000
set_option maxRecDepth 20000
namespace Go.Proofs.YtblfmpgdhpbffaaGreatDoor
open Go.RowKit Go.Proofs
theorem gML:Tryz.prog.globalNamed "internal/bytealg.MaxLen" =some (Tryz.laysSp_ren.g 1):=by kernel_rfl
theorem split_any(l:List UInt8)(w:World){B:Nat}(hE:Env w B)(hl:(l.length:Int)<=200000):
 Calls Tryz.prog 39 #[.string (stB l),.string ⟨#[32]⟩] w fun e w'=>e=.returned (.slice (some ⟨w.heap.size,0,none⟩) (fldS l).length (fldS l).length)/\Below w.heap.size w w'/\FA w' w.heap.size (fldS l):=by
 obtain⟨m,hm⟩:=hE.ml;have hc:w.cell? ⟨Tryz.laysSp_ren.g 1,0,none⟩=some (.int .i64 m):=by simpa using World.var?_cell gML hm 0
 have hn:Lib.countB (stB l) ⟨#[32]⟩=l.count 32:=Lib.count_one 32 l;have hs:(Lib.splitB ⟨#[32]⟩ 0 (l.count 32) (stB l)).map (·.data.toList)=fldS l:=(Lib.splitB_data _ _ _ _).trans (split_fld _ _ (Nat.le_refl _));refine(Any.strings_Split Tryz.laysSp (by kernel_rfl) (stB l) ⟨#[32]⟩ m w (by show(stB l).data.size<_;simp[stB];omega) hc (by decide)).mono ?_;rintro e w'⟨rfl,rfl⟩;rw[hn,<-fld_count];refine⟨rfl,(Below.refl _ _).alloc (Nat.le_refl _) _,⟨_,heap_alloc_newB _ _,fun i hi=>?_⟩⟩;have e:(Lib.splitB ⟨#[32]⟩ 0 (l.count 32) (stB l))=(fldS l).map stB:=by
  rw[<-hs,List.map_map];exact(List.map_id'' (fun b=>by simp[stB]) _).symm
 rw[e,List.getElem?_toArray,List.map_map,List.getElem?_map,List.getElem?_eq_getElem hi];simp[fd,List.getD_eq_getElem?_getD,hi]
def KA(B:Nat)(rb sb nb ob mf km:Nat)(S:PS)(l:List UInt8)(v:Value):Prop:=∃k:Nat,v=.func (.func k) #[.pointer (some ⟨rb,0,none⟩)] #[]/\(∀args w,(callFunc k args).run Tryz.prog w=.ok (.enter k args) w)/\∀(w:World)(fb:Nat),B<=w.heap.size->FA w fb (fldS l)->(∃(sH sR sP sO:Sl)(bv:List Value),PR w B S rb sb nb ob mf km sH sR sP sO bv)->
 Calls Tryz.prog k #[.pointer (some ⟨rb,0,none⟩),.slice (some ⟨fb,0,none⟩) (fldS l).length (fldS l).length] w fun e w'=>PA B w rb sb nb ob mf km (takS S l (fldS l)) e w'
theorem kind_any(B:Nat)(rb sb nb ob mf km:Nat)(S:PS)(l:List UInt8)(hbd:Bnd S 100000)(hl:(l.length:Int)<=199999):(kindF rb (fd (fldS l) 0)=none/\takS S l (fldS l)=none)∨∃v,kindF rb (fd (fldS l) 0)=some v/\KA B rb sb nb ob mf km S l v:=by
 have HL:∀i,((stB (fd (fldS l) i)).size:Int)<=200000:=fun i=>by
  have:(fd (fldS l) i).length<=l.length:=fld_size l i;show(((stB (fd (fldS l) i)).data.size:Nat):Int)<=200000;simp[stB];omega
 have hk:=@kindF.eq_def rb (fd (fldS l) 0);have ht:=@takS.eq_def S l (fldS l);by_cases h:fd (fldS l) 0=[100,105,97,108,101,99,116]
 ·rw[if_pos h]at hk ht
  refine .inr ⟨_,hk,_,rfl,enters_of Tryz.func28 (by kernel_rfl) rfl,?_⟩;rintro w fb hB HFA⟨sH,sR,sP,sO,bv,hm⟩;rw[ht];exact dialectLine_any B S rb sb nb ob mf km sH sR sP sO bv (fldS l) fb (fldS l).length w hB hm HFA HL hbd
 rw[if_neg h]at hk ht;clear h;by_cases h:fd (fldS l) 0=[104,101,97,112]
 ·rw[if_pos h]at hk ht
  refine .inr ⟨_,hk,_,rfl,enters_of Tryz.func29 (by kernel_rfl) rfl,?_⟩;rintro w fb hB HFA⟨sH,sR,sP,sO,bv,hm⟩;rw[ht];exact heapLine_any B S rb sb nb ob mf km sH sR sP sO bv (fldS l) fb (fldS l).length w hB hm HFA HL hbd
 rw[if_neg h]at hk ht;clear h;by_cases h:fd (fldS l) 0=[114,101,103]
 ·rw[if_pos h]at hk ht
  refine .inr ⟨_,hk,_,rfl,enters_of Tryz.func30 (by kernel_rfl) rfl,?_⟩;rintro w fb hB HFA⟨sH,sR,sP,sO,bv,hm⟩;rw[ht];exact regLine_any B S rb sb nb ob mf km sH sR sP sO bv (fldS l) fb (fldS l).length w hB hm HFA HL hbd (Nat.le_refl _)
 rw[if_neg h]at hk ht;clear h;by_cases h:fd (fldS l) 0=[112,114,111,99]
 ·rw[if_pos h]at hk ht
  refine .inr ⟨_,hk,_,rfl,enters_of Tryz.func31 (by kernel_rfl) rfl,?_⟩;rintro w fb hB HFA⟨sH,sR,sP,sO,bv,hm⟩;rw[ht];exact procLine_any B S rb sb nb ob mf km sH sR sP sO bv (fldS l) fb (fldS l).length w hB hm HFA HL hbd
 rw[if_neg h]at hk ht;clear h;by_cases h:fd (fldS l) 0=[105,102]
 ·rw[if_pos h]at hk ht
  refine .inr ⟨_,hk,_,rfl,enters_of Tryz.func32 (by kernel_rfl) rfl,?_⟩;rintro w fb hB HFA⟨sH,sR,sP,sO,bv,hm⟩;rw[ht];exact ifLine_any B S rb sb nb ob mf km sH sR sP sO bv (fldS l) fb (fldS l).length w hB hm HFA hbd
 rw[if_neg h]at hk ht;clear h;by_cases h:fd (fldS l) 0=[119,104,105,108,101]
 ·rw[if_pos h]at hk ht
  refine .inr ⟨_,hk,_,rfl,enters_of Tryz.func33 (by kernel_rfl) rfl,?_⟩;rintro w fb hB HFA⟨sH,sR,sP,sO,bv,hm⟩;rw[ht];exact whileLine_any B S rb sb nb ob mf km sH sR sP sO bv (fldS l) fb (fldS l).length w hB hm HFA hbd
 rw[if_neg h]at hk ht;clear h;by_cases h:fd (fldS l) 0=[101,108,115,101]
 ·rw[if_pos h]at hk ht
  refine .inr ⟨_,hk,_,rfl,enters_of Tryz.func34 (by kernel_rfl) rfl,?_⟩;rintro w fb hB HFA⟨sH,sR,sP,sO,bv,hm⟩;rw[ht];exact elseLine_any B S rb sb nb ob mf km sH sR sP sO bv (fldS l) fb (fldS l).length w hB hm hbd
 rw[if_neg h]at hk ht;clear h;by_cases h:fd (fldS l) 0=[101,110,100]
 ·rw[if_pos h]at hk ht
  refine .inr ⟨_,hk,_,rfl,enters_of Tryz.func35 (by kernel_rfl) rfl,?_⟩;rintro w fb hB HFA⟨sH,sR,sP,sO,bv,hm⟩;rw[ht];exact endLine_any B S rb sb nb ob mf km sH sR sP sO bv (fldS l) fb (fldS l).length w hB hm hbd
 rw[if_neg h]at hk ht;clear h;by_cases h:fd (fldS l) 0=[99,97,108,108]
 ·rw[if_pos h]at hk ht
  refine .inr ⟨_,hk,_,rfl,enters_of Tryz.func36 (by kernel_rfl) rfl,?_⟩;rintro w fb hB HFA⟨sH,sR,sP,sO,bv,hm⟩;rw[ht];exact callLine_any B S rb sb nb ob mf km sH sR sP sO bv (fldS l) fb (fldS l).length w hB hm HFA HL hbd
 rw[if_neg h]at hk ht;clear h;by_cases h:1<=opOf (fd (fldS l) 0)/\opOf (fd (fldS l) 0)<=28
 ·rw[if_pos h]at hk ht
  refine .inr ⟨_,hk,_,rfl,enters_of Tryz.func37 (by kernel_rfl) rfl,?_⟩;rintro w fb hB HFA⟨sH,sR,sP,sO,bv,hm⟩;rw[ht];exact insLine_any B S rb sb nb ob mf km sH sR sP sO bv l fb w hB hm HFA hbd hl
 ·rw[if_neg h]at hk ht
  exact .inl ⟨hk,ht⟩
theorem take_any(B:Nat)(S:PS)(rb sb nb ob mf km:Nat)(sH sR sP sO:Sl)(bv:List Value)(l:List UInt8)(w:World)(hB:B<=w.heap.size)(hm:PR w B S rb sb nb ob mf km sH sR sP sO bv)(hbd:Bnd S 100000)(hl:(l.length:Int)<=199999):
 Calls Tryz.prog 17 #[.pointer (some ⟨rb,0,none⟩),.string (stB l)] w fun e w'=>PA B w rb sb nb ob mf km (linS S l) e w':=by
 rw[<-tak_lin hm.I l]
 obtain⟨RR,hRR⟩:∃y,takS S l (fldS l)=y:=⟨_,rfl⟩
 rw[hRR]
 have HRR:Hid (takS S l (fldS l)=RR):=hRR
 have M:Hid (PR w B S rb sb nb ob mf km sH sR sP sO bv):=hm
 have HBD:Hid (Bnd S 100000):=hbd
 clear hm hRR hbd
 obtain⟨ls,hls⟩:∃y,stB l=y:=⟨_,rfl⟩
 have HLS:Hid (stB l=ls):=hls
 rw[hls]
 clear hls
 go_enter Tryz.func17,Tryz.ntmps17
 go_wp2_with fail
 rw[<-HLS.out]
 refine(split_any l w M.out.E (by omega)).mono ?_
 rintro e u⟨rfl,hb,hfa⟩
 have M1:Hid (PR u B S rb sb nb ob mf km sH sR sP sO bv):=M.out.below hb
 have F1:Hid (Fm tsP B w u):=Fm.of_below hb hB
 obtain⟨fb,hfb⟩:∃y,w.heap.size=y:=⟨_,rfl⟩
 rw[hfb]at hfa⊢
 have A1:Hid (FA u fb (fldS l)):=hfa
 have hBu:B<=u.heap.size:=by have:=hb.size;omega
 obtain⟨f0,hf0⟩:∃y,fd (fldS l) 0=y:=⟨_,rfl⟩
 have hfl:0<(fldS l).length:=List.length_pos_iff.2 (fld_ne l)
 have r0:∀w':World,Below u.heap.size u w'->w'.cell? ⟨fb,0,none⟩=some (.string (stB f0)):=fun w' h=>((A1.out.below h).cell 0 hfl).trans (by rw[hf0])
 have r1:∀w':World,Below u.heap.size u w'->w'.cell? ⟨rb,15,none⟩=some (.map (some km)):=fun w' h=>(M1.out.below h).cells.2.2.2.2.2.2.2.1
 have KX:=kind_any B rb sb nb ob mf km S l HBD.out hl
 rw[hf0]at KX
 obtain⟨kv,hkv⟩:∃y,(kindF rb f0).getD .nilFunc=y:=⟨_,rfl⟩
 obtain⟨kb,hkb⟩:∃y,(kindF rb f0).isSome=y:=⟨_,rfl⟩
 have r2:∀w':World,Below u.heap.size u w'->(Instr.lookup 58 (.map (some km)) (.string (stB f0)) true).run Tryz.prog w'=.ok (.tuple #[kv,.bool kb]) w':=fun w' h=>by
  obtain⟨o,h1,h2,h3⟩:=(M1.out.below h).K
  have hz:(stB f0).size<=maxLen:=by
   have:(fd (fldS l) 0).length<=l.length:=fld_size l 0
   rw[<-hf0]
   show(stB (fd (fldS l) 0)).data.size<=_
   simp[stB,maxLen];omega
  have q:=h3 w' h1 (stB f0) hz
  rw[stB_list,hkv,hkb]at q
  exact q
 have HKV:Hid ((kindF rb f0).getD .nilFunc=kv):=hkv
 have HKB:Hid ((kindF rb f0).isSome=kb):=hkb
 have HKX:Hid _:=KX
 clear hb hfa hfb hf0 hkv hkb KX
 go_upto_region 2 with fail
 refine wp_region_held_drew (S:=fun w'=>Below u.heap.size u w') (by kernel_rfl) (Below.refl _ _).drew (fun hHeld=>?_)
 generalize u.drew=t0 at hHeld⊢
 refine wpAnyH_tk 0 ?k1v rfl ?k1y ?k1r
 case k1y=>(intro w hSw;(try dsimp only at hSw);go_simp;try with_reducible rfl)
 try simp only[Act.put,List.getElem_toArray,List.getElem_cons_zero,List.setIfInBounds_toArray,List.set_cons_zero,List.set_cons_succ]
 refine wpAnyH_tk 1 ?k2v rfl ?k2y ?k2r
 case k2y=>(intro w hSw;(try dsimp only at hSw);go_simp;try with_reducible rfl)
 try simp only[Act.put,List.getElem_toArray,List.getElem_cons_zero,List.getElem_cons_succ,List.setIfInBounds_toArray,List.set_cons_zero,List.set_cons_succ]
 refine wpAnyH_tk 2 ?k3v rfl ?k3y ?k3r
 case k3y=>(intro w hSw;(try dsimp only at hSw);go_simp;try with_reducible rfl)
 try simp only[Act.put,List.getElem_toArray,List.getElem_cons_zero,List.getElem_cons_succ,List.setIfInBounds_toArray,List.set_cons_zero,List.set_cons_succ]
 refine wpAnyH_tk 3 ?k4v rfl ?k4y ?k4r
 case k4y=>(intro w hSw;(try dsimp only at hSw);go_simp;try with_reducible rfl)
 try simp only[Act.put,List.getElem_toArray,List.getElem_cons_zero,List.getElem_cons_succ,List.setIfInBounds_toArray,List.set_cons_zero,List.set_cons_succ]
 refine wpAnyH_tk 4 ?k5v rfl ?k5y ?k5r
 case k5y=>(intro w hSw;(try dsimp only at hSw);go_simp;try with_reducible rfl)
 try simp only[Act.put,List.getElem_toArray,List.getElem_cons_zero,List.getElem_cons_succ,List.setIfInBounds_toArray,List.set_cons_zero,List.set_cons_succ]
 refine wpAnyH_tk 5 ?k6v rfl ?k6y ?k6r
 case k6y=>(intro w hSw;(try dsimp only at hSw);go_simp;try with_reducible rfl)
 try simp only[Act.put,List.getElem_toArray,List.getElem_cons_zero,List.getElem_cons_succ,List.setIfInBounds_toArray,List.set_cons_zero,List.set_cons_succ]
 refine wpAnyH_tk 6 ?k7v rfl ?k7y ?k7r
 case k7y=>(intro w hSw;(try dsimp only at hSw);go_simp;try with_reducible rfl)
 try simp only[Act.put,List.getElem_toArray,List.getElem_cons_zero,List.getElem_cons_succ,List.setIfInBounds_toArray,List.set_cons_zero,List.set_cons_succ]
 refine wpAnyH_tk 7 ?k8v rfl ?k8y ?k8r
 case k8y=>(intro w hSw;(try dsimp only at hSw);go_simp;try with_reducible rfl)
 try simp only[Act.put,List.getElem_toArray,List.getElem_cons_zero,List.getElem_cons_succ,List.setIfInBounds_toArray,List.set_cons_zero,List.set_cons_succ]
 refine wpAnyH_tk 8 ?k9v rfl ?k9y ?k9r
 case k9y=>(intro w hSw;(try dsimp only at hSw);go_simp;try with_reducible rfl)
 try simp only[Act.put,List.getElem_toArray,List.getElem_cons_zero,List.getElem_cons_succ,List.setIfInBounds_toArray,List.set_cons_zero,List.set_cons_succ]
 refine wpAnyH_tk 9 ?k10v rfl ?k10y ?k10r
 case k10y=>(intro w hSw;(try dsimp only at hSw);go_simp;try with_reducible rfl)
 try simp only[Act.put,List.getElem_toArray,List.getElem_cons_zero,List.getElem_cons_succ,List.setIfInBounds_toArray,List.set_cons_zero,List.set_cons_succ]
 refine wpAnyH_tk 10 ?k11v rfl ?k11y ?k11r
 case k11y=>(intro w hSw;(try dsimp only at hSw);go_simp;try with_reducible rfl)
 try simp only[Act.put,List.getElem_toArray,List.getElem_cons_zero,List.getElem_cons_succ,List.setIfInBounds_toArray,List.set_cons_zero,List.set_cons_succ]
 refine wpAnyH_tk 11 ?k12v rfl ?k12y ?k12r
 case k12y=>(intro w hSw;(try dsimp only at hSw);go_simp;try with_reducible rfl)
 try simp only[Act.put,List.getElem_toArray,List.getElem_cons_zero,List.getElem_cons_succ,List.setIfInBounds_toArray,List.set_cons_zero,List.set_cons_succ]
 refine wpAnyH_tk 12 ?k13v rfl ?k13y ?k13r
 case k13y=>(intro w hSw;(try dsimp only at hSw);go_simp;try with_reducible rfl)
 try simp only[Act.put,List.getElem_toArray,List.getElem_cons_zero,List.getElem_cons_succ,List.setIfInBounds_toArray,List.set_cons_zero,List.set_cons_succ]
 refine wpAnyH_done (by kernel_rfl) ?_ _
 have M2:Hid (PR t0 B S rb sb nb ob mf km sH sR sP sO bv):=M1.out.below hHeld
 have F2:Hid (Fm tsP B w t0):=F1.out.below hHeld hBu
 have A2:Hid (FA t0 fb (fldS l)):=A1.out.below hHeld
 have hB2:B<=t0.heap.size:=by have:=hHeld.size;omega
 clear hHeld r0 r1 r2 M1 F1 A1
 rcases HKX.out with⟨k1,k2⟩|⟨v,k1,k,k2,k4,k3⟩
 ·have e1:=HKB.out
  rw[k1]at e1
  have HN:Hid (RR=none):=(by rw[<-HRR.out];exact k2:RR=none)
  simp only[Option.isSome_none]at e1
  subst e1
  clear k1 k2
  go_wp2_with fail
  go_ret
  rw[HN.out]
  exact⟨F2.out,rfl,fun _ h=>(by cases h)⟩
 ·have e1:=HKB.out
  have e2:=HKV.out
  rw[k1]at e1 e2
  simp only[Option.isSome_some]at e1
  simp only[Option.getD_some]at e2
  subst e1
  rw[<-e2,k2]
  have K3:Hid _:=k3
  clear k1 k2 e2 HKV HKB HKX k3
  go_wp2_with fail
  refine(K3.out t0 fb hB2 A2.out ⟨_,_,_,_,_,M2.out⟩).mono ?_
  rw[HRR.out]
  rintro e t1⟨f3,rfl,p3⟩
  have HFIN:Hid (PA B w rb sb nb ob mf km RR (.returned (.bool RR.isSome)) t1):=⟨F2.out.trans f3,rfl,p3⟩
  clear f3 p3
  go_wp2_with fail
  go_ret
  exact HFIN.out
end Go.Proofs.YtblfmpgdhpbffaaGreatDoor
