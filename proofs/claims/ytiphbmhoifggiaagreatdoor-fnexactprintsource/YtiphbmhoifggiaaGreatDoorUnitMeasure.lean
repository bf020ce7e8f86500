import Derived.Test.YtiphbmhoifggiaaGreatDoorUnitMake3
set_option maxHeartbeats 8000000
set_option maxRecDepth 20000
namespace Go.Proofs.YtiphbmhoifggiaaGreatDoor
open Go.RowKit
def pz(Pv:Nat->PV)(np:Nat):Nat->Nat->Int
 |0=>fun _=>0
 |k+1=>fun i=>if i=np-1-k then min (szTo (Pv (np-1-k)).L (pz Pv np k) (Pv (np-1-k)).n) 2000 else pz Pv np k i
theorem pz_in(Pv:Nat->PV)(np k:Nat):∀i,0<=pz Pv np k i/\pz Pv np k i<=2000:=by
 induction k with
 |zero=>intro i;exact⟨Int.le_refl _,by show(0:Int)<=2000;decide⟩
 |succ k ih=>
  intro i;show 0<=(if i=np-1-k then min (szTo (Pv (np-1-k)).L (pz Pv np k) (Pv (np-1-k)).n) 2000 else pz Pv np k i)/\(if i=np-1-k then min (szTo (Pv (np-1-k)).L (pz Pv np k) (Pv (np-1-k)).n) 2000 else pz Pv np k i)<=2000;split
  ·have:=szTo_pos (L:=(Pv (np-1-k)).L) (fun i=>(ih i).1) (Pv (np-1-k)).n
   omega
  ·exact ih i
theorem szTo_cut(L:Nat->SV)(A B:Nat->Int)(ha:∀i,0<=A i)(hb:∀i,0<=B i)(h:∀i,min (A i) 2000=min (B i) 2000):∀k,min (szTo L A k) 2000=min (szTo L B k) 2000
 |0=>rfl
 |k+1=>by
  have ih:=szTo_cut L A B ha hb h k;have p1:=szTo_pos (L:=L) ha k;have p2:=szTo_pos (L:=L) hb k;have q1:=wI_pos (s:=L k) ha;have q2:=wI_pos (s:=L k) hb;have e:min (wI (L k) A) 2000=min (wI (L k) B) 2000:=by
   unfold wI;split
   ·rfl
   ·split
    ·exact h _
    ·rfl
  show min (szTo L A k+wI (L k) A) 2000=min (szTo L B k+wI (L k) B) 2000;omega
theorem cap_cut(x:Int):min (capI x) 2000=min x 2000:=by unfold capI;split<;>omega
theorem pz_zs(Pv:Nat->PV)(np:Nat):∀k i,min (pz Pv np k i) 2000=min (zs Pv np k i) 2000
 |0,_=>rfl
 |k+1,i=>by
  have ih:=pz_zs Pv np k;show min (if i=np-1-k then min (szTo (Pv (np-1-k)).L (pz Pv np k) (Pv (np-1-k)).n) 2000 else pz Pv np k i) 2000=min (if i=np-1-k then capI (szTo (Pv (np-1-k)).L (zs Pv np k) (Pv (np-1-k)).n)else zs Pv np k i) 2000;split
  ·rw[cap_cut]
   have:=szTo_cut (Pv (np-1-k)).L (pz Pv np k) (zs Pv np k) (fun i=>(pz_in Pv np k i).1) (fun i=>(zs_in Pv np k i).1) ih (Pv (np-1-k)).n;omega
  ·exact ih i
theorem Arr.setF{w:World}{b n:Nat}{Z:Nat->Int}(h:Arr w b n (zF Z))(x:Nat)(hx:x<n)(z:Int):Arr (w.setCell ⟨b,x,none⟩ (.int .i64 z)) b n (zF (fun i=>if i=x then z else Z i)):=
 (h.setU x hx _).congr (fun i _=>by
   show(if i=x then _ else _)=Value.int .i64 (if i=x then z else Z i);by_cases e:i=x
   ·rw[if_pos e,if_pos e]
   ·rw[if_neg e,if_neg e];rfl)
theorem measure_any(ub zb g np cz cs:Nat)(e1 e2 e3:Value)(Pv:Nat->PV)(tv:Nat->Value)(S:Nat->Prop)(w:World)(n1:np<=20)(hU:Cl w ub [e1,e2,e3,.slice (some ⟨g,0,none⟩) np cz,.slice (some ⟨zb,0,none⟩) np cs])(hG:At w g 0 np tv)(hZ:Arr w zb np (zF (fun _=>0)))
 (hR:∀i,i<np->RepN (Pv i).L ((Pv i).n+1) w S (tv i) 0 (Pv i).n)(hS:∀b,S b->b≠zb)(hg:g≠zb)(hu:ub≠zb)(hc:∀i,i<np->(Pv i).n<=500/\(chk (Pv i).L (i:Int) (np:Int) 16 0 (Pv i).n 0).1=0):
 Calls Tryz.prog 50 #[.pointer (some ⟨ub,0,none⟩)] w fun e w'=>e=.returned (.tuple #[])/\Ft zb w w'/\Arr w' zb np (zF (pz Pv np np)):=by
 have HU:Hid (Cl w ub [e1,e2,e3,.slice (some ⟨g,0,none⟩) np cz,.slice (some ⟨zb,0,none⟩) np cs]):=hU
 have HG:Hid (At w g 0 np tv):=hG
 have HZ:Hid (Arr w zb np (zF (fun _=>0))):=hZ
 have HR:Hid (∀i,i<np->RepN (Pv i).L ((Pv i).n+1) w S (tv i) 0 (Pv i).n):=hR
 have HS:Hid (∀b,S b->b≠zb):=hS
 have HC:Hid (∀i,i<np->(Pv i).n<=500/\(chk (Pv i).L (i:Int) (np:Int) 16 0 (Pv i).n 0).1=0):=hc
 have lu:=hU.1
 have lg:=hG.1
 have lz:=hZ.1
 have q3:w.cell? ⟨ub,3,none⟩=some (.slice (some ⟨g,0,none⟩) np cz):=hU.2 3 (by simp)
 clear hU hG hZ hR hS hc
 go_enter Tryz.func50,Tryz.ntmps50
 go_wp2
 clear q3
 go_loopw [2](fun iv wr=>∃k:Nat,k<=np/\iv=.int .i64 ((np:Int)-1-(k:Int))/\Ft zb w wr/\Arr wr zb np (zF (pz Pv np k)))(fun iv _=>((intOf iv)+1).toNat)
 case atStart=>exact⟨0,Nat.zero_le _,by simp,Ft.refl _ _,HZ.out⟩
 case round=>
  obtain⟨k,hk,rfl,hf,ha⟩:=hrel
  have F0:Hid (Ft zb w wr):=hf
  have A0:Hid (Arr wr zb np (zF (pz Pv np k))):=ha
  clear hf ha
  by_cases hlt:k<np
  rotate_left
  ·obtain rfl:k=np:=by omega
   have hneg:¬((k:Int)-1-(k:Int))>=0:=by omega
   go_wp2
   go_end0
   exact⟨rfl,F0.out,A0.out⟩
  obtain⟨x,hx⟩:∃x:Nat,x=np-1-k:=⟨_,rfl⟩
  have hxi:(np:Int)-1-(k:Int)=(x:Int):=by omega
  rw[hxi]
  have hxq:x<np:=by omega
  have hxq':(x:Int)<(np:Int):=by omega
  have hx0:(x:Int)>=0:=by omega
  have HXX:Hid (x=np-1-k):=hx
  have HXI:Hid ((np:Int)-1-(k:Int)=(x:Int)):=hxi
  clear hx hxi
  go_upto_region 3 with fail
  have lr:=F0.out.size
  have U0:Hid (Cl wr ub [e1,e2,e3,.slice (some ⟨g,0,none⟩) np cz,.slice (some ⟨zb,0,none⟩) np cs]):=F0.out.cl HU.out hu
  have G0:Hid (wr.cell? ⟨g,x,none⟩=some (tv x)):=(F0.out.cell lg hg).trans (by have:=HG.out.cell hxq;rwa [Nat.zero_add]at this)
  have r3:∀w',Below wr.heap.size wr w'->w'.cell? ⟨ub,3,none⟩=some (.slice (some ⟨g,0,none⟩) np cz):=fun w' h=>(U0.out.below h).2 3 (by simp)
  have r4:∀w',Below wr.heap.size wr w'->w'.cell? ⟨ub,4,none⟩=some (.slice (some ⟨zb,0,none⟩) np cs):=fun w' h=>(U0.out.below h).2 4 (by simp)
  have rg:∀w',Below wr.heap.size wr w'->w'.cell? ⟨g,x,none⟩=some (tv x):=fun w' h=>(h.cell (p:=⟨g,x,none⟩) (by simp;omega)).trans G0.out
  refine wp_region_L (T:=fun w'=>Below wr.heap.size wr w') (s:=19) (by kernel_rfl) (Below.refl _ _).drew (fun hHeld=>?_)
  refine wpAnyL_tk 0 ?k1v rfl ?k1y ?k1r
  case k1y=>(intro w hSw;(try dsimp only at hSw);go_simp;try with_reducible rfl)
  try simp only[Act.put,List.getElem_toArray,List.getElem_cons_zero,List.setIfInBounds_toArray,List.set_cons_zero,List.set_cons_succ]
  refine wpAnyL_tk 1 ?k2v rfl ?k2y ?k2r
  case k2y=>(intro w hSw;(try dsimp only at hSw);go_simp;try with_reducible rfl)
  try simp only[Act.put,List.getElem_toArray,List.getElem_cons_zero,List.getElem_cons_succ,List.setIfInBounds_toArray,List.set_cons_zero,List.set_cons_succ]
  refine wpAnyL_tk 2 ?k3v rfl ?k3y ?k3r
  case k3y=>(intro w hSw;(try dsimp only at hSw);go_simp;try with_reducible rfl)
  try simp only[Act.put,List.getElem_toArray,List.getElem_cons_zero,List.getElem_cons_succ,List.setIfInBounds_toArray,List.set_cons_zero,List.set_cons_succ]
  refine wpAnyL_tk 3 ?k4v rfl ?k4y ?k4r
  case k4y=>(intro w hSw;(try dsimp only at hSw);go_simp;try with_reducible rfl)
  try simp only[Act.put,List.getElem_toArray,List.getElem_cons_zero,List.getElem_cons_succ,List.setIfInBounds_toArray,List.set_cons_zero,List.set_cons_succ]
  refine wpAnyL_tk 4 ?k5v rfl ?k5y ?k5r
  case k5y=>(intro w hSw;(try dsimp only at hSw);go_simp;try with_reducible rfl)
  try simp only[Act.put,List.getElem_toArray,List.getElem_cons_zero,List.getElem_cons_succ,List.setIfInBounds_toArray,List.set_cons_zero,List.set_cons_succ]
  refine wpAnyL_tk 5 ?k6v rfl ?k6y ?k6r
  case k6y=>(intro w hSw;(try dsimp only at hSw);go_simp;try with_reducible rfl)
  try simp only[Act.put,List.getElem_toArray,List.getElem_cons_zero,List.getElem_cons_succ,List.setIfInBounds_toArray,List.set_cons_zero,List.set_cons_succ]
  refine wpAnyL_tk 6 ?k7v rfl ?k7y ?k7r
  case k7y=>(intro w hSw;(try dsimp only at hSw);go_simp;try with_reducible rfl)
  try simp only[Act.put,List.getElem_toArray,List.getElem_cons_zero,List.getElem_cons_succ,List.setIfInBounds_toArray,List.set_cons_zero,List.set_cons_succ]
  refine wpAnyL_tk 7 ?k8v rfl ?k8y ?k8r
  case k8y=>(intro w hSw;(try dsimp only at hSw);go_simp;try with_reducible rfl)
  try simp only[Act.put,List.getElem_toArray,List.getElem_cons_zero,List.getElem_cons_succ,List.setIfInBounds_toArray,List.set_cons_zero,List.set_cons_succ]
  refine wpAnyL_tk 8 ?k9v rfl ?k9y ?k9r
  case k9y=>(intro w hSw;(try dsimp only at hSw);go_simp;try with_reducible rfl)
  try simp only[Act.put,List.getElem_toArray,List.getElem_cons_zero,List.getElem_cons_succ,List.setIfInBounds_toArray,List.set_cons_zero,List.set_cons_succ]
  refine wpAnyL_tk 9 ?k10v rfl ?k10y ?k10r
  case k10y=>(intro w hSw;(try dsimp only at hSw);go_simp;try with_reducible rfl)
  try simp only[Act.put,List.getElem_toArray,List.getElem_cons_zero,List.getElem_cons_succ,List.setIfInBounds_toArray,List.set_cons_zero,List.set_cons_succ]
  refine wpAnyL_tk 10 ?k11v rfl ?k11y ?k11r
  case k11y=>(intro w hSw;(try dsimp only at hSw);go_simp;try with_reducible rfl)
  try simp only[Act.put,List.getElem_toArray,List.getElem_cons_zero,List.getElem_cons_succ,List.setIfInBounds_toArray,List.set_cons_zero,List.set_cons_succ]
  refine wpAnyL_tk 11 ?k12v rfl ?k12y ?k12r
  case k12y=>(intro w hSw;(try dsimp only at hSw);go_simp;try with_reducible rfl)
  try simp only[Act.put,List.getElem_toArray,List.getElem_cons_zero,List.getElem_cons_succ,List.setIfInBounds_toArray,List.set_cons_zero,List.set_cons_succ]
  refine wpAnyL_tk 12 ?k13v rfl ?k13y ?k13r
  case k13y=>(intro w hSw;(try dsimp only at hSw);go_simp;try with_reducible rfl)
  try simp only[Act.put,List.getElem_toArray,List.getElem_cons_zero,List.getElem_cons_succ,List.setIfInBounds_toArray,List.set_cons_zero,List.set_cons_succ]
  refine wpAnyL_tk 13 ?k14v rfl ?k14y ?k14r
  case k14y=>(intro w hSw;(try dsimp only at hSw);go_simp;try with_reducible rfl)
  try simp only[Act.put,List.getElem_toArray,List.getElem_cons_zero,List.getElem_cons_succ,List.setIfInBounds_toArray,List.set_cons_zero,List.set_cons_succ]
  refine wpAnyL_tk 14 ?k15v rfl ?k15y ?k15r
  case k15y=>(intro w hSw;(try dsimp only at hSw);go_simp;try with_reducible rfl)
  try simp only[Act.put,List.getElem_toArray,List.getElem_cons_zero,List.getElem_cons_succ,List.setIfInBounds_toArray,List.set_cons_zero,List.set_cons_succ]
  refine wpAnyL_tk 15 ?k16v rfl ?k16y ?k16r
  case k16y=>(intro w hSw;(try dsimp only at hSw);go_simp;try with_reducible rfl)
  try simp only[Act.put,List.getElem_toArray,List.getElem_cons_zero,List.getElem_cons_succ,List.setIfInBounds_toArray,List.set_cons_zero,List.set_cons_succ]
  refine wpAnyL_call (i:=16) rfl (by kernel_rfl) (fun KK hK=>?_)
  go_simp
  obtain⟨hn5,hch⟩:=HC.out x hxq
  refine(flatBlock_any (Pv x).L zb np cs (pz Pv np k) wr (fun i=>(pz_in Pv np k i).1) (fun i=>by have:=(pz_in Pv np k i).2;omega) A0.out.at (x:Int) 16 ((Pv x).n+1) 0 (Pv x).n 0 (tv x) S _ (Below.refl _ _).drew (((HR.out x hxq).kept (fun _ h=>h) (fun b hb hl=>F0.out.block b hl (HS.out b hb))).below (Below.refl _ _).drew) (Nat.zero_le _) (by omega) hch).mono ?_
  rintro e u1⟨rfl,hb⟩
  have b1:Below wr.heap.size wr u1:=(Below.refl wr.heap.size wr).drew.trans hb
  clear hb hch hn5
  obtain⟨z,hz⟩:∃y,szTo (Pv x).L (pz Pv np k) (Pv x).n=y:=⟨_,rfl⟩
  rw[hz,show szTo (Pv x).L (pz Pv np k) 0=0 from rfl,Int.sub_zero]
  have HZZ:Hid (szTo (Pv x).L (pz Pv np k) (Pv x).n=z):=hz
  clear hz
  go_wp2_with fail
  refine hK.out _ _ b1 (fun hHeld1=>?_)
  clear hK KK
  try simp only[Act.put,List.getElem_toArray,List.getElem_cons_zero,List.getElem_cons_succ,List.setIfInBounds_toArray,List.set_cons_zero,List.set_cons_succ]
  refine wpAnyL_tk 17 ?k17v rfl ?k17y ?k17r
  case k17y=>(intro w hSw;(try dsimp only at hSw);go_simp;try with_reducible rfl)
  try simp only[Act.put,List.getElem_toArray,List.getElem_cons_zero,List.getElem_cons_succ,List.setIfInBounds_toArray,List.set_cons_zero,List.set_cons_succ]
  refine wpAnyL_tk 18 ?k18v rfl ?k18y ?k18r
  case k18y=>(intro w hSw;(try dsimp only at hSw);go_simp;try with_reducible rfl)
  try simp only[Act.put,List.getElem_toArray,List.getElem_cons_zero,List.getElem_cons_succ,List.setIfInBounds_toArray,List.set_cons_zero,List.set_cons_succ]
  have A1:Hid (Arr u1 zb np (zF (pz Pv np k))):=A0.out.below b1 A0.out.lt
  have F1:Hid (Ft zb w u1):=F0.out.trans (Ft.of_below b1)
  clear r3 r4 rg
  have a0:u1.cell? ⟨zb,x,none⟩=some (.int .i64 (pz Pv np k x)):=A1.out.cell hxq
  have af:=A1.out.free
  have al:=A1.out.lt
  refine wpAnyL_store rfl (by kernel_rfl) (by kernel_rfl) (fun KK hK=>?_)
  go_simp
  refine hK.out _ _ ?_
  clear hK KK a0 af al hHeld hHeld1 b1 U0 G0 A0 F0
  obtain⟨y,hy⟩:∃y:Int,(if 2000<z then 2000 else z)=y:=⟨_,rfl⟩
  rw[hy]
  have HY:Hid (min z 2000=y):=(by rw[<-hy];split<;>omega:min z 2000=y)
  clear hy
  obtain⟨u2,hu2,F2,A2⟩:∃v,u1.setCell ⟨zb,x,none⟩ (.int .i64 y)=v/\Hid (Ft zb w v)/\Hid (Arr v zb np (zF (pz Pv np (k+1)))):=⟨_,rfl,F1.out.set _ _,(A1.out.setF x hxq y).congr (fun i _=>by
   show Value.int .i64 (if i=x then y else pz Pv np k i)=Value.int .i64 (if i=np-1-k then min (szTo (Pv (np-1-k)).L (pz Pv np k) (Pv (np-1-k)).n) 2000 else pz Pv np k i)
   rw[<-HXX.out,HZZ.out,HY.out])⟩
  rw[hu2]
  clear hu2 F1 A1
  go_wp2
  go_roundw
  case rel=>exact⟨k+1,by omega,by have:=HXI.out;rw[show(np:Int)-1-((k+1:Nat):Int)=(x:Int)-1 by omega],F2.out,A2.out⟩
  case measure=>simp[intOf]
end Go.Proofs.YtiphbmhoifggiaaGreatDoor
