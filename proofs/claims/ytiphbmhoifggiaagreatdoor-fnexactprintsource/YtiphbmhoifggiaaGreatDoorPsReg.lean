import Derived.Test.YtiphbmhoifggiaaGreatDoorOfPsWord
set_option maxHeartbeats 16000000
set_option maxRecDepth 20000
namespace Go.Proofs.YtiphbmhoifggiaaGreatDoor
open Go.RowKit
structure TB(pb:Nat)(w:World):Prop where
 p:Lib.TabBelow Tryz.prog pb w "internal/strconv.uint64pow10" .u64 Lib.pow10Tab
 a:Lib.TabBelow Tryz.prog pb w "strings.asciiSpace" .u8 Lib.asciiSpaceTab
theorem TB.on{pb:Nat}{w u:World}(h:TB pb w)(b:Below pb w u):TB pb u:=⟨h.p.on b,h.a.on b⟩
theorem addReg_any(pb sb:Nat)(v:Value)(t:List UInt8)(k:Nat)(x:VV)(w:World)(h:PW pb sb v t w)(tb:TB pb w)(hk:k<8){n:Nat}(hn:n<=8)(hg:goodB x (n:Int)=true)(ht:t.length<=50000000):
 Calls Tryz.prog 31 #[.pointer (some ⟨pb,0,none⟩),.int .i64 (k:Int),.agg #[.int .i64 x.k,.bool x.s,.int .i64 x.m,.int .i64 x.h,.int .i64 x.lo,.int .i64 x.hi]] w fun e w'=>e=.returned (.tuple #[])/\∃v',PW pb sb v' (t++regT k x) w'/\PF pb w w':=by
 obtain⟨m1,m2,m3,m4⟩:=good_small hn hg
 have hrl:=regT_len k hk x hn hg
 have H:Hid (PW pb sb v t w):=h
 have TBH:Hid (TB pb w):=tb
 have lt:=h.lt
 clear h tb hg hn
 go_enter Tryz.func31,Tryz.ntmps31
 go_upto_region 2 with fail
 obtain⟨u,hu,hbu,hcu⟩:∃y,w.alloc (.cells #[.int .i64 x.k,.bool x.s,.int .i64 x.m,.int .i64 x.h,.int .i64 x.lo,.int .i64 x.hi] 57)=y/\Below w.heap.size w y/\y.heap[w.heap.size]?=some (.cells #[.int .i64 x.k,.bool x.s,.int .i64 x.m,.int .i64 x.h,.int .i64 x.lo,.int .i64 x.hi] 57):=⟨_,rfl,(Below.refl _ _).alloc (Nat.le_refl _) _,heap_new _ _⟩
 rw[hu]
 obtain⟨xb,hxb⟩:∃y,w.heap.size=y:=⟨_,rfl⟩
 rw[hxb]at hcu⊢
 have BU:Hid (Below w.heap.size w u):=hbu
 have lx:pb<xb:=by omega
 have XU:u.heap[xb]?=some (.cells #[.int .i64 x.k,.bool x.s,.int .i64 x.m,.int .i64 x.h,.int .i64 x.lo,.int .i64 x.hi] 57):=hcu
 have c0:=heap_cell hcu 0
 have c2:=heap_cell hcu 2
 clear hu hbu hcu hxb
 by_cases hk1:x.k=1
 ·have e1:(x.k==1)=true:=by simp[hk1]
  have hkk:Hid (x.k=1):=hk1
  clear hk1
  go_upto_region 3 with fail
  have r0:∀w':World,w'.heap[xb]?=some (.cells #[.int .i64 x.k,.bool x.s,.int .i64 x.m,.int .i64 x.h,.int .i64 x.lo,.int .i64 x.hi] 57)->w'.cell? ⟨xb,0,none⟩=some (.int .i64 x.k):=fun w' h=>heap_cell h 0
  have r1:∀w':World,w'.heap[xb]?=some (.cells #[.int .i64 x.k,.bool x.s,.int .i64 x.m,.int .i64 x.h,.int .i64 x.lo,.int .i64 x.hi] 57)->w'.cell? ⟨xb,1,none⟩=some (.bool x.s):=fun w' h=>heap_cell h 1
  have r2:∀w':World,w'.heap[xb]?=some (.cells #[.int .i64 x.k,.bool x.s,.int .i64 x.m,.int .i64 x.h,.int .i64 x.lo,.int .i64 x.hi] 57)->w'.cell? ⟨xb,2,none⟩=some (.int .i64 x.m):=fun w' h=>heap_cell h 2
  have r3:∀w':World,w'.heap[xb]?=some (.cells #[.int .i64 x.k,.bool x.s,.int .i64 x.m,.int .i64 x.h,.int .i64 x.lo,.int .i64 x.hi] 57)->w'.cell? ⟨xb,3,none⟩=some (.int .i64 x.h):=fun w' h=>heap_cell h 3
  have r4:∀w':World,w'.heap[xb]?=some (.cells #[.int .i64 x.k,.bool x.s,.int .i64 x.m,.int .i64 x.h,.int .i64 x.lo,.int .i64 x.hi] 57)->w'.cell? ⟨xb,4,none⟩=some (.int .i64 x.lo):=fun w' h=>heap_cell h 4
  have r5:∀w':World,w'.heap[xb]?=some (.cells #[.int .i64 x.k,.bool x.s,.int .i64 x.m,.int .i64 x.h,.int .i64 x.lo,.int .i64 x.hi] 57)->w'.cell? ⟨xb,5,none⟩=some (.int .i64 x.hi):=fun w' h=>heap_cell h 5
  have HLN:Hid (lnT [bs [114,101,103],bs (Lib.itoa (k:Int)),bs [112,116,114],bs (Lib.itoa x.h),bs (Lib.itoa x.lo),bs (Lib.itoa x.hi)]=regT k x):=(by
   rw[lnT6]
   unfold regT
   rw[if_pos hkk.out]
   simp only[List.append_assoc,List.cons_append,List.nil_append]:lnT [bs [114,101,103],bs (Lib.itoa (k:Int)),bs [112,116,114],bs (Lib.itoa x.h),bs (Lib.itoa x.lo),bs (Lib.itoa x.hi)]=regT k x)
  clear c0 c2
  refine wp_region_held_drew (S:=fun w'=>w'.heap[xb]?=some (.cells #[.int .i64 x.k,.bool x.s,.int .i64 x.m,.int .i64 x.h,.int .i64 x.lo,.int .i64 x.hi] 57)) (by kernel_rfl) XU (fun _=>?_)
  refine wpAnyH_tk 0 ?k1v rfl ?k1y ?k1r
  case k1y=>(intro w hSw;(try dsimp only at hSw);go_simp;try with_reducible rfl)
  try simp only[Act.put,List.getElem_toArray,List.getElem_cons_zero,List.setIfInBounds_toArray,List.set_cons_zero,List.set_cons_succ]
  refine wpAnyH_tk 1 ?k2v rfl ?k2y ?k2r
  case k2y=>(intro w hSw;(try dsimp only at hSw);go_simp;try with_reducible rfl)
  try simp only[Act.put,List.getElem_toArray,List.getElem_cons_zero,List.getElem_cons_succ,List.setIfInBounds_toArray,List.set_cons_zero,List.set_cons_succ]
  refine wpAnyH_tk 3 ?k3v rfl ?k3y ?k3r
  case k3y=>(intro w hSw;(try dsimp only at hSw);go_simp;try with_reducible rfl)
  try simp only[Act.put,List.getElem_toArray,List.getElem_cons_zero,List.getElem_cons_succ,List.setIfInBounds_toArray,List.set_cons_zero,List.set_cons_succ]
  refine wpAnyH_tk 4 ?k4v rfl ?k4y ?k4r
  case k4y=>(intro w hSw;(try dsimp only at hSw);go_simp;try with_reducible rfl)
  try simp only[Act.put,List.getElem_toArray,List.getElem_cons_zero,List.getElem_cons_succ,List.setIfInBounds_toArray,List.set_cons_zero,List.set_cons_succ]
  refine wpAnyH_tk 6 ?k5v rfl ?k5y ?k5r
  case k5y=>(intro w hSw;(try dsimp only at hSw);go_simp;try with_reducible rfl)
  try simp only[Act.put,List.getElem_toArray,List.getElem_cons_zero,List.getElem_cons_succ,List.setIfInBounds_toArray,List.set_cons_zero,List.set_cons_succ]
  refine wpAnyH_tk 7 ?k6v rfl ?k6y ?k6r
  case k6y=>(intro w hSw;(try dsimp only at hSw);go_simp;try with_reducible rfl)
  try simp only[Act.put,List.getElem_toArray,List.getElem_cons_zero,List.getElem_cons_succ,List.setIfInBounds_toArray,List.set_cons_zero,List.set_cons_succ]
  refine wpAnyH_tk 9 ?k7v rfl ?k7y ?k7r
  case k7y=>(intro w hSw;(try dsimp only at hSw);go_simp;try with_reducible rfl)
  try simp only[Act.put,List.getElem_toArray,List.getElem_cons_zero,List.getElem_cons_succ,List.setIfInBounds_toArray,List.set_cons_zero,List.set_cons_succ]
  refine wpAnyH_tk 10 ?k8v rfl ?k8y ?k8r
  case k8y=>(intro w hSw;(try dsimp only at hSw);go_simp;try with_reducible rfl)
  try simp only[Act.put,List.getElem_toArray,List.getElem_cons_zero,List.getElem_cons_succ,List.setIfInBounds_toArray,List.set_cons_zero,List.set_cons_succ]
  obtain⟨v0,hv0,hbd,XV⟩:∃y,u.drew=y/\Below u.heap.size u y/\y.heap[xb]?=some (.cells #[.int .i64 x.k,.bool x.s,.int .i64 x.m,.int .i64 x.h,.int .i64 x.lo,.int .i64 x.hi] 57):=⟨_,rfl,(Below.refl _ _).drew,XU⟩
  rw[hv0]
  have B0:Hid (Below w.heap.size w v0):=BU.out.trans (hbd.mono BU.out.size)
  have X0:Hid (v0.heap[xb]?=some (.cells #[.int .i64 x.k,.bool x.s,.int .i64 x.m,.int .i64 x.h,.int .i64 x.lo,.int .i64 x.hi] 57)):=XV
  clear hv0 hbd XV
  refine wpAnyH_ready (rs:=[2]) (by kernel_rfl) (by simp) ?_
  refine AllReadyH.cons rfl (fun KK hK=>?_) AllReadyH.nil
  go_simp
  refine(digitsOf_any (k:Int) (by omega) _ (TBH.out.p _ (B0.out.mono (Nat.le_of_lt lt)))).mono ?_
  rintro e v1⟨rfl,hb⟩
  have B1:Hid (Below w.heap.size w v1):=B0.out.trans (hb.mono B0.out.size)
  have X1:Hid (v1.heap[xb]?=some (.cells #[.int .i64 x.k,.bool x.s,.int .i64 x.m,.int .i64 x.h,.int .i64 x.lo,.int .i64 x.hi] 57)):=(hb.block xb (Array.getElem?_eq_some_iff.1 X0.out).1).trans X0.out
  refine hK.out _ _ X1.out (fun _=>?_)
  clear hK KK hb
  try simp only[Act.put,List.getElem_toArray,List.getElem_cons_zero,List.getElem_cons_succ,List.setIfInBounds_toArray,List.set_cons_zero,List.set_cons_succ]
  refine wpAnyH_ready (rs:=[5]) (by kernel_rfl) (by simp) ?_
  refine AllReadyH.cons rfl (fun KK hK=>?_) AllReadyH.nil
  go_simp
  refine(digitsOf_any x.h (by omega) _ (TBH.out.p _ (B1.out.mono (Nat.le_of_lt lt)))).mono ?_
  rintro e v2⟨rfl,hb⟩
  have B2:Hid (Below w.heap.size w v2):=B1.out.trans (hb.mono B1.out.size)
  have X2:Hid (v2.heap[xb]?=some (.cells #[.int .i64 x.k,.bool x.s,.int .i64 x.m,.int .i64 x.h,.int .i64 x.lo,.int .i64 x.hi] 57)):=(hb.block xb (Array.getElem?_eq_some_iff.1 X1.out).1).trans X1.out
  refine hK.out _ _ X2.out (fun _=>?_)
  clear hK KK hb
  try simp only[Act.put,List.getElem_toArray,List.getElem_cons_zero,List.getElem_cons_succ,List.setIfInBounds_toArray,List.set_cons_zero,List.set_cons_succ]
  refine wpAnyH_ready (rs:=[8]) (by kernel_rfl) (by simp) ?_
  refine AllReadyH.cons rfl (fun KK hK=>?_) AllReadyH.nil
  go_simp
  refine(digitsOf_any x.lo (by omega) _ (TBH.out.p _ (B2.out.mono (Nat.le_of_lt lt)))).mono ?_
  rintro e v3⟨rfl,hb⟩
  have B3:Hid (Below w.heap.size w v3):=B2.out.trans (hb.mono B2.out.size)
  have X3:Hid (v3.heap[xb]?=some (.cells #[.int .i64 x.k,.bool x.s,.int .i64 x.m,.int .i64 x.h,.int .i64 x.lo,.int .i64 x.hi] 57)):=(hb.block xb (Array.getElem?_eq_some_iff.1 X2.out).1).trans X2.out
  refine hK.out _ _ X3.out (fun _=>?_)
  clear hK KK hb
  try simp only[Act.put,List.getElem_toArray,List.getElem_cons_zero,List.getElem_cons_succ,List.setIfInBounds_toArray,List.set_cons_zero,List.set_cons_succ]
  refine wpAnyH_ready (rs:=[11]) (by kernel_rfl) (by simp) ?_
  refine AllReadyH.cons rfl (fun KK hK=>?_) AllReadyH.nil
  go_simp
  refine(digitsOf_any x.hi (by omega) _ (TBH.out.p _ (B3.out.mono (Nat.le_of_lt lt)))).mono ?_
  rintro e v4⟨rfl,hb⟩
  have B4:Hid (Below w.heap.size w v4):=B3.out.trans (hb.mono B3.out.size)
  have X4:Hid (v4.heap[xb]?=some (.cells #[.int .i64 x.k,.bool x.s,.int .i64 x.m,.int .i64 x.h,.int .i64 x.lo,.int .i64 x.hi] 57)):=(hb.block xb (Array.getElem?_eq_some_iff.1 X3.out).1).trans X3.out
  refine hK.out _ _ X4.out (fun _=>?_)
  clear hK KK hb;try simp only[Act.put,List.getElem_toArray,List.getElem_cons_zero,List.getElem_cons_succ,List.setIfInBounds_toArray,List.set_cons_zero,List.set_cons_succ]
  refine wpAnyH_ready (rs:=[12]) (by kernel_rfl) (by simp) ?_
  refine AllReadyH.cons rfl (fun KK hK=>?_) AllReadyH.nil
  go_simp
  obtain⟨v9,hv9,hb9,hf9⟩:∃y,v4.alloc (.cells ([bs [114,101,103],bs (Lib.itoa (k:Int)),bs [112,116,114],bs (Lib.itoa x.h),bs (Lib.itoa x.lo),bs (Lib.itoa x.hi)].map Value.string).toArray 9)=y/\Below v4.heap.size v4 y/\(∀(j:Nat)q,[bs [114,101,103],bs (Lib.itoa (k:Int)),bs [112,116,114],bs (Lib.itoa x.h),bs (Lib.itoa x.lo),bs (Lib.itoa x.hi)][j]?=some q->y.cell? ⟨v4.heap.size,j,none⟩=some (.string q)):=⟨_,rfl,(Below.refl _ _).alloc (Nat.le_refl _) _,fields_new _ _⟩
  have zb:v4.heap.size<v9.heap.size:=by rw[<-hv9];simp
  show KK _ (v4.alloc (.cells ([bs [114,101,103],bs (Lib.itoa (k:Int)),bs [112,116,114],bs (Lib.itoa x.h),bs (Lib.itoa x.lo),bs (Lib.itoa x.hi)].map Value.string).toArray 9))
  rw[hv9]
  have X9:Hid (v9.heap[xb]?=some (.cells #[.int .i64 x.k,.bool x.s,.int .i64 x.m,.int .i64 x.h,.int .i64 x.lo,.int .i64 x.hi] 57)):=(hb9.block xb (Array.getElem?_eq_some_iff.1 X4.out).1).trans X4.out
  have B9:Hid (Below w.heap.size w v9):=B4.out.trans (hb9.mono B4.out.size)
  have F9:Hid _:=hf9
  refine hK.out _ _ X9.out (fun _=>?_)
  clear hK KK hb9 hf9 hv9
  try simp only[Act.put,List.getElem_toArray,List.getElem_cons_zero,List.getElem_cons_succ,List.setIfInBounds_toArray,List.set_cons_zero,List.set_cons_succ]
  refine wpAnyH_ready (rs:=[13]) (by kernel_rfl) (by simp) ?_
  refine AllReadyH.cons rfl (fun KK hK=>?_) AllReadyH.nil
  go_simp
  refine(addLine_any pb sb v t v4.heap.size 6 [bs [114,101,103],bs (Lib.itoa (k:Int)),bs [112,116,114],bs (Lib.itoa x.h),bs (Lib.itoa x.lo),bs (Lib.itoa x.hi)] v9 (H.out.below B9.out) F9.out zb (by simp) (by simp) (by rw[HLN.out];omega) (by omega)).mono ?_
  rintro e w9⟨rfl,v',n1,n2⟩
  rw[HLN.out]at n1
  have N1:Hid (PW pb sb v' (t++regT k x) w9):=n1
  have N2:Hid (PF pb w w9):=(PF.of_below B9.out (Nat.le_of_lt lt)).trans n2
  refine hK.out _ _ (n2.cl X9.out (by omega) (by decide)) (fun _=>?_)
  clear hK KK n1 n2
  try simp only[Act.put,List.getElem_toArray,List.getElem_cons_zero,List.getElem_cons_succ,List.setIfInBounds_toArray,List.set_cons_zero,List.set_cons_succ]
  refine wpAnyH_done (by kernel_rfl) ?_ _
  go_wp2_with fail
  go_end0
  exact⟨rfl,v',N1.out,N2.out⟩
 have e1:(x.k==1)=false:=by simp[hk1]
 have hkk:Hid (¬x.k=1):=hk1
 clear hk1
 by_cases hm1:x.m= -1
 ·have e2:(x.m== -1)=true:=by simp[hm1]
  have hmm:Hid (x.m= -1):=hm1
  clear hm1
  go_upto_region 5 with fail
  have r0:∀w':World,w'.heap[xb]?=some (.cells #[.int .i64 x.k,.bool x.s,.int .i64 x.m,.int .i64 x.h,.int .i64 x.lo,.int .i64 x.hi] 57)->w'.cell? ⟨xb,0,none⟩=some (.int .i64 x.k):=fun w' h=>heap_cell h 0
  have r1:∀w':World,w'.heap[xb]?=some (.cells #[.int .i64 x.k,.bool x.s,.int .i64 x.m,.int .i64 x.h,.int .i64 x.lo,.int .i64 x.hi] 57)->w'.cell? ⟨xb,1,none⟩=some (.bool x.s):=fun w' h=>heap_cell h 1
  have r2:∀w':World,w'.heap[xb]?=some (.cells #[.int .i64 x.k,.bool x.s,.int .i64 x.m,.int .i64 x.h,.int .i64 x.lo,.int .i64 x.hi] 57)->w'.cell? ⟨xb,2,none⟩=some (.int .i64 x.m):=fun w' h=>heap_cell h 2
  have r3:∀w':World,w'.heap[xb]?=some (.cells #[.int .i64 x.k,.bool x.s,.int .i64 x.m,.int .i64 x.h,.int .i64 x.lo,.int .i64 x.hi] 57)->w'.cell? ⟨xb,3,none⟩=some (.int .i64 x.h):=fun w' h=>heap_cell h 3
  have r4:∀w':World,w'.heap[xb]?=some (.cells #[.int .i64 x.k,.bool x.s,.int .i64 x.m,.int .i64 x.h,.int .i64 x.lo,.int .i64 x.hi] 57)->w'.cell? ⟨xb,4,none⟩=some (.int .i64 x.lo):=fun w' h=>heap_cell h 4
  have r5:∀w':World,w'.heap[xb]?=some (.cells #[.int .i64 x.k,.bool x.s,.int .i64 x.m,.int .i64 x.h,.int .i64 x.lo,.int .i64 x.hi] 57)->w'.cell? ⟨xb,5,none⟩=some (.int .i64 x.hi):=fun w' h=>heap_cell h 5
  have HLN:Hid (lnT [bs [114,101,103],bs (Lib.itoa (k:Int)),bs [97,110,121],bs (wordT x.s)]=regT k x):=(by
   rw[lnT4]
   unfold regT
   rw[if_neg hkk.out,if_pos hmm.out]
   simp only[List.append_assoc,List.cons_append,List.nil_append]:lnT [bs [114,101,103],bs (Lib.itoa (k:Int)),bs [97,110,121],bs (wordT x.s)]=regT k x)
  clear c0 c2
  refine wp_region_held_drew (S:=fun w'=>w'.heap[xb]?=some (.cells #[.int .i64 x.k,.bool x.s,.int .i64 x.m,.int .i64 x.h,.int .i64 x.lo,.int .i64 x.hi] 57)) (by kernel_rfl) XU (fun _=>?_)
  refine wpAnyH_tk 0 ?k9v rfl ?k9y ?k9r
  case k9y=>(intro w hSw;(try dsimp only at hSw);go_simp;try with_reducible rfl)
  try simp only[Act.put,List.getElem_toArray,List.getElem_cons_zero,List.setIfInBounds_toArray,List.set_cons_zero,List.set_cons_succ]
  refine wpAnyH_tk 1 ?k10v rfl ?k10y ?k10r
  case k10y=>(intro w hSw;(try dsimp only at hSw);go_simp;try with_reducible rfl)
  try simp only[Act.put,List.getElem_toArray,List.getElem_cons_zero,List.getElem_cons_succ,List.setIfInBounds_toArray,List.set_cons_zero,List.set_cons_succ]
  refine wpAnyH_tk 3 ?k11v rfl ?k11y ?k11r
  case k11y=>(intro w hSw;(try dsimp only at hSw);go_simp;try with_reducible rfl)
  try simp only[Act.put,List.getElem_toArray,List.getElem_cons_zero,List.getElem_cons_succ,List.setIfInBounds_toArray,List.set_cons_zero,List.set_cons_succ]
  refine wpAnyH_tk 4 ?k12v rfl ?k12y ?k12r
  case k12y=>(intro w hSw;(try dsimp only at hSw);go_simp;try with_reducible rfl)
  try simp only[Act.put,List.getElem_toArray,List.getElem_cons_zero,List.getElem_cons_succ,List.setIfInBounds_toArray,List.set_cons_zero,List.set_cons_succ]
  obtain⟨v0,hv0,hbd,XV⟩:∃y,u.drew=y/\Below u.heap.size u y/\y.heap[xb]?=some (.cells #[.int .i64 x.k,.bool x.s,.int .i64 x.m,.int .i64 x.h,.int .i64 x.lo,.int .i64 x.hi] 57):=⟨_,rfl,(Below.refl _ _).drew,XU⟩
  rw[hv0]
  have B0:Hid (Below w.heap.size w v0):=BU.out.trans (hbd.mono BU.out.size)
  have X0:Hid (v0.heap[xb]?=some (.cells #[.int .i64 x.k,.bool x.s,.int .i64 x.m,.int .i64 x.h,.int .i64 x.lo,.int .i64 x.hi] 57)):=XV
  clear hv0 hbd XV
  refine wpAnyH_ready (rs:=[2]) (by kernel_rfl) (by simp) ?_
  refine AllReadyH.cons rfl (fun KK hK=>?_) AllReadyH.nil
  go_simp
  refine(digitsOf_any (k:Int) (by omega) _ (TBH.out.p _ (B0.out.mono (Nat.le_of_lt lt)))).mono ?_
  rintro e v1⟨rfl,hb⟩
  have B1:Hid (Below w.heap.size w v1):=B0.out.trans (hb.mono B0.out.size)
  have X1:Hid (v1.heap[xb]?=some (.cells #[.int .i64 x.k,.bool x.s,.int .i64 x.m,.int .i64 x.h,.int .i64 x.lo,.int .i64 x.hi] 57)):=(hb.block xb (Array.getElem?_eq_some_iff.1 X0.out).1).trans X0.out
  refine hK.out _ _ X1.out (fun _=>?_)
  clear hK KK hb
  try simp only[Act.put,List.getElem_toArray,List.getElem_cons_zero,List.getElem_cons_succ,List.setIfInBounds_toArray,List.set_cons_zero,List.set_cons_succ]
  refine wpAnyH_ready (rs:=[5]) (by kernel_rfl) (by simp) ?_
  refine AllReadyH.cons rfl (fun KK hK=>?_) AllReadyH.nil
  go_simp
  refine(level_word x.s _ (TBH.out.a _ (B1.out.mono (Nat.le_of_lt lt)))).mono ?_
  rintro e v2⟨rfl,hb⟩
  have B2:Hid (Below w.heap.size w v2):=B1.out.trans (hb.mono B1.out.size)
  have X2:Hid (v2.heap[xb]?=some (.cells #[.int .i64 x.k,.bool x.s,.int .i64 x.m,.int .i64 x.h,.int .i64 x.lo,.int .i64 x.hi] 57)):=(hb.block xb (Array.getElem?_eq_some_iff.1 X1.out).1).trans X1.out
  refine hK.out _ _ X2.out (fun _=>?_)
  clear hK KK hb
  try simp only[Act.put,List.getElem_toArray,List.getElem_cons_zero,List.getElem_cons_succ,List.setIfInBounds_toArray,List.set_cons_zero,List.set_cons_succ]
  refine wpAnyH_ready (rs:=[6]) (by kernel_rfl) (by simp) ?_
  refine AllReadyH.cons rfl (fun KK hK=>?_) AllReadyH.nil
  go_simp
  obtain⟨v9,hv9,hb9,hf9⟩:∃y,v2.alloc (.cells ([bs [114,101,103],bs (Lib.itoa (k:Int)),bs [97,110,121],bs (wordT x.s)].map Value.string).toArray 9)=y/\Below v2.heap.size v2 y/\(∀(j:Nat)q,[bs [114,101,103],bs (Lib.itoa (k:Int)),bs [97,110,121],bs (wordT x.s)][j]?=some q->y.cell? ⟨v2.heap.size,j,none⟩=some (.string q)):=⟨_,rfl,(Below.refl _ _).alloc (Nat.le_refl _) _,fields_new _ _⟩
  have zb:v2.heap.size<v9.heap.size:=by rw[<-hv9];simp
  show KK _ (v2.alloc (.cells ([bs [114,101,103],bs (Lib.itoa (k:Int)),bs [97,110,121],bs (wordT x.s)].map Value.string).toArray 9))
  rw[hv9]
  have X9:Hid (v9.heap[xb]?=some (.cells #[.int .i64 x.k,.bool x.s,.int .i64 x.m,.int .i64 x.h,.int .i64 x.lo,.int .i64 x.hi] 57)):=(hb9.block xb (Array.getElem?_eq_some_iff.1 X2.out).1).trans X2.out
  have B9:Hid (Below w.heap.size w v9):=B2.out.trans (hb9.mono B2.out.size)
  have F9:Hid _:=hf9
  refine hK.out _ _ X9.out (fun _=>?_)
  clear hK KK hb9 hf9 hv9
  try simp only[Act.put,List.getElem_toArray,List.getElem_cons_zero,List.getElem_cons_succ,List.setIfInBounds_toArray,List.set_cons_zero,List.set_cons_succ]
  refine wpAnyH_ready (rs:=[7]) (by kernel_rfl) (by simp) ?_
  refine AllReadyH.cons rfl (fun KK hK=>?_) AllReadyH.nil
  go_simp
  refine(addLine_any pb sb v t v2.heap.size 4 [bs [114,101,103],bs (Lib.itoa (k:Int)),bs [97,110,121],bs (wordT x.s)] v9 (H.out.below B9.out) F9.out zb (by simp) (by simp) (by rw[HLN.out];omega) (by omega)).mono ?_
  rintro e w9⟨rfl,v',n1,n2⟩
  rw[HLN.out]at n1
  have N1:Hid (PW pb sb v' (t++regT k x) w9):=n1
  have N2:Hid (PF pb w w9):=(PF.of_below B9.out (Nat.le_of_lt lt)).trans n2
  refine hK.out _ _ (n2.cl X9.out (by omega) (by decide)) (fun _=>?_)
  clear hK KK n1 n2
  try simp only[Act.put,List.getElem_toArray,List.getElem_cons_zero,List.getElem_cons_succ,List.setIfInBounds_toArray,List.set_cons_zero,List.set_cons_succ]
  refine wpAnyH_done (by kernel_rfl) ?_ _
  go_wp2_with fail
  go_end0
  exact⟨rfl,v',N1.out,N2.out⟩
 have e2:(x.m== -1)=false:=by simp[hm1]
 have hmm:Hid (¬x.m= -1):=hm1
 clear hm1
 go_upto_region 1 with fail
 have r0:∀w':World,w'.heap[xb]?=some (.cells #[.int .i64 x.k,.bool x.s,.int .i64 x.m,.int .i64 x.h,.int .i64 x.lo,.int .i64 x.hi] 57)->w'.cell? ⟨xb,0,none⟩=some (.int .i64 x.k):=fun w' h=>heap_cell h 0
 have r1:∀w':World,w'.heap[xb]?=some (.cells #[.int .i64 x.k,.bool x.s,.int .i64 x.m,.int .i64 x.h,.int .i64 x.lo,.int .i64 x.hi] 57)->w'.cell? ⟨xb,1,none⟩=some (.bool x.s):=fun w' h=>heap_cell h 1
 have r2:∀w':World,w'.heap[xb]?=some (.cells #[.int .i64 x.k,.bool x.s,.int .i64 x.m,.int .i64 x.h,.int .i64 x.lo,.int .i64 x.hi] 57)->w'.cell? ⟨xb,2,none⟩=some (.int .i64 x.m):=fun w' h=>heap_cell h 2
 have r3:∀w':World,w'.heap[xb]?=some (.cells #[.int .i64 x.k,.bool x.s,.int .i64 x.m,.int .i64 x.h,.int .i64 x.lo,.int .i64 x.hi] 57)->w'.cell? ⟨xb,3,none⟩=some (.int .i64 x.h):=fun w' h=>heap_cell h 3
 have r4:∀w':World,w'.heap[xb]?=some (.cells #[.int .i64 x.k,.bool x.s,.int .i64 x.m,.int .i64 x.h,.int .i64 x.lo,.int .i64 x.hi] 57)->w'.cell? ⟨xb,4,none⟩=some (.int .i64 x.lo):=fun w' h=>heap_cell h 4
 have r5:∀w':World,w'.heap[xb]?=some (.cells #[.int .i64 x.k,.bool x.s,.int .i64 x.m,.int .i64 x.h,.int .i64 x.lo,.int .i64 x.hi] 57)->w'.cell? ⟨xb,5,none⟩=some (.int .i64 x.hi):=fun w' h=>heap_cell h 5
 have HLN:Hid (lnT [bs [114,101,103],bs (Lib.itoa (k:Int)),bs (Lib.itoa x.m),bs (wordT x.s)]=regT k x):=(by
  rw[lnT4]
  unfold regT
  rw[if_neg hkk.out,if_neg hmm.out]
  simp only[List.append_assoc,List.cons_append,List.nil_append]:lnT [bs [114,101,103],bs (Lib.itoa (k:Int)),bs (Lib.itoa x.m),bs (wordT x.s)]=regT k x)
 clear c0 c2
 refine wp_region_held_drew (S:=fun w'=>w'.heap[xb]?=some (.cells #[.int .i64 x.k,.bool x.s,.int .i64 x.m,.int .i64 x.h,.int .i64 x.lo,.int .i64 x.hi] 57)) (by kernel_rfl) XU (fun _=>?_)
 refine wpAnyH_tk 0 ?k13v rfl ?k13y ?k13r
 case k13y=>(intro w hSw;(try dsimp only at hSw);go_simp;try with_reducible rfl)
 try simp only[Act.put,List.getElem_toArray,List.getElem_cons_zero,List.setIfInBounds_toArray,List.set_cons_zero,List.set_cons_succ]
 refine wpAnyH_tk 1 ?k14v rfl ?k14y ?k14r
 case k14y=>(intro w hSw;(try dsimp only at hSw);go_simp;try with_reducible rfl)
 try simp only[Act.put,List.getElem_toArray,List.getElem_cons_zero,List.getElem_cons_succ,List.setIfInBounds_toArray,List.set_cons_zero,List.set_cons_succ]
 refine wpAnyH_tk 3 ?k15v rfl ?k15y ?k15r
 case k15y=>(intro w hSw;(try dsimp only at hSw);go_simp;try with_reducible rfl)
 try simp only[Act.put,List.getElem_toArray,List.getElem_cons_zero,List.getElem_cons_succ,List.setIfInBounds_toArray,List.set_cons_zero,List.set_cons_succ]
 refine wpAnyH_tk 4 ?k16v rfl ?k16y ?k16r
 case k16y=>(intro w hSw;(try dsimp only at hSw);go_simp;try with_reducible rfl)
 try simp only[Act.put,List.getElem_toArray,List.getElem_cons_zero,List.getElem_cons_succ,List.setIfInBounds_toArray,List.set_cons_zero,List.set_cons_succ]
 refine wpAnyH_tk 6 ?k17v rfl ?k17y ?k17r
 case k17y=>(intro w hSw;(try dsimp only at hSw);go_simp;try with_reducible rfl)
 try simp only[Act.put,List.getElem_toArray,List.getElem_cons_zero,List.getElem_cons_succ,List.setIfInBounds_toArray,List.set_cons_zero,List.set_cons_succ]
 refine wpAnyH_tk 7 ?k18v rfl ?k18y ?k18r
 case k18y=>(intro w hSw;(try dsimp only at hSw);go_simp;try with_reducible rfl)
 try simp only[Act.put,List.getElem_toArray,List.getElem_cons_zero,List.getElem_cons_succ,List.setIfInBounds_toArray,List.set_cons_zero,List.set_cons_succ]
 obtain⟨v0,hv0,hbd,XV⟩:∃y,u.drew=y/\Below u.heap.size u y/\y.heap[xb]?=some (.cells #[.int .i64 x.k,.bool x.s,.int .i64 x.m,.int .i64 x.h,.int .i64 x.lo,.int .i64 x.hi] 57):=⟨_,rfl,(Below.refl _ _).drew,XU⟩
 rw[hv0]
 have B0:Hid (Below w.heap.size w v0):=BU.out.trans (hbd.mono BU.out.size)
 have X0:Hid (v0.heap[xb]?=some (.cells #[.int .i64 x.k,.bool x.s,.int .i64 x.m,.int .i64 x.h,.int .i64 x.lo,.int .i64 x.hi] 57)):=XV
 clear hv0 hbd XV
 refine wpAnyH_ready (rs:=[2]) (by kernel_rfl) (by simp) ?_
 refine AllReadyH.cons rfl (fun KK hK=>?_) AllReadyH.nil
 go_simp
 refine(digitsOf_any (k:Int) (by omega) _ (TBH.out.p _ (B0.out.mono (Nat.le_of_lt lt)))).mono ?_
 rintro e v1⟨rfl,hb⟩
 have B1:Hid (Below w.heap.size w v1):=B0.out.trans (hb.mono B0.out.size)
 have X1:Hid (v1.heap[xb]?=some (.cells #[.int .i64 x.k,.bool x.s,.int .i64 x.m,.int .i64 x.h,.int .i64 x.lo,.int .i64 x.hi] 57)):=(hb.block xb (Array.getElem?_eq_some_iff.1 X0.out).1).trans X0.out
 refine hK.out _ _ X1.out (fun _=>?_)
 clear hK KK hb
 try simp only[Act.put,List.getElem_toArray,List.getElem_cons_zero,List.getElem_cons_succ,List.setIfInBounds_toArray,List.set_cons_zero,List.set_cons_succ]
 refine wpAnyH_ready (rs:=[5]) (by kernel_rfl) (by simp) ?_
 refine AllReadyH.cons rfl (fun KK hK=>?_) AllReadyH.nil
 go_simp
 refine(digitsOf_any x.m (by omega) _ (TBH.out.p _ (B1.out.mono (Nat.le_of_lt lt)))).mono ?_
 rintro e v2⟨rfl,hb⟩
 have B2:Hid (Below w.heap.size w v2):=B1.out.trans (hb.mono B1.out.size)
 have X2:Hid (v2.heap[xb]?=some (.cells #[.int .i64 x.k,.bool x.s,.int .i64 x.m,.int .i64 x.h,.int .i64 x.lo,.int .i64 x.hi] 57)):=(hb.block xb (Array.getElem?_eq_some_iff.1 X1.out).1).trans X1.out
 refine hK.out _ _ X2.out (fun _=>?_)
 clear hK KK hb
 try simp only[Act.put,List.getElem_toArray,List.getElem_cons_zero,List.getElem_cons_succ,List.setIfInBounds_toArray,List.set_cons_zero,List.set_cons_succ]
 refine wpAnyH_ready (rs:=[8]) (by kernel_rfl) (by simp) ?_
 refine AllReadyH.cons rfl (fun KK hK=>?_) AllReadyH.nil
 go_simp
 refine(level_word x.s _ (TBH.out.a _ (B2.out.mono (Nat.le_of_lt lt)))).mono ?_
 rintro e v3⟨rfl,hb⟩
 have B3:Hid (Below w.heap.size w v3):=B2.out.trans (hb.mono B2.out.size)
 have X3:Hid (v3.heap[xb]?=some (.cells #[.int .i64 x.k,.bool x.s,.int .i64 x.m,.int .i64 x.h,.int .i64 x.lo,.int .i64 x.hi] 57)):=(hb.block xb (Array.getElem?_eq_some_iff.1 X2.out).1).trans X2.out
 refine hK.out _ _ X3.out (fun _=>?_)
 clear hK KK hb
 try simp only[Act.put,List.getElem_toArray,List.getElem_cons_zero,List.getElem_cons_succ,List.setIfInBounds_toArray,List.set_cons_zero,List.set_cons_succ]
 refine wpAnyH_ready (rs:=[9]) (by kernel_rfl) (by simp) ?_
 refine AllReadyH.cons rfl (fun KK hK=>?_) AllReadyH.nil
 go_simp
 obtain⟨v9,hv9,hb9,hf9⟩:∃y,v3.alloc (.cells ([bs [114,101,103],bs (Lib.itoa (k:Int)),bs (Lib.itoa x.m),bs (wordT x.s)].map Value.string).toArray 9)=y/\Below v3.heap.size v3 y/\(∀(j:Nat)q,[bs [114,101,103],bs (Lib.itoa (k:Int)),bs (Lib.itoa x.m),bs (wordT x.s)][j]?=some q->y.cell? ⟨v3.heap.size,j,none⟩=some (.string q)):=⟨_,rfl,(Below.refl _ _).alloc (Nat.le_refl _) _,fields_new _ _⟩
 have zb:v3.heap.size<v9.heap.size:=by rw[<-hv9];simp
 show KK _ (v3.alloc (.cells ([bs [114,101,103],bs (Lib.itoa (k:Int)),bs (Lib.itoa x.m),bs (wordT x.s)].map Value.string).toArray 9))
 rw[hv9]
 have X9:Hid (v9.heap[xb]?=some (.cells #[.int .i64 x.k,.bool x.s,.int .i64 x.m,.int .i64 x.h,.int .i64 x.lo,.int .i64 x.hi] 57)):=(hb9.block xb (Array.getElem?_eq_some_iff.1 X3.out).1).trans X3.out
 have B9:Hid (Below w.heap.size w v9):=B3.out.trans (hb9.mono B3.out.size)
 have F9:Hid _:=hf9
 refine hK.out _ _ X9.out (fun _=>?_)
 clear hK KK hb9 hf9 hv9
 try simp only[Act.put,List.getElem_toArray,List.getElem_cons_zero,List.getElem_cons_succ,List.setIfInBounds_toArray,List.set_cons_zero,List.set_cons_succ]
 refine wpAnyH_ready (rs:=[10]) (by kernel_rfl) (by simp) ?_
 refine AllReadyH.cons rfl (fun KK hK=>?_) AllReadyH.nil
 go_simp
 refine(addLine_any pb sb v t v3.heap.size 4 [bs [114,101,103],bs (Lib.itoa (k:Int)),bs (Lib.itoa x.m),bs (wordT x.s)] v9 (H.out.below B9.out) F9.out zb (by simp) (by simp) (by rw[HLN.out];omega) (by omega)).mono ?_
 rintro e w9⟨rfl,v',n1,n2⟩
 rw[HLN.out]at n1
 have N1:Hid (PW pb sb v' (t++regT k x) w9):=n1
 have N2:Hid (PF pb w w9):=(PF.of_below B9.out (Nat.le_of_lt lt)).trans n2
 refine hK.out _ _ (n2.cl X9.out (by omega) (by decide)) (fun _=>?_)
 clear hK KK n1 n2
 try simp only[Act.put,List.getElem_toArray,List.getElem_cons_zero,List.getElem_cons_succ,List.setIfInBounds_toArray,List.set_cons_zero,List.set_cons_succ]
 refine wpAnyH_done (by kernel_rfl) ?_ _
 go_wp2_with fail
 go_end0
 exact⟨rfl,v',N1.out,N2.out⟩
end Go.Proofs.YtiphbmhoifggiaaGreatDoor
