import Derived.Test.YtiphbmhoifggiaaGreatDoorOfRegT
import Derived.Test.YtiphbmhoifggiaaGreatDoorInsLeaf
import Derived.Deep.Cut
import Derived.Deep.RegionHeld3
import Derived.Lib.ItoaNum
set_option maxHeartbeats 800000
set_option maxRecDepth 4000
namespace Go.Proofs.YtiphbmhoifggiaaGreatDoor
open Go.RowKit
theorem conv_at(w:World)(b:Nat)(c:Int)(h0:0<=c)(h1:c<256)(h:w.cell? ⟨b,0,none⟩=some (.int .u8 c)):
 (convert 30 9 (.slice (some ⟨b,0,none⟩) 1 1)).run Tryz.prog w=.ok (.string ⟨#[UInt8.ofNat c.toNat]⟩) w:=
 run_convert_bytes_back (P:=Tryz.prog) _ 30 9 5 ⟨b,0,none⟩ 1 [UInt8.ofNat c.toNat] Tryz.underlying30 Tryz.underlying5 Tryz.underlying9 (fun j hj=>by
  obtain rfl:j=0:=by simpa using hj
  refine h.trans ?_;simp;omega)
theorem conv_one(w:World)(c:Int)(h0:0<=c)(h1:c<256):
 (convert 30 9 (.slice (some ⟨w.heap.size,0,none⟩) 1 1)).run Tryz.prog (w.alloc (.cells #[.int .u8 c] 5))=.ok (.string ⟨#[UInt8.ofNat c.toNat]⟩) (w.alloc (.cells #[.int .u8 c] 5)):=
 run_convert_bytes_back (P:=Tryz.prog) _ 30 9 5 ⟨w.heap.size,0,none⟩ 1 [UInt8.ofNat c.toNat] Tryz.underlying30 Tryz.underlying5 Tryz.underlying9 (fun j hj=>by
  obtain rfl:j=0:=by simpa using hj
  simp[go_sem];omega)
def digS(x:Int):ByteArray:=⟨(Lib.itoa x).toArray⟩
theorem digS_lt(n:Nat)(h:n<10):digS n=⟨#[UInt8.ofNat (48+n)]⟩:=by
 unfold digS Lib.itoa;rw[if_neg (by omega)];simp[Lib.decDigits_one h]
theorem digS_ge(n:Nat)(h:¬n<10):digS n=digS ((n/10:Nat):Int)++⟨#[UInt8.ofNat (48+n%10)]⟩:=by
 unfold digS Lib.itoa;rw[if_neg (by omega),if_neg (by omega)];simp only[Int.toNat_natCast];rw[Lib.decDigits,dif_neg h];exact ByteArray.ext (by simp)
theorem hst(r:Nat):UInt8.ofNat (48+(r:Int)).toNat=UInt8.ofNat (48+r):=by congr 1
theorem dec_length(n:Nat):(Lib.decDigits n).length<=n+1:=by
 induction n using Nat.strongRecOn with
 |ind n ih=>
  rw[Lib.decDigits];by_cases h:n<10
  ·rw[dif_pos h];simp
  ·rw[dif_neg h]
   have:=ih (n/10) (by omega);simp;omega
theorem digS_size(x:Int):(digS x).size<=x.natAbs+2:=by
 unfold digS Lib.itoa;split
 ·have:=dec_length x.natAbs
  simp[ByteArray.size];omega
 ·have:=dec_length x.toNat
  simp[ByteArray.size];omega
theorem digS_neg(x:Int)(h:x<0):digS x=⟨#[45]⟩++digS (-x):=by
 unfold digS Lib.itoa;rw[if_pos h,if_neg (by omega)];have e:(-x).toNat=x.natAbs:=by omega
 rw[e];exact ByteArray.ext (by simp)
theorem digits_nat(n:Nat):n<4000000000000000000->∀w:World,
 Calls Tryz.prog 18 #[.int .i64 n] w fun e w'=>e=.returned (.string (digS n))/\Below w.heap.size w w':=by
 induction n using Nat.strongRecOn with
 |ind n ih=>
 intro hn w
 by_cases h:n<10
 ·rw[digS_lt n h]
  have h0:(n:Int)<10:=by omega
  have h1:(0:Int)<=n:=by omega
  clear h hn ih
  go_enter Tryz.func18,Tryz.ntmps18
  go_upto_region 4 with fail
  have hcv:=conv_one w (48+n) (by omega) (by omega)
  have h2:(48+(n:Int))%256=48+n:=by omega
  go_wp2
  go_ret
  exact⟨rfl,(Below.refl _ _).alloc (Nat.le_refl _) _⟩
 ·rw[digS_ge n h]
  have h0:(10:Int)<=n:=by omega
  have h1:(0:Int)<=n:=by omega
  obtain⟨q,hq⟩:∃q,q=n/10:=⟨_,rfl⟩
  obtain⟨r,hr⟩:∃r,r=n%10:=⟨_,rfl⟩
  rw[<-hq,<-hr]
  have hsz:¬9223372036854775807<(digS q).size+1:=by have:=digS_size q;omega
  have hr1:(0:Int)<=r:=by omega
  have hr2:(r:Int)<10:=by omega
  have IH:Hid (∀w:World,Calls Tryz.prog 18 #[.int .i64 q] w fun e w'=>e=.returned (.string (digS q))/\Below w.heap.size w w'):=fun w=>ih q (by omega) (by omega) w
  have HN:Hid (n<4000000000000000000):=hn
  clear ih h hn
  have HQ:Hid (q=n/10):=hq
  have HR:Hid (r=n%10):=hr
  clear hq hr
  go_enter Tryz.func18,Tryz.ntmps18
  go_upto_region 5 with fail
  have hq:=HQ.out
  have hr:=HR.out
  have hq1:Int.tdiv (n:Int) 10=q:=by rw[hq];exact Int.ofNat_tdiv n 10|>.symm
  have hr3:Int.tmod (n:Int) 10=r:=by rw[hr];exact Int.ofNat_tmod n 10|>.symm
  have h2:IntKind.u8.wrap (48+(r:Int))=48+r:=by rw[IntKind.wrap_u8];omega
  have h3:IntKind.i64.wrap (48+(r:Int))=48+r:=by rw[IntKind.wrap_i64];omega
  have hnn:=HN.out
  have h4:IntKind.i64.wrap (q:Int)=q:=by rw[IntKind.wrap_i64];omega
  clear hnn
  clear hq hr
  refine wp_region_held_drew (S:=fun w'=>Below w.heap.size w w') (by kernel_rfl) (Below.refl _ _).drew (fun _=>?_)
  refine wpAnyH_tk 0 ?k1v rfl ?k1y ?k1r
  case k1y=>(intro w hSw;(try dsimp only at hSw);go_simp;try with_reducible rfl)
  try go_frame
  refine wpAnyH_tk 1 ?k2v rfl ?k2y ?k2r
  case k2y=>(intro w hSw;(try dsimp only at hSw);go_simp;try with_reducible rfl)
  try go_frame
  refine wpAnyH_tk 3 ?k3v rfl ?k3y ?k3r
  case k3y=>(intro w hSw;(try dsimp only at hSw);go_simp;try with_reducible rfl)
  try go_frame
  refine wpAnyH_tk 4 ?k4v rfl ?k4y ?k4r
  case k4y=>(intro w hSw;(try dsimp only at hSw);go_simp;try with_reducible rfl)
  try go_frame
  refine wpAnyH_tk 5 ?k5v rfl ?k5y ?k5r
  case k5y=>(intro w hSw;(try dsimp only at hSw);go_simp;try with_reducible rfl)
  try go_frame
  refine wpAnyH_tk 6 ?k6v rfl ?k6y ?k6r
  case k6y=>(intro w hSw;(try dsimp only at hSw);go_simp;try with_reducible rfl)
  try go_frame
  obtain⟨u,hu,hbd⟩:∃u,w.drew=u/\Below w.heap.size w u:=⟨_,rfl,(Below.refl _ _).drew⟩
  rw[hu]
  clear hu
  refine wpAnyH_ready (rs:=[2,7]) (by kernel_rfl) (by simp) ?_
  refine AllReadyH.cons rfl (fun KK hK=>?_) (AllReadyH.cons rfl (fun KK hK=>?_) AllReadyH.nil)
  ·go_simp
   refine(IH.out _).mono ?_
   rintro e w1⟨rfl,hb⟩
   have hB1:Below w.heap.size w w1:=hbd.trans (hb.mono hbd.size)
   refine hK.out _ _ hB1 (fun _=>?_)
   clear hK KK
   try simp only[Act.put,List.getElem_toArray,List.getElem_cons_zero,List.getElem_cons_succ,List.setIfInBounds_toArray,List.set_cons_zero,List.set_cons_succ]
   refine wpAnyH_ready (rs:=[7]) (by kernel_rfl) (by simp) ?_
   refine AllReadyH.cons rfl (fun KK hK=>?_) AllReadyH.nil
   go_simp
   refine hK.out _ _ (hB1.alloc hB1.size _) (fun _=>?_)
   clear hK KK
   try simp only[Act.put,List.getElem_toArray,List.getElem_cons_zero,List.getElem_cons_succ,List.setIfInBounds_toArray,List.set_cons_zero,List.set_cons_succ]
   have hcv:=conv_one w1 (48+r) (by omega) (by omega)
   refine wpAnyH_ready (rs:=[8]) (by kernel_rfl) (by simp) ?_
   refine AllReadyH.cons rfl (fun KK hK=>?_) AllReadyH.nil
   go_simp
   refine hK.out _ _ (hB1.alloc hB1.size _) (fun _=>?_)
   clear hK KK
   try simp only[Act.put,List.getElem_toArray,List.getElem_cons_zero,List.getElem_cons_succ,List.setIfInBounds_toArray,List.set_cons_zero,List.set_cons_succ]
   refine wpAnyH_tk 9 ?k7v rfl ?k7y ?k7r
   case k7y=>(intro w hSw;(try dsimp only at hSw);go_simp;try with_reducible rfl)
   try simp only[Act.put,List.getElem_toArray,List.getElem_cons_zero,List.getElem_cons_succ,List.setIfInBounds_toArray,List.set_cons_zero,List.set_cons_succ]
   refine wpAnyH_tk 10 ?k8v rfl ?k8y ?k8r
   case k8y=>(intro w hSw;(try dsimp only at hSw);go_simp;try with_reducible rfl)
   try simp only[Act.put,List.getElem_toArray,List.getElem_cons_zero,List.getElem_cons_succ,List.setIfInBounds_toArray,List.set_cons_zero,List.set_cons_succ]
   refine wpAnyH_done (by kernel_rfl) ?_ _
   go_wp2_with fail
   go_ret
   exact⟨by rw[hst r];rfl,hB1.alloc hB1.size _⟩
  ·go_simp
   refine hK.out _ _ (hbd.alloc hbd.size _) (fun _=>?_)
   clear hK KK
   try simp only[Act.put,List.getElem_toArray,List.getElem_cons_zero,List.getElem_cons_succ,List.setIfInBounds_toArray,List.set_cons_zero,List.set_cons_succ]
   have hcv:=conv_one u (48+r) (by omega) (by omega)
   refine wpAnyH_ready (rs:=[2,8]) (by kernel_rfl) (by simp) ?_
   refine AllReadyH.cons rfl (fun KK hK=>?_) (AllReadyH.cons rfl (fun KK hK=>?_) AllReadyH.nil)
   ·go_simp
    refine(IH.out _).mono ?_
    rintro e w1⟨rfl,hb⟩
    have hB0:Below w.heap.size w (u.alloc (.cells #[.int .u8 (48+r)] 5)):=hbd.alloc hbd.size _
    have hB1:Below w.heap.size w w1:=hB0.trans (hb.mono hB0.size)
    have hcv1:=conv_at w1 u.heap.size (48+r) (by omega) (by omega) ((hb.cell (p:=⟨u.heap.size,0,none⟩) (by simp[go_sem])).trans (by simp[go_sem]))
    refine hK.out _ _ hB1 (fun _=>?_)
    clear hK KK
    try simp only[Act.put,List.getElem_toArray,List.getElem_cons_zero,List.getElem_cons_succ,List.setIfInBounds_toArray,List.set_cons_zero,List.set_cons_succ]
    refine wpAnyH_ready (rs:=[8]) (by kernel_rfl) (by simp) ?_
    refine AllReadyH.cons rfl (fun KK hK=>?_) AllReadyH.nil
    go_simp
    refine hK.out _ _ hB1 (fun _=>?_)
    clear hK KK
    try simp only[Act.put,List.getElem_toArray,List.getElem_cons_zero,List.getElem_cons_succ,List.setIfInBounds_toArray,List.set_cons_zero,List.set_cons_succ]
    refine wpAnyH_tk 9 ?k9v rfl ?k9y ?k9r
    case k9y=>(intro w hSw;(try dsimp only at hSw);go_simp;try with_reducible rfl)
    try simp only[Act.put,List.getElem_toArray,List.getElem_cons_zero,List.getElem_cons_succ,List.setIfInBounds_toArray,List.set_cons_zero,List.set_cons_succ]
    refine wpAnyH_tk 10 ?k10v rfl ?k10y ?k10r
    case k10y=>(intro w hSw;(try dsimp only at hSw);go_simp;try with_reducible rfl)
    try simp only[Act.put,List.getElem_toArray,List.getElem_cons_zero,List.getElem_cons_succ,List.setIfInBounds_toArray,List.set_cons_zero,List.set_cons_succ]
    refine wpAnyH_done (by kernel_rfl) ?_ _
    go_wp2_with fail
    go_ret
    exact⟨by rw[hst r];rfl,hB1⟩
   ·go_simp
    refine hK.out _ _ (hbd.alloc hbd.size _) (fun _=>?_)
    clear hK KK
    try simp only[Act.put,List.getElem_toArray,List.getElem_cons_zero,List.getElem_cons_succ,List.setIfInBounds_toArray,List.set_cons_zero,List.set_cons_succ]
    refine wpAnyH_ready (rs:=[2]) (by kernel_rfl) (by simp) ?_
    refine AllReadyH.cons rfl (fun KK hK=>?_) AllReadyH.nil
    go_simp
    refine(IH.out _).mono ?_
    rintro e w1⟨rfl,hb⟩
    have hB0:Below w.heap.size w (u.alloc (.cells #[.int .u8 (48+r)] 5)):=hbd.alloc hbd.size _
    have hB1:Below w.heap.size w w1:=hB0.trans (hb.mono hB0.size)
    refine hK.out _ _ hB1 (fun _=>?_)
    clear hK KK
    try simp only[Act.put,List.getElem_toArray,List.getElem_cons_zero,List.getElem_cons_succ,List.setIfInBounds_toArray,List.set_cons_zero,List.set_cons_succ]
    refine wpAnyH_tk 9 ?k11v rfl ?k11y ?k11r
    case k11y=>(intro w hSw;(try dsimp only at hSw);go_simp;try with_reducible rfl)
    try simp only[Act.put,List.getElem_toArray,List.getElem_cons_zero,List.getElem_cons_succ,List.setIfInBounds_toArray,List.set_cons_zero,List.set_cons_succ]
    refine wpAnyH_tk 10 ?k12v rfl ?k12y ?k12r
    case k12y=>(intro w hSw;(try dsimp only at hSw);go_simp;try with_reducible rfl)
    try simp only[Act.put,List.getElem_toArray,List.getElem_cons_zero,List.getElem_cons_succ,List.setIfInBounds_toArray,List.set_cons_zero,List.set_cons_succ]
    refine wpAnyH_done (by kernel_rfl) ?_ _
    go_wp2_with fail
    go_ret
    exact⟨by rw[hst r];rfl,hB1⟩
theorem digits_big(x:Int)(h:x.natAbs<4000000000000000000)(w:World):
 Calls Tryz.prog 18 #[.int .i64 x] w fun e w'=>e=.returned (.string (digS x))/\Below w.heap.size w w':=by
 by_cases hx:x<0
 ·rw[digS_neg x hx]
  obtain⟨n,hn⟩:∃n:Nat,-x=n:=⟨x.natAbs,by omega⟩
  have hw:IntKind.i64.wrap (-x)=n:=by rw[IntKind.wrap_i64];omega
  have hsz:¬9223372036854775807<1+(digS n).size:=by have:=digS_size n;omega
  have HD:Hid (∀w,Calls Tryz.prog 18 #[.int .i64 n] w fun e w'=>e=.returned (.string (digS n))/\Below w.heap.size w w'):=digits_nat n (by omega);rw[hn];clear h hn;go_enter Tryz.func18,Tryz.ntmps18;go_wp2_with fail;refine(HD.out _).mono ?_;rintro e w1⟨rfl,hb⟩;go_wp2_with fail;go_ret;exact⟨rfl,hb⟩
 ·obtain⟨n,rfl⟩:∃n:Nat,x=n:=⟨x.toNat,by omega⟩
  exact digits_nat n (by omega) w
theorem digits_any(x:Int)(h:x.natAbs<1000001)(w:World):
 Calls Tryz.prog 18 #[.int .i64 x] w fun e w'=>e=.returned (.string (digS x))/\Below w.heap.size w w':=digits_big x (by omega) w
end Go.Proofs.YtiphbmhoifggiaaGreatDoor
