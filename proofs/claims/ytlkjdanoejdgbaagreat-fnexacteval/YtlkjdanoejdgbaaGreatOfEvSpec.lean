import Derived.Test.YtlkjdanoejdgbaaGreatOfEvAns
import Derived.Test.YtlkjdanoejdgbaaGreatSpecAny
set_option maxHeartbeats 32000000
set_option maxRecDepth 20000
namespace Go.Proofs.YtlkjdanoejdgbaaGreat
open Go.RowKit
theorem l3Going_any(p:Pl)(fu:Int)(r:RV)(w:World):
 Calls Tryz.prog 25 #[.agg #[.slice (some ⟨p.bR,0,none⟩) 8 p.cR,.bool r.M.z,.bool r.M.c,.bool r.M.hz,.bool r.M.hc,.slice p.aH r.M.nH p.cH,.int .i64 r.M.pc,.int .i64 r.M.st,.slice p.aO r.M.nO p.cO,.int .i64 r.used,.int .i64 fu,.bool r.out]] w fun e w'=>e=.returned (.bool (r.goB))/\Below w.heap.size w w':=by
 obtain⟨M,used,out⟩:=r;dsimp only;cases out with
 |true=>
  go_enter Tryz.func25,Tryz.ntmps25;go_wp2;go_ret;exact⟨by simp[RV.goB],(Below.refl _ _).alloc (Nat.le_refl _) _⟩
 |false=>
  go_enter Tryz.func25,Tryz.ntmps25;go_wp2;go_ret;exact⟨ret_bool (by rw[Bool.eq_iff_iff];simp[RV.goB]),(Below.refl _ _).alloc (Nat.le_refl _) _⟩
theorem l3Spend_any(p:Pl)(fu:Int)(r:RV)(w:World)(u0:0<=r.used)(u1:r.used<=fu)(hf:fu<=40000):
 Calls Tryz.prog 46 #[.agg #[.slice (some ⟨p.bR,0,none⟩) 8 p.cR,.bool r.M.z,.bool r.M.c,.bool r.M.hz,.bool r.M.hc,.slice p.aH r.M.nH p.cH,.int .i64 r.M.pc,.int .i64 r.M.st,.slice p.aO r.M.nO p.cO,.int .i64 r.used,.int .i64 fu,.bool r.out]] w fun e w'=>e=.returned (.agg (rA p fu (spR fu r)))/\Below w.heap.size w w':=by
 obtain⟨M,used,out⟩:=r
 dsimp only at u0 u1⊢
 by_cases h:used=fu
 ·subst h
  rw[show spR used ⟨M,used,out⟩=⟨M,used,true⟩from if_pos rfl]
  try dsimp only
  go_enter Tryz.func46,Tryz.ntmps46
  go_wp2
  refine bodyPost_ret (v:=.agg #[.slice (some ⟨p.bR,0,none⟩) 8 p.cR,.bool M.z,.bool M.c,.bool M.hz,.bool M.hc,.slice p.aH M.nH p.cH,.int .i64 M.pc,.int .i64 M.st,.slice p.aO M.nO p.cO,.int .i64 used,.int .i64 used,.bool true]) (by simp[results,Tryz.results46,go_sem]) rfl ⟨rfl,?_⟩
  repeat'(first|exact(Below.refl _ _).alloc (Nat.le_refl _) _|refine Below.setCell ?_ (by simp) _|refine Below.alloc ?_ (by simp) _)
 ·have e1:(used==fu)=false:=by simp[h]
  rw[show spR fu ⟨M,used,out⟩=⟨M,used+1,out⟩from if_neg h]
  try dsimp only
  clear h
  go_enter Tryz.func46,Tryz.ntmps46
  go_wp2
  refine bodyPost_ret (v:=.agg #[.slice (some ⟨p.bR,0,none⟩) 8 p.cR,.bool M.z,.bool M.c,.bool M.hz,.bool M.hc,.slice p.aH M.nH p.cH,.int .i64 M.pc,.int .i64 M.st,.slice p.aO M.nO p.cO,.int .i64 (used+1),.int .i64 fu,.bool out]) (by simp[results,Tryz.results46,go_sem]) rfl ⟨rfl,?_⟩
  repeat'(first|exact(Below.refl _ _).alloc (Nat.le_refl _) _|refine Below.setCell ?_ (by simp) _|refine Below.alloc ?_ (by simp) _)
theorem run_end{w u v:World}{base q z:Nat}{fu:Int}{p:Pl}{r:RV}(h:EW w base q fu u p r){cs:Array Value}(hz:u.heap[z]?=some (.cells cs 54))(hl:w.heap.size<=z)(f:Ft z u v):Mem v base p r.M/\Below base w v/\Kept w v:=
 ⟨h.M.off f hz (by decide) (by decide) (by decide) (by decide),below_ft h.B f (Nat.le_trans h.bs h.B.size) (Nat.le_trans h.bs hl),h.K.ft h.B.size f hl⟩
theorem l3Look_any(base:Nat)(p:Pl)(fu:Int)(r:RV)(c:Int)(w:World)(h0:Mem w base p r.M)(hb:base<=w.heap.size)(hn:r.M.nO<=1048575)(v0:0<=r.used)(v1:r.used<=fu)(hf:fu<=40000)(ho:r.out=false):
 Calls Tryz.prog 48 #[.agg #[.slice (some ⟨p.bR,0,none⟩) 8 p.cR,.bool r.M.z,.bool r.M.c,.bool r.M.hz,.bool r.M.hc,.slice p.aH r.M.nH p.cH,.int .i64 r.M.pc,.int .i64 r.M.st,.slice p.aO r.M.nO p.cO,.int .i64 r.used,.int .i64 fu,.bool r.out],.int .i64 c] w fun e w'=>∃p',e=.returned (.tuple #[.agg (rA p' fu (lookR fu c r).1),.bool (lookR fu c r).2])/\Mem w' base p' (lookR fu c r).1.M/\Below base w w'/\Kept w w':=by
 have H0:Hid (Mem w base p r.M):=h0
 have HO:Hid (r.out=false):=ho
 clear h0 ho
 go_enter Tryz.func48,Tryz.ntmps48
 go_upto_region 1 with fail
 obtain⟨u0,hu0,e0,zb⟩:∃y,(w.alloc (.cells #[.slice (some ⟨p.bR,0,none⟩) 8 p.cR,.bool r.M.z,.bool r.M.c,.bool r.M.hz,.bool r.M.hc,.slice p.aH r.M.nH p.cH,.int .i64 r.M.pc,.int .i64 r.M.st,.slice p.aO r.M.nO p.cO,.int .i64 r.used,.int .i64 fu,.bool r.out] 54)).alloc (.cells #[.slice none 0 0,.bool false,.bool false,.bool false,.bool false,.slice none 0 0,.int .i64 0,.int .i64 0,.slice none 0 0,.int .i64 0,.int .i64 0,.bool false] 54)=y/\EW w base w.heap.size fu y p r/\y.heap[w.heap.size+1]?=some (.cells zA 54):=by
  have b0:Below w.heap.size w ((w.alloc (.cells #[.slice (some ⟨p.bR,0,none⟩) 8 p.cR,.bool r.M.z,.bool r.M.c,.bool r.M.hz,.bool r.M.hc,.slice p.aH r.M.nH p.cH,.int .i64 r.M.pc,.int .i64 r.M.st,.slice p.aO r.M.nO p.cO,.int .i64 r.used,.int .i64 fu,.bool r.out] 54)).alloc (.cells #[.slice none 0 0,.bool false,.bool false,.bool false,.bool false,.slice none 0 0,.int .i64 0,.int .i64 0,.slice none 0 0,.int .i64 0,.int .i64 0,.bool false] 54)):=((Below.refl _ _).alloc (Nat.le_refl _) _).alloc (by simp) _
  exact⟨_,rfl,⟨b0.mono hb,Kept.below b0,(Below.heap_alloc _ _ _ (by simp)).trans (eq_new _ _),H0.out.below b0,Nat.le_refl _,hb⟩,by have:=eq_new (w.alloc (.cells #[.slice (some ⟨p.bR,0,none⟩) 8 p.cR,.bool r.M.z,.bool r.M.c,.bool r.M.hz,.bool r.M.hc,.slice p.aH r.M.nH p.cH,.int .i64 r.M.pc,.int .i64 r.M.st,.slice p.aO r.M.nO p.cO,.int .i64 r.used,.int .i64 fu,.bool r.out] 54)) (.cells zA 54);rw[World.size_alloc]at this;exact this⟩
 rw[hu0]
 have E0:Hid (EW w base w.heap.size fu u0 p r):=e0
 have Z0:Hid (u0.heap[w.heap.size+1]?=some (.cells zA 54)):=zb
 clear hu0 e0 zb H0
 obtain⟨c0,c1,c2,c3,c4,c5,c6,c7,c8,c9,c10,c11⟩:=E0.out.cells
 have lq:=E0.out.lt
 go_wp2_with fail
 refine(l3Spend_any p fu r u0 v0 v1 hf).mono ?_
 rintro e u1⟨rfl,b1⟩
 have E1:Hid (EW w base w.heap.size fu u1 p r):=E0.out.below b1
 have Z1:Hid (u1.heap[w.heap.size+1]?=some (.cells zA 54)):=(b1.block _ (Array.getElem?_eq_some_iff.1 Z0.out).1).trans Z0.out
 clear E0 Z0 b1 c0 c1 c2 c3 c4 c5 c6 c7 c8 c9 c10 c11 lq
 obtain⟨M,used,out⟩:=r
 dsimp only at hn v0 v1⊢
 obtain rfl:out=false:=HO.out
 clear HO
 by_cases h:used=fu
 ·have HL:Hid (lookR fu c ⟨M,used,false⟩=(⟨M,used,true⟩,false)):=if_pos h
  rw[show spR fu ⟨M,used,false⟩=⟨M,used,true⟩from if_pos h]
  try dsimp only
  clear h
  go_wp2_with(refine wpList_store_at rfl 54 (.tmp 2) (.tmp 10) rfl w.heap.size _ _ 54 rfl rfl E1.out.Q ?_ ?_ ?_ ?_;exact(Nat.le_refl 12);exact run_info;exact rA_one _ _ _;intro u2 hq2 f2 z2)
  unfold Hid
  rw[put_rr]at hq2
  have E2:Hid (EW w base w.heap.size fu u2 p ⟨M,used,true⟩):=E1.out.put (Below.refl _ _) (Kept.below (Below.refl _ _)) E1.out.M f2 hq2
  have Z2:Hid (u2.heap[w.heap.size+1]?=some (.cells zA 54)):=(f2.block _ (Array.getElem?_eq_some_iff.1 Z1.out).1 (by omega)).trans Z1.out
  clear hq2 f2 z2 E1 Z1
  obtain⟨c0,c1,c2,c3,c4,c5,c6,c7,c8,c9,c10,c11⟩:=E2.out.cells
  have lq:=E2.out.lt
  dsimp only at c0 c1 c2 c3 c4 c5 c6 c7 c8 c9 c10 c11
  clear c0 c1 c2 c3 c4 c5 c6 c7 c8 c9 c10 lq
  go_wp2_with(first|(refine wpList_load_at rfl 54 (.tmp 2) rfl w.heap.size _ 54 _ rfl E2.out.Q Tryz.underlying54 rfl run_info ?_)|(refine wpList_store_at rfl 54 (.tmp 4) (.tmp 13) rfl (w.heap.size+1) _ _ 54 rfl rfl Z2.out ?_ ?_ ?_ ?_;exact(Nat.le_refl 12);exact run_info;exact rA_one _ _ _;intro u6 hq6 f6 z6))
  unfold Hid
  rw[put_zr]at hq6
  have X6:Hid _:=hq6
  have E6:Hid _:=run_end E2.out Z2.out (by omega) f6
  clear hq6 f6 z6 E2 Z2
  go_wp2
  refine bodyPost_ret (v:=.tuple #[.agg (rA p fu ⟨M,used,true⟩),.bool false]) (results_two rfl _ _ (w.heap.size+1) _ _ rfl rfl (load_at X6.out 54 _ Tryz.underlying54 rfl run_info)) rfl ⟨p,by rw[HL.out],?_⟩
  rw[HL.out]
  exact E6.out
 ·have HL:Hid (lookR fu c ⟨M,used,false⟩=(⟨lookM c M,used+1,false⟩,hasC c M&&holdC c M)):=if_neg h
  rw[show spR fu ⟨M,used,false⟩=⟨M,used+1,false⟩from if_neg h]
  try dsimp only
  clear h
  go_wp2_with(refine wpList_store_at rfl 54 (.tmp 2) (.tmp 10) rfl w.heap.size _ _ 54 rfl rfl E1.out.Q ?_ ?_ ?_ ?_;exact(Nat.le_refl 12);exact run_info;exact rA_one _ _ _;intro u2 hq2 f2 z2)
  unfold Hid
  rw[put_rr]at hq2
  have E2:Hid (EW w base w.heap.size fu u2 p ⟨M,used+1,false⟩):=E1.out.put (Below.refl _ _) (Kept.below (Below.refl _ _)) E1.out.M f2 hq2
  have Z2:Hid (u2.heap[w.heap.size+1]?=some (.cells zA 54)):=(f2.block _ (Array.getElem?_eq_some_iff.1 Z1.out).1 (by omega)).trans Z1.out
  clear hq2 f2 z2 E1 Z1
  obtain⟨c0,c1,c2,c3,c4,c5,c6,c7,c8,c9,c10,c11⟩:=E2.out.cells
  have lq:=E2.out.lt
  dsimp only at c0 c1 c2 c3 c4 c5 c6 c7 c8 c9 c10 c11
  go_wp2_with fail
  refine(l1Cond_any _ _ _ _ _ _ _ _ _ _ _ _ _ _ _ _ u2).mono ?_
  rintro e u3⟨rfl,b3⟩
  rw[show(if c<=2 then#[Value.bool M.hz,.bool (M.z==decide (c=1))]else#[.bool M.hc,.bool (M.c==decide (c=3))])=#[.bool (hasC c M),.bool (holdC c M)]by unfold hasC holdC;split<;>rfl]
  have E3:Hid (EW w base w.heap.size fu u3 p ⟨M,used+1,false⟩):=E2.out.below b3
  have Z3:Hid (u3.heap[w.heap.size+1]?=some (.cells zA 54)):=(b3.block _ (Array.getElem?_eq_some_iff.1 Z2.out).1).trans Z2.out
  clear b3 E2 Z2 c0 c1 c2 c3 c4 c5 c6 c7 c8 c9 c10 c11 lq
  obtain⟨hh,ehh⟩:∃x,hasC c M=x:=⟨_,rfl⟩
  obtain⟨ho,eho⟩:∃x,holdC c M=x:=⟨_,rfl⟩
  rw[ehh,eho]
  obtain⟨c0,c1,c2,c3,c4,c5,c6,c7,c8,c9,c10,c11⟩:=E3.out.cells
  have lq:=E3.out.lt
  dsimp only at c0 c1 c2 c3 c4 c5 c6 c7 c8 c9 c10 c11
  cases hh with
  |false=>
   have HM:Hid (lookM c M=M.fault/\(hasC c M&&holdC c M)=false):=⟨by unfold lookM;rw[ehh];rfl,by rw[ehh];rfl⟩
   clear ehh eho
   go_wp2_with fail
   refine(l1Fault_any _ _ _ _ _ _ _ _ _ _ _ _ _ _ _ u3).mono ?_
   rintro e u4⟨he,b4⟩
   obtain rfl:e=.returned (.agg (mA p M.fault)):=he
   have E4:Hid (EW w base w.heap.size fu u4 p ⟨M,used+1,false⟩):=E3.out.below b4
   have Z4:Hid (u4.heap[w.heap.size+1]?=some (.cells zA 54)):=(b4.block _ (Array.getElem?_eq_some_iff.1 Z3.out).1).trans Z3.out
   clear b4 E3 Z3 c0 c1 c2 c3 c4 c5 c6 c7 c8 c9 c10 c11 lq
   go_wp2_with(refine wpList_store_at rfl 33 (.tmp 26) (.tmp 25) rfl w.heap.size _ _ 54 rfl rfl E4.out.Q ?_ ?_ ?_ ?_;exact(show 9<=12 by decide);exact mach_info;exact mA_one _ _;intro u5 hq5 f5 z5)
   unfold Hid
   rw[put_rm]at hq5
   have E5:Hid (EW w base w.heap.size fu u5 p ⟨M.fault,used+1,false⟩):=E4.out.put (Below.refl _ _) (Kept.below (Below.refl _ _)) E4.out.M.faulted f5 hq5
   have Z5:Hid (u5.heap[w.heap.size+1]?=some (.cells zA 54)):=(f5.block _ (Array.getElem?_eq_some_iff.1 Z4.out).1 (by omega)).trans Z4.out
   clear hq5 f5 z5 E4 Z4
   go_wp2_with(first|(refine wpList_load_at rfl 54 (.tmp 2) rfl w.heap.size _ 54 _ rfl E5.out.Q Tryz.underlying54 rfl run_info ?_)|(refine wpList_store_at rfl 54 (.tmp 4) (.tmp 27) rfl (w.heap.size+1) _ _ 54 rfl rfl Z5.out ?_ ?_ ?_ ?_;exact(Nat.le_refl 12);exact run_info;exact rA_one _ _ _;intro u6 hq6 f6 z6))
   unfold Hid
   rw[put_zr]at hq6
   have X6:Hid _:=hq6
   have E6:Hid _:=run_end E5.out Z5.out (by omega) f6
   clear hq6 f6 z6 E5 Z5
   go_wp2
   refine bodyPost_ret (v:=.tuple #[.agg (rA p fu ⟨M.fault,used+1,false⟩),.bool false]) (results_two rfl _ _ (w.heap.size+1) _ _ rfl rfl (load_at X6.out 54 _ Tryz.underlying54 rfl run_info)) rfl ⟨p,by rw[HL.out,HM.out.1,HM.out.2],?_⟩
   rw[HL.out,HM.out.1]
   exact E6.out
  |true=>
   have HM:Hid (lookM c M=M.see 2 (if ho then 0 else 1)/\(hasC c M&&holdC c M)=ho):=⟨by unfold lookM;rw[ehh,eho];rfl,by rw[ehh,eho];rfl⟩
   clear ehh eho
   obtain⟨sv,hsv⟩:∃x:Int,(if ho then 0 else 1)=x:=⟨_,rfl⟩
   rw[hsv]at HM
   cases ho with
   |true=>
    obtain rfl:(0:Int)=sv:=hsv
    go_wp2_with fail
    refine(l1See_any base (first (M.nO*2) (obsF M.K M.V)) _ _ _ _ _ _ _ _ _ _ _ _ _ _ _ 2 0 u3 (show M.nO<=1048576 by omega) (Nat.le_trans E3.out.bs E3.out.B.size) E3.out.M.obs).mono ?_
    rintro e u4⟨g,cap,he,ow,gr⟩
    obtain rfl:e=.returned (.agg (mA {p with aO:=some ⟨g,0,none⟩,cO:=cap} (M.see 2 0))):=he
    have M4:Hid (Mem u4 base {p with aO:=some ⟨g,0,none⟩,cO:=cap} (M.see 2 0)):=Mem.see E3.out.M ow gr
    have K4:Hid (Kept u3 u4):=Kept.grown E3.out.M gr
    have B4:Hid (Below base u3 u4):=(Below.refl _ _).grown gr (Nat.le_trans E3.out.bs E3.out.B.size) (fun k hk=>(E3.out.M.obs.lt k hk).1)
    have Q4:Hid _:=E3.out.kept K4.out
    have Z4:Hid (u4.heap[w.heap.size+1]?=some (.cells zA 54)):=(K4.out _ _ _ _ Z3.out (by decide) (by decide) (by decide) (by decide)).trans Z3.out
    clear ow gr c0 c1 c2 c3 c4 c5 c6 c7 c8 c9 c10 c11 lq
    go_wp2_with(refine wpList_store_at rfl 33 (.tmp 33) (.tmp 32) rfl w.heap.size _ _ 54 rfl rfl Q4.out ?_ ?_ ?_ ?_;exact(show 9<=12 by decide);exact mach_info;exact mA_one _ _;intro u5 hq5 f5 z5)
    unfold Hid
    rw[put_rm]at hq5
    have E5:Hid (EW w base w.heap.size fu u5 {p with aO:=some ⟨g,0,none⟩,cO:=cap} ⟨M.see 2 0,used+1,false⟩):=E3.out.put B4.out K4.out M4.out f5 hq5
    have Z5:Hid (u5.heap[w.heap.size+1]?=some (.cells zA 54)):=(f5.block _ (Array.getElem?_eq_some_iff.1 Z4.out).1 (by omega)).trans Z4.out
    clear hq5 f5 z5 E3 Z3 M4 K4 B4 Q4 Z4
    go_wp2_with(first|(refine wpList_load_at rfl 54 (.tmp 2) rfl w.heap.size _ 54 _ rfl E5.out.Q Tryz.underlying54 rfl run_info ?_)|(refine wpList_store_at rfl 54 (.tmp 4) (.tmp 34) rfl (w.heap.size+1) _ _ 54 rfl rfl Z5.out ?_ ?_ ?_ ?_;exact(Nat.le_refl 12);exact run_info;exact rA_one _ _ _;intro u6 hq6 f6 z6))
    unfold Hid
    rw[put_zr]at hq6
    have X6:Hid _:=hq6
    have E6:Hid _:=run_end E5.out Z5.out (by omega) f6
    clear hq6 f6 z6 E5 Z5
    go_wp2
    refine bodyPost_ret (v:=.tuple #[.agg (rA {p with aO:=some ⟨g,0,none⟩,cO:=cap} fu ⟨(M.see 2 0),used+1,false⟩),.bool true]) (results_two rfl _ _ (w.heap.size+1) _ _ rfl rfl (load_at X6.out 54 _ Tryz.underlying54 rfl run_info)) rfl ⟨{p with aO:=some ⟨g,0,none⟩,cO:=cap},by rw[HL.out,HM.out.1,HM.out.2],?_⟩
    rw[HL.out,HM.out.1]
    exact E6.out
   |false=>
    obtain rfl:(1:Int)=sv:=hsv
    go_wp2_with fail
    refine(l1See_any base (first (M.nO*2) (obsF M.K M.V)) _ _ _ _ _ _ _ _ _ _ _ _ _ _ _ 2 1 u3 (show M.nO<=1048576 by omega) (Nat.le_trans E3.out.bs E3.out.B.size) E3.out.M.obs).mono ?_
    rintro e u4⟨g,cap,he,ow,gr⟩
    obtain rfl:e=.returned (.agg (mA {p with aO:=some ⟨g,0,none⟩,cO:=cap} (M.see 2 1))):=he
    have M4:Hid (Mem u4 base {p with aO:=some ⟨g,0,none⟩,cO:=cap} (M.see 2 1)):=Mem.see E3.out.M ow gr
    have K4:Hid (Kept u3 u4):=Kept.grown E3.out.M gr
    have B4:Hid (Below base u3 u4):=(Below.refl _ _).grown gr (Nat.le_trans E3.out.bs E3.out.B.size) (fun k hk=>(E3.out.M.obs.lt k hk).1)
    have Q4:Hid _:=E3.out.kept K4.out
    have Z4:Hid (u4.heap[w.heap.size+1]?=some (.cells zA 54)):=(K4.out _ _ _ _ Z3.out (by decide) (by decide) (by decide) (by decide)).trans Z3.out
    clear ow gr c0 c1 c2 c3 c4 c5 c6 c7 c8 c9 c10 c11 lq
    go_wp2_with(refine wpList_store_at rfl 33 (.tmp 33) (.tmp 32) rfl w.heap.size _ _ 54 rfl rfl Q4.out ?_ ?_ ?_ ?_;exact(show 9<=12 by decide);exact mach_info;exact mA_one _ _;intro u5 hq5 f5 z5)
    unfold Hid
    rw[put_rm]at hq5
    have E5:Hid (EW w base w.heap.size fu u5 {p with aO:=some ⟨g,0,none⟩,cO:=cap} ⟨M.see 2 1,used+1,false⟩):=E3.out.put B4.out K4.out M4.out f5 hq5
    have Z5:Hid (u5.heap[w.heap.size+1]?=some (.cells zA 54)):=(f5.block _ (Array.getElem?_eq_some_iff.1 Z4.out).1 (by omega)).trans Z4.out
    clear hq5 f5 z5 E3 Z3 M4 K4 B4 Q4 Z4
    go_wp2_with(first|(refine wpList_load_at rfl 54 (.tmp 2) rfl w.heap.size _ 54 _ rfl E5.out.Q Tryz.underlying54 rfl run_info ?_)|(refine wpList_store_at rfl 54 (.tmp 4) (.tmp 34) rfl (w.heap.size+1) _ _ 54 rfl rfl Z5.out ?_ ?_ ?_ ?_;exact(Nat.le_refl 12);exact run_info;exact rA_one _ _ _;intro u6 hq6 f6 z6))
    unfold Hid
    rw[put_zr]at hq6
    have X6:Hid _:=hq6
    have E6:Hid _:=run_end E5.out Z5.out (by omega) f6
    clear hq6 f6 z6 E5 Z5
    go_wp2
    refine bodyPost_ret (v:=.tuple #[.agg (rA {p with aO:=some ⟨g,0,none⟩,cO:=cap} fu ⟨(M.see 2 1),used+1,false⟩),.bool false]) (results_two rfl _ _ (w.heap.size+1) _ _ rfl rfl (load_at X6.out 54 _ Tryz.underlying54 rfl run_info)) rfl ⟨{p with aO:=some ⟨g,0,none⟩,cO:=cap},by rw[HL.out,HM.out.1,HM.out.2],?_⟩
    rw[HL.out,HM.out.1]
    exact E6.out
theorem st_bl{u:World}{sb:Nat}{s:SV}(h:u.heap[sb]?=some (.cells #[.int .i64 s.k,.int .i64 s.op,.int .i64 s.d,.int .i64 s.a,.int .i64 s.b,.int .i64 s.imm,.int .i64 s.h,.int .i64 s.cond,.int .i64 s.thn,.int .i64 s.els,.int .i64 s.proc] 61)):u.cell? ⟨sb,0,none⟩=some (.int .i64 s.k)/\u.cell? ⟨sb,1,none⟩=some (.int .i64 s.op)/\u.cell? ⟨sb,2,none⟩=some (.int .i64 s.d)/\u.cell? ⟨sb,3,none⟩=some (.int .i64 s.a)/\u.cell? ⟨sb,4,none⟩=some (.int .i64 s.b)/\u.cell? ⟨sb,5,none⟩=some (.int .i64 s.imm)/\u.cell? ⟨sb,6,none⟩=some (.int .i64 s.h)/\u.cell? ⟨sb,7,none⟩=some (.int .i64 s.cond)/\u.cell? ⟨sb,8,none⟩=some (.int .i64 s.thn)/\u.cell? ⟨sb,9,none⟩=some (.int .i64 s.els)/\u.cell? ⟨sb,10,none⟩=some (.int .i64 s.proc):=
 ⟨eq_cell h 0,eq_cell h 1,eq_cell h 2,eq_cell h 3,eq_cell h 4,eq_cell h 5,eq_cell h 6,eq_cell h 7,eq_cell h 8,eq_cell h 9,eq_cell h 10⟩
def evM(q:Nat)(fu:Int)(hv:Value)(w:World):Nat:=match hv with
 |.bool true=>(fu-intOf ((w.cell? ⟨q,9,none⟩).getD undef)+1).toNat
 |_=>0
theorem evM_eq{w0 u:World}{base q:Nat}{fu:Int}{p:Pl}{r:RV}(h:EW w0 base q fu u p r)(b:Bool):evM q fu (.bool b) u=if b then(fu-r.used+1).toNat else 0:=by
 cases b with
 |false=>rfl
 |true=>unfold evM;rw[h.cells.2.2.2.2.2.2.2.2.2.1];rfl
def EvC(L:Nat->SV)(fu:Int)(Bd b n i te:Nat):Prop:=
 ∀(off len cap' base:Nat)(p:Pl)(r:RV)(w:World),len=te-i->(0<len->off=i*11)->len<=cap'->Arr w b (n*11) (stF L)->b<base->base<=w.heap.size->Mem w base p r.M->RGood fu Bd r->
  Calls Tryz.prog 23 #[.slice (some ⟨b,off,none⟩) len cap',.agg #[.slice (some ⟨p.bR,0,none⟩) 8 p.cR,.bool r.M.z,.bool r.M.c,.bool r.M.hz,.bool r.M.hc,.slice p.aH r.M.nH p.cH,.int .i64 r.M.pc,.int .i64 r.M.st,.slice p.aO r.M.nO p.cO,.int .i64 r.used,.int .i64 fu,.bool r.out]] w fun e w'=>∃p' r',e=.returned (.agg (rA p' fu r'))/\(Ev L fu i te r r'/\RGood fu Bd r')/\Mem w' base p' r'.M/\Below base w w'/\Kept w w'
theorem l3Eval_go(L:Nat->SV)(fu:Int)(Bd b n i te:Nat)(depth:Int)(hf:fu<=40000)(hB:Bd<=200000)(hit:i<=te)(hte:te<=n)(ln:n<=2000)(hck:(chk L 0 0 321 i te depth).1=0)
 (hI:∀i' te' d,i<=i'->i'<=te'->te'<=te->te'-i'<te-i->(chk L 0 0 321 i' te' d).1=0->EvC L fu Bd b n i' te'):EvC L fu Bd b n i te:=by
 intro off len cap' base p0 r0 w hlen hoff hcap hA hb0 hbs hM hG;have hl1:len<=te-i:=by omega
 have hl2:te-i<=len:=by omega
 have HOFF:Hid (0<len->off=i*11):=hoff;have HI:Hid _:=hI;have HCK:Hid ((chk L 0 0 321 i te depth).1=0):=hck;have HA:Hid (Arr w b (n*11) (stF L)):=hA;have HM:Hid (Mem w base p0 r0.M):=hM;have HG:Hid (RGood fu Bd r0):=hG;clear hlen hoff hI hck hA hM hG;go_enter Tryz.func23,Tryz.ntmps23;go_upto_region 1 with fail;obtain⟨u0,hu0,x0,zb⟩:∃y,(w.alloc (.cells #[.slice (some ⟨p0.bR,0,none⟩) 8 p0.cR,.bool r0.M.z,.bool r0.M.c,.bool r0.M.hz,.bool r0.M.hc,.slice p0.aH r0.M.nH p0.cH,.int .i64 r0.M.pc,.int .i64 r0.M.st,.slice p0.aO r0.M.nO p0.cO,.int .i64 r0.used,.int .i64 fu,.bool r0.out] 54)).alloc (.cells #[.slice none 0 0,.bool false,.bool false,.bool false,.bool false,.slice none 0 0,.int .i64 0,.int .i64 0,.slice none 0 0,.int .i64 0,.int .i64 0,.bool false] 54)=y/\EW w base w.heap.size fu y p0 r0/\y.heap[w.heap.size+1]?=some (.cells zA 54):=by
  have b0:Below w.heap.size w ((w.alloc (.cells #[.slice (some ⟨p0.bR,0,none⟩) 8 p0.cR,.bool r0.M.z,.bool r0.M.c,.bool r0.M.hz,.bool r0.M.hc,.slice p0.aH r0.M.nH p0.cH,.int .i64 r0.M.pc,.int .i64 r0.M.st,.slice p0.aO r0.M.nO p0.cO,.int .i64 r0.used,.int .i64 fu,.bool r0.out] 54)).alloc (.cells zA 54)):=((Below.refl _ _).alloc (Nat.le_refl _) _).alloc (by simp) _;exact⟨_,rfl,⟨b0.mono hbs,Kept.below b0,(Below.heap_alloc _ _ _ (by simp)).trans (eq_new _ _),HM.out.below b0,Nat.le_refl _,hbs⟩,by have:=eq_new (w.alloc (.cells #[.slice (some ⟨p0.bR,0,none⟩) 8 p0.cR,.bool r0.M.z,.bool r0.M.c,.bool r0.M.hz,.bool r0.M.hc,.slice p0.aH r0.M.nH p0.cH,.int .i64 r0.M.pc,.int .i64 r0.M.st,.slice p0.aO r0.M.nO p0.cO,.int .i64 r0.used,.int .i64 fu,.bool r0.out] 54)) (.cells zA 54);rw[World.size_alloc]at this;exact this⟩
 rw[hu0];have E0:Hid (EW w base w.heap.size fu u0 p0 r0):=x0;have Z0:Hid (u0.heap[w.heap.size+1]?=some (.cells zA 54)):=zb;clear hu0 x0 zb HM;go_wp2_with fail;go_loopw [5](fun iv wr=>∃(j:Nat)(pk:Pl)(rk:RV),i+j<=te/\iv=.int .i64 (j:Int)/\EW w base w.heap.size fu wr pk rk/\wr.heap[w.heap.size+1]?=some (.cells zA 54)/\RGood fu Bd rk/\(∀r',Ev L fu (i+j) te rk r'->Ev L fu i te r0 r')/\(chk L 0 0 321 (i+j) te depth).1=0)(fun iv _=>len-(intOf iv).toNat)
 case atStart=>exact⟨0,p0,r0,by omega,rfl,E0.out,Z0.out,HG.out,fun r' h=>by rw[Nat.add_zero]at h;exact h,by rw[Nat.add_zero];exact HCK.out⟩
 case round=>
  obtain⟨j,pk,rk,hj,rfl,hE,hZ,hg,hev,hc⟩:=hrel;have E1:Hid (EW w base w.heap.size fu wr pk rk):=hE;have Z1:Hid (wr.heap[w.heap.size+1]?=some (.cells zA 54)):=hZ;have G1:Hid (RGood fu Bd rk):=hg;have V1:Hid (∀r',Ev L fu (i+j) te rk r'->Ev L fu i te r0 r'):=hev;have HK:Hid ((chk L 0 0 321 (i+j) te depth).1=0):=hc;clear hE hZ hg hev hc E0 Z0 HG HCK;by_cases hlt:i+j<te
  rotate_left
  ·have hlt':¬(j:Int)<(len:Int):=by omega
   go_wp2_with(first|(refine wpList_load_at rfl 54 (.tmp 3) rfl w.heap.size _ 54 _ rfl E1.out.Q Tryz.underlying54 rfl run_info ?_)|(refine wpList_store_at rfl 54 (.tmp 4) (.tmp 109) rfl (w.heap.size+1) _ _ 54 rfl rfl Z1.out ?_ ?_ ?_ ?_;exact(Nat.le_refl 12);exact run_info;exact rA_one _ _ _;intro u9 hq f z));unfold Hid;rw[put_zr]at hq;have X9:Hid _:=hq;have E9:Hid _:=run_end E1.out Z1.out (by omega) f;clear hq f z E1 Z1;go_wp2;refine bodyPost_ret (v:=.agg (rA pk fu rk)) (results_one rfl _ _ (w.heap.size+1) _ rfl (load_at X9.out 54 _ Tryz.underlying54 rfl run_info)) rfl ⟨pk,rk,rfl,⟨V1.out rk (.stop fun h=>hlt h.1),G1.out⟩,E9.out⟩
  have hlt':(j:Int)<(len:Int):=by omega
  obtain⟨e0,e1,e2,e3,e4,e5,e6,e7,e8,e9,e10,e11⟩:=E1.out.cells;have eq:=E1.out.lt;go_wp2_with fail;refine(l3Going_any pk fu rk wr).mono ?_;rintro e u1⟨rfl,b1⟩;have E2:Hid (EW w base w.heap.size fu u1 pk rk):=E1.out.below b1;have Z2:Hid (u1.heap[w.heap.size+1]?=some (.cells zA 54)):=(b1.block _ (Array.getElem?_eq_some_iff.1 Z1.out).1).trans Z1.out;clear b1 E1 Z1;clear e0 e1 e2 e3 e4 e5 e6 e7 e8 e9 e10 e11 eq;by_cases hgo:rk.go
  rotate_left
  ·rw[RV.goB_no hgo]
   go_wp2_with(first|(refine wpList_load_at rfl 54 (.tmp 3) rfl w.heap.size _ 54 _ rfl E2.out.Q Tryz.underlying54 rfl run_info ?_)|(refine wpList_store_at rfl 54 (.tmp 4) (.tmp 109) rfl (w.heap.size+1) _ _ 54 rfl rfl Z2.out ?_ ?_ ?_ ?_;exact(Nat.le_refl 12);exact run_info;exact rA_one _ _ _;intro u9 hq f z));unfold Hid;rw[put_zr]at hq;have X9:Hid _:=hq;have E9:Hid _:=run_end E2.out Z2.out (by omega) f;clear hq f z E2 Z2;go_wp2;refine bodyPost_ret (v:=.agg (rA pk fu rk)) (results_one rfl _ _ (w.heap.size+1) _ rfl (load_at X9.out 54 _ Tryz.underlying54 rfl run_info)) rfl ⟨pk,rk,rfl,⟨V1.out rk (.stop fun h=>hgo h.2),G1.out⟩,E9.out⟩
  rw[RV.goB_yes hgo];have HGO:Hid (rk.go):=hgo;clear hgo;have hof:off=i*11:=HOFF.out (by omega);subst hof;clear HOFF;obtain⟨p,hp⟩:∃x,i+j=x:=⟨_,rfl⟩
  rw[hp]at hlt;have HP:Hid (i+j=p):=hp;have A2:Hid (Arr u1 b (n*11) (stF L)):=HA.out.below E2.out.B hb0;obtain⟨s0,s1,s2,s3,s4,s5,s6,s7,s8,s9,s10⟩:=st_at (n:=n) A2.out p (by omega);rw[show p*11=i*11+j*11 by omega]at s0 s1 s2 s3 s4 s5 s6 s7 s8 s9 s10;rw[hp]at V1 HK;clear hp;go_upto_region 4 with fail;clear s0 s1 s2 s3 s4 s5 s6 s7 s8 s9 s10;obtain⟨u2,hu2,hb2,hc2⟩:∃x,u1.alloc (.cells #[.int .i64 (L p).k,.int .i64 (L p).op,.int .i64 (L p).d,.int .i64 (L p).a,.int .i64 (L p).b,.int .i64 (L p).imm,.int .i64 (L p).h,.int .i64 (L p).cond,.int .i64 (L p).thn,.int .i64 (L p).els,.int .i64 (L p).proc] 61)=x/\Below u1.heap.size u1 x/\x.heap[u1.heap.size]?=some (.cells #[.int .i64 (L p).k,.int .i64 (L p).op,.int .i64 (L p).d,.int .i64 (L p).a,.int .i64 (L p).b,.int .i64 (L p).imm,.int .i64 (L p).h,.int .i64 (L p).cond,.int .i64 (L p).thn,.int .i64 (L p).els,.int .i64 (L p).proc] 61):=⟨_,rfl,(Below.refl _ _).alloc (Nat.le_refl _) _,eq_new _ _⟩
  rw[hu2];have E3:Hid (EW w base w.heap.size fu u2 pk rk):=E2.out.below hb2;have Z3:Hid (u2.heap[w.heap.size+1]?=some (.cells zA 54)):=(hb2.block _ (Array.getElem?_eq_some_iff.1 Z2.out).1).trans Z2.out;have zq:=(Array.getElem?_eq_some_iff.1 Z2.out).1;obtain⟨sb,hsb⟩:∃x,u1.heap.size=x:=⟨_,rfl⟩
  rw[hsb]at hc2 zq⊢;have S3:Hid (u2.heap[sb]?=some (.cells #[.int .i64 (L p).k,.int .i64 (L p).op,.int .i64 (L p).d,.int .i64 (L p).a,.int .i64 (L p).b,.int .i64 (L p).imm,.int .i64 (L p).h,.int .i64 (L p).cond,.int .i64 (L p).thn,.int .i64 (L p).els,.int .i64 (L p).proc] 61)):=hc2;have lsb:=(Array.getElem?_eq_some_iff.1 hc2).1;clear hu2 hb2 hc2 E2 Z2 hsb A2;obtain⟨sok,hnt,k1,k2,k3⟩:=chk_next HK.out hlt;have HK1:Hid _:=k1;have HK2:Hid _:=k2;have HK3:Hid _:=k3;have HSOK:Hid (stOK (L p) (0:Int)=true):=sok;obtain⟨tp,ep⟩:=st_pos sok;clear k1 k2 k3 sok HK;obtain⟨a,ha⟩:∃x:Nat,(L p).thn=(x:Int):=⟨(L p).thn.toNat,by omega⟩
  obtain⟨e',he'⟩:∃x:Nat,(L p).els=(x:Int):=⟨(L p).els.toNat,by omega⟩
  have HA':Hid ((L p).thn=(a:Int)/\(L p).thn.toNat=a):=⟨ha,by omega⟩
  have HB':Hid ((L p).els=(e':Int)/\(L p).els.toNat=e'):=⟨he',by omega⟩
  rw[HA'.out.2,HB'.out.2]at hnt;have hij:=HP.out;obtain⟨s0,s1,s2,s3,s4,s5,s6,s7,s8,s9,s10⟩:=st_bl S3.out;have sq:=(Array.getElem?_eq_some_iff.1 S3.out).1;rw[ha]at s8;rw[he']at s9;have lz:a<=2000:=by omega
  have lz2:e'<=2000:=by omega
  clear ha he' tp ep;go_cut [7](fun av wx=>wx=u2/\∃oa ca:Nat,av=.slice (some ⟨b,oa,none⟩) a ca/\(0<a->oa=(p+1)*11)/\a<=ca)
  case first=>
   go_wp2_with fail;all_goals
    try(have hcj:cap'=j+1:=by assumption
        subst hcj)
    go_meet;exact⟨rfl,_,_,rfl,by omega,by omega⟩
  case rest=>
  obtain⟨hwx,oa,ca,rfl,oa1,oa2⟩:=hcut;rw[hwx];clear hwx wc;go_upto_region 5 with fail;go_cut [8](fun av wx=>wx=u2/\∃ob cb:Nat,av=.slice (some ⟨b,ob,none⟩) e' cb/\(0<e'->ob=(p+1+a)*11)/\e'<=cb)
  case first=>
   go_wp2_with fail;all_goals
    try(have hcj:cap'=j+1+a:=by assumption
        subst hcj)
    go_meet;exact⟨rfl,_,_,rfl,by omega,by omega⟩
  case rest=>
  obtain⟨hwx,ob,cb,rfl,ob1,ob2⟩:=hcut;rw[hwx];clear hwx wc;clear s0 s1 s2 s3 s4 s5 s6 s7 s8 s9 s10 sq;have HKA:Hid ((chk L 0 0 321 (p+1) (p+1+a) (depth+1)).1=0):=(by have h:=HK1.out;rw[HA'.out.2]at h;exact h:(chk L 0 0 321 (p+1) (p+1+a) (depth+1)).1=0)
  have HKB:Hid ((chk L 0 0 321 (p+1+a) (p+1+a+e') (depth+1)).1=0):=(by have h:=HK2.out;rw[HA'.out.2,HB'.out.2]at h;exact h:(chk L 0 0 321 (p+1+a) (p+1+a+e') (depth+1)).1=0)
  have HKC:Hid ((chk L 0 0 321 (p+1+a+e') te depth).1=0):=(by have h:=HK3.out;rw[HA'.out.2,HB'.out.2]at h;exact h:(chk L 0 0 321 (p+1+a+e') te depth).1=0)
  have HNX:Hid (nxt L p=p+1+a+e'):=(by unfold nxt;rw[HA'.out.2,HB'.out.2]:nxt L p=p+1+a+e')
  clear HK1 HK2 HK3;have gu:=G1.out.u0;have gv:=G1.out.u1;have gs:=G1.out.seen;rcases st_one HSOK.out with hk|hk|hk|hk
  ·have d1:((L p).k==1)=true:=by simp[hk]
   have HK1:Hid ((L p).k=1):=hk;clear hk;obtain⟨e0,e1,e2,e3,e4,e5,e6,e7,e8,e9,e10,e11⟩:=E3.out.cells;have eq:=E3.out.lt;obtain⟨s0,s1,s2,s3,s4,s5,s6,s7,s8,s9,s10⟩:=st_bl S3.out;have sq:=(Array.getElem?_eq_some_iff.1 S3.out).1;go_wp2_with fail;refine(l3Spend_any pk fu rk u2 gu gv hf).mono ?_;rintro e u3⟨rfl,b3⟩;have E4:Hid (EW w base w.heap.size fu u3 pk rk):=E3.out.below b3;have Z4:Hid (u3.heap[w.heap.size+1]?=some (.cells zA 54)):=(b3.block _ (Array.getElem?_eq_some_iff.1 Z3.out).1).trans Z3.out;have S4:Hid (u3.heap[sb]?=some (.cells #[.int .i64 (L p).k,.int .i64 (L p).op,.int .i64 (L p).d,.int .i64 (L p).a,.int .i64 (L p).b,.int .i64 (L p).imm,.int .i64 (L p).h,.int .i64 (L p).cond,.int .i64 (L p).thn,.int .i64 (L p).els,.int .i64 (L p).proc] 61)):=(b3.block _ lsb).trans S3.out;clear b3 E3 Z3 S3;clear e0 e1 e2 e3 e4 e5 e6 e7 e8 e9 e10 e11 eq;clear s0 s1 s2 s3 s4 s5 s6 s7 s8 s9 s10 sq;by_cases h:rk.used=fu
   ·have HI1:Hid (insR fu (L p) rk=⟨rk.M,rk.used,true⟩):=if_pos h
    rw[show spR fu rk=⟨rk.M,rk.used,true⟩from if_pos h];clear h;go_wp2_with(refine wpList_store_at rfl 54 (.tmp 3) (.tmp 51) rfl w.heap.size _ _ 54 rfl rfl E4.out.Q ?_ ?_ ?_ ?_;exact(Nat.le_refl 12);exact run_info;exact rA_one _ _ _;intro u4 hq f z);unfold Hid;rw[put_rr]at hq;have E5:Hid (EW w base w.heap.size fu u4 pk ⟨rk.M,rk.used,true⟩):=E4.out.put (Below.refl _ _) (Kept.below (Below.refl _ _)) E4.out.M f hq;have Z5:Hid (u4.heap[w.heap.size+1]?=some (.cells zA 54)):=(f.block _ (Array.getElem?_eq_some_iff.1 Z4.out).1 (by omega)).trans Z4.out;have S5:Hid (u4.heap[sb]?=some (.cells #[.int .i64 (L p).k,.int .i64 (L p).op,.int .i64 (L p).d,.int .i64 (L p).a,.int .i64 (L p).b,.int .i64 (L p).imm,.int .i64 (L p).h,.int .i64 (L p).cond,.int .i64 (L p).thn,.int .i64 (L p).els,.int .i64 (L p).proc] 61)):=(f.block _ (Array.getElem?_eq_some_iff.1 S4.out).1 (by omega)).trans S4.out;clear hq f z E4 Z4 S4;obtain⟨e0,e1,e2,e3,e4,e5,e6,e7,e8,e9,e10,e11⟩:=E5.out.cells;have eq:=E5.out.lt;dsimp only at e0 e1 e2 e3 e4 e5 e6 e7 e8 e9 e10 e11;obtain⟨s0,s1,s2,s3,s4,s5,s6,s7,s8,s9,s10⟩:=st_bl S5.out;have sq:=(Array.getElem?_eq_some_iff.1 S5.out).1;rw[HA'.out.1]at s8;rw[HB'.out.1]at s9;go_wp2;go_roundw
    case rel=>
     have hpp:=HP.out;refine⟨j+1+a+e',pk,⟨rk.M,rk.used,true⟩,by omega,by go_num,E5.out,Z5.out,(by have g:=G1.out.ins (st_ins HSOK.out HK1.out).1;rw[HI1.out]at g;exact g),fun r' h=>V1.out r' ?_,?_⟩
     ·rw[show i+(j+1+a+e')=p+1+a+e' by omega,<-HNX.out]at h
      exact Ev.ins hlt HGO.out HK1.out (by rw[HI1.out];exact h)
     ·rw[show i+(j+1+a+e')=p+1+a+e' by omega];exact HKC.out
    case measure=>have hpp:=HP.out;simp[intOf];omega
   ·have HI1:Hid (insR fu (L p) rk=⟨doS (L p) rk.M,rk.used+1,rk.out⟩):=if_neg h
    rw[show spR fu rk=⟨rk.M,rk.used+1,rk.out⟩from if_neg h];clear h;go_wp2_with(refine wpList_store_at rfl 54 (.tmp 3) (.tmp 51) rfl w.heap.size _ _ 54 rfl rfl E4.out.Q ?_ ?_ ?_ ?_;exact(Nat.le_refl 12);exact run_info;exact rA_one _ _ _;intro u4 hq f z);unfold Hid;rw[put_rr]at hq;have E5:Hid (EW w base w.heap.size fu u4 pk ⟨rk.M,rk.used+1,rk.out⟩):=E4.out.put (Below.refl _ _) (Kept.below (Below.refl _ _)) E4.out.M f hq;have Z5:Hid (u4.heap[w.heap.size+1]?=some (.cells zA 54)):=(f.block _ (Array.getElem?_eq_some_iff.1 Z4.out).1 (by omega)).trans Z4.out;have S5:Hid (u4.heap[sb]?=some (.cells #[.int .i64 (L p).k,.int .i64 (L p).op,.int .i64 (L p).d,.int .i64 (L p).a,.int .i64 (L p).b,.int .i64 (L p).imm,.int .i64 (L p).h,.int .i64 (L p).cond,.int .i64 (L p).thn,.int .i64 (L p).els,.int .i64 (L p).proc] 61)):=(f.block _ (Array.getElem?_eq_some_iff.1 S4.out).1 (by omega)).trans S4.out;clear hq f z E4 Z4 S4;obtain⟨e0,e1,e2,e3,e4,e5,e6,e7,e8,e9,e10,e11⟩:=E5.out.cells;have eq:=E5.out.lt;dsimp only at e0 e1 e2 e3 e4 e5 e6 e7 e8 e9 e10 e11;rw[HGO.out.1]at e11;obtain⟨s0,s1,s2,s3,s4,s5,s6,s7,s8,s9,s10⟩:=st_bl S5.out;have sq:=(Array.getElem?_eq_some_iff.1 S5.out).1;obtain⟨hiv,hop⟩:=st_ins HSOK.out HK1.out;have hsh:=fun ho=>ins_shift hiv ho
    obtain⟨⟨a1,a2⟩,⟨x1,x2⟩,⟨x3,x4⟩,⟨x5,x6⟩,⟨x7,x8⟩⟩:=ins_range hiv;obtain⟨op,f0⟩:=Int.eq_ofNat_of_zero_le (show 0<=(L p).op by omega);obtain⟨dd,f1⟩:=Int.eq_ofNat_of_zero_le x1;obtain⟨ra,f2⟩:=Int.eq_ofNat_of_zero_le x3;obtain⟨rb,f3⟩:=Int.eq_ofNat_of_zero_le x5;obtain⟨hh,f5⟩:=Int.eq_ofNat_of_zero_le x7;have HDO:Hid (doS (L p) rk.M=doM op dd ra rb hh (L p).imm rk.M):=(by unfold doS;rw[f0,f1,f2,f3,f5];rfl:doS (L p) rk.M=doM op dd ra rb hh (L p).imm rk.M)
    have HDA:Hid (Calls Tryz.prog 47 #[.agg #[.slice (some ⟨pk.bR,0,none⟩) 8 pk.cR,.bool rk.M.z,.bool rk.M.c,.bool rk.M.hz,.bool rk.M.hc,.slice pk.aH rk.M.nH pk.cH,.int .i64 rk.M.pc,.int .i64 rk.M.st,.slice pk.aO rk.M.nO pk.cO],.agg #[.int .i64 op,.int .i64 dd,.int .i64 ra,.int .i64 rb,.int .i64 (L p).imm,.int .i64 hh]] u4 (DidK base u4 (doM op dd ra rb hh (L p).imm rk.M))):=do_any u4 base pk rk.M E5.out.M G1.out.ok (by omega) op dd ra rb hh (L p).imm (by omega) (by omega) (by omega) (by omega) (by omega) (fun ho=>hsh (by omega));rw[f0]at s1;rw[f1]at s2;rw[f2]at s3;rw[f3]at s4;rw[f5]at s6;clear hiv hop hsh a1 a2 x1 x2 x3 x4 x5 x6 x7 x8 f0 f1 f2 f3 f5;go_wp2_with fail;refine HDA.out.mono ?_;rintro e u5⟨⟨p5,he,b5,m5⟩,k5⟩;obtain rfl:e=.returned (.agg (mA p5 (doM op dd ra rb hh (L p).imm rk.M))):=he;rw[<-HDO.out]at m5⊢;have Q6:Hid _:=E5.out.kept k5;have Z6:Hid (u5.heap[w.heap.size+1]?=some (.cells zA 54)):=(k5 _ _ _ _ Z5.out (by decide) (by decide) (by decide) (by decide)).trans Z5.out;have S6:Hid (u5.heap[sb]?=some (.cells #[.int .i64 (L p).k,.int .i64 (L p).op,.int .i64 (L p).d,.int .i64 (L p).a,.int .i64 (L p).b,.int .i64 (L p).imm,.int .i64 (L p).h,.int .i64 (L p).cond,.int .i64 (L p).thn,.int .i64 (L p).els,.int .i64 (L p).proc] 61)):=(k5 _ _ _ _ S5.out (by decide) (by decide) (by decide) (by decide)).trans S5.out;have M6:Hid (Mem u5 base p5 (doS (L p) rk.M)):=m5;have B6:Hid (Below base u4 u5/\Kept u4 u5):=⟨b5,k5⟩
    clear b5 m5 k5 HDA HDO Z5 S5;clear e0 e1 e2 e3 e4 e5 e6 e7 e8 e9 e10 e11 eq;clear s0 s1 s2 s3 s4 s5 s6 s7 s8 s9 s10 sq;go_wp2_with(refine wpList_store_at rfl 33 (.tmp 60) (.tmp 59) rfl w.heap.size _ _ 54 rfl rfl Q6.out ?_ ?_ ?_ ?_;exact(show 9<=12 by decide);exact mach_info;exact mA_one _ _;intro u6 hq f z);unfold Hid;rw[put_rm]at hq;have E7:Hid (EW w base w.heap.size fu u6 p5 ⟨doS (L p) rk.M,rk.used+1,rk.out⟩):=E5.out.put B6.out.1 B6.out.2 M6.out f hq;have Z7:Hid (u6.heap[w.heap.size+1]?=some (.cells zA 54)):=(f.block _ (Array.getElem?_eq_some_iff.1 Z6.out).1 (by omega)).trans Z6.out;have S7:Hid (u6.heap[sb]?=some (.cells #[.int .i64 (L p).k,.int .i64 (L p).op,.int .i64 (L p).d,.int .i64 (L p).a,.int .i64 (L p).b,.int .i64 (L p).imm,.int .i64 (L p).h,.int .i64 (L p).cond,.int .i64 (L p).thn,.int .i64 (L p).els,.int .i64 (L p).proc] 61)):=(f.block _ (Array.getElem?_eq_some_iff.1 S6.out).1 (by omega)).trans S6.out;clear hq f z E5 Z6 S6 M6 B6 Q6;obtain⟨s0,s1,s2,s3,s4,s5,s6,s7,s8,s9,s10⟩:=st_bl S7.out;have sq:=(Array.getElem?_eq_some_iff.1 S7.out).1;rw[HA'.out.1]at s8;rw[HB'.out.1]at s9;go_wp2;go_roundw
    case rel=>
     have hpp:=HP.out;refine⟨j+1+a+e',p5,⟨doS (L p) rk.M,rk.used+1,rk.out⟩,by omega,by go_num,E7.out,Z7.out,(by have g:=G1.out.ins (st_ins HSOK.out HK1.out).1;rw[HI1.out]at g;exact g),fun r' h=>V1.out r' ?_,?_⟩
     ·rw[show i+(j+1+a+e')=p+1+a+e' by omega,<-HNX.out]at h
      exact Ev.ins hlt HGO.out HK1.out (by rw[HI1.out];exact h)
     ·rw[show i+(j+1+a+e')=p+1+a+e' by omega];exact HKC.out
    case measure=>have hpp:=HP.out;simp[intOf];omega
  ·have d1:((L p).k==1)=false:=by simp[hk]
   have d2:((L p).k==2)=true:=by simp[hk]
   have HK1:Hid ((L p).k=2):=hk;clear hk;obtain⟨e0,e1,e2,e3,e4,e5,e6,e7,e8,e9,e10,e11⟩:=E3.out.cells;have eq:=E3.out.lt;obtain⟨s0,s1,s2,s3,s4,s5,s6,s7,s8,s9,s10⟩:=st_bl S3.out;have sq:=(Array.getElem?_eq_some_iff.1 S3.out).1;have bsB:=Nat.le_trans E3.out.bs E3.out.B.size;have gA:=G1.out.u0;have gB:=G1.out.u1;have gC:=G1.out.seen;go_wp2_with fail;refine(l3Look_any base pk fu rk (L p).cond u2 E3.out.M bsB (by omega) gA gB hf HGO.out.1).mono ?_;rintro e u3⟨pB,rfl,m3,b3,k3⟩;obtain⟨rB,hB,hlk⟩:∃x y,lookR fu (L p).cond rk=(x,y):=⟨_,_,rfl⟩
   have g3:=G1.out.look (L p).cond;rw[hlk]at m3 g3⊢;dsimp only at m3 g3⊢;have LKB:Hid (lookR fu (L p).cond rk=(rB,hB)):=hlk;have GB:Hid (RGood fu Bd rB):=g3;have QB:Hid _:=E3.out.kept k3;have ZBa:Hid (u3.heap[w.heap.size+1]?=some (.cells zA 54)):=(k3 _ _ _ _ Z3.out (by decide) (by decide) (by decide) (by decide)).trans Z3.out;have SBa:Hid (u3.heap[sb]?=some (.cells #[.int .i64 (L p).k,.int .i64 (L p).op,.int .i64 (L p).d,.int .i64 (L p).a,.int .i64 (L p).b,.int .i64 (L p).imm,.int .i64 (L p).h,.int .i64 (L p).cond,.int .i64 (L p).thn,.int .i64 (L p).els,.int .i64 (L p).proc] 61)):=(k3 _ _ _ _ S3.out (by decide) (by decide) (by decide) (by decide)).trans S3.out;have MB:Hid (Mem u3 base pB rB.M):=m3;have BB:Hid (Below base u2 u3/\Kept u2 u3):=⟨b3,k3⟩
   clear m3 b3 k3 hlk g3 Z3 S3 gA gB gC bsB;clear e0 e1 e2 e3 e4 e5 e6 e7 e8 e9 e10 e11 eq;clear s0 s1 s2 s3 s4 s5 s6 s7 s8 s9 s10 sq;go_wp2_with(refine wpList_store_at rfl 54 (.tmp 3) (.tmp 68) rfl w.heap.size _ _ 54 rfl rfl QB.out ?_ ?_ ?_ ?_;exact(Nat.le_refl 12);exact run_info;exact rA_one _ _ _;intro u4 hq f z);unfold Hid;rw[put_rr]at hq;have EB:Hid (EW w base w.heap.size fu u4 pB rB):=E3.out.put BB.out.1 BB.out.2 MB.out f hq;have ZB:Hid (u4.heap[w.heap.size+1]?=some (.cells zA 54)):=(f.block _ (Array.getElem?_eq_some_iff.1 ZBa.out).1 (by omega)).trans ZBa.out;have SB:Hid (u4.heap[sb]?=some (.cells #[.int .i64 (L p).k,.int .i64 (L p).op,.int .i64 (L p).d,.int .i64 (L p).a,.int .i64 (L p).b,.int .i64 (L p).imm,.int .i64 (L p).h,.int .i64 (L p).cond,.int .i64 (L p).thn,.int .i64 (L p).els,.int .i64 (L p).proc] 61)):=(f.block _ (Array.getElem?_eq_some_iff.1 SBa.out).1 (by omega)).trans SBa.out;clear hq f z ZBa SBa MB BB QB E3;cases hB with
   |true=>
    obtain⟨e0,e1,e2,e3,e4,e5,e6,e7,e8,e9,e10,e11⟩:=EB.out.cells;have eq:=EB.out.lt;go_wp2_with fail;have hcl:=HI.out (p+1) (p+1+a) (depth+1) (by omega) (by omega) (by omega) (by omega) HKA.out;unfold EvC at hcl;have AU:Hid (Arr u4 b (n*11) (stF L)):=HA.out.below EB.out.B hb0;refine(hcl oa a ca base pB rB u4 (by omega) oa1 oa2 AU.out hb0 (Nat.le_trans EB.out.bs EB.out.B.size) EB.out.M GB.out).mono ?_;rintro e u5⟨pC,rC,rfl,⟨v6,g6⟩,m3,b3,k3⟩;have VC:Hid (Ev L fu (p+1) (p+1+a) rB rC):=v6;have GC:Hid (RGood fu Bd rC):=g6;have QC:Hid _:=EB.out.kept k3;have ZCa:Hid (u5.heap[w.heap.size+1]?=some (.cells zA 54)):=(k3 _ _ _ _ ZB.out (by decide) (by decide) (by decide) (by decide)).trans ZB.out;have SCa:Hid (u5.heap[sb]?=some (.cells #[.int .i64 (L p).k,.int .i64 (L p).op,.int .i64 (L p).d,.int .i64 (L p).a,.int .i64 (L p).b,.int .i64 (L p).imm,.int .i64 (L p).h,.int .i64 (L p).cond,.int .i64 (L p).thn,.int .i64 (L p).els,.int .i64 (L p).proc] 61)):=(k3 _ _ _ _ SB.out (by decide) (by decide) (by decide) (by decide)).trans SB.out;have MC:Hid (Mem u5 base pC rC.M):=m3;have BC:Hid (Below base u4 u5/\Kept u4 u5):=⟨b3,k3⟩
    clear hcl AU v6 g6 m3 b3 k3 ZB SB;clear e0 e1 e2 e3 e4 e5 e6 e7 e8 e9 e10 e11 eq;go_wp2_with(refine wpList_store_at rfl 54 (.tmp 3) (.tmp 73) rfl w.heap.size _ _ 54 rfl rfl QC.out ?_ ?_ ?_ ?_;exact(Nat.le_refl 12);exact run_info;exact rA_one _ _ _;intro u6 hq f z);unfold Hid;rw[put_rr]at hq;have EC:Hid (EW w base w.heap.size fu u6 pC rC):=EB.out.put BC.out.1 BC.out.2 MC.out f hq;have ZC:Hid (u6.heap[w.heap.size+1]?=some (.cells zA 54)):=(f.block _ (Array.getElem?_eq_some_iff.1 ZCa.out).1 (by omega)).trans ZCa.out;have SC:Hid (u6.heap[sb]?=some (.cells #[.int .i64 (L p).k,.int .i64 (L p).op,.int .i64 (L p).d,.int .i64 (L p).a,.int .i64 (L p).b,.int .i64 (L p).imm,.int .i64 (L p).h,.int .i64 (L p).cond,.int .i64 (L p).thn,.int .i64 (L p).els,.int .i64 (L p).proc] 61)):=(f.block _ (Array.getElem?_eq_some_iff.1 SCa.out).1 (by omega)).trans SCa.out;clear hq f z ZCa SCa MC BC QC EB;obtain⟨s0,s1,s2,s3,s4,s5,s6,s7,s8,s9,s10⟩:=st_bl SC.out;have sq:=(Array.getElem?_eq_some_iff.1 SC.out).1;rw[HA'.out.1]at s8;rw[HB'.out.1]at s9;go_wp2;go_roundw
    case rel=>
     have hpp:=HP.out;refine⟨j+1+a+e',pC,rC,by omega,by go_num,EC.out,ZC.out,GC.out,fun r' h=>V1.out r' ?_,?_⟩
     ·rw[show i+(j+1+a+e')=p+1+a+e' by omega,<-HNX.out]at h
      exact Ev.yes hlt HGO.out HK1.out LKB.out (by rw[HA'.out.2];exact VC.out) h
     ·rw[show i+(j+1+a+e')=p+1+a+e' by omega];exact HKC.out
    case measure=>have hpp:=HP.out;simp[intOf];omega
   |false=>
    obtain⟨e0,e1,e2,e3,e4,e5,e6,e7,e8,e9,e10,e11⟩:=EB.out.cells;have eq:=EB.out.lt;go_wp2_with fail;refine(l3Going_any pB fu rB u4).mono ?_;rintro e u5⟨rfl,b3⟩;have ED:Hid (EW w base w.heap.size fu u5 pB rB):=EB.out.below b3;have ZD:Hid (u5.heap[w.heap.size+1]?=some (.cells zA 54)):=(b3.block _ (Array.getElem?_eq_some_iff.1 ZB.out).1).trans ZB.out;have SD:Hid (u5.heap[sb]?=some (.cells #[.int .i64 (L p).k,.int .i64 (L p).op,.int .i64 (L p).d,.int .i64 (L p).a,.int .i64 (L p).b,.int .i64 (L p).imm,.int .i64 (L p).h,.int .i64 (L p).cond,.int .i64 (L p).thn,.int .i64 (L p).els,.int .i64 (L p).proc] 61)):=(b3.block _ (Array.getElem?_eq_some_iff.1 SB.out).1).trans SB.out;clear b3 EB ZB SB;clear e0 e1 e2 e3 e4 e5 e6 e7 e8 e9 e10 e11 eq;by_cases hg:rB.go
    ·rw[RV.goB_yes hg]
     clear hg;obtain⟨e0,e1,e2,e3,e4,e5,e6,e7,e8,e9,e10,e11⟩:=ED.out.cells;have eq:=ED.out.lt;go_wp2_with fail;have hcl:=HI.out (p+1+a) (p+1+a+e') (depth+1) (by omega) (by omega) (by omega) (by omega) HKB.out;unfold EvC at hcl;have AU:Hid (Arr u5 b (n*11) (stF L)):=HA.out.below ED.out.B hb0;refine(hcl ob e' cb base pB rB u5 (by omega) ob1 ob2 AU.out hb0 (Nat.le_trans ED.out.bs ED.out.B.size) ED.out.M GB.out).mono ?_;rintro e u6⟨pC,rC,rfl,⟨v6,g6⟩,m3,b3,k3⟩;have VC:Hid (Ev L fu (p+1+a) (p+1+a+e') rB rC):=v6;have GC:Hid (RGood fu Bd rC):=g6;have QC:Hid _:=ED.out.kept k3;have ZCa:Hid (u6.heap[w.heap.size+1]?=some (.cells zA 54)):=(k3 _ _ _ _ ZD.out (by decide) (by decide) (by decide) (by decide)).trans ZD.out;have SCa:Hid (u6.heap[sb]?=some (.cells #[.int .i64 (L p).k,.int .i64 (L p).op,.int .i64 (L p).d,.int .i64 (L p).a,.int .i64 (L p).b,.int .i64 (L p).imm,.int .i64 (L p).h,.int .i64 (L p).cond,.int .i64 (L p).thn,.int .i64 (L p).els,.int .i64 (L p).proc] 61)):=(k3 _ _ _ _ SD.out (by decide) (by decide) (by decide) (by decide)).trans SD.out;have MC:Hid (Mem u6 base pC rC.M):=m3;have BC:Hid (Below base u5 u6/\Kept u5 u6):=⟨b3,k3⟩
     clear hcl AU v6 g6 m3 b3 k3 ZD SD;clear e0 e1 e2 e3 e4 e5 e6 e7 e8 e9 e10 e11 eq;go_wp2_with(refine wpList_store_at rfl 54 (.tmp 3) (.tmp 78) rfl w.heap.size _ _ 54 rfl rfl QC.out ?_ ?_ ?_ ?_;exact(Nat.le_refl 12);exact run_info;exact rA_one _ _ _;intro u7 hq f z);unfold Hid;rw[put_rr]at hq;have EC:Hid (EW w base w.heap.size fu u7 pC rC):=ED.out.put BC.out.1 BC.out.2 MC.out f hq;have ZC:Hid (u7.heap[w.heap.size+1]?=some (.cells zA 54)):=(f.block _ (Array.getElem?_eq_some_iff.1 ZCa.out).1 (by omega)).trans ZCa.out;have SC:Hid (u7.heap[sb]?=some (.cells #[.int .i64 (L p).k,.int .i64 (L p).op,.int .i64 (L p).d,.int .i64 (L p).a,.int .i64 (L p).b,.int .i64 (L p).imm,.int .i64 (L p).h,.int .i64 (L p).cond,.int .i64 (L p).thn,.int .i64 (L p).els,.int .i64 (L p).proc] 61)):=(f.block _ (Array.getElem?_eq_some_iff.1 SCa.out).1 (by omega)).trans SCa.out;clear hq f z ZCa SCa MC BC QC ED;obtain⟨s0,s1,s2,s3,s4,s5,s6,s7,s8,s9,s10⟩:=st_bl SC.out;have sq:=(Array.getElem?_eq_some_iff.1 SC.out).1;rw[HA'.out.1]at s8;rw[HB'.out.1]at s9;go_wp2;go_roundw
     case rel=>
      have hpp:=HP.out;refine⟨j+1+a+e',pC,rC,by omega,by go_num,EC.out,ZC.out,GC.out,fun r' h=>V1.out r' ?_,?_⟩
      ·rw[show i+(j+1+a+e')=p+1+a+e' by omega,<-HNX.out]at h
       exact Ev.no hlt HGO.out HK1.out LKB.out (by rw[HNX.out,HA'.out.2];exact VC.out) h
      ·rw[show i+(j+1+a+e')=p+1+a+e' by omega];exact HKC.out
     case measure=>have hpp:=HP.out;simp[intOf];omega
    ·rw[RV.goB_no hg]
     have HNG:Hid (¬rB.go):=hg;clear hg;obtain⟨s0,s1,s2,s3,s4,s5,s6,s7,s8,s9,s10⟩:=st_bl SD.out;have sq:=(Array.getElem?_eq_some_iff.1 SD.out).1;rw[HA'.out.1]at s8;rw[HB'.out.1]at s9;go_wp2;go_roundw
     case rel=>
      have hpp:=HP.out;refine⟨j+1+a+e',pB,rB,by omega,by go_num,ED.out,ZD.out,GB.out,fun r' h=>V1.out r' ?_,?_⟩
      ·rw[show i+(j+1+a+e')=p+1+a+e' by omega,<-HNX.out]at h
       exact Ev.no hlt HGO.out HK1.out LKB.out (.stop fun h=>HNG.out h.2) h
      ·rw[show i+(j+1+a+e')=p+1+a+e' by omega];exact HKC.out
     case measure=>have hpp:=HP.out;simp[intOf];omega
  ·have d1:((L p).k==1)=false:=by simp[hk]
   have d2:((L p).k==2)=false:=by simp[hk]
   have d3:((L p).k==3)=true:=by simp[hk]
   have HK1:Hid ((L p).k=3):=hk;clear hk;obtain⟨e0,e1,e2,e3,e4,e5,e6,e7,e8,e9,e10,e11⟩:=E3.out.cells;have eq:=E3.out.lt;obtain⟨s0,s1,s2,s3,s4,s5,s6,s7,s8,s9,s10⟩:=st_bl S3.out;have sq:=(Array.getElem?_eq_some_iff.1 S3.out).1;have bsB:=Nat.le_trans E3.out.bs E3.out.B.size;have gA:=G1.out.u0;have gB:=G1.out.u1;have gC:=G1.out.seen;go_wp2_with fail;refine(l3Look_any base pk fu rk (L p).cond u2 E3.out.M bsB (by omega) gA gB hf HGO.out.1).mono ?_;rintro e u3⟨pB,rfl,m3,b3,k3⟩;obtain⟨rB,hB,hlk⟩:∃x y,lookR fu (L p).cond rk=(x,y):=⟨_,_,rfl⟩
   have g3:=G1.out.look (L p).cond;rw[hlk]at m3 g3⊢;dsimp only at m3 g3⊢;have LKB:Hid (lookR fu (L p).cond rk=(rB,hB)):=hlk;have GB:Hid (RGood fu Bd rB):=g3;have QB:Hid _:=E3.out.kept k3;have ZBa:Hid (u3.heap[w.heap.size+1]?=some (.cells zA 54)):=(k3 _ _ _ _ Z3.out (by decide) (by decide) (by decide) (by decide)).trans Z3.out;have SBa:Hid (u3.heap[sb]?=some (.cells #[.int .i64 (L p).k,.int .i64 (L p).op,.int .i64 (L p).d,.int .i64 (L p).a,.int .i64 (L p).b,.int .i64 (L p).imm,.int .i64 (L p).h,.int .i64 (L p).cond,.int .i64 (L p).thn,.int .i64 (L p).els,.int .i64 (L p).proc] 61)):=(k3 _ _ _ _ S3.out (by decide) (by decide) (by decide) (by decide)).trans S3.out;have MB:Hid (Mem u3 base pB rB.M):=m3;have BB:Hid (Below base u2 u3/\Kept u2 u3):=⟨b3,k3⟩
   clear m3 b3 k3 hlk g3 Z3 S3 gA gB gC bsB;clear e0 e1 e2 e3 e4 e5 e6 e7 e8 e9 e10 e11 eq;clear s0 s1 s2 s3 s4 s5 s6 s7 s8 s9 s10 sq;go_wp2_with(refine wpList_store_at rfl 54 (.tmp 3) (.tmp 86) rfl w.heap.size _ _ 54 rfl rfl QB.out ?_ ?_ ?_ ?_;exact(Nat.le_refl 12);exact run_info;exact rA_one _ _ _;intro u4 hq f z);unfold Hid;rw[put_rr]at hq;have EB:Hid (EW w base w.heap.size fu u4 pB rB):=E3.out.put BB.out.1 BB.out.2 MB.out f hq;have ZB:Hid (u4.heap[w.heap.size+1]?=some (.cells zA 54)):=(f.block _ (Array.getElem?_eq_some_iff.1 ZBa.out).1 (by omega)).trans ZBa.out;have SB:Hid (u4.heap[sb]?=some (.cells #[.int .i64 (L p).k,.int .i64 (L p).op,.int .i64 (L p).d,.int .i64 (L p).a,.int .i64 (L p).b,.int .i64 (L p).imm,.int .i64 (L p).h,.int .i64 (L p).cond,.int .i64 (L p).thn,.int .i64 (L p).els,.int .i64 (L p).proc] 61)):=(f.block _ (Array.getElem?_eq_some_iff.1 SBa.out).1 (by omega)).trans SBa.out;clear hq f z ZBa SBa MB BB QB E3;have V3:Hid ((hB=true->∀r2 r',Ev L fu (p+1) (p+1+a) rB r2->Ev L fu p te r2 r'->Ev L fu p te rk r')/\(hB=false->∀r',Ev L fu (nxt L p) te rB r'->Ev L fu p te rk r')):=(⟨fun h r2 r' x y=>Ev.more hlt HGO.out HK1.out (by rw[LKB.out,h]) (by rw[HA'.out.2];exact x) y,fun h r' x=>Ev.done hlt HGO.out HK1.out (by rw[LKB.out,h]) x⟩:(hB=true->∀r2 r',Ev L fu (p+1) (p+1+a) rB r2->Ev L fu p te r2 r'->Ev L fu p te rk r')/\(hB=false->∀r',Ev L fu (nxt L p) te rB r'->Ev L fu p te rk r'))
   go_wp2_with fail;go_loopw [9](fun hv wx=>∃(pc:Pl)(rc:RV)(hd:Bool),hv=.bool hd/\EW w base w.heap.size fu wx pc rc/\wx.heap[w.heap.size+1]?=some (.cells zA 54)/\wx.heap[sb]?=some (.cells #[.int .i64 (L p).k,.int .i64 (L p).op,.int .i64 (L p).d,.int .i64 (L p).a,.int .i64 (L p).b,.int .i64 (L p).imm,.int .i64 (L p).h,.int .i64 (L p).cond,.int .i64 (L p).thn,.int .i64 (L p).els,.int .i64 (L p).proc] 61)/\RGood fu Bd rc/\(hd=true->rc.go)/\(hd=true->∀r2 r',Ev L fu (p+1) (p+1+a) rc r2->Ev L fu p te r2 r'->Ev L fu p te rk r')/\(hd=false->∀r',Ev L fu (nxt L p) te rc r'->Ev L fu p te rk r'))(fun hv wx=>evM w.heap.size fu hv wx)
   case atStart=>exact⟨pB,rB,hB,rfl,EB.out,ZB.out,SB.out,GB.out,fun h=>(look_yes (by rw[LKB.out,h]) HGO.out).2,V3.out⟩
   case round=>
    obtain⟨pc,rc,hd,rfl,xE,xZ,xS,xG,xg,xV⟩:=hrel;have EI:Hid (EW w base w.heap.size fu wr pc rc):=xE;have ZI:Hid (wr.heap[w.heap.size+1]?=some (.cells zA 54)):=xZ;have SI:Hid (wr.heap[sb]?=some (.cells #[.int .i64 (L p).k,.int .i64 (L p).op,.int .i64 (L p).d,.int .i64 (L p).a,.int .i64 (L p).b,.int .i64 (L p).imm,.int .i64 (L p).h,.int .i64 (L p).cond,.int .i64 (L p).thn,.int .i64 (L p).els,.int .i64 (L p).proc] 61)):=xS;have GI:Hid (RGood fu Bd rc):=xG;have gI:Hid (hd=true->rc.go):=xg;have VI:Hid ((hd=true->∀r2 r',Ev L fu (p+1) (p+1+a) rc r2->Ev L fu p te r2 r'->Ev L fu p te rk r')/\(hd=false->∀r',Ev L fu (nxt L p) te rc r'->Ev L fu p te rk r')):=xV;have evM_eqI:=evM_eq xE hd;have EMI:Hid _:=evM_eqI;clear evM_eqI xE xZ xS xG xg xV EB ZB SB GB V3;cases hd with
    |false=>
     obtain⟨s0,s1,s2,s3,s4,s5,s6,s7,s8,s9,s10⟩:=st_bl SI.out;have sq:=(Array.getElem?_eq_some_iff.1 SI.out).1;rw[HA'.out.1]at s8;rw[HB'.out.1]at s9;go_wp2;go_roundw
     case rel=>
      have hpp:=HP.out;refine⟨j+1+a+e',pc,rc,by omega,by go_num,EI.out,ZI.out,GI.out,fun r' h=>V1.out r' ?_,?_⟩
      ·rw[show i+(j+1+a+e')=p+1+a+e' by omega,<-HNX.out]at h
       exact VI.out.2 rfl r' h
      ·rw[show i+(j+1+a+e')=p+1+a+e' by omega];exact HKC.out
     case measure=>have hpp:=HP.out;simp[intOf];omega
    |true=>
     obtain⟨e0,e1,e2,e3,e4,e5,e6,e7,e8,e9,e10,e11⟩:=EI.out.cells;have eq:=EI.out.lt;go_wp2_with fail;have hcl:=HI.out (p+1) (p+1+a) (depth+1) (by omega) (by omega) (by omega) (by omega) HKA.out;unfold EvC at hcl;have AU:Hid (Arr wr b (n*11) (stF L)):=HA.out.below EI.out.B hb0;refine(hcl oa a ca base pc rc wr (by omega) oa1 oa2 AU.out hb0 (Nat.le_trans EI.out.bs EI.out.B.size) EI.out.M GI.out).mono ?_;rintro e u5⟨pC,rC,rfl,⟨v6,g6⟩,m3,b3,k3⟩;have VC:Hid (Ev L fu (p+1) (p+1+a) rc rC):=v6;have GC:Hid (RGood fu Bd rC):=g6;have QC:Hid _:=EI.out.kept k3;have ZCa:Hid (u5.heap[w.heap.size+1]?=some (.cells zA 54)):=(k3 _ _ _ _ ZI.out (by decide) (by decide) (by decide) (by decide)).trans ZI.out;have SCa:Hid (u5.heap[sb]?=some (.cells #[.int .i64 (L p).k,.int .i64 (L p).op,.int .i64 (L p).d,.int .i64 (L p).a,.int .i64 (L p).b,.int .i64 (L p).imm,.int .i64 (L p).h,.int .i64 (L p).cond,.int .i64 (L p).thn,.int .i64 (L p).els,.int .i64 (L p).proc] 61)):=(k3 _ _ _ _ SI.out (by decide) (by decide) (by decide) (by decide)).trans SI.out;have MC:Hid (Mem u5 base pC rC.M):=m3;have BC:Hid (Below base wr u5/\Kept wr u5):=⟨b3,k3⟩
     clear hcl AU v6 g6 m3 b3 k3 ZI SI;clear e0 e1 e2 e3 e4 e5 e6 e7 e8 e9 e10 e11 eq;go_wp2_with(refine wpList_store_at rfl 54 (.tmp 3) (.tmp 91) rfl w.heap.size _ _ 54 rfl rfl QC.out ?_ ?_ ?_ ?_;exact(Nat.le_refl 12);exact run_info;exact rA_one _ _ _;intro u6 hq f z);unfold Hid;rw[put_rr]at hq;have EC:Hid (EW w base w.heap.size fu u6 pC rC):=EI.out.put BC.out.1 BC.out.2 MC.out f hq;have ZC:Hid (u6.heap[w.heap.size+1]?=some (.cells zA 54)):=(f.block _ (Array.getElem?_eq_some_iff.1 ZCa.out).1 (by omega)).trans ZCa.out;have SC:Hid (u6.heap[sb]?=some (.cells #[.int .i64 (L p).k,.int .i64 (L p).op,.int .i64 (L p).d,.int .i64 (L p).a,.int .i64 (L p).b,.int .i64 (L p).imm,.int .i64 (L p).h,.int .i64 (L p).cond,.int .i64 (L p).thn,.int .i64 (L p).els,.int .i64 (L p).proc] 61)):=(f.block _ (Array.getElem?_eq_some_iff.1 SCa.out).1 (by omega)).trans SCa.out;clear hq f z ZCa SCa MC BC QC EI;obtain⟨e0,e1,e2,e3,e4,e5,e6,e7,e8,e9,e10,e11⟩:=EC.out.cells;have eq:=EC.out.lt;go_wp2_with fail;refine(l3Going_any pC fu rC u6).mono ?_;rintro e u7⟨rfl,b3⟩;have ED:Hid (EW w base w.heap.size fu u7 pC rC):=EC.out.below b3;have ZD:Hid (u7.heap[w.heap.size+1]?=some (.cells zA 54)):=(b3.block _ (Array.getElem?_eq_some_iff.1 ZC.out).1).trans ZC.out;have SD:Hid (u7.heap[sb]?=some (.cells #[.int .i64 (L p).k,.int .i64 (L p).op,.int .i64 (L p).d,.int .i64 (L p).a,.int .i64 (L p).b,.int .i64 (L p).imm,.int .i64 (L p).h,.int .i64 (L p).cond,.int .i64 (L p).thn,.int .i64 (L p).els,.int .i64 (L p).proc] 61)):=(b3.block _ (Array.getElem?_eq_some_iff.1 SC.out).1).trans SC.out;clear b3 EC ZC SC;clear e0 e1 e2 e3 e4 e5 e6 e7 e8 e9 e10 e11 eq;by_cases hg:rC.go
     ·rw[RV.goB_yes hg]
      have HGC:Hid (rC.go):=hg;clear hg;obtain⟨e0,e1,e2,e3,e4,e5,e6,e7,e8,e9,e10,e11⟩:=ED.out.cells;have eq:=ED.out.lt;obtain⟨s0,s1,s2,s3,s4,s5,s6,s7,s8,s9,s10⟩:=st_bl SD.out;have sq:=(Array.getElem?_eq_some_iff.1 SD.out).1;have bsF:=Nat.le_trans ED.out.bs ED.out.B.size;have gA:=GC.out.u0;have gB:=GC.out.u1;have gC:=GC.out.seen;go_wp2_with fail;refine(l3Look_any base pC fu rC (L p).cond u7 ED.out.M bsF (by omega) gA gB hf HGC.out.1).mono ?_;rintro e u8⟨pF,rfl,m3,b3,k3⟩;obtain⟨rF,hF,hlk⟩:∃x y,lookR fu (L p).cond rC=(x,y):=⟨_,_,rfl⟩
      have g3:=GC.out.look (L p).cond;rw[hlk]at m3 g3⊢;dsimp only at m3 g3⊢;have LKF:Hid (lookR fu (L p).cond rC=(rF,hF)):=hlk;have GF:Hid (RGood fu Bd rF):=g3;have QF:Hid _:=ED.out.kept k3;have ZFa:Hid (u8.heap[w.heap.size+1]?=some (.cells zA 54)):=(k3 _ _ _ _ ZD.out (by decide) (by decide) (by decide) (by decide)).trans ZD.out;have SFa:Hid (u8.heap[sb]?=some (.cells #[.int .i64 (L p).k,.int .i64 (L p).op,.int .i64 (L p).d,.int .i64 (L p).a,.int .i64 (L p).b,.int .i64 (L p).imm,.int .i64 (L p).h,.int .i64 (L p).cond,.int .i64 (L p).thn,.int .i64 (L p).els,.int .i64 (L p).proc] 61)):=(k3 _ _ _ _ SD.out (by decide) (by decide) (by decide) (by decide)).trans SD.out;have MF:Hid (Mem u8 base pF rF.M):=m3;have BF:Hid (Below base u7 u8/\Kept u7 u8):=⟨b3,k3⟩
      clear m3 b3 k3 hlk g3 ZD SD gA gB gC bsF;clear e0 e1 e2 e3 e4 e5 e6 e7 e8 e9 e10 e11 eq;clear s0 s1 s2 s3 s4 s5 s6 s7 s8 s9 s10 sq;go_wp2_with(refine wpList_store_at rfl 54 (.tmp 3) (.tmp 99) rfl w.heap.size _ _ 54 rfl rfl QF.out ?_ ?_ ?_ ?_;exact(Nat.le_refl 12);exact run_info;exact rA_one _ _ _;intro u9x hq f z);unfold Hid;rw[put_rr]at hq;have EF:Hid (EW w base w.heap.size fu u9x pF rF):=ED.out.put BF.out.1 BF.out.2 MF.out f hq;have ZF:Hid (u9x.heap[w.heap.size+1]?=some (.cells zA 54)):=(f.block _ (Array.getElem?_eq_some_iff.1 ZFa.out).1 (by omega)).trans ZFa.out;have SF:Hid (u9x.heap[sb]?=some (.cells #[.int .i64 (L p).k,.int .i64 (L p).op,.int .i64 (L p).d,.int .i64 (L p).a,.int .i64 (L p).b,.int .i64 (L p).imm,.int .i64 (L p).h,.int .i64 (L p).cond,.int .i64 (L p).thn,.int .i64 (L p).els,.int .i64 (L p).proc] 61)):=(f.block _ (Array.getElem?_eq_some_iff.1 SFa.out).1 (by omega)).trans SFa.out;clear hq f z ZFa SFa MF BF QF ED;go_wp2;go_roundw
      case rel=>
       exact⟨pF,rF,hF,rfl,EF.out,ZF.out,SF.out,GF.out,fun h=>(look_yes (by rw[LKF.out,h]) HGC.out).2,fun h r2 r' x y=>VI.out.1 (by trivial) rC r' VC.out (Ev.more hlt HGC.out HK1.out (by rw[LKF.out,h]) (by rw[HA'.out.2];exact x) y),fun h r' x=>VI.out.1 (by trivial) rC r' VC.out (Ev.done hlt HGC.out HK1.out (by rw[LKF.out,h]) x)⟩
      case measure=>
       have q1:=EMI.out;rw[if_pos (by trivial)]at q1;rw[evM_eq EF.out,q1];have m1:=VC.out.mono;have m2:=GC.out.u1;split
       ·next h=>have m3:=(look_yes (by rw[LKF.out,h]) HGC.out).1;omega
       ·omega
     ·rw[RV.goB_no hg]
      have HNG:Hid (¬rC.go):=hg;clear hg;go_wp2;go_roundw
      case rel=>
       refine⟨pC,rC,false,rfl,ED.out,ZD.out,SD.out,GC.out,(fun h=>Bool.noConfusion h),(fun h=>Bool.noConfusion h),fun _ r' x=>?_⟩;have e:rC=r':=(Ev.stop fun h=>HNG.out h.2).det x;subst e;exact VI.out.1 (by trivial) rC rC VC.out (Ev.stop fun h=>HNG.out h.2)
      case measure=>
       have q1:=EMI.out;rw[if_pos (by trivial)]at q1;rw[q1];have m1:=VC.out.mono;have m2:=GC.out.u1;show 0<_;omega
  ·obtain⟨x0,x1⟩:=st_call HSOK.out hk
   omega
end Go.Proofs.YtlkjdanoejdgbaaGreat
