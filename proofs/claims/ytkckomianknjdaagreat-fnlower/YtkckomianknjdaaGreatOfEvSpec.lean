import Derived.Test.YtkckomianknjdaaGreatOfCoreF
import Derived.Test.YtkckomianknjdaaGreatOfFlMath
import Derived.Test.YtkckomianknjdaaGreatOfSpecAny
set_option maxHeartbeats 32000000
set_option maxRecDepth 20000
namespace Go.Proofs.YtkckomianknjdaaGreat
open Go.RowKit
variable {u:World}
theorem Gq(p:Pl)(d:Int)(r:RV)(w:World):
 Calls Tryz.prog 22 #[.agg #[Vs p.bR 8 p.cR,.bool r.M.z,.bool r.M.c,.bool r.M.hz,.bool r.M.hc,.slice p.aH r.M.nH p.cH,Vi r.M.pc,Vi r.M.st,.slice p.aO r.M.nO p.cO,Vi r.used,Vi d,.bool r.out]] w fun e h=>e=.returned (.bool r.goB)/\Below w.heap.size w h:=by
 obtain⟨M,b,a⟩:=r;dsimp only;cases a with
 |true=>
  go_enter Tryz.func22,Tryz.ntmps22;go_wp2;go_ret;exact⟨by simp[RV.goB],Ah⟩
 |false=>
  go_enter Tryz.func22,Tryz.ntmps22;go_wp2;go_ret;exact⟨AZ (by rw[Bool.eq_iff_iff];simp[RV.goB]),Ah⟩
theorem La(p:Pl)(b:Int)(r:RV)(w:World)(u0:0<=r.used)(u1:r.used<=b)(l:b<=40000):
 Calls Tryz.prog 48 #[.agg #[Vs p.bR 8 p.cR,.bool r.M.z,.bool r.M.c,.bool r.M.hz,.bool r.M.hc,.slice p.aH r.M.nH p.cH,Vi r.M.pc,Vi r.M.st,.slice p.aO r.M.nO p.cO,Vi r.used,Vi b,.bool r.out]] w fun e j=>e=.returned (.agg (rA p b (fI b r)))/\Below w.heap.size w j:=by
 obtain⟨M,a,d⟩:=r;dsimp only at u0 u1⊢;by_cases h:a=b
 ·subst h
  rw[show fI a ⟨M,a,d⟩=⟨M,a,true⟩from if_pos rfl];try dsimp only
  go_enter Tryz.func48,Tryz.ntmps48;go_wp2;refine bodyPost_ret (v:=.agg #[Vs p.bR 8 p.cR,.bool M.z,.bool M.c,.bool M.hz,.bool M.hc,.slice p.aH M.nH p.cH,Vi M.pc,Vi M.st,.slice p.aO M.nO p.cO,Vi a,Vi a,.bool true]) (by simp[results,Tryz.results48,go_sem]) rfl ⟨rfl,?_⟩;repeat'(first|exact Ah|refine Below.setCell ?_ AY _|refine Below.alloc ?_ AY _)
 ·have k:(a==b)=false:=by simp[h]
  rw[show fI b ⟨M,a,d⟩=⟨M,a+1,d⟩from if_neg h];try dsimp only
  clear h;go_enter Tryz.func48,Tryz.ntmps48;go_wp2;refine bodyPost_ret (v:=.agg #[Vs p.bR 8 p.cR,.bool M.z,.bool M.c,.bool M.hz,.bool M.hc,.slice p.aH M.nH p.cH,Vi M.pc,Vi M.st,.slice p.aO M.nO p.cO,Vi (a+1),Vi b,.bool d]) (by simp[results,Tryz.results48,go_sem]) rfl ⟨rfl,?_⟩;repeat'(first|exact Ah|refine Below.setCell ?_ AY _|refine Below.alloc ?_ AY _)
theorem run_end{w v:World}{l q z:Nat}{O:Int}{p:Pl}{r:RV}(h:EW w l q O u p r){b:Array Value}(c:u.heap[z]?=some (.cells b 55))(a:w.heap.size<=z)(f:Ft z u v):Mem v l p r.M/\Below l w v/\Kept w v:=
 ⟨h.M.off f c Aa Aa Aa Aa,Co h.B f (Nat.le_trans h.bs h.B.size) (Nat.le_trans h.bs a),h.K.ft h.B.size f a⟩
theorem Jd(base:Nat)(p:Pl)(fu:Int)(r:RV)(c:Int)(w:World)(h0:Mem w base p r.M)(hb:base<=w.heap.size)(hn:r.M.nO<=1048575)(v0:0<=r.used)(v1:r.used<=fu)(hf:fu<=40000)(ho:r.out=false):
 Calls Tryz.prog 50 #[.agg #[Vs p.bR 8 p.cR,.bool r.M.z,.bool r.M.c,.bool r.M.hz,.bool r.M.hc,.slice p.aH r.M.nH p.cH,Vi r.M.pc,Vi r.M.st,.slice p.aO r.M.nO p.cO,Vi r.used,Vi fu,.bool r.out],Vi c] w fun e w'=>∃p',e=.returned (.tuple #[.agg (rA p' fu (CZ fu c r).1),.bool (CZ fu c r).2])/\Mem w' base p' (CZ fu c r).1.M/\Below base w w'/\Kept w w':=by
 have H0:=hxy h0;have HO:=hxy ho;clear h0 ho;go_enter Tryz.func50,Tryz.ntmps50;go_upto_region 1 with fail;obtain⟨u0,hu0,e0,zb⟩:∃y,(w.alloc (.cells #[Vs p.bR 8 p.cR,.bool r.M.z,.bool r.M.c,.bool r.M.hz,.bool r.M.hc,.slice p.aH r.M.nH p.cH,Vi r.M.pc,Vi r.M.st,.slice p.aO r.M.nO p.cO,Vi r.used,Vi fu,.bool r.out] 55)).alloc (.cells #[.slice none 0 0,.bool false,.bool false,.bool false,.bool false,.slice none 0 0,Vi 0,Vi 0,.slice none 0 0,Vi 0,Vi 0,.bool false] 55)=y/\EW w base w.heap.size fu y p r/\y.heap[w.heap.size+1]?=some (.cells zA 55):=by
  have b0:Bw w ((w.alloc (.cells #[Vs p.bR 8 p.cR,.bool r.M.z,.bool r.M.c,.bool r.M.hz,.bool r.M.hc,.slice p.aH r.M.nH p.cH,Vi r.M.pc,Vi r.M.st,.slice p.aO r.M.nO p.cO,Vi r.used,Vi fu,.bool r.out] 55)).alloc (.cells #[.slice none 0 0,.bool false,.bool false,.bool false,.bool false,.slice none 0 0,Vi 0,Vi 0,.slice none 0 0,Vi 0,Vi 0,.bool false] 55)):=(Ah).alloc AY _;exact⟨_,rfl,⟨b0.mono hb,Kept.below b0,(Below.heap_alloc _ _ _ AY).trans (Eo _ _),H0.below b0,BP,hb⟩,by have:=Eo (w.alloc (.cells #[Vs p.bR 8 p.cR,.bool r.M.z,.bool r.M.c,.bool r.M.hz,.bool r.M.hc,.slice p.aH r.M.nH p.cH,Vi r.M.pc,Vi r.M.st,.slice p.aO r.M.nO p.cO,Vi r.used,Vi fu,.bool r.out] 55)) (.cells zA 55);rw[World.size_alloc]at this;exact this⟩
 rw[hu0];have E0:=hxy e0;have Z0:=hxy zb;clear hu0 e0 zb H0;obtain⟨c0,c1,c2,c3,c4,c5,c6,c7,c8,c9,c10,c11⟩:=E0.cells;have lq:=E0.lt;go_wp2_with fail;refine(La p fu r u0 v0 v1 hf).mono ?_;rintro e u1⟨rfl,b1⟩;have E1:=hxy (E0.below b1);have Z1:Hid (u1.heap[w.heap.size+1]?=some (.cells zA 55)):=(b1.block _ (Cj.1 Z0).1).trans Z0;clear E0 Z0 b1 c0 c1 c2 c3 c4 c5 c6 c7 c8 c9 c10 c11 lq;obtain⟨M,used,out⟩:=r;dsimp only at hn v0 v1⊢;obtain rfl:out=false:=HO.out;clear HO;by_cases h:used=fu
 ·have HL:Hid (CZ fu c ⟨M,used,false⟩=(⟨M,used,true⟩,false)):=if_pos h
  rw[show fI fu ⟨M,used,false⟩=⟨M,used,true⟩from if_pos h];try dsimp only
  clear h;go_wp2_with(refine Ad rfl 55 (.tmp 2) (.tmp 10) rfl w.heap.size _ _ 55 rfl rfl E1.Q ?_ ?_ ?_ ?_;exact(Nat.le_refl 12);exact Be;exact Em _ _ _;intro u2 hq2 f2 z2);unfold Hid;rw[Gs]at hq2;have E2:Hid (EW w base w.heap.size fu u2 p ⟨M,used,true⟩):=E1.put Al (Kept.below Al) E1.M f2 hq2;have Z2:Hid (u2.heap[w.heap.size+1]?=some (.cells zA 55)):=(f2.block _ (Cj.1 Z1).1 AB).trans Z1;clear hq2 f2 z2 E1 Z1;obtain⟨c0,c1,c2,c3,c4,c5,c6,c7,c8,c9,c10,c11⟩:=E2.cells;have lq:=E2.lt;dsimp only at c0 c1 c2 c3 c4 c5 c6 c7 c8 c9 c10 c11;clear c0 c1 c2 c3 c4 c5 c6 c7 c8 c9 c10 lq;go_wp2_with(first|(refine Du rfl 55 (.tmp 2) rfl w.heap.size _ 55 _ rfl E2.Q Tryz.underlying55 rfl Be ?_)|(refine Ad rfl 55 (.tmp 4) (.tmp 13) rfl (w.heap.size+1) _ _ 55 rfl rfl Z2 ?_ ?_ ?_ ?_;exact(Nat.le_refl 12);exact Be;exact Em _ _ _;intro u6 hq6 f6 z6));unfold Hid;rw[Kz]at hq6;have X6:Hid _:=hq6;have E6:Hid _:=run_end E2 Z2 AB f6;clear hq6 f6 z6 E2 Z2;go_wp2;refine bodyPost_ret (v:=.tuple #[.agg (rA p fu ⟨M,used,true⟩),.bool false]) (Gl rfl _ _ (w.heap.size+1) _ _ rfl rfl (C8 X6.out 55 _ Tryz.underlying55 rfl Be)) rfl ⟨p,by rw[HL.out],?_⟩;rw[HL.out];exact E6
 ·have HL:Hid (CZ fu c ⟨M,used,false⟩=(⟨Ea c M,used+1,false⟩,Jr c M&&Gh c M)):=if_neg h
  rw[show fI fu ⟨M,used,false⟩=⟨M,used+1,false⟩from if_neg h];try dsimp only
  clear h
  go_wp2_with(refine Ad rfl 55 (.tmp 2) (.tmp 10) rfl w.heap.size _ _ 55 rfl rfl E1.Q ?_ ?_ ?_ ?_;exact(Nat.le_refl 12);exact Be;exact Em _ _ _;intro u2 hq2 f2 z2)
  unfold Hid
  rw[Gs]at hq2
  have E2:Hid (EW w base w.heap.size fu u2 p ⟨M,used+1,false⟩):=E1.put Al (Kept.below Al) E1.M f2 hq2
  have Z2:Hid (u2.heap[w.heap.size+1]?=some (.cells zA 55)):=(f2.block _ (Cj.1 Z1).1 AB).trans Z1
  clear hq2 f2 z2 E1 Z1
  obtain⟨c0,c1,c2,c3,c4,c5,c6,c7,c8,c9,c10,c11⟩:=E2.cells
  have lq:=E2.lt
  dsimp only at c0 c1 c2 c3 c4 c5 c6 c7 c8 c9 c10 c11
  go_wp2_with fail
  refine(UL _ _ _ _ _ _ _ _ _ _ _ _ _ _ _ _ u2).mono ?_
  rintro e u3⟨rfl,b3⟩
  rw[show(if c<=2 then#[Value.bool M.hz,.bool (M.z==decide (c=1))]else#[.bool M.hc,.bool (M.c==decide (c=3))])=#[.bool (Jr c M),.bool (Gh c M)]by unfold Jr Gh;split<;>rfl]
  have E3:=hxy (E2.below b3)
  have Z3:Hid (u3.heap[w.heap.size+1]?=some (.cells zA 55)):=(b3.block _ (Cj.1 Z2).1).trans Z2
  clear b3 E2 Z2 c0 c1 c2 c3 c4 c5 c6 c7 c8 c9 c10 c11 lq
  obtain⟨hh,ehh⟩:=BG (Jr c M)
  obtain⟨ho,eho⟩:=BG (Gh c M)
  rw[ehh,eho]
  obtain⟨c0,c1,c2,c3,c4,c5,c6,c7,c8,c9,c10,c11⟩:=E3.cells
  have lq:=E3.lt
  dsimp only at c0 c1 c2 c3 c4 c5 c6 c7 c8 c9 c10 c11
  cases hh with
  |false=>
   have HM:Hid (Ea c M=M.fault/\(Jr c M&&Gh c M)=false):=⟨by unfold Ea;rw[ehh];rfl,by rw[ehh];rfl⟩
   clear ehh eho
   go_wp2_with fail
   refine(CX _ _ _ _ _ _ _ _ _ _ _ _ _ _ _ u3).mono ?_
   rintro e u4⟨he,b4⟩
   obtain rfl:e=.returned (.agg (mA p M.fault)):=he
   have E4:=hxy (E3.below b4)
   have Z4:Hid (u4.heap[w.heap.size+1]?=some (.cells zA 55)):=(b4.block _ (Cj.1 Z3).1).trans Z3
   clear b4 E3 Z3 c0 c1 c2 c3 c4 c5 c6 c7 c8 c9 c10 c11 lq
   go_wp2_with(refine Ad rfl 28 (.tmp 26) (.tmp 25) rfl w.heap.size _ _ 55 rfl rfl E4.Q ?_ ?_ ?_ ?_;exact(show 9<=12 by decide);exact I9;exact Pt _ _;intro u5 hq5 f5 z5)
   unfold Hid
   rw[Pm]at hq5
   have E5:Hid (EW w base w.heap.size fu u5 p ⟨M.fault,used+1,false⟩):=E4.put Al (Kept.below Al) E4.M.faulted f5 hq5
   have Z5:Hid (u5.heap[w.heap.size+1]?=some (.cells zA 55)):=(f5.block _ (Cj.1 Z4).1 AB).trans Z4
   clear hq5 f5 z5 E4 Z4
   go_wp2_with(first|(refine Du rfl 55 (.tmp 2) rfl w.heap.size _ 55 _ rfl E5.Q Tryz.underlying55 rfl Be ?_)|(refine Ad rfl 55 (.tmp 4) (.tmp 27) rfl (w.heap.size+1) _ _ 55 rfl rfl Z5 ?_ ?_ ?_ ?_;exact(Nat.le_refl 12);exact Be;exact Em _ _ _;intro u6 hq6 f6 z6))
   unfold Hid
   rw[Kz]at hq6
   have X6:Hid _:=hq6
   have E6:Hid _:=run_end E5 Z5 AB f6
   clear hq6 f6 z6 E5 Z5
   go_wp2
   refine bodyPost_ret (v:=.tuple #[.agg (rA p fu ⟨M.fault,used+1,false⟩),.bool false]) (Gl rfl _ _ (w.heap.size+1) _ _ rfl rfl (C8 X6.out 55 _ Tryz.underlying55 rfl Be)) rfl ⟨p,by rw[HL.out,HM.1,HM.2],?_⟩
   rw[HL.out,HM.1]
   exact E6
  |true=>
   have HM:Hid (Ea c M=M.see 2 (if ho then 0 else 1)/\(Jr c M&&Gh c M)=ho):=⟨by unfold Ea;rw[ehh,eho];rfl,by rw[ehh,eho];rfl⟩
   clear ehh eho
   obtain⟨sv,hsv⟩:∃x:Int,(if ho then 0 else 1)=x:=⟨_,rfl⟩
   rw[hsv]at HM
   cases ho with
   |true=>
    obtain rfl:(0:Int)=sv:=hsv
    go_wp2_with fail
    refine(Hw base (first (M.nO*2) (CR M.K M.V)) _ _ _ _ _ _ _ _ _ _ _ _ _ _ _ 2 0 u3 (show M.nO<=1048576 by omega) (Nat.le_trans E3.bs E3.B.size) E3.M.obs).mono ?_
    rintro e u4⟨g,cap,he,ow,gr⟩
    obtain rfl:e=.returned (.agg (mA {p with aO:=some ⟨g,0,none⟩,cO:=cap} (M.see 2 0))):=he
    have M4:=hxy (Mem.see E3.M ow gr)
    have K4:=hxy (Kept.grown E3.M gr)
    have B4:Hid (Below base u3 u4):=Al.grown gr (Nat.le_trans E3.bs E3.B.size) (fun k hk=>(E3.M.obs.lt k hk).1)
    have Q4:=E3.kept K4
    have Z4:Hid (u4.heap[w.heap.size+1]?=some (.cells zA 55)):=(K4 _ _ _ _ Z3 Aa Aa Aa Aa).trans Z3
    clear ow gr c0 c1 c2 c3 c4 c5 c6 c7 c8 c9 c10 c11 lq
    go_wp2_with(refine Ad rfl 28 (.tmp 33) (.tmp 32) rfl w.heap.size _ _ 55 rfl rfl Q4 ?_ ?_ ?_ ?_;exact(show 9<=12 by decide);exact I9;exact Pt _ _;intro u5 hq5 f5 z5)
    unfold Hid
    rw[Pm]at hq5
    have E5:Hid (EW w base w.heap.size fu u5 {p with aO:=some ⟨g,0,none⟩,cO:=cap} ⟨M.see 2 0,used+1,false⟩):=E3.put B4 K4 M4 f5 hq5
    have Z5:Hid (u5.heap[w.heap.size+1]?=some (.cells zA 55)):=(f5.block _ (Cj.1 Z4).1 AB).trans Z4
    clear hq5 f5 z5 E3 Z3 M4 K4 B4 Q4 Z4
    go_wp2_with(first|(refine Du rfl 55 (.tmp 2) rfl w.heap.size _ 55 _ rfl E5.Q Tryz.underlying55 rfl Be ?_)|(refine Ad rfl 55 (.tmp 4) (.tmp 34) rfl (w.heap.size+1) _ _ 55 rfl rfl Z5 ?_ ?_ ?_ ?_;exact(Nat.le_refl 12);exact Be;exact Em _ _ _;intro u6 hq6 f6 z6))
    unfold Hid
    rw[Kz]at hq6
    have X6:Hid _:=hq6
    have E6:Hid _:=run_end E5 Z5 AB f6
    clear hq6 f6 z6 E5 Z5
    go_wp2
    refine bodyPost_ret (v:=.tuple #[.agg (rA {p with aO:=some ⟨g,0,none⟩,cO:=cap} fu ⟨(M.see 2 0),used+1,false⟩),.bool true]) (Gl rfl _ _ (w.heap.size+1) _ _ rfl rfl (C8 X6.out 55 _ Tryz.underlying55 rfl Be)) rfl ⟨{p with aO:=some ⟨g,0,none⟩,cO:=cap},by rw[HL.out,HM.1,HM.2],?_⟩
    rw[HL.out,HM.1]
    exact E6
   |false=>
    obtain rfl:(1:Int)=sv:=hsv
    go_wp2_with fail
    refine(Hw base (first (M.nO*2) (CR M.K M.V)) _ _ _ _ _ _ _ _ _ _ _ _ _ _ _ 2 1 u3 (show M.nO<=1048576 by omega) (Nat.le_trans E3.bs E3.B.size) E3.M.obs).mono ?_
    rintro e u4⟨g,cap,he,ow,gr⟩
    obtain rfl:e=.returned (.agg (mA {p with aO:=some ⟨g,0,none⟩,cO:=cap} (M.see 2 1))):=he
    have M4:=hxy (Mem.see E3.M ow gr)
    have K4:=hxy (Kept.grown E3.M gr)
    have B4:Hid (Below base u3 u4):=Al.grown gr (Nat.le_trans E3.bs E3.B.size) (fun k hk=>(E3.M.obs.lt k hk).1)
    have Q4:=E3.kept K4
    have Z4:Hid (u4.heap[w.heap.size+1]?=some (.cells zA 55)):=(K4 _ _ _ _ Z3 Aa Aa Aa Aa).trans Z3
    clear ow gr c0 c1 c2 c3 c4 c5 c6 c7 c8 c9 c10 c11 lq
    go_wp2_with(refine Ad rfl 28 (.tmp 33) (.tmp 32) rfl w.heap.size _ _ 55 rfl rfl Q4 ?_ ?_ ?_ ?_;exact(show 9<=12 by decide);exact I9;exact Pt _ _;intro u5 hq5 f5 z5)
    unfold Hid
    rw[Pm]at hq5
    have E5:Hid (EW w base w.heap.size fu u5 {p with aO:=some ⟨g,0,none⟩,cO:=cap} ⟨M.see 2 1,used+1,false⟩):=E3.put B4 K4 M4 f5 hq5
    have Z5:Hid (u5.heap[w.heap.size+1]?=some (.cells zA 55)):=(f5.block _ (Cj.1 Z4).1 AB).trans Z4
    clear hq5 f5 z5 E3 Z3 M4 K4 B4 Q4 Z4
    go_wp2_with(first|(refine Du rfl 55 (.tmp 2) rfl w.heap.size _ 55 _ rfl E5.Q Tryz.underlying55 rfl Be ?_)|(refine Ad rfl 55 (.tmp 4) (.tmp 34) rfl (w.heap.size+1) _ _ 55 rfl rfl Z5 ?_ ?_ ?_ ?_;exact(Nat.le_refl 12);exact Be;exact Em _ _ _;intro u6 hq6 f6 z6))
    unfold Hid
    rw[Kz]at hq6
    have X6:Hid _:=hq6
    have E6:Hid _:=run_end E5 Z5 AB f6
    clear hq6 f6 z6 E5 Z5
    go_wp2
    refine bodyPost_ret (v:=.tuple #[.agg (rA {p with aO:=some ⟨g,0,none⟩,cO:=cap} fu ⟨(M.see 2 1),used+1,false⟩),.bool false]) (Gl rfl _ _ (w.heap.size+1) _ _ rfl rfl (C8 X6.out 55 _ Tryz.underlying55 rfl Be)) rfl ⟨{p with aO:=some ⟨g,0,none⟩,cO:=cap},by rw[HL.out,HM.1,HM.2],?_⟩
    rw[HL.out,HM.1]
    exact E6
theorem IU{c:Nat}{s:SV}(h:u.heap[c]?=some (.cells #[Vi s.k,Vi s.op,Vi s.d,Vi s.a,Vi s.b,Vi s.imm,Vi s.h,Vi s.cond,Vi s.thn,Vi s.els,Vi s.proc] 111)):u.cell? (Va c 0)=some (Vi s.k)/\u.cell? (Va c 1)=some (Vi s.op)/\u.cell? (Va c 2)=some (Vi s.d)/\u.cell? (Va c 3)=some (Vi s.a)/\u.cell? (Va c 4)=some (Vi s.b)/\u.cell? (Va c 5)=some (Vi s.imm)/\u.cell? (Va c 6)=some (Vi s.h)/\u.cell? (Va c 7)=some (Vi s.cond)/\u.cell? (Va c 8)=some (Vi s.thn)/\u.cell? (Va c 9)=some (Vi s.els)/\u.cell? (Va c 10)=some (Vi s.proc):=
 ⟨Af h 0,Af h 1,Af h 2,Af h 3,Af h 4,Af h 5,Af h 6,Af h 7,Af h 8,Af h 9,Af h 10⟩
def kQ(q:Nat)(fu:Int)(hv:Value)(w:World):Nat:=match hv with
 |.bool true=>(fu-intOf ((w.cell? (Va q 9)).getD undef)+1).toNat
 |_=>0
theorem XR{F:World}{l q:Nat}{O:Int}{p:Pl}{r:RV}(h:EW F l q O u p r)(b:Bool):kQ q O (.bool b) u=if b then(O-r.used+1).toNat else 0:=by
 cases b with
 |false=>rfl
 |true=>unfold kQ;rw[h.cells.2.2.2.2.2.2.2.2.2.1];rfl
def EvC(L:Nat->SV)(fu:Int)(Bd b n i te:Nat):Prop:=
 ∀(off len cap' base:Nat)(p:Pl)(r:RV)(w:World),len=te-i->(0<len->off=i*11)->len<=cap'->BZ w b (n*11) (I5 L)->b<base->base<=w.heap.size->Mem w base p r.M->Dz fu Bd r->
  Calls Tryz.prog 20 #[.slice (some ⟨b,off,none⟩) len cap',.agg #[Vs p.bR 8 p.cR,.bool r.M.z,.bool r.M.c,.bool r.M.hz,.bool r.M.hc,.slice p.aH r.M.nH p.cH,Vi r.M.pc,Vi r.M.st,.slice p.aO r.M.nO p.cO,Vi r.used,Vi fu,.bool r.out]] w fun e w'=>∃p' r',e=.returned (.agg (rA p' fu r'))/\(Ev L fu i te r r'/\Dz fu Bd r')/\Mem w' base p' r'.M/\Below base w w'/\Kept w w'
theorem PI(L:Nat->SV)(fu:Int)(Bd b n i te:Nat)(depth:Int)(hf:fu<=40000)(hB:Bd<=200000)(hit:i<=te)(hte:te<=n)(ln:n<=2000)(hck:(Cy L 0 0 321 i te depth).1=0)
 (hI:∀i' te' d,i<=i'->i'<=te'->te'<=te->te'-i'<te-i->(Cy L 0 0 321 i' te' d).1=0->EvC L fu Bd b n i' te'):EvC L fu Bd b n i te:=by
 intro off len cap' base p0 r0 w hlen hoff hcap hA hb0 hbs hM hG;have hl1:len<=te-i:=AB;have hl2:te-i<=len:=AB;have HOFF:=hxy hoff;have HI:Hid _:=hI;have HCK:=hxy hck;have HA:=hxy hA;have HM:=hxy hM;have HG:=hxy hG;clear hlen hoff hI hck hA hM hG;go_enter Tryz.func20,Tryz.ntmps20;go_upto_region 1 with fail;obtain⟨u0,hu0,x0,zb⟩:∃y,(w.alloc (.cells #[Vs p0.bR 8 p0.cR,.bool r0.M.z,.bool r0.M.c,.bool r0.M.hz,.bool r0.M.hc,.slice p0.aH r0.M.nH p0.cH,Vi r0.M.pc,Vi r0.M.st,.slice p0.aO r0.M.nO p0.cO,Vi r0.used,Vi fu,.bool r0.out] 55)).alloc (.cells #[.slice none 0 0,.bool false,.bool false,.bool false,.bool false,.slice none 0 0,Vi 0,Vi 0,.slice none 0 0,Vi 0,Vi 0,.bool false] 55)=y/\EW w base w.heap.size fu y p0 r0/\y.heap[w.heap.size+1]?=some (.cells zA 55):=by
  have b0:Bw w ((w.alloc (.cells #[Vs p0.bR 8 p0.cR,.bool r0.M.z,.bool r0.M.c,.bool r0.M.hz,.bool r0.M.hc,.slice p0.aH r0.M.nH p0.cH,Vi r0.M.pc,Vi r0.M.st,.slice p0.aO r0.M.nO p0.cO,Vi r0.used,Vi fu,.bool r0.out] 55)).alloc (.cells zA 55)):=(Ah).alloc AY _;exact⟨_,rfl,⟨b0.mono hbs,Kept.below b0,(Below.heap_alloc _ _ _ AY).trans (Eo _ _),HM.below b0,BP,hbs⟩,by have:=Eo (w.alloc (.cells #[Vs p0.bR 8 p0.cR,.bool r0.M.z,.bool r0.M.c,.bool r0.M.hz,.bool r0.M.hc,.slice p0.aH r0.M.nH p0.cH,Vi r0.M.pc,Vi r0.M.st,.slice p0.aO r0.M.nO p0.cO,Vi r0.used,Vi fu,.bool r0.out] 55)) (.cells zA 55);rw[World.size_alloc]at this;exact this⟩
 rw[hu0];have E0:=hxy x0;have Z0:=hxy zb;clear hu0 x0 zb HM;go_wp2_with fail;go_loopw [5](fun iv wr=>∃(j:Nat)(pk:Pl)(rk:RV),i+j<=te/\iv=Vi (j:Int)/\EW w base w.heap.size fu wr pk rk/\wr.heap[w.heap.size+1]?=some (.cells zA 55)/\Dz fu Bd rk/\(∀r',Ev L fu (i+j) te rk r'->Ev L fu i te r0 r')/\(Cy L 0 0 321 (i+j) te depth).1=0)(fun iv _=>len-(intOf iv).toNat)
 case atStart=>exact⟨0,p0,r0,AB,rfl,E0,Z0,HG,fun r' h=>by rw[Nat.add_zero]at h;exact h,by rw[Nat.add_zero];exact HCK⟩
 case round=>
  obtain⟨j,pk,rk,hj,rfl,hE,hZ,hg,hev,hc⟩:=hrel;have E1:=hxy hE;have Z1:=hxy hZ;have G1:=hxy hg;have V1:=hxy hev;have HK:=hxy hc;clear hE hZ hg hev hc E0 Z0 HG HCK;by_cases hlt:i+j<te
  rotate_left
  ·have hlt':¬(j:Int)<(len:Int):=AB
   go_wp2_with(first|(refine Du rfl 55 (.tmp 3) rfl w.heap.size _ 55 _ rfl E1.Q Tryz.underlying55 rfl Be ?_)|(refine Ad rfl 55 (.tmp 4) (.tmp 109) rfl (w.heap.size+1) _ _ 55 rfl rfl Z1 ?_ ?_ ?_ ?_;exact(Nat.le_refl 12);exact Be;exact Em _ _ _;intro u9 hq f z));unfold Hid;rw[Kz]at hq;have X9:Hid _:=hq;have E9:Hid _:=run_end E1 Z1 AB f;clear hq f z E1 Z1;go_wp2;refine bodyPost_ret (v:=.agg (rA pk fu rk)) (Bp rfl _ _ (w.heap.size+1) _ rfl (C8 X9.out 55 _ Tryz.underlying55 rfl Be)) rfl ⟨pk,rk,rfl,⟨V1 rk (.stop fun h=>hlt h.1),G1⟩,E9⟩
  have hlt':(j:Int)<(len:Int):=AB;obtain⟨e0,e1,e2,e3,e4,e5,e6,e7,e8,e9,e10,e11⟩:=E1.cells;have eq:=E1.lt;go_wp2_with fail;refine(Gq pk fu rk wr).mono ?_;rintro e u1⟨rfl,b1⟩;have E2:=hxy (E1.below b1);have Z2:Hid (u1.heap[w.heap.size+1]?=some (.cells zA 55)):=(b1.block _ (Cj.1 Z1).1).trans Z1;clear b1 E1 Z1;clear e0 e1 e2 e3 e4 e5 e6 e7 e8 e9 e10 e11 eq;by_cases hgo:rk.go
  rotate_left
  ·rw[RV.goB_no hgo]
   go_wp2_with(first|(refine Du rfl 55 (.tmp 3) rfl w.heap.size _ 55 _ rfl E2.Q Tryz.underlying55 rfl Be ?_)|(refine Ad rfl 55 (.tmp 4) (.tmp 109) rfl (w.heap.size+1) _ _ 55 rfl rfl Z2 ?_ ?_ ?_ ?_;exact(Nat.le_refl 12);exact Be;exact Em _ _ _;intro u9 hq f z));unfold Hid;rw[Kz]at hq;have X9:Hid _:=hq;have E9:Hid _:=run_end E2 Z2 AB f;clear hq f z E2 Z2;go_wp2;refine bodyPost_ret (v:=.agg (rA pk fu rk)) (Bp rfl _ _ (w.heap.size+1) _ rfl (C8 X9.out 55 _ Tryz.underlying55 rfl Be)) rfl ⟨pk,rk,rfl,⟨V1 rk (.stop fun h=>hgo h.2),G1⟩,E9⟩
  rw[RV.goB_yes hgo];have HGO:=hxy hgo;clear hgo;have hof:off=i*11:=HOFF.out AB;subst hof;clear HOFF;obtain⟨p,hp⟩:=BG (i+j);rw[hp]at hlt;have HP:=hxy hp;have A2:=hxy (HA.below E2.B hb0);obtain⟨s0,s1,s2,s3,s4,s5,s6,s7,s8,s9,s10⟩:=Gm (n:=n) A2 p AB;rw[show p*11=i*11+j*11 by omega]at s0 s1 s2 s3 s4 s5 s6 s7 s8 s9 s10;rw[hp]at V1 HK;clear hp;go_upto_region 4 with fail;clear s0 s1 s2 s3 s4 s5 s6 s7 s8 s9 s10;obtain⟨u2,hu2,hb2,hc2⟩:∃x,u1.alloc (.cells #[Vi (L p).k,Vi (L p).op,Vi (L p).d,Vi (L p).a,Vi (L p).b,Vi (L p).imm,Vi (L p).h,Vi (L p).cond,Vi (L p).thn,Vi (L p).els,Vi (L p).proc] 111)=x/\Bw u1 x/\x.heap[u1.heap.size]?=some (.cells #[Vi (L p).k,Vi (L p).op,Vi (L p).d,Vi (L p).a,Vi (L p).b,Vi (L p).imm,Vi (L p).h,Vi (L p).cond,Vi (L p).thn,Vi (L p).els,Vi (L p).proc] 111):=⟨_,rfl,Ah,Eo _ _⟩
  rw[hu2];have E3:=hxy (E2.below hb2);have Z3:Hid (u2.heap[w.heap.size+1]?=some (.cells zA 55)):=(hb2.block _ (Cj.1 Z2).1).trans Z2;have zq:=(Cj.1 Z2).1;obtain⟨sb,hsb⟩:=BG u1.heap.size;rw[hsb]at hc2 zq⊢;have S3:=hxy hc2;have lsb:=(Cj.1 hc2).1;clear hu2 hb2 hc2 E2 Z2 hsb A2;obtain⟨sok,hnt,k1,k2,k3⟩:=GU HK hlt;have HK1:Hid _:=k1;have HK2:Hid _:=k2;have HK3:Hid _:=k3;have HSOK:=hxy sok;obtain⟨tp,ep⟩:=Ku sok;clear k1 k2 k3 sok HK;obtain⟨a,ha⟩:∃x:Nat,(L p).thn=(x:Int):=⟨(L p).thn.toNat,AB⟩
  obtain⟨e',he'⟩:∃x:Nat,(L p).els=(x:Int):=⟨(L p).els.toNat,AB⟩
  have HA':Hid ((L p).thn=(a:Int)/\(L p).thn.toNat=a):=⟨ha,AB⟩
  have HB':Hid ((L p).els=(e':Int)/\(L p).els.toNat=e'):=⟨he',AB⟩
  rw[HA'.2,HB'.2]at hnt;have hij:=HP.out;obtain⟨s0,s1,s2,s3,s4,s5,s6,s7,s8,s9,s10⟩:=IU S3;have sq:=(Cj.1 S3).1;rw[ha]at s8;rw[he']at s9;have lz:a<=2000:=AB;have lz2:e'<=2000:=AB;clear ha he' tp ep;go_cut [7](fun av wx=>wx=u2/\∃oa ca:Nat,av=.slice (some ⟨b,oa,none⟩) a ca/\(0<a->oa=(p+1)*11)/\a<=ca)
  case first=>
   go_wp2_with fail;all_goals
    try(have hcj:cap'=j+1:=by assumption
        subst hcj)
    go_meet;exact⟨rfl,_,_,rfl,AB,AB⟩
  case rest=>
  obtain⟨hwx,oa,ca,rfl,oa1,oa2⟩:=hcut;rw[hwx];clear hwx wc;go_upto_region 5 with fail;go_cut [8](fun av wx=>wx=u2/\∃ob cb:Nat,av=.slice (some ⟨b,ob,none⟩) e' cb/\(0<e'->ob=(p+1+a)*11)/\e'<=cb)
  case first=>
   go_wp2_with fail;all_goals
    try(have hcj:cap'=j+1+a:=by assumption
        subst hcj)
    go_meet;exact⟨rfl,_,_,rfl,AB,AB⟩
  case rest=>
  obtain⟨hwx,ob,cb,rfl,ob1,ob2⟩:=hcut;rw[hwx];clear hwx wc;clear s0 s1 s2 s3 s4 s5 s6 s7 s8 s9 s10 sq;have HKA:Hid ((Cy L 0 0 321 (p+1) (p+1+a) (depth+1)).1=0):=(by have h:=HK1.out;rw[HA'.2]at h;exact h:(Cy L 0 0 321 (p+1) (p+1+a) (depth+1)).1=0)
  have HKB:Hid ((Cy L 0 0 321 (p+1+a) (p+1+a+e') (depth+1)).1=0):=(by have h:=HK2.out;rw[HA'.2,HB'.2]at h;exact h:(Cy L 0 0 321 (p+1+a) (p+1+a+e') (depth+1)).1=0)
  have HKC:Hid ((Cy L 0 0 321 (p+1+a+e') te depth).1=0):=(by have h:=HK3.out;rw[HA'.2,HB'.2]at h;exact h:(Cy L 0 0 321 (p+1+a+e') te depth).1=0)
  have HNX:Hid (Ic L p=p+1+a+e'):=(by unfold Ic;rw[HA'.2,HB'.2]:Ic L p=p+1+a+e')
  clear HK1 HK2 HK3;have gu:=G1.u0;have gv:=G1.u1;have gs:=G1.seen;rcases WK HSOK with hk|hk|hk|hk
  ·have d1:((L p).k==1)=true:=by simp[hk]
   have HK1:=hxy hk;clear hk;obtain⟨e0,e1,e2,e3,e4,e5,e6,e7,e8,e9,e10,e11⟩:=E3.cells;have eq:=E3.lt;obtain⟨s0,s1,s2,s3,s4,s5,s6,s7,s8,s9,s10⟩:=IU S3;have sq:=(Cj.1 S3).1;go_wp2_with fail;refine(La pk fu rk u2 gu gv hf).mono ?_;rintro e u3⟨rfl,b3⟩;have E4:=hxy (E3.below b3);have Z4:Hid (u3.heap[w.heap.size+1]?=some (.cells zA 55)):=(b3.block _ (Cj.1 Z3).1).trans Z3;have S4:Hid (u3.heap[sb]?=some (.cells #[Vi (L p).k,Vi (L p).op,Vi (L p).d,Vi (L p).a,Vi (L p).b,Vi (L p).imm,Vi (L p).h,Vi (L p).cond,Vi (L p).thn,Vi (L p).els,Vi (L p).proc] 111)):=(b3.block _ lsb).trans S3;clear b3 E3 Z3 S3;clear e0 e1 e2 e3 e4 e5 e6 e7 e8 e9 e10 e11 eq;clear s0 s1 s2 s3 s4 s5 s6 s7 s8 s9 s10 sq;by_cases h:rk.used=fu
   ·have HI1:Hid (Gu fu (L p) rk=⟨rk.M,rk.used,true⟩):=if_pos h
    rw[show fI fu rk=⟨rk.M,rk.used,true⟩from if_pos h];clear h;go_wp2_with(refine Ad rfl 55 (.tmp 3) (.tmp 51) rfl w.heap.size _ _ 55 rfl rfl E4.Q ?_ ?_ ?_ ?_;exact(Nat.le_refl 12);exact Be;exact Em _ _ _;intro u4 hq f z);unfold Hid;rw[Gs]at hq;have E5:Hid (EW w base w.heap.size fu u4 pk ⟨rk.M,rk.used,true⟩):=E4.put Al (Kept.below Al) E4.M f hq;have Z5:Hid (u4.heap[w.heap.size+1]?=some (.cells zA 55)):=(f.block _ (Cj.1 Z4).1 AB).trans Z4;have S5:Hid (u4.heap[sb]?=some (.cells #[Vi (L p).k,Vi (L p).op,Vi (L p).d,Vi (L p).a,Vi (L p).b,Vi (L p).imm,Vi (L p).h,Vi (L p).cond,Vi (L p).thn,Vi (L p).els,Vi (L p).proc] 111)):=(f.block _ (Cj.1 S4).1 AB).trans S4;clear hq f z E4 Z4 S4;obtain⟨e0,e1,e2,e3,e4,e5,e6,e7,e8,e9,e10,e11⟩:=E5.cells;have eq:=E5.lt;dsimp only at e0 e1 e2 e3 e4 e5 e6 e7 e8 e9 e10 e11;obtain⟨s0,s1,s2,s3,s4,s5,s6,s7,s8,s9,s10⟩:=IU S5;have sq:=(Cj.1 S5).1;rw[HA'.1]at s8;rw[HB'.1]at s9;go_wp2;go_roundw
    case rel=>
     have hpp:=HP.out;refine⟨j+1+a+e',pk,⟨rk.M,rk.used,true⟩,AB,by go_num,E5,Z5,(by have g:=G1.ins (Ig HSOK HK1).1;rw[HI1.out]at g;exact g),fun r' h=>V1.out r' ?_,?_⟩
     ·rw[show i+(j+1+a+e')=p+1+a+e' by omega,<-HNX.out]at h
      exact Ev.ins hlt HGO HK1 (by rw[HI1.out];exact h)
     ·rw[show i+(j+1+a+e')=p+1+a+e' by omega];exact HKC
    case measure=>have hpp:=HP.out;simp[intOf];omega
   ·have HI1:Hid (Gu fu (L p) rk=⟨RJ (L p) rk.M,rk.used+1,rk.out⟩):=if_neg h
    rw[show fI fu rk=⟨rk.M,rk.used+1,rk.out⟩from if_neg h];clear h;go_wp2_with(refine Ad rfl 55 (.tmp 3) (.tmp 51) rfl w.heap.size _ _ 55 rfl rfl E4.Q ?_ ?_ ?_ ?_;exact(Nat.le_refl 12);exact Be;exact Em _ _ _;intro u4 hq f z);unfold Hid;rw[Gs]at hq;have E5:Hid (EW w base w.heap.size fu u4 pk ⟨rk.M,rk.used+1,rk.out⟩):=E4.put Al (Kept.below Al) E4.M f hq;have Z5:Hid (u4.heap[w.heap.size+1]?=some (.cells zA 55)):=(f.block _ (Cj.1 Z4).1 AB).trans Z4;have S5:Hid (u4.heap[sb]?=some (.cells #[Vi (L p).k,Vi (L p).op,Vi (L p).d,Vi (L p).a,Vi (L p).b,Vi (L p).imm,Vi (L p).h,Vi (L p).cond,Vi (L p).thn,Vi (L p).els,Vi (L p).proc] 111)):=(f.block _ (Cj.1 S4).1 AB).trans S4;clear hq f z E4 Z4 S4;obtain⟨e0,e1,e2,e3,e4,e5,e6,e7,e8,e9,e10,e11⟩:=E5.cells;have eq:=E5.lt;dsimp only at e0 e1 e2 e3 e4 e5 e6 e7 e8 e9 e10 e11;rw[HGO.1]at e11;obtain⟨s0,s1,s2,s3,s4,s5,s6,s7,s8,s9,s10⟩:=IU S5;have sq:=(Cj.1 S5).1;obtain⟨hiv,hop⟩:=Ig HSOK HK1;have hsh:=fun ho=>PK hiv ho
    obtain⟨⟨a1,a2⟩,⟨x1,x2⟩,⟨x3,x4⟩,⟨x5,x6⟩,⟨x7,x8⟩⟩:=GQ hiv;obtain⟨op,f0⟩:=Int.eq_ofNat_of_zero_le (show 0<=(L p).op by omega);obtain⟨dd,f1⟩:=Int.eq_ofNat_of_zero_le x1;obtain⟨ra,f2⟩:=Int.eq_ofNat_of_zero_le x3;obtain⟨rb,f3⟩:=Int.eq_ofNat_of_zero_le x5;obtain⟨hh,f5⟩:=Int.eq_ofNat_of_zero_le x7;have HDO:Hid (RJ (L p) rk.M=Ew op dd ra rb hh (L p).imm rk.M):=(by unfold RJ;rw[f0,f1,f2,f3,f5];rfl:RJ (L p) rk.M=Ew op dd ra rb hh (L p).imm rk.M)
    have HDA:Hid (Calls Tryz.prog 49 #[.agg #[Vs pk.bR 8 pk.cR,.bool rk.M.z,.bool rk.M.c,.bool rk.M.hz,.bool rk.M.hc,.slice pk.aH rk.M.nH pk.cH,Vi rk.M.pc,Vi rk.M.st,.slice pk.aO rk.M.nO pk.cO],.agg #[Vi op,Vi dd,Vi ra,Vi rb,Vi (L p).imm,Vi hh]] u4 (Es base u4 (Ew op dd ra rb hh (L p).imm rk.M))):=fK u4 base pk rk.M E5.M G1.ok AB op dd ra rb hh (L p).imm AB AB AB AB AB (fun ho=>hsh AB);rw[f0]at s1;rw[f1]at s2;rw[f2]at s3;rw[f3]at s4;rw[f5]at s6;clear hiv hop hsh a1 a2 x1 x2 x3 x4 x5 x6 x7 x8 f0 f1 f2 f3 f5;go_wp2_with fail;refine HDA.mono ?_;rintro e u5⟨⟨p5,he,b5,m5⟩,k5⟩;obtain rfl:e=.returned (.agg (mA p5 (Ew op dd ra rb hh (L p).imm rk.M))):=he;rw[<-HDO.out]at m5⊢;have Q6:=E5.kept k5;have Z6:Hid (u5.heap[w.heap.size+1]?=some (.cells zA 55)):=(k5 _ _ _ _ Z5 Aa Aa Aa Aa).trans Z5;have S6:Hid (u5.heap[sb]?=some (.cells #[Vi (L p).k,Vi (L p).op,Vi (L p).d,Vi (L p).a,Vi (L p).b,Vi (L p).imm,Vi (L p).h,Vi (L p).cond,Vi (L p).thn,Vi (L p).els,Vi (L p).proc] 111)):=(k5 _ _ _ _ S5 Aa Aa Aa Aa).trans S5;have M6:=hxy m5;have B6:Hid (Below base u4 u5/\Kept u4 u5):=⟨b5,k5⟩
    clear b5 m5 k5 HDA HDO Z5 S5;clear e0 e1 e2 e3 e4 e5 e6 e7 e8 e9 e10 e11 eq;clear s0 s1 s2 s3 s4 s5 s6 s7 s8 s9 s10 sq;go_wp2_with(refine Ad rfl 28 (.tmp 60) (.tmp 59) rfl w.heap.size _ _ 55 rfl rfl Q6 ?_ ?_ ?_ ?_;exact(show 9<=12 by decide);exact I9;exact Pt _ _;intro u6 hq f z);unfold Hid;rw[Pm]at hq;have E7:Hid (EW w base w.heap.size fu u6 p5 ⟨RJ (L p) rk.M,rk.used+1,rk.out⟩):=E5.put B6.1 B6.2 M6 f hq;have Z7:Hid (u6.heap[w.heap.size+1]?=some (.cells zA 55)):=(f.block _ (Cj.1 Z6).1 AB).trans Z6;have S7:Hid (u6.heap[sb]?=some (.cells #[Vi (L p).k,Vi (L p).op,Vi (L p).d,Vi (L p).a,Vi (L p).b,Vi (L p).imm,Vi (L p).h,Vi (L p).cond,Vi (L p).thn,Vi (L p).els,Vi (L p).proc] 111)):=(f.block _ (Cj.1 S6).1 AB).trans S6;clear hq f z E5 Z6 S6 M6 B6 Q6;obtain⟨s0,s1,s2,s3,s4,s5,s6,s7,s8,s9,s10⟩:=IU S7;have sq:=(Cj.1 S7).1;rw[HA'.1]at s8;rw[HB'.1]at s9;go_wp2;go_roundw
    case rel=>
     have hpp:=HP.out;refine⟨j+1+a+e',p5,⟨RJ (L p) rk.M,rk.used+1,rk.out⟩,AB,by go_num,E7,Z7,(by have g:=G1.ins (Ig HSOK HK1).1;rw[HI1.out]at g;exact g),fun r' h=>V1.out r' ?_,?_⟩
     ·rw[show i+(j+1+a+e')=p+1+a+e' by omega,<-HNX.out]at h
      exact Ev.ins hlt HGO HK1 (by rw[HI1.out];exact h)
     ·rw[show i+(j+1+a+e')=p+1+a+e' by omega];exact HKC
    case measure=>have hpp:=HP.out;simp[intOf];omega
  ·have d1:((L p).k==1)=false:=by simp[hk]
   have d2:((L p).k==2)=true:=by simp[hk]
   have HK1:=hxy hk;clear hk;obtain⟨e0,e1,e2,e3,e4,e5,e6,e7,e8,e9,e10,e11⟩:=E3.cells;have eq:=E3.lt;obtain⟨s0,s1,s2,s3,s4,s5,s6,s7,s8,s9,s10⟩:=IU S3;have sq:=(Cj.1 S3).1;have bsB:=Nat.le_trans E3.bs E3.B.size;have gA:=G1.u0;have gB:=G1.u1;have gC:=G1.seen;go_wp2_with fail;refine(Jd base pk fu rk (L p).cond u2 E3.M bsB AB gA gB hf HGO.1).mono ?_;rintro e u3⟨pB,rfl,m3,b3,k3⟩;obtain⟨rB,hB,hlk⟩:∃x y,CZ fu (L p).cond rk=(x,y):=⟨_,_,rfl⟩
   have g3:=G1.look (L p).cond;rw[hlk]at m3 g3⊢;dsimp only at m3 g3⊢;have LKB:=hxy hlk;have GB:=hxy g3;have QB:=E3.kept k3;have ZBa:Hid (u3.heap[w.heap.size+1]?=some (.cells zA 55)):=(k3 _ _ _ _ Z3 Aa Aa Aa Aa).trans Z3;have SBa:Hid (u3.heap[sb]?=some (.cells #[Vi (L p).k,Vi (L p).op,Vi (L p).d,Vi (L p).a,Vi (L p).b,Vi (L p).imm,Vi (L p).h,Vi (L p).cond,Vi (L p).thn,Vi (L p).els,Vi (L p).proc] 111)):=(k3 _ _ _ _ S3 Aa Aa Aa Aa).trans S3;have MB:=hxy m3;have BB:Hid (Below base u2 u3/\Kept u2 u3):=⟨b3,k3⟩
   clear m3 b3 k3 hlk g3 Z3 S3 gA gB gC bsB;clear e0 e1 e2 e3 e4 e5 e6 e7 e8 e9 e10 e11 eq;clear s0 s1 s2 s3 s4 s5 s6 s7 s8 s9 s10 sq;go_wp2_with(refine Ad rfl 55 (.tmp 3) (.tmp 68) rfl w.heap.size _ _ 55 rfl rfl QB ?_ ?_ ?_ ?_;exact(Nat.le_refl 12);exact Be;exact Em _ _ _;intro u4 hq f z);unfold Hid;rw[Gs]at hq;have EB:=hxy (E3.put BB.1 BB.2 MB f hq);have ZB:Hid (u4.heap[w.heap.size+1]?=some (.cells zA 55)):=(f.block _ (Cj.1 ZBa).1 AB).trans ZBa;have SB:Hid (u4.heap[sb]?=some (.cells #[Vi (L p).k,Vi (L p).op,Vi (L p).d,Vi (L p).a,Vi (L p).b,Vi (L p).imm,Vi (L p).h,Vi (L p).cond,Vi (L p).thn,Vi (L p).els,Vi (L p).proc] 111)):=(f.block _ (Cj.1 SBa).1 AB).trans SBa;clear hq f z ZBa SBa MB BB QB E3;cases hB with
   |true=>
    obtain⟨e0,e1,e2,e3,e4,e5,e6,e7,e8,e9,e10,e11⟩:=EB.cells;have eq:=EB.lt;go_wp2_with fail;have hcl:=HI.out (p+1) (p+1+a) (depth+1) AB AB AB AB HKA;unfold EvC at hcl;have AU:=hxy (HA.below EB.B hb0);refine(hcl oa a ca base pB rB u4 AB oa1 oa2 AU hb0 (Nat.le_trans EB.bs EB.B.size) EB.M GB).mono ?_;rintro e u5⟨pC,rC,rfl,⟨v6,g6⟩,m3,b3,k3⟩;have VC:=hxy v6;have GC:=hxy g6;have QC:=EB.kept k3;have ZCa:Hid (u5.heap[w.heap.size+1]?=some (.cells zA 55)):=(k3 _ _ _ _ ZB Aa Aa Aa Aa).trans ZB;have SCa:Hid (u5.heap[sb]?=some (.cells #[Vi (L p).k,Vi (L p).op,Vi (L p).d,Vi (L p).a,Vi (L p).b,Vi (L p).imm,Vi (L p).h,Vi (L p).cond,Vi (L p).thn,Vi (L p).els,Vi (L p).proc] 111)):=(k3 _ _ _ _ SB Aa Aa Aa Aa).trans SB;have MC:=hxy m3;have BC:Hid (Below base u4 u5/\Kept u4 u5):=⟨b3,k3⟩
    clear hcl AU v6 g6 m3 b3 k3 ZB SB;clear e0 e1 e2 e3 e4 e5 e6 e7 e8 e9 e10 e11 eq;go_wp2_with(refine Ad rfl 55 (.tmp 3) (.tmp 73) rfl w.heap.size _ _ 55 rfl rfl QC ?_ ?_ ?_ ?_;exact(Nat.le_refl 12);exact Be;exact Em _ _ _;intro u6 hq f z);unfold Hid;rw[Gs]at hq;have EC:=hxy (EB.put BC.1 BC.2 MC f hq);have ZC:Hid (u6.heap[w.heap.size+1]?=some (.cells zA 55)):=(f.block _ (Cj.1 ZCa).1 AB).trans ZCa;have SC:Hid (u6.heap[sb]?=some (.cells #[Vi (L p).k,Vi (L p).op,Vi (L p).d,Vi (L p).a,Vi (L p).b,Vi (L p).imm,Vi (L p).h,Vi (L p).cond,Vi (L p).thn,Vi (L p).els,Vi (L p).proc] 111)):=(f.block _ (Cj.1 SCa).1 AB).trans SCa;clear hq f z ZCa SCa MC BC QC EB;obtain⟨s0,s1,s2,s3,s4,s5,s6,s7,s8,s9,s10⟩:=IU SC;have sq:=(Cj.1 SC).1;rw[HA'.1]at s8;rw[HB'.1]at s9;go_wp2;go_roundw
    case rel=>
     have hpp:=HP.out;refine⟨j+1+a+e',pC,rC,AB,by go_num,EC,ZC,GC,fun r' h=>V1.out r' ?_,?_⟩
     ·rw[show i+(j+1+a+e')=p+1+a+e' by omega,<-HNX.out]at h
      exact Ev.yes hlt HGO HK1 LKB (by rw[HA'.2];exact VC) h
     ·rw[show i+(j+1+a+e')=p+1+a+e' by omega];exact HKC
    case measure=>have hpp:=HP.out;simp[intOf];omega
   |false=>
    obtain⟨e0,e1,e2,e3,e4,e5,e6,e7,e8,e9,e10,e11⟩:=EB.cells;have eq:=EB.lt;go_wp2_with fail;refine(Gq pB fu rB u4).mono ?_;rintro e u5⟨rfl,b3⟩;have ED:=hxy (EB.below b3);have ZD:Hid (u5.heap[w.heap.size+1]?=some (.cells zA 55)):=(b3.block _ (Cj.1 ZB).1).trans ZB;have SD:Hid (u5.heap[sb]?=some (.cells #[Vi (L p).k,Vi (L p).op,Vi (L p).d,Vi (L p).a,Vi (L p).b,Vi (L p).imm,Vi (L p).h,Vi (L p).cond,Vi (L p).thn,Vi (L p).els,Vi (L p).proc] 111)):=(b3.block _ (Cj.1 SB).1).trans SB;clear b3 EB ZB SB;clear e0 e1 e2 e3 e4 e5 e6 e7 e8 e9 e10 e11 eq;by_cases hg:rB.go
    ·rw[RV.goB_yes hg]
     clear hg;obtain⟨e0,e1,e2,e3,e4,e5,e6,e7,e8,e9,e10,e11⟩:=ED.cells;have eq:=ED.lt;go_wp2_with fail;have hcl:=HI.out (p+1+a) (p+1+a+e') (depth+1) AB AB AB AB HKB;unfold EvC at hcl;have AU:=hxy (HA.below ED.B hb0);refine(hcl ob e' cb base pB rB u5 AB ob1 ob2 AU hb0 (Nat.le_trans ED.bs ED.B.size) ED.M GB).mono ?_;rintro e u6⟨pC,rC,rfl,⟨v6,g6⟩,m3,b3,k3⟩;have VC:=hxy v6;have GC:=hxy g6;have QC:=ED.kept k3;have ZCa:Hid (u6.heap[w.heap.size+1]?=some (.cells zA 55)):=(k3 _ _ _ _ ZD Aa Aa Aa Aa).trans ZD;have SCa:Hid (u6.heap[sb]?=some (.cells #[Vi (L p).k,Vi (L p).op,Vi (L p).d,Vi (L p).a,Vi (L p).b,Vi (L p).imm,Vi (L p).h,Vi (L p).cond,Vi (L p).thn,Vi (L p).els,Vi (L p).proc] 111)):=(k3 _ _ _ _ SD Aa Aa Aa Aa).trans SD;have MC:=hxy m3;have BC:Hid (Below base u5 u6/\Kept u5 u6):=⟨b3,k3⟩
     clear hcl AU v6 g6 m3 b3 k3 ZD SD;clear e0 e1 e2 e3 e4 e5 e6 e7 e8 e9 e10 e11 eq;go_wp2_with(refine Ad rfl 55 (.tmp 3) (.tmp 78) rfl w.heap.size _ _ 55 rfl rfl QC ?_ ?_ ?_ ?_;exact(Nat.le_refl 12);exact Be;exact Em _ _ _;intro u7 hq f z);unfold Hid;rw[Gs]at hq;have EC:=hxy (ED.put BC.1 BC.2 MC f hq);have ZC:Hid (u7.heap[w.heap.size+1]?=some (.cells zA 55)):=(f.block _ (Cj.1 ZCa).1 AB).trans ZCa;have SC:Hid (u7.heap[sb]?=some (.cells #[Vi (L p).k,Vi (L p).op,Vi (L p).d,Vi (L p).a,Vi (L p).b,Vi (L p).imm,Vi (L p).h,Vi (L p).cond,Vi (L p).thn,Vi (L p).els,Vi (L p).proc] 111)):=(f.block _ (Cj.1 SCa).1 AB).trans SCa;clear hq f z ZCa SCa MC BC QC ED;obtain⟨s0,s1,s2,s3,s4,s5,s6,s7,s8,s9,s10⟩:=IU SC;have sq:=(Cj.1 SC).1;rw[HA'.1]at s8;rw[HB'.1]at s9;go_wp2;go_roundw
     case rel=>
      have hpp:=HP.out;refine⟨j+1+a+e',pC,rC,AB,by go_num,EC,ZC,GC,fun r' h=>V1.out r' ?_,?_⟩
      ·rw[show i+(j+1+a+e')=p+1+a+e' by omega,<-HNX.out]at h
       exact Ev.no hlt HGO HK1 LKB (by rw[HNX.out,HA'.2];exact VC) h
      ·rw[show i+(j+1+a+e')=p+1+a+e' by omega];exact HKC
     case measure=>have hpp:=HP.out;simp[intOf];omega
    ·rw[RV.goB_no hg]
     have HNG:=hxy hg;clear hg;obtain⟨s0,s1,s2,s3,s4,s5,s6,s7,s8,s9,s10⟩:=IU SD;have sq:=(Cj.1 SD).1;rw[HA'.1]at s8;rw[HB'.1]at s9;go_wp2;go_roundw
     case rel=>
      have hpp:=HP.out;refine⟨j+1+a+e',pB,rB,AB,by go_num,ED,ZD,GB,fun r' h=>V1.out r' ?_,?_⟩
      ·rw[show i+(j+1+a+e')=p+1+a+e' by omega,<-HNX.out]at h
       exact Ev.no hlt HGO HK1 LKB (.stop fun h=>HNG.out h.2) h
      ·rw[show i+(j+1+a+e')=p+1+a+e' by omega];exact HKC
     case measure=>have hpp:=HP.out;simp[intOf];omega
  ·have d1:((L p).k==1)=false:=by simp[hk]
   have d2:((L p).k==2)=false:=by simp[hk]
   have d3:((L p).k==3)=true:=by simp[hk]
   have HK1:=hxy hk;clear hk;obtain⟨e0,e1,e2,e3,e4,e5,e6,e7,e8,e9,e10,e11⟩:=E3.cells;have eq:=E3.lt;obtain⟨s0,s1,s2,s3,s4,s5,s6,s7,s8,s9,s10⟩:=IU S3;have sq:=(Cj.1 S3).1;have bsB:=Nat.le_trans E3.bs E3.B.size;have gA:=G1.u0;have gB:=G1.u1;have gC:=G1.seen;go_wp2_with fail;refine(Jd base pk fu rk (L p).cond u2 E3.M bsB AB gA gB hf HGO.1).mono ?_;rintro e u3⟨pB,rfl,m3,b3,k3⟩;obtain⟨rB,hB,hlk⟩:∃x y,CZ fu (L p).cond rk=(x,y):=⟨_,_,rfl⟩
   have g3:=G1.look (L p).cond;rw[hlk]at m3 g3⊢;dsimp only at m3 g3⊢;have LKB:=hxy hlk;have GB:=hxy g3;have QB:=E3.kept k3;have ZBa:Hid (u3.heap[w.heap.size+1]?=some (.cells zA 55)):=(k3 _ _ _ _ Z3 Aa Aa Aa Aa).trans Z3;have SBa:Hid (u3.heap[sb]?=some (.cells #[Vi (L p).k,Vi (L p).op,Vi (L p).d,Vi (L p).a,Vi (L p).b,Vi (L p).imm,Vi (L p).h,Vi (L p).cond,Vi (L p).thn,Vi (L p).els,Vi (L p).proc] 111)):=(k3 _ _ _ _ S3 Aa Aa Aa Aa).trans S3;have MB:=hxy m3;have BB:Hid (Below base u2 u3/\Kept u2 u3):=⟨b3,k3⟩
   clear m3 b3 k3 hlk g3 Z3 S3 gA gB gC bsB;clear e0 e1 e2 e3 e4 e5 e6 e7 e8 e9 e10 e11 eq;clear s0 s1 s2 s3 s4 s5 s6 s7 s8 s9 s10 sq;go_wp2_with(refine Ad rfl 55 (.tmp 3) (.tmp 86) rfl w.heap.size _ _ 55 rfl rfl QB ?_ ?_ ?_ ?_;exact(Nat.le_refl 12);exact Be;exact Em _ _ _;intro u4 hq f z);unfold Hid;rw[Gs]at hq;have EB:=hxy (E3.put BB.1 BB.2 MB f hq);have ZB:Hid (u4.heap[w.heap.size+1]?=some (.cells zA 55)):=(f.block _ (Cj.1 ZBa).1 AB).trans ZBa;have SB:Hid (u4.heap[sb]?=some (.cells #[Vi (L p).k,Vi (L p).op,Vi (L p).d,Vi (L p).a,Vi (L p).b,Vi (L p).imm,Vi (L p).h,Vi (L p).cond,Vi (L p).thn,Vi (L p).els,Vi (L p).proc] 111)):=(f.block _ (Cj.1 SBa).1 AB).trans SBa;clear hq f z ZBa SBa MB BB QB E3;have V3:Hid ((hB=true->∀r2 r',Ev L fu (p+1) (p+1+a) rB r2->Ev L fu p te r2 r'->Ev L fu p te rk r')/\(hB=false->∀r',Ev L fu (Ic L p) te rB r'->Ev L fu p te rk r')):=(⟨fun h r2 r' x y=>Ev.more hlt HGO HK1 (by rw[LKB.out,h]) (by rw[HA'.2];exact x) y,fun h r' x=>Ev.done hlt HGO HK1 (by rw[LKB.out,h]) x⟩:(hB=true->∀r2 r',Ev L fu (p+1) (p+1+a) rB r2->Ev L fu p te r2 r'->Ev L fu p te rk r')/\(hB=false->∀r',Ev L fu (Ic L p) te rB r'->Ev L fu p te rk r'))
   go_wp2_with fail;go_loopw [9](fun hv wx=>∃(pc:Pl)(rc:RV)(hd:Bool),hv=.bool hd/\EW w base w.heap.size fu wx pc rc/\wx.heap[w.heap.size+1]?=some (.cells zA 55)/\wx.heap[sb]?=some (.cells #[Vi (L p).k,Vi (L p).op,Vi (L p).d,Vi (L p).a,Vi (L p).b,Vi (L p).imm,Vi (L p).h,Vi (L p).cond,Vi (L p).thn,Vi (L p).els,Vi (L p).proc] 111)/\Dz fu Bd rc/\(hd=true->rc.go)/\(hd=true->∀r2 r',Ev L fu (p+1) (p+1+a) rc r2->Ev L fu p te r2 r'->Ev L fu p te rk r')/\(hd=false->∀r',Ev L fu (Ic L p) te rc r'->Ev L fu p te rk r'))(fun hv wx=>kQ w.heap.size fu hv wx)
   case atStart=>exact⟨pB,rB,hB,rfl,EB,ZB,SB,GB,fun h=>(G9 (by rw[LKB.out,h]) HGO).2,V3⟩
   case round=>
    obtain⟨pc,rc,hd,rfl,xE,xZ,xS,xG,xg,xV⟩:=hrel;have EI:=hxy xE;have ZI:=hxy xZ;have SI:=hxy xS;have GI:=hxy xG;have gI:=hxy xg;have VI:=hxy xV;have evM_eqI:=XR xE hd;have EMI:Hid _:=evM_eqI;clear evM_eqI xE xZ xS xG xg xV EB ZB SB GB V3;cases hd with
    |false=>
     obtain⟨s0,s1,s2,s3,s4,s5,s6,s7,s8,s9,s10⟩:=IU SI;have sq:=(Cj.1 SI).1;rw[HA'.1]at s8;rw[HB'.1]at s9;go_wp2;go_roundw
     case rel=>
      have hpp:=HP.out;refine⟨j+1+a+e',pc,rc,AB,by go_num,EI,ZI,GI,fun r' h=>V1.out r' ?_,?_⟩
      ·rw[show i+(j+1+a+e')=p+1+a+e' by omega,<-HNX.out]at h
       exact VI.2 rfl r' h
      ·rw[show i+(j+1+a+e')=p+1+a+e' by omega];exact HKC
     case measure=>have hpp:=HP.out;simp[intOf];omega
    |true=>
     obtain⟨e0,e1,e2,e3,e4,e5,e6,e7,e8,e9,e10,e11⟩:=EI.cells;have eq:=EI.lt;go_wp2_with fail;have hcl:=HI.out (p+1) (p+1+a) (depth+1) AB AB AB AB HKA;unfold EvC at hcl;have AU:=hxy (HA.below EI.B hb0);refine(hcl oa a ca base pc rc wr AB oa1 oa2 AU hb0 (Nat.le_trans EI.bs EI.B.size) EI.M GI).mono ?_;rintro e u5⟨pC,rC,rfl,⟨v6,g6⟩,m3,b3,k3⟩;have VC:=hxy v6;have GC:=hxy g6;have QC:=EI.kept k3;have ZCa:Hid (u5.heap[w.heap.size+1]?=some (.cells zA 55)):=(k3 _ _ _ _ ZI Aa Aa Aa Aa).trans ZI;have SCa:Hid (u5.heap[sb]?=some (.cells #[Vi (L p).k,Vi (L p).op,Vi (L p).d,Vi (L p).a,Vi (L p).b,Vi (L p).imm,Vi (L p).h,Vi (L p).cond,Vi (L p).thn,Vi (L p).els,Vi (L p).proc] 111)):=(k3 _ _ _ _ SI Aa Aa Aa Aa).trans SI;have MC:=hxy m3;have BC:Hid (Below base wr u5/\Kept wr u5):=⟨b3,k3⟩
     clear hcl AU v6 g6 m3 b3 k3 ZI SI;clear e0 e1 e2 e3 e4 e5 e6 e7 e8 e9 e10 e11 eq;go_wp2_with(refine Ad rfl 55 (.tmp 3) (.tmp 91) rfl w.heap.size _ _ 55 rfl rfl QC ?_ ?_ ?_ ?_;exact(Nat.le_refl 12);exact Be;exact Em _ _ _;intro u6 hq f z);unfold Hid;rw[Gs]at hq;have EC:=hxy (EI.put BC.1 BC.2 MC f hq);have ZC:Hid (u6.heap[w.heap.size+1]?=some (.cells zA 55)):=(f.block _ (Cj.1 ZCa).1 AB).trans ZCa;have SC:Hid (u6.heap[sb]?=some (.cells #[Vi (L p).k,Vi (L p).op,Vi (L p).d,Vi (L p).a,Vi (L p).b,Vi (L p).imm,Vi (L p).h,Vi (L p).cond,Vi (L p).thn,Vi (L p).els,Vi (L p).proc] 111)):=(f.block _ (Cj.1 SCa).1 AB).trans SCa;clear hq f z ZCa SCa MC BC QC EI;obtain⟨e0,e1,e2,e3,e4,e5,e6,e7,e8,e9,e10,e11⟩:=EC.cells;have eq:=EC.lt;go_wp2_with fail;refine(Gq pC fu rC u6).mono ?_;rintro e u7⟨rfl,b3⟩;have ED:=hxy (EC.below b3);have ZD:Hid (u7.heap[w.heap.size+1]?=some (.cells zA 55)):=(b3.block _ (Cj.1 ZC).1).trans ZC;have SD:Hid (u7.heap[sb]?=some (.cells #[Vi (L p).k,Vi (L p).op,Vi (L p).d,Vi (L p).a,Vi (L p).b,Vi (L p).imm,Vi (L p).h,Vi (L p).cond,Vi (L p).thn,Vi (L p).els,Vi (L p).proc] 111)):=(b3.block _ (Cj.1 SC).1).trans SC;clear b3 EC ZC SC;clear e0 e1 e2 e3 e4 e5 e6 e7 e8 e9 e10 e11 eq;by_cases hg:rC.go
     ·rw[RV.goB_yes hg]
      have HGC:=hxy hg;clear hg;obtain⟨e0,e1,e2,e3,e4,e5,e6,e7,e8,e9,e10,e11⟩:=ED.cells;have eq:=ED.lt;obtain⟨s0,s1,s2,s3,s4,s5,s6,s7,s8,s9,s10⟩:=IU SD;have sq:=(Cj.1 SD).1;have bsF:=Nat.le_trans ED.bs ED.B.size;have gA:=GC.u0;have gB:=GC.u1;have gC:=GC.seen;go_wp2_with fail;refine(Jd base pC fu rC (L p).cond u7 ED.M bsF AB gA gB hf HGC.1).mono ?_;rintro e u8⟨pF,rfl,m3,b3,k3⟩;obtain⟨rF,hF,hlk⟩:∃x y,CZ fu (L p).cond rC=(x,y):=⟨_,_,rfl⟩
      have g3:=GC.look (L p).cond;rw[hlk]at m3 g3⊢;dsimp only at m3 g3⊢;have LKF:=hxy hlk;have GF:=hxy g3;have QF:=ED.kept k3;have ZFa:Hid (u8.heap[w.heap.size+1]?=some (.cells zA 55)):=(k3 _ _ _ _ ZD Aa Aa Aa Aa).trans ZD;have SFa:Hid (u8.heap[sb]?=some (.cells #[Vi (L p).k,Vi (L p).op,Vi (L p).d,Vi (L p).a,Vi (L p).b,Vi (L p).imm,Vi (L p).h,Vi (L p).cond,Vi (L p).thn,Vi (L p).els,Vi (L p).proc] 111)):=(k3 _ _ _ _ SD Aa Aa Aa Aa).trans SD;have MF:=hxy m3;have BF:Hid (Below base u7 u8/\Kept u7 u8):=⟨b3,k3⟩
      clear m3 b3 k3 hlk g3 ZD SD gA gB gC bsF;clear e0 e1 e2 e3 e4 e5 e6 e7 e8 e9 e10 e11 eq;clear s0 s1 s2 s3 s4 s5 s6 s7 s8 s9 s10 sq;go_wp2_with(refine Ad rfl 55 (.tmp 3) (.tmp 99) rfl w.heap.size _ _ 55 rfl rfl QF ?_ ?_ ?_ ?_;exact(Nat.le_refl 12);exact Be;exact Em _ _ _;intro u9x hq f z);unfold Hid;rw[Gs]at hq;have EF:=hxy (ED.put BF.1 BF.2 MF f hq);have ZF:Hid (u9x.heap[w.heap.size+1]?=some (.cells zA 55)):=(f.block _ (Cj.1 ZFa).1 AB).trans ZFa;have SF:Hid (u9x.heap[sb]?=some (.cells #[Vi (L p).k,Vi (L p).op,Vi (L p).d,Vi (L p).a,Vi (L p).b,Vi (L p).imm,Vi (L p).h,Vi (L p).cond,Vi (L p).thn,Vi (L p).els,Vi (L p).proc] 111)):=(f.block _ (Cj.1 SFa).1 AB).trans SFa;clear hq f z ZFa SFa MF BF QF ED;go_wp2;go_roundw
      case rel=>
       exact⟨pF,rF,hF,rfl,EF,ZF,SF,GF,fun h=>(G9 (by rw[LKF.out,h]) HGC).2,fun h r2 r' x y=>VI.1 (by trivial) rC r' VC (Ev.more hlt HGC HK1 (by rw[LKF.out,h]) (by rw[HA'.2];exact x) y),fun h r' x=>VI.1 (by trivial) rC r' VC (Ev.done hlt HGC HK1 (by rw[LKF.out,h]) x)⟩
      case measure=>
       have q1:=EMI.out;rw[if_pos (by trivial)]at q1;rw[XR EF.out,q1];have m1:=VC.mono;have m2:=GC.u1;split
       ·next h=>have m3:=(G9 (by rw[LKF.out,h]) HGC).1;omega
       ·omega
     ·rw[RV.goB_no hg]
      have HNG:=hxy hg;clear hg;go_wp2;go_roundw
      case rel=>
       refine⟨pC,rC,false,rfl,ED,ZD,SD,GC,(fun h=>Bool.noConfusion h),(fun h=>Bool.noConfusion h),fun _ r' x=>?_⟩;have e:rC=r':=(Ev.stop fun h=>HNG.out h.2).det x;subst e;exact VI.1 (by trivial) rC rC VC (Ev.stop fun h=>HNG.out h.2)
      case measure=>
       have q1:=EMI.out;rw[if_pos (by trivial)]at q1;rw[q1];have m1:=VC.mono;have m2:=GC.u1;show 0<_;omega
  ·obtain⟨x0,x1⟩:=KN HSOK hk
   omega
end Go.Proofs.YtkckomianknjdaaGreat
