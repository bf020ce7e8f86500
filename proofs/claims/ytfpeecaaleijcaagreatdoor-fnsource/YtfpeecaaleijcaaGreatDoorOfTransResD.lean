import Derived.Test.YtfpeecaaleijcaaGreatDoorOfCl
import Derived.Test.YtfpeecaaleijcaaGreatDoorOfTransAcc
set_option maxHeartbeats 4000000
set_option maxRecDepth 20000
namespace Go.Proofs.YtfpeecaaleijcaaGreatDoor
open Go.RowKit
theorem Ug(d ra rb imm h:Int)(a b:VV)(s:Bool)(w:World)(ha:Bd a)(hb:Bd b):
 Calls Tryz.prog 164 #[.agg #[Vi 3,Vi d,Vi ra,Vi rb,Vi imm,Vi h],.agg #[Vi a.k,.bool a.s,Vi a.m,Vi a.h,Vi a.lo,Vi a.hi],.agg #[Vi b.k,.bool b.s,Vi b.m,Vi b.h,Vi b.lo,Vi b.hi],.bool s] w fun e w'=>e=.returned (Cb 3 imm a b s).v/\Below w.heap.size w w':=by
 go_enter Tryz.func164,Tryz.ntmps164;go_upto_region 1 with fail;obtain⟨u0,hu,pu⟩:=DJ w (op:=3) (d:=d) (ra:=ra) (rb:=rb) (imm:=imm) (h:=h) a b;rw[hu];have P0:=hxy pu;clear hu pu;obtain⟨⟨i0,i1,i2,i3,i4,i5⟩,⟨a0,a1,a2,a3,a4,a5⟩,⟨b0,b1,b2,b3,b4,b5⟩,⟨r0,r1,r2,r3,r4,r5⟩,rf,rl,af⟩:=P0.out.al;go_wp2_with fail;refine(Ou a b _ ha hb).mono ?_;rintro e u1⟨rfl,hb⟩;have P1:=hxy (P0.out.below hb);clear hb;clear i0 i1 i2 i3 i4 i5 a0 a1 a2 a3 a4 a5 b0 b1 b2 b3 b4 b5 r0 r1 r2 r3 r4 r5 rf rl af;simp only[VV.v];obtain⟨⟨i0,i1,i2,i3,i4,i5⟩,⟨a0,a1,a2,a3,a4,a5⟩,⟨b0,b1,b2,b3,b4,b5⟩,⟨r0,r1,r2,r3,r4,r5⟩,rf,rl,af⟩:=P1.out.al;go_wp2;exact bodyPost_ret (v:=VV.v (Pp a b)) (by simp[results,Tryz.results164,go_sem,VV.v, *]) rfl ⟨congrArg (fun v=>Ending.returned (VV.v v)) (by simp[Cb]),Al P1.out.bel P1.out.oR (Pp a b)⟩
theorem SY(d ra rb imm h:Int)(a b:VV)(s:Bool)(w:World)(ha:Bd a)(hb:Bd b):
 Calls Tryz.prog 164 #[.agg #[Vi 14,Vi d,Vi ra,Vi rb,Vi imm,Vi h],.agg #[Vi a.k,.bool a.s,Vi a.m,Vi a.h,Vi a.lo,Vi a.hi],.agg #[Vi b.k,.bool b.s,Vi b.m,Vi b.h,Vi b.lo,Vi b.hi],.bool s] w fun e w'=>e=.returned (Cb 14 imm a b s).v/\Below w.heap.size w w':=by
 go_enter Tryz.func164,Tryz.ntmps164;go_upto_region 1 with fail;obtain⟨u0,hu,pu⟩:=DJ w (op:=14) (d:=d) (ra:=ra) (rb:=rb) (imm:=imm) (h:=h) a b;rw[hu];have P0:=hxy pu;clear hu pu;obtain⟨⟨i0,i1,i2,i3,i4,i5⟩,⟨a0,a1,a2,a3,a4,a5⟩,⟨b0,b1,b2,b3,b4,b5⟩,⟨r0,r1,r2,r3,r4,r5⟩,rf,rl,af⟩:=P0.out.al;go_wp2_with fail;refine(Ou a b _ ha hb).mono ?_;rintro e u1⟨rfl,hb⟩;have P1:=hxy (P0.out.below hb);clear hb;clear i0 i1 i2 i3 i4 i5 a0 a1 a2 a3 a4 a5 b0 b1 b2 b3 b4 b5 r0 r1 r2 r3 r4 r5 rf rl af;simp only[VV.v];obtain⟨⟨i0,i1,i2,i3,i4,i5⟩,⟨a0,a1,a2,a3,a4,a5⟩,⟨b0,b1,b2,b3,b4,b5⟩,⟨r0,r1,r2,r3,r4,r5⟩,rf,rl,af⟩:=P1.out.al;go_wp2;exact bodyPost_ret (v:=VV.v (Pp a b)) (by simp[results,Tryz.results164,go_sem,VV.v, *]) rfl ⟨congrArg (fun v=>Ending.returned (VV.v v)) (by simp[Cb]),Al P1.out.bel P1.out.oR (Pp a b)⟩
theorem TS(d ra rb imm h:Int)(a b:VV)(s:Bool)(w:World):
 Calls Tryz.prog 164 #[.agg #[Vi 4,Vi d,Vi ra,Vi rb,Vi imm,Vi h],.agg #[Vi a.k,.bool a.s,Vi a.m,Vi a.h,Vi a.lo,Vi a.hi],.agg #[Vi b.k,.bool b.s,Vi b.m,Vi b.h,Vi b.lo,Vi b.hi],.bool s] w fun e w'=>e=.returned (Cb 4 imm a b s).v/\Below w.heap.size w w':=by
 go_enter Tryz.func164,Tryz.ntmps164;go_upto_region 1 with fail;obtain⟨u0,hu,pu⟩:=DJ w (op:=4) (d:=d) (ra:=ra) (rb:=rb) (imm:=imm) (h:=h) a b;rw[hu];have P0:=hxy pu;clear hu pu;obtain⟨⟨i0,i1,i2,i3,i4,i5⟩,⟨a0,a1,a2,a3,a4,a5⟩,⟨b0,b1,b2,b3,b4,b5⟩,⟨r0,r1,r2,r3,r4,r5⟩,rf,rl,af⟩:=P0.out.al;go_wp2_with fail;refine(Ap s (-1) _).mono ?_;rintro e u1⟨rfl,hb⟩;have P1:=hxy (P0.out.below hb);clear hb;clear i0 i1 i2 i3 i4 i5 a0 a1 a2 a3 a4 a5 b0 b1 b2 b3 b4 b5 r0 r1 r2 r3 r4 r5 rf rl af;simp only[VV.v];obtain⟨⟨i0,i1,i2,i3,i4,i5⟩,⟨a0,a1,a2,a3,a4,a5⟩,⟨b0,b1,b2,b3,b4,b5⟩,⟨r0,r1,r2,r3,r4,r5⟩,rf,rl,af⟩:=P1.out.al;go_wp2;exact bodyPost_ret (v:=VV.v (Az s (-1))) (by simp[results,Tryz.results164,go_sem,VV.v, *]) rfl ⟨congrArg (fun v=>Ending.returned (VV.v v)) (by simp[Cb]),Al P1.out.bel P1.out.oR (Az s (-1))⟩
theorem Rn(d ra rb imm h:Int)(a b:VV)(s:Bool)(w:World):
 Calls Tryz.prog 164 #[.agg #[Vi 16,Vi d,Vi ra,Vi rb,Vi imm,Vi h],.agg #[Vi a.k,.bool a.s,Vi a.m,Vi a.h,Vi a.lo,Vi a.hi],.agg #[Vi b.k,.bool b.s,Vi b.m,Vi b.h,Vi b.lo,Vi b.hi],.bool s] w fun e w'=>e=.returned (Cb 16 imm a b s).v/\Below w.heap.size w w':=by
 go_enter Tryz.func164,Tryz.ntmps164;go_upto_region 1 with fail;obtain⟨u0,hu,pu⟩:=DJ w (op:=16) (d:=d) (ra:=ra) (rb:=rb) (imm:=imm) (h:=h) a b;rw[hu];have P0:=hxy pu;clear hu pu;obtain⟨⟨i0,i1,i2,i3,i4,i5⟩,⟨a0,a1,a2,a3,a4,a5⟩,⟨b0,b1,b2,b3,b4,b5⟩,⟨r0,r1,r2,r3,r4,r5⟩,rf,rl,af⟩:=P0.out.al;go_wp2_with fail;refine(Ap s (-1) _).mono ?_;rintro e u1⟨rfl,hb⟩;have P1:=hxy (P0.out.below hb);clear hb;clear i0 i1 i2 i3 i4 i5 a0 a1 a2 a3 a4 a5 b0 b1 b2 b3 b4 b5 r0 r1 r2 r3 r4 r5 rf rl af;simp only[VV.v];obtain⟨⟨i0,i1,i2,i3,i4,i5⟩,⟨a0,a1,a2,a3,a4,a5⟩,⟨b0,b1,b2,b3,b4,b5⟩,⟨r0,r1,r2,r3,r4,r5⟩,rf,rl,af⟩:=P1.out.al;go_wp2;exact bodyPost_ret (v:=VV.v (Az s (-1))) (by simp[results,Tryz.results164,go_sem,VV.v, *]) rfl ⟨congrArg (fun v=>Ending.returned (VV.v v)) (by simp[Cb]),Al P1.out.bel P1.out.oR (Az s (-1))⟩
theorem Ua(d ra rb imm h:Int)(a b:VV)(s:Bool)(w:World):
 Calls Tryz.prog 164 #[.agg #[Vi 9,Vi d,Vi ra,Vi rb,Vi imm,Vi h],.agg #[Vi a.k,.bool a.s,Vi a.m,Vi a.h,Vi a.lo,Vi a.hi],.agg #[Vi b.k,.bool b.s,Vi b.m,Vi b.h,Vi b.lo,Vi b.hi],.bool s] w fun e w'=>e=.returned (Cb 9 imm a b s).v/\Below w.heap.size w w':=by
 go_enter Tryz.func164,Tryz.ntmps164;go_upto_region 1 with fail;obtain⟨u0,hu,pu⟩:=DJ w (op:=9) (d:=d) (ra:=ra) (rb:=rb) (imm:=imm) (h:=h) a b;rw[hu];have P0:=hxy pu;clear hu pu;obtain⟨⟨i0,i1,i2,i3,i4,i5⟩,⟨a0,a1,a2,a3,a4,a5⟩,⟨b0,b1,b2,b3,b4,b5⟩,⟨r0,r1,r2,r3,r4,r5⟩,rf,rl,af⟩:=P0.out.al;go_wp2_with fail;refine(Cc a.k a.s a.m a.h a.lo a.hi _).mono ?_;rintro e u1⟨rfl,hb⟩;have P1:=hxy (P0.out.below hb);clear hb;clear i0 i1 i2 i3 i4 i5 a0 a1 a2 a3 a4 a5 b0 b1 b2 b3 b4 b5 r0 r1 r2 r3 r4 r5 rf rl af;obtain⟨⟨i0,i1,i2,i3,i4,i5⟩,⟨a0,a1,a2,a3,a4,a5⟩,⟨b0,b1,b2,b3,b4,b5⟩,⟨r0,r1,r2,r3,r4,r5⟩,rf,rl,af⟩:=P1.out.al;go_wp2_with fail;refine(Ap s (Ao a) _).mono ?_;rintro e u2⟨rfl,hb⟩;have P2:=hxy (P1.out.below hb);clear hb;clear i0 i1 i2 i3 i4 i5 a0 a1 a2 a3 a4 a5 b0 b1 b2 b3 b4 b5 r0 r1 r2 r3 r4 r5 rf rl af;simp only[VV.v];obtain⟨⟨i0,i1,i2,i3,i4,i5⟩,⟨a0,a1,a2,a3,a4,a5⟩,⟨b0,b1,b2,b3,b4,b5⟩,⟨r0,r1,r2,r3,r4,r5⟩,rf,rl,af⟩:=P2.out.al;go_wp2;exact bodyPost_ret (v:=VV.v (Az s (Ao a))) (by simp[results,Tryz.results164,go_sem,VV.v, *]) rfl ⟨congrArg (fun v=>Ending.returned (VV.v v)) (by simp[Cb]),Al P2.out.bel P2.out.oR (Az s (Ao a))⟩
theorem UC(d ra rb imm h:Int)(a b:VV)(s:Bool)(w:World)(ha:Bd a)(hb:Bd b):
 Calls Tryz.prog 164 #[.agg #[Vi 5,Vi d,Vi ra,Vi rb,Vi imm,Vi h],.agg #[Vi a.k,.bool a.s,Vi a.m,Vi a.h,Vi a.lo,Vi a.hi],.agg #[Vi b.k,.bool b.s,Vi b.m,Vi b.h,Vi b.lo,Vi b.hi],.bool s] w fun e w'=>e=.returned (Cb 5 imm a b s).v/\Below w.heap.size w w':=by
 go_enter Tryz.func164,Tryz.ntmps164;go_upto_region 1 with fail;obtain⟨u0,hu,pu⟩:=DJ w (op:=5) (d:=d) (ra:=ra) (rb:=rb) (imm:=imm) (h:=h) a b;rw[hu];have P0:=hxy pu;clear hu pu;obtain⟨⟨i0,i1,i2,i3,i4,i5⟩,⟨a0,a1,a2,a3,a4,a5⟩,⟨b0,b1,b2,b3,b4,b5⟩,⟨r0,r1,r2,r3,r4,r5⟩,rf,rl,af⟩:=P0.out.al;go_wp2_with fail;refine(Ga a.k a.s a.m a.h a.lo a.hi b.k b.s b.m b.h b.lo b.hi _).mono ?_;rintro e u1⟨rfl,hb⟩;have P1:=hxy (P0.out.below hb);clear hb;clear i0 i1 i2 i3 i4 i5 a0 a1 a2 a3 a4 a5 b0 b1 b2 b3 b4 b5 r0 r1 r2 r3 r4 r5 rf rl af;obtain⟨⟨i0,i1,i2,i3,i4,i5⟩,⟨a0,a1,a2,a3,a4,a5⟩,⟨b0,b1,b2,b3,b4,b5⟩,⟨r0,r1,r2,r3,r4,r5⟩,rf,rl,af⟩:=P1.out.al;by_cases hc:0<=Ao a/\0<=Ao b
 ·have hd:decide (0<=Ao a/\0<=Ao b)=true:=by simp[hc]
  obtain⟨p0,p1⟩:=Km hc.1 ha;obtain⟨q0,q1⟩:=Km hc.2 hb;have HC:=hxy hc;clear hc;rw[show decide (0<=Ao ⟨a.k,a.s,a.m,a.h,a.lo,a.hi⟩/\0<=Ao ⟨b.k,b.s,b.m,b.h,b.lo,b.hi⟩)=true from hd];clear hd;go_wp2_with fail;refine(KZ a.m b.m _ p0 p1 q0 q1).mono ?_;rintro e w'⟨rfl,hw⟩;rw[hw];clear hw;go_wp2_with fail;refine(Ap s (EI a.m b.m) _).mono ?_;rintro e u2⟨rfl,hb⟩;have P2:=hxy (P1.out.below hb);clear hb;clear i0 i1 i2 i3 i4 i5 a0 a1 a2 a3 a4 a5 b0 b1 b2 b3 b4 b5 r0 r1 r2 r3 r4 r5 rf rl af;simp only[VV.v];obtain⟨⟨i0,i1,i2,i3,i4,i5⟩,⟨a0,a1,a2,a3,a4,a5⟩,⟨b0,b1,b2,b3,b4,b5⟩,⟨r0,r1,r2,r3,r4,r5⟩,rf,rl,af⟩:=P2.out.al;go_wp2;exact bodyPost_ret (v:=VV.v (Az s (EI a.m b.m))) (by simp[results,Tryz.results164,go_sem,VV.v, *]) rfl ⟨congrArg (fun v=>Ending.returned (VV.v v)) (by simp[Cb,HC.out]),Al P2.out.bel P2.out.oR (Az s (EI a.m b.m))⟩
 ·have hd:decide (0<=Ao a/\0<=Ao b)=false:=by simp only[decide_eq_false_iff_not];exact hc
  have HC:=hxy hc;clear hc;rw[show decide (0<=Ao ⟨a.k,a.s,a.m,a.h,a.lo,a.hi⟩/\0<=Ao ⟨b.k,b.s,b.m,b.h,b.lo,b.hi⟩)=false from hd];clear hd;go_wp2_with fail;refine(Ap s (-1) _).mono ?_;rintro e u2⟨rfl,hb⟩;have P2:=hxy (P1.out.below hb);clear hb;clear i0 i1 i2 i3 i4 i5 a0 a1 a2 a3 a4 a5 b0 b1 b2 b3 b4 b5 r0 r1 r2 r3 r4 r5 rf rl af;simp only[VV.v];obtain⟨⟨i0,i1,i2,i3,i4,i5⟩,⟨a0,a1,a2,a3,a4,a5⟩,⟨b0,b1,b2,b3,b4,b5⟩,⟨r0,r1,r2,r3,r4,r5⟩,rf,rl,af⟩:=P2.out.al;go_wp2;exact bodyPost_ret (v:=VV.v (Az s (-1))) (by simp[results,Tryz.results164,go_sem,VV.v, *]) rfl ⟨congrArg (fun v=>Ending.returned (VV.v v)) (by simp only[Cb,if_neg HC.out];simp),Al P2.out.bel P2.out.oR (Az s (-1))⟩
theorem Tj(d ra rb imm h:Int)(a b:VV)(s:Bool)(w:World)(ha:Bd a)(hb:Bd b):
 Calls Tryz.prog 164 #[.agg #[Vi 7,Vi d,Vi ra,Vi rb,Vi imm,Vi h],.agg #[Vi a.k,.bool a.s,Vi a.m,Vi a.h,Vi a.lo,Vi a.hi],.agg #[Vi b.k,.bool b.s,Vi b.m,Vi b.h,Vi b.lo,Vi b.hi],.bool s] w fun e w'=>e=.returned (Cb 7 imm a b s).v/\Below w.heap.size w w':=by
 go_enter Tryz.func164,Tryz.ntmps164;go_upto_region 1 with fail;obtain⟨u0,hu,pu⟩:=DJ w (op:=7) (d:=d) (ra:=ra) (rb:=rb) (imm:=imm) (h:=h) a b;rw[hu];have P0:=hxy pu;clear hu pu;obtain⟨⟨i0,i1,i2,i3,i4,i5⟩,⟨a0,a1,a2,a3,a4,a5⟩,⟨b0,b1,b2,b3,b4,b5⟩,⟨r0,r1,r2,r3,r4,r5⟩,rf,rl,af⟩:=P0.out.al;go_wp2_with fail;refine(Ga a.k a.s a.m a.h a.lo a.hi b.k b.s b.m b.h b.lo b.hi _).mono ?_;rintro e u1⟨rfl,hb⟩;have P1:=hxy (P0.out.below hb);clear hb;clear i0 i1 i2 i3 i4 i5 a0 a1 a2 a3 a4 a5 b0 b1 b2 b3 b4 b5 r0 r1 r2 r3 r4 r5 rf rl af;obtain⟨⟨i0,i1,i2,i3,i4,i5⟩,⟨a0,a1,a2,a3,a4,a5⟩,⟨b0,b1,b2,b3,b4,b5⟩,⟨r0,r1,r2,r3,r4,r5⟩,rf,rl,af⟩:=P1.out.al;by_cases hc:0<=Ao a/\0<=Ao b
 ·have hd:decide (0<=Ao a/\0<=Ao b)=true:=by simp[hc]
  obtain⟨p0,p1⟩:=Km hc.1 ha;obtain⟨q0,q1⟩:=Km hc.2 hb;have HC:=hxy hc;clear hc;rw[show decide (0<=Ao ⟨a.k,a.s,a.m,a.h,a.lo,a.hi⟩/\0<=Ao ⟨b.k,b.s,b.m,b.h,b.lo,b.hi⟩)=true from hd];clear hd;go_wp2_with fail;refine(Jf a.m b.m _).mono ?_;rintro e w'⟨rfl,hw⟩;rw[hw];clear hw;go_wp2_with fail;refine(Lj (JA a.m b.m) _ (by unfold JA;split<;>omega) (by unfold JA;split<;>omega)).mono ?_;rintro e w'⟨rfl,hw⟩;rw[hw];clear hw;go_wp2_with fail;refine(Ap s (Iy (JA a.m b.m)) _).mono ?_;rintro e u2⟨rfl,hb⟩;have P2:=hxy (P1.out.below hb);clear hb;clear i0 i1 i2 i3 i4 i5 a0 a1 a2 a3 a4 a5 b0 b1 b2 b3 b4 b5 r0 r1 r2 r3 r4 r5 rf rl af;simp only[VV.v];obtain⟨⟨i0,i1,i2,i3,i4,i5⟩,⟨a0,a1,a2,a3,a4,a5⟩,⟨b0,b1,b2,b3,b4,b5⟩,⟨r0,r1,r2,r3,r4,r5⟩,rf,rl,af⟩:=P2.out.al;go_wp2;exact bodyPost_ret (v:=VV.v (Az s (Iy (JA a.m b.m)))) (by simp[results,Tryz.results164,go_sem,VV.v, *]) rfl ⟨congrArg (fun v=>Ending.returned (VV.v v)) (by simp[Cb,HC.out]),Al P2.out.bel P2.out.oR (Az s (Iy (JA a.m b.m)))⟩
 ·have hd:decide (0<=Ao a/\0<=Ao b)=false:=by simp only[decide_eq_false_iff_not];exact hc
  have HC:=hxy hc;clear hc;rw[show decide (0<=Ao ⟨a.k,a.s,a.m,a.h,a.lo,a.hi⟩/\0<=Ao ⟨b.k,b.s,b.m,b.h,b.lo,b.hi⟩)=false from hd];clear hd;go_wp2_with fail;refine(Ap s (-1) _).mono ?_;rintro e u2⟨rfl,hb⟩;have P2:=hxy (P1.out.below hb);clear hb;clear i0 i1 i2 i3 i4 i5 a0 a1 a2 a3 a4 a5 b0 b1 b2 b3 b4 b5 r0 r1 r2 r3 r4 r5 rf rl af;simp only[VV.v];obtain⟨⟨i0,i1,i2,i3,i4,i5⟩,⟨a0,a1,a2,a3,a4,a5⟩,⟨b0,b1,b2,b3,b4,b5⟩,⟨r0,r1,r2,r3,r4,r5⟩,rf,rl,af⟩:=P2.out.al;go_wp2;exact bodyPost_ret (v:=VV.v (Az s (-1))) (by simp[results,Tryz.results164,go_sem,VV.v, *]) rfl ⟨congrArg (fun v=>Ending.returned (VV.v v)) (by simp only[Cb,if_neg HC.out];simp),Al P2.out.bel P2.out.oR (Az s (-1))⟩
theorem Tp(d ra rb imm h:Int)(a b:VV)(s:Bool)(w:World)(ha:Bd a)(hb:Bd b):
 Calls Tryz.prog 164 #[.agg #[Vi 8,Vi d,Vi ra,Vi rb,Vi imm,Vi h],.agg #[Vi a.k,.bool a.s,Vi a.m,Vi a.h,Vi a.lo,Vi a.hi],.agg #[Vi b.k,.bool b.s,Vi b.m,Vi b.h,Vi b.lo,Vi b.hi],.bool s] w fun e w'=>e=.returned (Cb 8 imm a b s).v/\Below w.heap.size w w':=by
 go_enter Tryz.func164,Tryz.ntmps164;go_upto_region 1 with fail;obtain⟨u0,hu,pu⟩:=DJ w (op:=8) (d:=d) (ra:=ra) (rb:=rb) (imm:=imm) (h:=h) a b;rw[hu];have P0:=hxy pu;clear hu pu;obtain⟨⟨i0,i1,i2,i3,i4,i5⟩,⟨a0,a1,a2,a3,a4,a5⟩,⟨b0,b1,b2,b3,b4,b5⟩,⟨r0,r1,r2,r3,r4,r5⟩,rf,rl,af⟩:=P0.out.al;go_wp2_with fail;refine(Ga a.k a.s a.m a.h a.lo a.hi b.k b.s b.m b.h b.lo b.hi _).mono ?_;rintro e u1⟨rfl,hb⟩;have P1:=hxy (P0.out.below hb);clear hb;clear i0 i1 i2 i3 i4 i5 a0 a1 a2 a3 a4 a5 b0 b1 b2 b3 b4 b5 r0 r1 r2 r3 r4 r5 rf rl af;obtain⟨⟨i0,i1,i2,i3,i4,i5⟩,⟨a0,a1,a2,a3,a4,a5⟩,⟨b0,b1,b2,b3,b4,b5⟩,⟨r0,r1,r2,r3,r4,r5⟩,rf,rl,af⟩:=P1.out.al;by_cases hc:0<=Ao a/\0<=Ao b
 ·have hd:decide (0<=Ao a/\0<=Ao b)=true:=by simp[hc]
  obtain⟨p0,p1⟩:=Km hc.1 ha;obtain⟨q0,q1⟩:=Km hc.2 hb;have HC:=hxy hc;clear hc;rw[show decide (0<=Ao ⟨a.k,a.s,a.m,a.h,a.lo,a.hi⟩/\0<=Ao ⟨b.k,b.s,b.m,b.h,b.lo,b.hi⟩)=true from hd];clear hd;go_wp2_with fail;refine(Jf a.m b.m _).mono ?_;rintro e w'⟨rfl,hw⟩;rw[hw];clear hw;go_wp2_with fail;refine(Lj (JA a.m b.m) _ (by unfold JA;split<;>omega) (by unfold JA;split<;>omega)).mono ?_;rintro e w'⟨rfl,hw⟩;rw[hw];clear hw;go_wp2_with fail;refine(Ap s (Iy (JA a.m b.m)) _).mono ?_;rintro e u2⟨rfl,hb⟩;have P2:=hxy (P1.out.below hb);clear hb;clear i0 i1 i2 i3 i4 i5 a0 a1 a2 a3 a4 a5 b0 b1 b2 b3 b4 b5 r0 r1 r2 r3 r4 r5 rf rl af;simp only[VV.v];obtain⟨⟨i0,i1,i2,i3,i4,i5⟩,⟨a0,a1,a2,a3,a4,a5⟩,⟨b0,b1,b2,b3,b4,b5⟩,⟨r0,r1,r2,r3,r4,r5⟩,rf,rl,af⟩:=P2.out.al;go_wp2;exact bodyPost_ret (v:=VV.v (Az s (Iy (JA a.m b.m)))) (by simp[results,Tryz.results164,go_sem,VV.v, *]) rfl ⟨congrArg (fun v=>Ending.returned (VV.v v)) (by simp[Cb,HC.out]),Al P2.out.bel P2.out.oR (Az s (Iy (JA a.m b.m)))⟩
 ·have hd:decide (0<=Ao a/\0<=Ao b)=false:=by simp only[decide_eq_false_iff_not];exact hc
  have HC:=hxy hc;clear hc;rw[show decide (0<=Ao ⟨a.k,a.s,a.m,a.h,a.lo,a.hi⟩/\0<=Ao ⟨b.k,b.s,b.m,b.h,b.lo,b.hi⟩)=false from hd];clear hd;go_wp2_with fail;refine(Ap s (-1) _).mono ?_;rintro e u2⟨rfl,hb⟩;have P2:=hxy (P1.out.below hb);clear hb;clear i0 i1 i2 i3 i4 i5 a0 a1 a2 a3 a4 a5 b0 b1 b2 b3 b4 b5 r0 r1 r2 r3 r4 r5 rf rl af;simp only[VV.v];obtain⟨⟨i0,i1,i2,i3,i4,i5⟩,⟨a0,a1,a2,a3,a4,a5⟩,⟨b0,b1,b2,b3,b4,b5⟩,⟨r0,r1,r2,r3,r4,r5⟩,rf,rl,af⟩:=P2.out.al;go_wp2;exact bodyPost_ret (v:=VV.v (Az s (-1))) (by simp[results,Tryz.results164,go_sem,VV.v, *]) rfl ⟨congrArg (fun v=>Ending.returned (VV.v v)) (by simp only[Cb,if_neg HC.out];simp),Al P2.out.bel P2.out.oR (Az s (-1))⟩
theorem Qy(d ra rb imm h:Int)(a b:VV)(s:Bool)(w:World)(ha:Bd a)(hb:Bd b):
 Calls Tryz.prog 164 #[.agg #[Vi 15,Vi d,Vi ra,Vi rb,Vi imm,Vi h],.agg #[Vi a.k,.bool a.s,Vi a.m,Vi a.h,Vi a.lo,Vi a.hi],.agg #[Vi b.k,.bool b.s,Vi b.m,Vi b.h,Vi b.lo,Vi b.hi],.bool s] w fun e w'=>e=.returned (Cb 15 imm a b s).v/\Below w.heap.size w w':=by
 go_enter Tryz.func164,Tryz.ntmps164;go_upto_region 1 with fail;obtain⟨u0,hu,pu⟩:=DJ w (op:=15) (d:=d) (ra:=ra) (rb:=rb) (imm:=imm) (h:=h) a b;rw[hu];have P0:=hxy pu;clear hu pu;obtain⟨⟨i0,i1,i2,i3,i4,i5⟩,⟨a0,a1,a2,a3,a4,a5⟩,⟨b0,b1,b2,b3,b4,b5⟩,⟨r0,r1,r2,r3,r4,r5⟩,rf,rl,af⟩:=P0.out.al;go_wp2_with fail;refine(Ga a.k a.s a.m a.h a.lo a.hi b.k b.s b.m b.h b.lo b.hi _).mono ?_;rintro e u1⟨rfl,hb⟩;have P1:=hxy (P0.out.below hb);clear hb;clear i0 i1 i2 i3 i4 i5 a0 a1 a2 a3 a4 a5 b0 b1 b2 b3 b4 b5 r0 r1 r2 r3 r4 r5 rf rl af;obtain⟨⟨i0,i1,i2,i3,i4,i5⟩,⟨a0,a1,a2,a3,a4,a5⟩,⟨b0,b1,b2,b3,b4,b5⟩,⟨r0,r1,r2,r3,r4,r5⟩,rf,rl,af⟩:=P1.out.al;by_cases hc:0<=Ao a/\0<=Ao b
 ·have hd:decide (0<=Ao a/\0<=Ao b)=true:=by simp[hc]
  obtain⟨p0,p1⟩:=Km hc.1 ha;obtain⟨q0,q1⟩:=Km hc.2 hb;have HC:=hxy hc;clear hc;rw[show decide (0<=Ao ⟨a.k,a.s,a.m,a.h,a.lo,a.hi⟩/\0<=Ao ⟨b.k,b.s,b.m,b.h,b.lo,b.hi⟩)=true from hd];clear hd;go_wp2_with fail;refine(Ap s (a.m+b.m+1) _).mono ?_;rintro e u2⟨rfl,hb⟩;have P2:=hxy (P1.out.below hb);clear hb;clear i0 i1 i2 i3 i4 i5 a0 a1 a2 a3 a4 a5 b0 b1 b2 b3 b4 b5 r0 r1 r2 r3 r4 r5 rf rl af;simp only[VV.v];obtain⟨⟨i0,i1,i2,i3,i4,i5⟩,⟨a0,a1,a2,a3,a4,a5⟩,⟨b0,b1,b2,b3,b4,b5⟩,⟨r0,r1,r2,r3,r4,r5⟩,rf,rl,af⟩:=P2.out.al;go_wp2;exact bodyPost_ret (v:=VV.v (Az s (a.m+b.m+1))) (by simp[results,Tryz.results164,go_sem,VV.v, *]) rfl ⟨congrArg (fun v=>Ending.returned (VV.v v)) (by simp[Cb,HC.out]),Al P2.out.bel P2.out.oR (Az s (a.m+b.m+1))⟩
 ·have hd:decide (0<=Ao a/\0<=Ao b)=false:=by simp only[decide_eq_false_iff_not];exact hc
  have HC:=hxy hc;clear hc;rw[show decide (0<=Ao ⟨a.k,a.s,a.m,a.h,a.lo,a.hi⟩/\0<=Ao ⟨b.k,b.s,b.m,b.h,b.lo,b.hi⟩)=false from hd];clear hd;go_wp2_with fail;refine(Ap s (-1) _).mono ?_;rintro e u2⟨rfl,hb⟩;have P2:=hxy (P1.out.below hb);clear hb;clear i0 i1 i2 i3 i4 i5 a0 a1 a2 a3 a4 a5 b0 b1 b2 b3 b4 b5 r0 r1 r2 r3 r4 r5 rf rl af;simp only[VV.v];obtain⟨⟨i0,i1,i2,i3,i4,i5⟩,⟨a0,a1,a2,a3,a4,a5⟩,⟨b0,b1,b2,b3,b4,b5⟩,⟨r0,r1,r2,r3,r4,r5⟩,rf,rl,af⟩:=P2.out.al;go_wp2;exact bodyPost_ret (v:=VV.v (Az s (-1))) (by simp[results,Tryz.results164,go_sem,VV.v, *]) rfl ⟨congrArg (fun v=>Ending.returned (VV.v v)) (by simp only[Cb,if_neg HC.out];simp),Al P2.out.bel P2.out.oR (Az s (-1))⟩
theorem UA(d ra rb imm h:Int)(a b:VV)(s:Bool)(w:World):
 Calls Tryz.prog 164 #[.agg #[Vi 6,Vi d,Vi ra,Vi rb,Vi imm,Vi h],.agg #[Vi a.k,.bool a.s,Vi a.m,Vi a.h,Vi a.lo,Vi a.hi],.agg #[Vi b.k,.bool b.s,Vi b.m,Vi b.h,Vi b.lo,Vi b.hi],.bool s] w fun e w'=>e=.returned (Cb 6 imm a b s).v/\Below w.heap.size w w':=by
 go_enter Tryz.func164,Tryz.ntmps164;go_upto_region 1 with fail;obtain⟨u0,hu,pu⟩:=DJ w (op:=6) (d:=d) (ra:=ra) (rb:=rb) (imm:=imm) (h:=h) a b;rw[hu];have P0:=hxy pu;clear hu pu;obtain⟨⟨i0,i1,i2,i3,i4,i5⟩,⟨a0,a1,a2,a3,a4,a5⟩,⟨b0,b1,b2,b3,b4,b5⟩,⟨r0,r1,r2,r3,r4,r5⟩,rf,rl,af⟩:=P0.out.al;go_upto_region 13 with fail;clear i0 i1 i2 i3 i4 i5 a0 a1 a2 a3 a4 a5 b0 b1 b2 b3 b4 b5 r0 r1 r2 r3 r4 r5 rf rl af;have sa:∀w',(Vb w' (w.heap.size+1) a/\Vb w' (w.heap.size+1+1) b/\w'.cell? ⟨w.heap.size,4,none⟩=some (Vi imm))->w'.cell? ⟨w.heap.size,4,none⟩=some (Vi imm):=fun w' h=>h.2.2
 have x0:∀w',(Vb w' (w.heap.size+1) a/\Vb w' (w.heap.size+1+1) b/\w'.cell? ⟨w.heap.size,4,none⟩=some (Vi imm))->w'.cell? ⟨w.heap.size+1,0,none⟩=some (Vi a.k):=fun w' h=>h.1.cells.1
 have x1:∀w',(Vb w' (w.heap.size+1) a/\Vb w' (w.heap.size+1+1) b/\w'.cell? ⟨w.heap.size,4,none⟩=some (Vi imm))->w'.cell? ⟨w.heap.size+1,1,none⟩=some (.bool a.s):=fun w' h=>h.1.cells.2.1
 have x2:∀w',(Vb w' (w.heap.size+1) a/\Vb w' (w.heap.size+1+1) b/\w'.cell? ⟨w.heap.size,4,none⟩=some (Vi imm))->w'.cell? ⟨w.heap.size+1,2,none⟩=some (Vi a.m):=fun w' h=>h.1.cells.2.2.1
 have x3:∀w',(Vb w' (w.heap.size+1) a/\Vb w' (w.heap.size+1+1) b/\w'.cell? ⟨w.heap.size,4,none⟩=some (Vi imm))->w'.cell? ⟨w.heap.size+1,3,none⟩=some (Vi a.h):=fun w' h=>h.1.cells.2.2.2.1
 have x4:∀w',(Vb w' (w.heap.size+1) a/\Vb w' (w.heap.size+1+1) b/\w'.cell? ⟨w.heap.size,4,none⟩=some (Vi imm))->w'.cell? ⟨w.heap.size+1,4,none⟩=some (Vi a.lo):=fun w' h=>h.1.cells.2.2.2.2.1
 have x5:∀w',(Vb w' (w.heap.size+1) a/\Vb w' (w.heap.size+1+1) b/\w'.cell? ⟨w.heap.size,4,none⟩=some (Vi imm))->w'.cell? ⟨w.heap.size+1,5,none⟩=some (Vi a.hi):=fun w' h=>h.1.cells.2.2.2.2.2
 have y0:∀w',(Vb w' (w.heap.size+1) a/\Vb w' (w.heap.size+1+1) b/\w'.cell? ⟨w.heap.size,4,none⟩=some (Vi imm))->w'.cell? ⟨w.heap.size+1+1,0,none⟩=some (Vi b.k):=fun w' h=>h.2.1.cells.1
 have y1:∀w',(Vb w' (w.heap.size+1) a/\Vb w' (w.heap.size+1+1) b/\w'.cell? ⟨w.heap.size,4,none⟩=some (Vi imm))->w'.cell? ⟨w.heap.size+1+1,1,none⟩=some (.bool b.s):=fun w' h=>h.2.1.cells.2.1
 have y2:∀w',(Vb w' (w.heap.size+1) a/\Vb w' (w.heap.size+1+1) b/\w'.cell? ⟨w.heap.size,4,none⟩=some (Vi imm))->w'.cell? ⟨w.heap.size+1+1,2,none⟩=some (Vi b.m):=fun w' h=>h.2.1.cells.2.2.1
 have y3:∀w',(Vb w' (w.heap.size+1) a/\Vb w' (w.heap.size+1+1) b/\w'.cell? ⟨w.heap.size,4,none⟩=some (Vi imm))->w'.cell? ⟨w.heap.size+1+1,3,none⟩=some (Vi b.h):=fun w' h=>h.2.1.cells.2.2.2.1
 have y4:∀w',(Vb w' (w.heap.size+1) a/\Vb w' (w.heap.size+1+1) b/\w'.cell? ⟨w.heap.size,4,none⟩=some (Vi imm))->w'.cell? ⟨w.heap.size+1+1,4,none⟩=some (Vi b.lo):=fun w' h=>h.2.1.cells.2.2.2.2.1
 have y5:∀w',(Vb w' (w.heap.size+1) a/\Vb w' (w.heap.size+1+1) b/\w'.cell? ⟨w.heap.size,4,none⟩=some (Vi imm))->w'.cell? ⟨w.heap.size+1+1,5,none⟩=some (Vi b.hi):=fun w' h=>h.2.1.cells.2.2.2.2.2
 obtain⟨u1,hd,hb⟩:∃v,u0.drew=v/\Below u0.heap.size u0 v:=⟨_,rfl,(Below.refl _ _).drew⟩
 have P1:=hxy (P0.out.below hb);have hS1:=P1.out.S;refine wp_region_held_drew (S:=fun w'=>Vb w' (w.heap.size+1) a/\Vb w' (w.heap.size+1+1) b/\w'.cell? ⟨w.heap.size,4,none⟩=some (Vi imm)) (by kernel_rfl) (by rw[hd];exact hS1) (fun _=>?_);rw[hd];clear hd hb;refine AB 0 rfl ?_;refine AB 1 rfl ?_;refine AB 3 rfl ?_;refine AO 2 rfl (fun KK hK=>?_);go_simp;refine(Cc a.k a.s a.m a.h a.lo a.hi _).mono ?_;rintro e u2⟨rfl,hb⟩;have P2:=hxy (P1.out.below hb);clear hb;go_wp2_with fail;refine hK.out _ _ P2.out.S (fun hS2=>?_);clear hK KK;try go_frame
 refine AO 4 rfl (fun KK hK=>?_);go_simp;refine(Cc b.k b.s b.m b.h b.lo b.hi _).mono ?_;rintro e u3⟨rfl,hb⟩;have P3:=hxy (P2.out.below hb);clear hb;go_wp2_with fail;refine hK.out _ _ P3.out.S (fun hS3=>?_);clear hK KK;try go_frame
 refine AO 5 rfl (fun KK hK=>?_)
 go_simp
 refine(Ke (Ao a) (Ao b) _).mono ?_
 rintro e w'⟨rfl,hw⟩
 rw[hw]
 clear hw
 go_wp2_with fail
 refine hK.out _ _ P3.out.S (fun hS3'=>?_)
 clear hK KK
 try go_frame
 refine AO 6 rfl (fun KK hK=>?_)
 go_simp
 refine(Ap s (Dz (Ao a) (Ao b)) _).mono ?_
 rintro e u4⟨rfl,hb⟩
 have P4:=hxy (P3.out.below hb)
 clear hb
 simp only[VV.v]
 go_wp2_with fail
 refine hK.out _ _ P4.out.S (fun hS4=>?_)
 clear hK KK
 try go_frame
 obtain⟨⟨i0,i1,i2,i3,i4,i5⟩,⟨a0,a1,a2,a3,a4,a5⟩,⟨b0,b1,b2,b3,b4,b5⟩,⟨r0,r1,r2,r3,r4,r5⟩,rf,rl,af⟩:=P4.out.al
 refine AO 7 rfl (fun KK hK=>?_)
 go_simp
 change KK _ (Hr u4 (w.heap.size+1+1+1) (Az s (Dz (Ao a) (Ao b))))
 obtain⟨z,hz,hbz,vz,va,vb,vi⟩:∃v,Hr u4 (w.heap.size+1+1+1) (Az s (Dz (Ao a) (Ao b)))=v/\Below w.heap.size w v/\Vb v (w.heap.size+1+1+1) (Az s (Dz (Ao a) (Ao b)))/\Vb v (w.heap.size+1) a/\Vb v (w.heap.size+1+1) b/\v.cell? ⟨w.heap.size,4,none⟩=some (Vi imm):=⟨_,rfl,Al P4.out.bel P4.out.oR _,Mi P4.out.R _,Hl P4.out.A _ (by omega),Hl P4.out.B _ (by omega),by rw[<-i4];exact Hw (by omega)⟩
 rw[hz]
 refine hK.out _ _ ⟨va,vb,vi⟩ (fun _=>?_)
 clear hK KK hz
 refine wpAnyH_done (by kernel_rfl) ?_ _
 clear i0 i1 i2 i3 i4 i5 a0 a1 a2 a3 a4 a5 b0 b1 b2 b3 b4 b5 r0 r1 r2 r3 r4 r5 rf rl af
 obtain⟨r0,r1,r2,r3,r4,r5⟩:=vz.cells
 have HB:=hxy hbz
 clear hbz vz va vb vi sa x0 x1 x2 x3 x4 x5 y0 y1 y2 y3 y4 y5
 go_wp2
 exact bodyPost_ret (v:=VV.v (Az s (Dz (Ao a) (Ao b)))) (by simp[results,Tryz.results164,go_sem,VV.v, *]) rfl ⟨congrArg (fun v=>Ending.returned (VV.v v)) (by simp[Cb]),HB.out⟩
theorem SX(d ra rb imm h:Int)(a b:VV)(s:Bool)(w:World):
 Calls Tryz.prog 164 #[.agg #[Vi 11,Vi d,Vi ra,Vi rb,Vi imm,Vi h],.agg #[Vi a.k,.bool a.s,Vi a.m,Vi a.h,Vi a.lo,Vi a.hi],.agg #[Vi b.k,.bool b.s,Vi b.m,Vi b.h,Vi b.lo,Vi b.hi],.bool s] w fun e w'=>e=.returned (Cb 11 imm a b s).v/\Below w.heap.size w w':=by
 go_enter Tryz.func164,Tryz.ntmps164;go_upto_region 1 with fail;obtain⟨u0,hu,pu⟩:=DJ w (op:=11) (d:=d) (ra:=ra) (rb:=rb) (imm:=imm) (h:=h) a b;rw[hu];have P0:=hxy pu;clear hu pu;obtain⟨⟨i0,i1,i2,i3,i4,i5⟩,⟨a0,a1,a2,a3,a4,a5⟩,⟨b0,b1,b2,b3,b4,b5⟩,⟨r0,r1,r2,r3,r4,r5⟩,rf,rl,af⟩:=P0.out.al;go_upto_region 28 with fail;clear i0 i1 i2 i3 i4 i5 a0 a1 a2 a3 a4 a5 b0 b1 b2 b3 b4 b5 r0 r1 r2 r3 r4 r5 rf rl af;have sa:∀w',(Vb w' (w.heap.size+1) a/\Vb w' (w.heap.size+1+1) b/\w'.cell? ⟨w.heap.size,4,none⟩=some (Vi imm))->w'.cell? ⟨w.heap.size,4,none⟩=some (Vi imm):=fun w' h=>h.2.2
 have x0:∀w',(Vb w' (w.heap.size+1) a/\Vb w' (w.heap.size+1+1) b/\w'.cell? ⟨w.heap.size,4,none⟩=some (Vi imm))->w'.cell? ⟨w.heap.size+1,0,none⟩=some (Vi a.k):=fun w' h=>h.1.cells.1
 have x1:∀w',(Vb w' (w.heap.size+1) a/\Vb w' (w.heap.size+1+1) b/\w'.cell? ⟨w.heap.size,4,none⟩=some (Vi imm))->w'.cell? ⟨w.heap.size+1,1,none⟩=some (.bool a.s):=fun w' h=>h.1.cells.2.1
 have x2:∀w',(Vb w' (w.heap.size+1) a/\Vb w' (w.heap.size+1+1) b/\w'.cell? ⟨w.heap.size,4,none⟩=some (Vi imm))->w'.cell? ⟨w.heap.size+1,2,none⟩=some (Vi a.m):=fun w' h=>h.1.cells.2.2.1
 have x3:∀w',(Vb w' (w.heap.size+1) a/\Vb w' (w.heap.size+1+1) b/\w'.cell? ⟨w.heap.size,4,none⟩=some (Vi imm))->w'.cell? ⟨w.heap.size+1,3,none⟩=some (Vi a.h):=fun w' h=>h.1.cells.2.2.2.1
 have x4:∀w',(Vb w' (w.heap.size+1) a/\Vb w' (w.heap.size+1+1) b/\w'.cell? ⟨w.heap.size,4,none⟩=some (Vi imm))->w'.cell? ⟨w.heap.size+1,4,none⟩=some (Vi a.lo):=fun w' h=>h.1.cells.2.2.2.2.1
 have x5:∀w',(Vb w' (w.heap.size+1) a/\Vb w' (w.heap.size+1+1) b/\w'.cell? ⟨w.heap.size,4,none⟩=some (Vi imm))->w'.cell? ⟨w.heap.size+1,5,none⟩=some (Vi a.hi):=fun w' h=>h.1.cells.2.2.2.2.2
 have y0:∀w',(Vb w' (w.heap.size+1) a/\Vb w' (w.heap.size+1+1) b/\w'.cell? ⟨w.heap.size,4,none⟩=some (Vi imm))->w'.cell? ⟨w.heap.size+1+1,0,none⟩=some (Vi b.k):=fun w' h=>h.2.1.cells.1
 have y1:∀w',(Vb w' (w.heap.size+1) a/\Vb w' (w.heap.size+1+1) b/\w'.cell? ⟨w.heap.size,4,none⟩=some (Vi imm))->w'.cell? ⟨w.heap.size+1+1,1,none⟩=some (.bool b.s):=fun w' h=>h.2.1.cells.2.1
 have y2:∀w',(Vb w' (w.heap.size+1) a/\Vb w' (w.heap.size+1+1) b/\w'.cell? ⟨w.heap.size,4,none⟩=some (Vi imm))->w'.cell? ⟨w.heap.size+1+1,2,none⟩=some (Vi b.m):=fun w' h=>h.2.1.cells.2.2.1
 have y3:∀w',(Vb w' (w.heap.size+1) a/\Vb w' (w.heap.size+1+1) b/\w'.cell? ⟨w.heap.size,4,none⟩=some (Vi imm))->w'.cell? ⟨w.heap.size+1+1,3,none⟩=some (Vi b.h):=fun w' h=>h.2.1.cells.2.2.2.1
 have y4:∀w',(Vb w' (w.heap.size+1) a/\Vb w' (w.heap.size+1+1) b/\w'.cell? ⟨w.heap.size,4,none⟩=some (Vi imm))->w'.cell? ⟨w.heap.size+1+1,4,none⟩=some (Vi b.lo):=fun w' h=>h.2.1.cells.2.2.2.2.1
 have y5:∀w',(Vb w' (w.heap.size+1) a/\Vb w' (w.heap.size+1+1) b/\w'.cell? ⟨w.heap.size,4,none⟩=some (Vi imm))->w'.cell? ⟨w.heap.size+1+1,5,none⟩=some (Vi b.hi):=fun w' h=>h.2.1.cells.2.2.2.2.2
 obtain⟨u1,hd,hb⟩:∃v,u0.drew=v/\Below u0.heap.size u0 v:=⟨_,rfl,(Below.refl _ _).drew⟩
 have P1:=hxy (P0.out.below hb);have hS1:=P1.out.S;refine wp_region_held_drew (S:=fun w'=>Vb w' (w.heap.size+1) a/\Vb w' (w.heap.size+1+1) b/\w'.cell? ⟨w.heap.size,4,none⟩=some (Vi imm)) (by kernel_rfl) (by rw[hd];exact hS1) (fun _=>?_);rw[hd];clear hd hb;refine AB 0 rfl ?_;refine AB 1 rfl ?_;refine AB 2 rfl ?_;refine AB 3 rfl ?_;refine AO 4 rfl (fun KK hK=>?_);go_simp;refine(Cc a.k a.s a.m a.h a.lo a.hi _).mono ?_;rintro e u2⟨rfl,hb⟩;have P2:=hxy (P1.out.below hb);clear hb;go_wp2_with fail;refine hK.out _ _ P2.out.S (fun hS2=>?_);clear hK KK;try go_frame
 refine AO 5 rfl (fun KK hK=>?_);go_simp;refine(Ke imm (Ao a) _).mono ?_;rintro e w'⟨rfl,hw⟩;rw[hw];clear hw;go_wp2_with fail;refine hK.out _ _ P2.out.S (fun hS2'=>?_);clear hK KK
 try go_frame
 refine AO 6 rfl (fun KK hK=>?_)
 go_simp
 refine(Ap s (Dz imm (Ao a)) _).mono ?_
 rintro e u3⟨rfl,hb⟩
 have P3:=hxy (P2.out.below hb)
 clear hb
 simp only[VV.v]
 go_wp2_with fail
 refine hK.out _ _ P3.out.S (fun hS3=>?_)
 clear hK KK
 try go_frame
 obtain⟨⟨i0,i1,i2,i3,i4,i5⟩,⟨a0,a1,a2,a3,a4,a5⟩,⟨b0,b1,b2,b3,b4,b5⟩,⟨r0,r1,r2,r3,r4,r5⟩,rf,rl,af⟩:=P3.out.al
 refine AO 7 rfl (fun KK hK=>?_)
 go_simp
 change KK _ (Hr u3 (w.heap.size+1+1+1) (Az s (Dz imm (Ao a))))
 obtain⟨z,hz,hbz,vz,va,vb,vi⟩:∃v,Hr u3 (w.heap.size+1+1+1) (Az s (Dz imm (Ao a)))=v/\Below w.heap.size w v/\Vb v (w.heap.size+1+1+1) (Az s (Dz imm (Ao a)))/\Vb v (w.heap.size+1) a/\Vb v (w.heap.size+1+1) b/\v.cell? ⟨w.heap.size,4,none⟩=some (Vi imm):=⟨_,rfl,Al P3.out.bel P3.out.oR _,Mi P3.out.R _,Hl P3.out.A _ (by omega),Hl P3.out.B _ (by omega),by rw[<-i4];exact Hw (by omega)⟩
 rw[hz]
 refine hK.out _ _ ⟨va,vb,vi⟩ (fun _=>?_)
 clear hK KK hz
 refine wpAnyH_done (by kernel_rfl) ?_ _
 clear i0 i1 i2 i3 i4 i5 a0 a1 a2 a3 a4 a5 b0 b1 b2 b3 b4 b5 r0 r1 r2 r3 r4 r5 rf rl af
 obtain⟨r0,r1,r2,r3,r4,r5⟩:=vz.cells
 have HB:=hxy hbz
 clear hbz vz va vb vi sa x0 x1 x2 x3 x4 x5 y0 y1 y2 y3 y4 y5
 go_wp2
 exact bodyPost_ret (v:=VV.v (Az s (Dz imm (Ao a)))) (by simp[results,Tryz.results164,go_sem,VV.v, *]) rfl ⟨congrArg (fun v=>Ending.returned (VV.v v)) (by simp[Cb]),HB.out⟩
end Go.Proofs.YtfpeecaaleijcaaGreatDoor
