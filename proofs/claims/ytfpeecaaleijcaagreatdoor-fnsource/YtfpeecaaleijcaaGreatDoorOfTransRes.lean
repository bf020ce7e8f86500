import Derived.Test.YtfpeecaaleijcaaGreatDoorOfCl
import Derived.Test.YtfpeecaaleijcaaGreatDoorOfTransAcc
import Derived.Test.YtfpeecaaleijcaaGreatDoorOfTransResD
set_option maxHeartbeats 40000000
set_option maxRecDepth 20000
namespace Go.Proofs.YtfpeecaaleijcaaGreatDoor
open Go.RowKit
theorem Qx(d ra rb imm h:Int)(a b:VV)(s:Bool)(w:World)(ha:Bd a)(g0: -1000000<=imm)(g1:imm<=1000000):
 Calls Tryz.prog 164 #[.agg #[Vi 10,Vi d,Vi ra,Vi rb,Vi imm,Vi h],.agg #[Vi a.k,.bool a.s,Vi a.m,Vi a.h,Vi a.lo,Vi a.hi],.agg #[Vi b.k,.bool b.s,Vi b.m,Vi b.h,Vi b.lo,Vi b.hi],.bool s] w fun e w'=>e=.returned (Cb 10 imm a b s).v/\Below w.heap.size w w':=by
 have al0:=ha.l0;have al1:=ha.l1;have ah0:=ha.h0;have ah1:=ha.h1;have am1:=ha.m1;have am0:=ha.m0;go_enter Tryz.func164,Tryz.ntmps164;go_upto_region 1 with fail;obtain⟨u0,hu,pu⟩:=DJ w (op:=10) (d:=d) (ra:=ra) (rb:=rb) (imm:=imm) (h:=h) a b;rw[hu];have P0:=hxy pu;clear hu pu;obtain⟨⟨i0,i1,i2,i3,i4,i5⟩,⟨a0,a1,a2,a3,a4,a5⟩,⟨b0,b1,b2,b3,b4,b5⟩,⟨r0,r1,r2,r3,r4,r5⟩,rf,rl,af⟩:=P0.out.al;have hi0:=i0;by_cases c:a.k=1/\ -1099511627776<=a.lo+imm/\a.hi+imm<=1099511627776
 ·obtain⟨c1,c2,c3⟩:=c
  have e1:(a.k==1)=true:=by simp[c1]
  have e2:decide (-1099511627776<=a.lo+imm)=true:=by simp[c2]
  have e3:decide (a.hi+imm<=1099511627776)=true:=by simp[c3]
  have HC:Hid (a.k=1/\ -1099511627776<=a.lo+imm/\a.hi+imm<=1099511627776):=⟨c1,c2,c3⟩
  go_wp2;exact bodyPost_ret (v:=VV.v ⟨1,a.s,a.m,a.h,a.lo+imm,a.hi+imm⟩) (by simp[results,Tryz.results164,go_sem,VV.v, *]) rfl ⟨congrArg (fun v=>Ending.returned (VV.v v)) (by simp only[Cb,if_pos HC.out];simp[HC.out.1]),by(iterate 6 refine Below.setCell ?_ (show w.heap.size<=w.heap.size+1+1+1 by omega) _);(iterate 2 refine Below.setCell ?_ (show w.heap.size<=w.heap.size+1 by omega) _);exact P0.out.bel⟩
 ·have HC:=hxy c
  by_cases c1:a.k=1
  ·have e1:(a.k==1)=true:=by simp[c1]
   by_cases c2: -1099511627776<=a.lo+imm
   ·have c3:¬a.hi+imm<=1099511627776:=fun q=>c ⟨c1,c2,q⟩
    have e2:decide (-1099511627776<=a.lo+imm)=true:=by simp[c2]
    have e3:decide (a.hi+imm<=1099511627776)=false:=by simp;omega
    clear c c1;go_wp2_with fail;refine(Cc a.k a.s a.m a.h a.lo a.hi _).mono ?_;rintro e u1⟨rfl,hb⟩;have P1:=hxy (P0.out.below hb);clear hb;clear i0 i1 i2 i3 i4 i5 a0 a1 a2 a3 a4 a5 b0 b1 b2 b3 b4 b5 r0 r1 r2 r3 r4 r5 rf rl af;obtain⟨⟨i0,i1,i2,i3,i4,i5⟩,⟨a0,a1,a2,a3,a4,a5⟩,⟨b0,b1,b2,b3,b4,b5⟩,⟨r0,r1,r2,r3,r4,r5⟩,rf,rl,af⟩:=P1.out.al;obtain⟨mx,hmx⟩:=Ae (Ao a);have HX:=hxy hmx;rw[show Ao ⟨a.k,a.s,a.m,a.h,a.lo,a.hi⟩=mx from hmx];clear hmx;clear al0 al1 ah0 ah1;by_cases m0:0<=mx
    ·by_cases j0:0<=imm
     ·skip
      have HQ:Hid (0<=Ao a/\0<=imm):=⟨by rw[HX.out];exact m0,j0⟩
      have e4:decide (0<=mx)=true:=by simp[m0]
      have e5:decide (0<=imm)=true:=by simp[j0]
      go_wp2_with fail;refine(Ap s (a.m+imm) _).mono ?_;rintro e u2⟨rfl,hb⟩;have P2:=hxy (P1.out.below hb);clear hb;clear i0 i1 i2 i3 i4 i5 a0 a1 a2 a3 a4 a5 b0 b1 b2 b3 b4 b5 r0 r1 r2 r3 r4 r5 rf rl af;simp only[VV.v];obtain⟨⟨i0,i1,i2,i3,i4,i5⟩,⟨a0,a1,a2,a3,a4,a5⟩,⟨b0,b1,b2,b3,b4,b5⟩,⟨r0,r1,r2,r3,r4,r5⟩,rf,rl,af⟩:=P2.out.al;go_wp2;exact bodyPost_ret (v:=VV.v (Az s (a.m+imm))) (by simp[results,Tryz.results164,go_sem,VV.v, *]) rfl ⟨congrArg (fun v=>Ending.returned (VV.v v)) (by simp only[Cb,if_neg HC.out,if_pos HQ.out];simp),Al P2.out.bel P2.out.oR (Az s (a.m+imm))⟩
     ·have HQ:Hid (¬(0<=Ao a/\0<=imm)):=fun q=>j0 q.2
      have e4:decide (0<=mx)=true:=by simp[m0]
      have e5:decide (0<=imm)=false:=by simp;omega
      go_wp2_with fail;refine(Ap s (-1) _).mono ?_;rintro e u2⟨rfl,hb⟩;have P2:=hxy (P1.out.below hb);clear hb;clear i0 i1 i2 i3 i4 i5 a0 a1 a2 a3 a4 a5 b0 b1 b2 b3 b4 b5 r0 r1 r2 r3 r4 r5 rf rl af;simp only[VV.v];obtain⟨⟨i0,i1,i2,i3,i4,i5⟩,⟨a0,a1,a2,a3,a4,a5⟩,⟨b0,b1,b2,b3,b4,b5⟩,⟨r0,r1,r2,r3,r4,r5⟩,rf,rl,af⟩:=P2.out.al;go_wp2;exact bodyPost_ret (v:=VV.v (Az s (-1))) (by simp[results,Tryz.results164,go_sem,VV.v, *]) rfl ⟨congrArg (fun v=>Ending.returned (VV.v v)) (by simp only[Cb,if_neg HC.out,if_neg HQ.out];simp),Al P2.out.bel P2.out.oR (Az s (-1))⟩
    ·have HQ:Hid (¬(0<=Ao a/\0<=imm)):=fun q=>m0 (by rw[<-HX.out];exact q.1)
     have e4:decide (0<=mx)=false:=by simp;omega
     go_wp2_with fail;refine(Ap s (-1) _).mono ?_;rintro e u2⟨rfl,hb⟩;have P2:=hxy (P1.out.below hb);clear hb;clear i0 i1 i2 i3 i4 i5 a0 a1 a2 a3 a4 a5 b0 b1 b2 b3 b4 b5 r0 r1 r2 r3 r4 r5 rf rl af;simp only[VV.v];obtain⟨⟨i0,i1,i2,i3,i4,i5⟩,⟨a0,a1,a2,a3,a4,a5⟩,⟨b0,b1,b2,b3,b4,b5⟩,⟨r0,r1,r2,r3,r4,r5⟩,rf,rl,af⟩:=P2.out.al;go_wp2;exact bodyPost_ret (v:=VV.v (Az s (-1))) (by simp[results,Tryz.results164,go_sem,VV.v, *]) rfl ⟨congrArg (fun v=>Ending.returned (VV.v v)) (by simp only[Cb,if_neg HC.out,if_neg HQ.out];simp),Al P2.out.bel P2.out.oR (Az s (-1))⟩
   ·have e2:decide (-1099511627776<=a.lo+imm)=false:=by simp;omega
    clear c c1;go_wp2_with fail;refine(Cc a.k a.s a.m a.h a.lo a.hi _).mono ?_;rintro e u1⟨rfl,hb⟩;have P1:=hxy (P0.out.below hb);clear hb;clear i0 i1 i2 i3 i4 i5 a0 a1 a2 a3 a4 a5 b0 b1 b2 b3 b4 b5 r0 r1 r2 r3 r4 r5 rf rl af;obtain⟨⟨i0,i1,i2,i3,i4,i5⟩,⟨a0,a1,a2,a3,a4,a5⟩,⟨b0,b1,b2,b3,b4,b5⟩,⟨r0,r1,r2,r3,r4,r5⟩,rf,rl,af⟩:=P1.out.al;obtain⟨mx,hmx⟩:=Ae (Ao a);have HX:=hxy hmx;rw[show Ao ⟨a.k,a.s,a.m,a.h,a.lo,a.hi⟩=mx from hmx];clear hmx;clear al0 al1 ah0 ah1;by_cases m0:0<=mx
    ·by_cases j0:0<=imm
     ·skip
      have HQ:Hid (0<=Ao a/\0<=imm):=⟨by rw[HX.out];exact m0,j0⟩
      have e4:decide (0<=mx)=true:=by simp[m0]
      have e5:decide (0<=imm)=true:=by simp[j0]
      go_wp2_with fail;refine(Ap s (a.m+imm) _).mono ?_;rintro e u2⟨rfl,hb⟩;have P2:=hxy (P1.out.below hb);clear hb;clear i0 i1 i2 i3 i4 i5 a0 a1 a2 a3 a4 a5 b0 b1 b2 b3 b4 b5 r0 r1 r2 r3 r4 r5 rf rl af;simp only[VV.v];obtain⟨⟨i0,i1,i2,i3,i4,i5⟩,⟨a0,a1,a2,a3,a4,a5⟩,⟨b0,b1,b2,b3,b4,b5⟩,⟨r0,r1,r2,r3,r4,r5⟩,rf,rl,af⟩:=P2.out.al;go_wp2;exact bodyPost_ret (v:=VV.v (Az s (a.m+imm))) (by simp[results,Tryz.results164,go_sem,VV.v, *]) rfl ⟨congrArg (fun v=>Ending.returned (VV.v v)) (by simp only[Cb,if_neg HC.out,if_pos HQ.out];simp),Al P2.out.bel P2.out.oR (Az s (a.m+imm))⟩
     ·have HQ:Hid (¬(0<=Ao a/\0<=imm)):=fun q=>j0 q.2
      have e4:decide (0<=mx)=true:=by simp[m0]
      have e5:decide (0<=imm)=false:=by simp;omega
      go_wp2_with fail;refine(Ap s (-1) _).mono ?_;rintro e u2⟨rfl,hb⟩;have P2:=hxy (P1.out.below hb);clear hb;clear i0 i1 i2 i3 i4 i5 a0 a1 a2 a3 a4 a5 b0 b1 b2 b3 b4 b5 r0 r1 r2 r3 r4 r5 rf rl af;simp only[VV.v];obtain⟨⟨i0,i1,i2,i3,i4,i5⟩,⟨a0,a1,a2,a3,a4,a5⟩,⟨b0,b1,b2,b3,b4,b5⟩,⟨r0,r1,r2,r3,r4,r5⟩,rf,rl,af⟩:=P2.out.al;go_wp2;exact bodyPost_ret (v:=VV.v (Az s (-1))) (by simp[results,Tryz.results164,go_sem,VV.v, *]) rfl ⟨congrArg (fun v=>Ending.returned (VV.v v)) (by simp only[Cb,if_neg HC.out,if_neg HQ.out];simp),Al P2.out.bel P2.out.oR (Az s (-1))⟩
    ·have HQ:Hid (¬(0<=Ao a/\0<=imm)):=fun q=>m0 (by rw[<-HX.out];exact q.1)
     have e4:decide (0<=mx)=false:=by simp;omega
     go_wp2_with fail;refine(Ap s (-1) _).mono ?_;rintro e u2⟨rfl,hb⟩;have P2:=hxy (P1.out.below hb);clear hb;clear i0 i1 i2 i3 i4 i5 a0 a1 a2 a3 a4 a5 b0 b1 b2 b3 b4 b5 r0 r1 r2 r3 r4 r5 rf rl af;simp only[VV.v];obtain⟨⟨i0,i1,i2,i3,i4,i5⟩,⟨a0,a1,a2,a3,a4,a5⟩,⟨b0,b1,b2,b3,b4,b5⟩,⟨r0,r1,r2,r3,r4,r5⟩,rf,rl,af⟩:=P2.out.al;go_wp2;exact bodyPost_ret (v:=VV.v (Az s (-1))) (by simp[results,Tryz.results164,go_sem,VV.v, *]) rfl ⟨congrArg (fun v=>Ending.returned (VV.v v)) (by simp only[Cb,if_neg HC.out,if_neg HQ.out];simp),Al P2.out.bel P2.out.oR (Az s (-1))⟩
  ·have e1:(a.k==1)=false:=by simp[c1]
   clear c;go_wp2_with fail;refine(Cc a.k a.s a.m a.h a.lo a.hi _).mono ?_;rintro e u1⟨rfl,hb⟩;have P1:=hxy (P0.out.below hb);clear hb;clear i0 i1 i2 i3 i4 i5 a0 a1 a2 a3 a4 a5 b0 b1 b2 b3 b4 b5 r0 r1 r2 r3 r4 r5 rf rl af;obtain⟨⟨i0,i1,i2,i3,i4,i5⟩,⟨a0,a1,a2,a3,a4,a5⟩,⟨b0,b1,b2,b3,b4,b5⟩,⟨r0,r1,r2,r3,r4,r5⟩,rf,rl,af⟩:=P1.out.al;obtain⟨mx,hmx⟩:=Ae (Ao a);have HX:=hxy hmx;rw[show Ao ⟨a.k,a.s,a.m,a.h,a.lo,a.hi⟩=mx from hmx];clear hmx;clear al0 al1 ah0 ah1;by_cases m0:0<=mx
   ·by_cases j0:0<=imm
    ·skip
     have HQ:Hid (0<=Ao a/\0<=imm):=⟨by rw[HX.out];exact m0,j0⟩
     have e4:decide (0<=mx)=true:=by simp[m0]
     have e5:decide (0<=imm)=true:=by simp[j0]
     go_wp2_with fail;refine(Ap s (a.m+imm) _).mono ?_;rintro e u2⟨rfl,hb⟩;have P2:=hxy (P1.out.below hb);clear hb;clear i0 i1 i2 i3 i4 i5 a0 a1 a2 a3 a4 a5 b0 b1 b2 b3 b4 b5 r0 r1 r2 r3 r4 r5 rf rl af;simp only[VV.v];obtain⟨⟨i0,i1,i2,i3,i4,i5⟩,⟨a0,a1,a2,a3,a4,a5⟩,⟨b0,b1,b2,b3,b4,b5⟩,⟨r0,r1,r2,r3,r4,r5⟩,rf,rl,af⟩:=P2.out.al;go_wp2;exact bodyPost_ret (v:=VV.v (Az s (a.m+imm))) (by simp[results,Tryz.results164,go_sem,VV.v, *]) rfl ⟨congrArg (fun v=>Ending.returned (VV.v v)) (by simp only[Cb,if_neg HC.out,if_pos HQ.out];simp),Al P2.out.bel P2.out.oR (Az s (a.m+imm))⟩
    ·have HQ:Hid (¬(0<=Ao a/\0<=imm)):=fun q=>j0 q.2
     have e4:decide (0<=mx)=true:=by simp[m0]
     have e5:decide (0<=imm)=false:=by simp;omega
     go_wp2_with fail;refine(Ap s (-1) _).mono ?_;rintro e u2⟨rfl,hb⟩;have P2:=hxy (P1.out.below hb);clear hb;clear i0 i1 i2 i3 i4 i5 a0 a1 a2 a3 a4 a5 b0 b1 b2 b3 b4 b5 r0 r1 r2 r3 r4 r5 rf rl af;simp only[VV.v];obtain⟨⟨i0,i1,i2,i3,i4,i5⟩,⟨a0,a1,a2,a3,a4,a5⟩,⟨b0,b1,b2,b3,b4,b5⟩,⟨r0,r1,r2,r3,r4,r5⟩,rf,rl,af⟩:=P2.out.al;go_wp2;exact bodyPost_ret (v:=VV.v (Az s (-1))) (by simp[results,Tryz.results164,go_sem,VV.v, *]) rfl ⟨congrArg (fun v=>Ending.returned (VV.v v)) (by simp only[Cb,if_neg HC.out,if_neg HQ.out];simp),Al P2.out.bel P2.out.oR (Az s (-1))⟩
   ·have HQ:Hid (¬(0<=Ao a/\0<=imm)):=fun q=>m0 (by rw[<-HX.out];exact q.1)
    have e4:decide (0<=mx)=false:=by simp;omega
    go_wp2_with fail;refine(Ap s (-1) _).mono ?_;rintro e u2⟨rfl,hb⟩;have P2:=hxy (P1.out.below hb);clear hb;clear i0 i1 i2 i3 i4 i5 a0 a1 a2 a3 a4 a5 b0 b1 b2 b3 b4 b5 r0 r1 r2 r3 r4 r5 rf rl af;simp only[VV.v];obtain⟨⟨i0,i1,i2,i3,i4,i5⟩,⟨a0,a1,a2,a3,a4,a5⟩,⟨b0,b1,b2,b3,b4,b5⟩,⟨r0,r1,r2,r3,r4,r5⟩,rf,rl,af⟩:=P2.out.al;go_wp2;exact bodyPost_ret (v:=VV.v (Az s (-1))) (by simp[results,Tryz.results164,go_sem,VV.v, *]) rfl ⟨congrArg (fun v=>Ending.returned (VV.v v)) (by simp only[Cb,if_neg HC.out,if_neg HQ.out];simp),Al P2.out.bel P2.out.oR (Az s (-1))⟩
theorem SE(d ra rb imm h:Int)(a b:VV)(s:Bool)(w:World)(ha:Bd a)(g0:0<=imm)(g1:imm<=63):
 Calls Tryz.prog 164 #[.agg #[Vi 12,Vi d,Vi ra,Vi rb,Vi imm,Vi h],.agg #[Vi a.k,.bool a.s,Vi a.m,Vi a.h,Vi a.lo,Vi a.hi],.agg #[Vi b.k,.bool b.s,Vi b.m,Vi b.h,Vi b.lo,Vi b.hi],.bool s] w fun e w'=>e=.returned (Cb 12 imm a b s).v/\Below w.heap.size w w':=by
 have am0:=ha.m0;have am1:=ha.m1;obtain⟨mx,hmx⟩:=Ae (Ao a);have HX:=hxy hmx;have hmm:0<=mx->mx=a.m:=by intro q;rw[<-hmx]at q⊢;unfold Ao at q⊢;split at q<;>simp_all
 clear hmx;go_enter Tryz.func164,Tryz.ntmps164;go_upto_region 1 with fail;obtain⟨u0,hu,pu⟩:=DJ w (op:=12) (d:=d) (ra:=ra) (rb:=rb) (imm:=imm) (h:=h) a b;rw[hu];have P0:=hxy pu;clear hu pu;obtain⟨⟨i0,i1,i2,i3,i4,i5⟩,⟨a0,a1,a2,a3,a4,a5⟩,⟨b0,b1,b2,b3,b4,b5⟩,⟨r0,r1,r2,r3,r4,r5⟩,rf,rl,af⟩:=P0.out.al;go_wp2_with fail;refine(Cc a.k a.s a.m a.h a.lo a.hi _).mono ?_;rintro e u1⟨rfl,hb⟩;have P1:=hxy (P0.out.below hb);clear hb;clear i0 i1 i2 i3 i4 i5 a0 a1 a2 a3 a4 a5 b0 b1 b2 b3 b4 b5 r0 r1 r2 r3 r4 r5 rf rl af;obtain⟨⟨i0,i1,i2,i3,i4,i5⟩,⟨a0,a1,a2,a3,a4,a5⟩,⟨b0,b1,b2,b3,b4,b5⟩,⟨r0,r1,r2,r3,r4,r5⟩,rf,rl,af⟩:=P1.out.al;rw[show Ao ⟨a.k,a.s,a.m,a.h,a.lo,a.hi⟩=mx from HX.out];by_cases z:mx=0
 ·subst z
  clear hmm;go_wp2_with fail;refine(Ap s (0) _).mono ?_;rintro e u2⟨rfl,hb⟩;have P2:=hxy (P1.out.below hb);clear hb;clear i0 i1 i2 i3 i4 i5 a0 a1 a2 a3 a4 a5 b0 b1 b2 b3 b4 b5 r0 r1 r2 r3 r4 r5 rf rl af;simp only[VV.v];obtain⟨⟨i0,i1,i2,i3,i4,i5⟩,⟨a0,a1,a2,a3,a4,a5⟩,⟨b0,b1,b2,b3,b4,b5⟩,⟨r0,r1,r2,r3,r4,r5⟩,rf,rl,af⟩:=P2.out.al;go_wp2;exact bodyPost_ret (v:=VV.v (Az s (0))) (by simp[results,Tryz.results164,go_sem,VV.v, *]) rfl ⟨congrArg (fun v=>Ending.returned (VV.v v)) (by simp only[Cb,if_pos HX.out];simp),Al P2.out.bel P2.out.oR (Az s (0))⟩
 ·have e0:(mx==0)=false:=by simp[z]
  have HZ:Hid (¬Ao a=0):=by rw[show(Ao a=0)=(mx=0)from by rw[HX.out]];exact z
  go_wp2_with fail;refine(Cc a.k a.s a.m a.h a.lo a.hi _).mono ?_;rintro e u2⟨rfl,hb⟩;have P2:=hxy (P1.out.below hb);clear hb;clear i0 i1 i2 i3 i4 i5 a0 a1 a2 a3 a4 a5 b0 b1 b2 b3 b4 b5 r0 r1 r2 r3 r4 r5 rf rl af;obtain⟨⟨i0,i1,i2,i3,i4,i5⟩,⟨a0,a1,a2,a3,a4,a5⟩,⟨b0,b1,b2,b3,b4,b5⟩,⟨r0,r1,r2,r3,r4,r5⟩,rf,rl,af⟩:=P2.out.al;rw[show Ao ⟨a.k,a.s,a.m,a.h,a.lo,a.hi⟩=mx from HX.out];by_cases p:0<mx
  ·have ea:mx=a.m:=hmm (by omega)
   subst ea;clear hmm e0 z;have e1:decide (0<a.m)=true:=by simp[p]
   by_cases q:imm<=40
   ·have e2:decide (imm<=40)=true:=by simp[q]
    have HQ:Hid (0<Ao a/\imm<=40):=⟨by rw[HX.out];exact p,q⟩
    obtain⟨pw,hpw,w0,w1⟩:=ah g0 q;have f1:IntKind.i64.wrap pw=pw:=by rw[IntKind.wrap_i64];omega
    have f2:wrap64 pw=pw:=by unfold wrap64;omega
    go_upto_region 33 with fail;clear i0 i1 i2 i3 i4 i5 a0 a1 a2 a3 a4 a5 b0 b1 b2 b3 b4 b5 r0 r1 r2 r3 r4 r5 rf rl af;have sa:∀w',(Vb w' (w.heap.size+1) a/\Vb w' (w.heap.size+1+1) b/\w'.cell? ⟨w.heap.size,4,none⟩=some (Vi imm))->w'.cell? ⟨w.heap.size,4,none⟩=some (Vi imm):=fun w' h=>h.2.2
    have x0:∀w',(Vb w' (w.heap.size+1) a/\Vb w' (w.heap.size+1+1) b/\w'.cell? ⟨w.heap.size,4,none⟩=some (Vi imm))->w'.cell? ⟨w.heap.size+1,0,none⟩=some (Vi a.k):=fun w' h=>h.1.cells.1
    have x1:∀w',(Vb w' (w.heap.size+1) a/\Vb w' (w.heap.size+1+1) b/\w'.cell? ⟨w.heap.size,4,none⟩=some (Vi imm))->w'.cell? ⟨w.heap.size+1,1,none⟩=some (.bool a.s):=fun w' h=>h.1.cells.2.1
    have x2:∀w',(Vb w' (w.heap.size+1) a/\Vb w' (w.heap.size+1+1) b/\w'.cell? ⟨w.heap.size,4,none⟩=some (Vi imm))->w'.cell? ⟨w.heap.size+1,2,none⟩=some (Vi a.m):=fun w' h=>h.1.cells.2.2.1
    have x3:∀w',(Vb w' (w.heap.size+1) a/\Vb w' (w.heap.size+1+1) b/\w'.cell? ⟨w.heap.size,4,none⟩=some (Vi imm))->w'.cell? ⟨w.heap.size+1,3,none⟩=some (Vi a.h):=fun w' h=>h.1.cells.2.2.2.1
    have x4:∀w',(Vb w' (w.heap.size+1) a/\Vb w' (w.heap.size+1+1) b/\w'.cell? ⟨w.heap.size,4,none⟩=some (Vi imm))->w'.cell? ⟨w.heap.size+1,4,none⟩=some (Vi a.lo):=fun w' h=>h.1.cells.2.2.2.2.1
    have x5:∀w',(Vb w' (w.heap.size+1) a/\Vb w' (w.heap.size+1+1) b/\w'.cell? ⟨w.heap.size,4,none⟩=some (Vi imm))->w'.cell? ⟨w.heap.size+1,5,none⟩=some (Vi a.hi):=fun w' h=>h.1.cells.2.2.2.2.2
    have y0:∀w',(Vb w' (w.heap.size+1) a/\Vb w' (w.heap.size+1+1) b/\w'.cell? ⟨w.heap.size,4,none⟩=some (Vi imm))->w'.cell? ⟨w.heap.size+1+1,0,none⟩=some (Vi b.k):=fun w' h=>h.2.1.cells.1
    have y1:∀w',(Vb w' (w.heap.size+1) a/\Vb w' (w.heap.size+1+1) b/\w'.cell? ⟨w.heap.size,4,none⟩=some (Vi imm))->w'.cell? ⟨w.heap.size+1+1,1,none⟩=some (.bool b.s):=fun w' h=>h.2.1.cells.2.1
    have y2:∀w',(Vb w' (w.heap.size+1) a/\Vb w' (w.heap.size+1+1) b/\w'.cell? ⟨w.heap.size,4,none⟩=some (Vi imm))->w'.cell? ⟨w.heap.size+1+1,2,none⟩=some (Vi b.m):=fun w' h=>h.2.1.cells.2.2.1
    have y3:∀w',(Vb w' (w.heap.size+1) a/\Vb w' (w.heap.size+1+1) b/\w'.cell? ⟨w.heap.size,4,none⟩=some (Vi imm))->w'.cell? ⟨w.heap.size+1+1,3,none⟩=some (Vi b.h):=fun w' h=>h.2.1.cells.2.2.2.1
    have y4:∀w',(Vb w' (w.heap.size+1) a/\Vb w' (w.heap.size+1+1) b/\w'.cell? ⟨w.heap.size,4,none⟩=some (Vi imm))->w'.cell? ⟨w.heap.size+1+1,4,none⟩=some (Vi b.lo):=fun w' h=>h.2.1.cells.2.2.2.2.1
    have y5:∀w',(Vb w' (w.heap.size+1) a/\Vb w' (w.heap.size+1+1) b/\w'.cell? ⟨w.heap.size,4,none⟩=some (Vi imm))->w'.cell? ⟨w.heap.size+1+1,5,none⟩=some (Vi b.hi):=fun w' h=>h.2.1.cells.2.2.2.2.2
    obtain⟨u3,hd,hb⟩:∃v,u2.drew=v/\Below u2.heap.size u2 v:=⟨_,rfl,(Below.refl _ _).drew⟩
    have P3:=hxy (P2.out.below hb);have hS3:=P3.out.S;refine wp_region_held_drew (S:=fun w'=>Vb w' (w.heap.size+1) a/\Vb w' (w.heap.size+1+1) b/\w'.cell? ⟨w.heap.size,4,none⟩=some (Vi imm)) (by kernel_rfl) (by rw[hd];exact hS3) (fun _=>?_);rw[hd];clear hd hb;refine AB 0 rfl ?_;refine AB 1 rfl ?_;refine AB 2 rfl ?_;refine AB 3 rfl ?_;refine AB 4 rfl ?_;refine AO 5 rfl (fun KK hK=>?_);go_simp;refine(KP imm _ g0 g1).mono ?_;rintro e w'⟨rfl,hw⟩;rw[hw];clear hw;go_wp2_with fail;refine hK.out _ _ P3.out.S (fun hS3'=>?_);clear hK KK;try go_frame
    try rw[hpw]
    refine AB 6 rfl ?_;refine AO 7 rfl (fun KK hK=>?_);go_simp;refine(KZ a.m pw _ (by omega) am1 (by omega) w1).mono ?_;rintro e w'⟨rfl,hw⟩;rw[hw];clear hw;go_wp2_with fail;refine hK.out _ _ P3.out.S (fun hS3'=>?_)
    clear hK KK
    try go_frame
    refine AO 8 rfl (fun KK hK=>?_)
    go_simp
    refine(Ap s (EI a.m pw) _).mono ?_
    rintro e u4⟨rfl,hb⟩
    have P4:=hxy (P3.out.below hb)
    clear hb
    simp only[VV.v]
    go_wp2_with fail
    refine hK.out _ _ P4.out.S (fun hS4=>?_)
    clear hK KK
    try go_frame
    obtain⟨⟨i0,i1,i2,i3,i4,i5⟩,⟨a0,a1,a2,a3,a4,a5⟩,⟨b0,b1,b2,b3,b4,b5⟩,⟨r0,r1,r2,r3,r4,r5⟩,rf,rl,af⟩:=P4.out.al
    refine AO 9 rfl (fun KK hK=>?_)
    go_simp
    change KK _ (Hr u4 (w.heap.size+1+1+1) (Az s (EI a.m pw)))
    obtain⟨z,hz,hbz,vz,va,vb,vi⟩:∃v,Hr u4 (w.heap.size+1+1+1) (Az s (EI a.m pw))=v/\Below w.heap.size w v/\Vb v (w.heap.size+1+1+1) (Az s (EI a.m pw))/\Vb v (w.heap.size+1) a/\Vb v (w.heap.size+1+1) b/\v.cell? ⟨w.heap.size,4,none⟩=some (Vi imm):=⟨_,rfl,Al P4.out.bel P4.out.oR _,Mi P4.out.R _,Hl P4.out.A _ (by omega),Hl P4.out.B _ (by omega),by rw[<-i4];exact Hw (by omega)⟩
    rw[hz]
    refine hK.out _ _ ⟨va,vb,vi⟩ (fun _=>?_)
    clear hK KK hz
    refine wpAnyH_done (by kernel_rfl) ?_ _
    clear i0 i1 i2 i3 i4 i5 a0 a1 a2 a3 a4 a5 b0 b1 b2 b3 b4 b5 r0 r1 r2 r3 r4 r5 rf rl af
    obtain⟨r0,r1,r2,r3,r4,r5⟩:=vz.cells
    have HB:=hxy hbz
    clear hbz vz va vb vi sa x0 x1 x2 x3 x4 x5 y0 y1 y2 y3 y4 y5
    go_wp2
    exact bodyPost_ret (v:=VV.v (Az s (EI a.m pw))) (by simp[results,Tryz.results164,go_sem,VV.v, *]) rfl ⟨congrArg (fun v=>Ending.returned (VV.v v)) (by simp only[Cb,if_neg HZ.out,if_pos HQ.out,<-hpw];simp),HB.out⟩
   ·have e2:decide (imm<=40)=false:=by simp;omega
    have HQ:Hid (¬(0<Ao a/\imm<=40)):=fun t=>q t.2
    go_wp2_with fail
    refine(Ap s (-1) _).mono ?_
    rintro e u3⟨rfl,hb⟩
    have P3:=hxy (P2.out.below hb)
    clear hb
    clear i0 i1 i2 i3 i4 i5 a0 a1 a2 a3 a4 a5 b0 b1 b2 b3 b4 b5 r0 r1 r2 r3 r4 r5 rf rl af
    simp only[VV.v]
    obtain⟨⟨i0,i1,i2,i3,i4,i5⟩,⟨a0,a1,a2,a3,a4,a5⟩,⟨b0,b1,b2,b3,b4,b5⟩,⟨r0,r1,r2,r3,r4,r5⟩,rf,rl,af⟩:=P3.out.al
    go_wp2
    exact bodyPost_ret (v:=VV.v (Az s (-1))) (by simp[results,Tryz.results164,go_sem,VV.v, *]) rfl ⟨congrArg (fun v=>Ending.returned (VV.v v)) (by simp only[Cb,if_neg HZ.out,if_neg HQ.out];simp),Al P3.out.bel P3.out.oR (Az s (-1))⟩
  ·have e1:decide (0<mx)=false:=by simp;omega
   have HQ:Hid (¬(0<Ao a/\imm<=40)):=fun t=>p (by rw[<-HX.out];exact t.1)
   go_wp2_with fail
   refine(Ap s (-1) _).mono ?_
   rintro e u3⟨rfl,hb⟩
   have P3:=hxy (P2.out.below hb)
   clear hb
   clear i0 i1 i2 i3 i4 i5 a0 a1 a2 a3 a4 a5 b0 b1 b2 b3 b4 b5 r0 r1 r2 r3 r4 r5 rf rl af
   simp only[VV.v]
   obtain⟨⟨i0,i1,i2,i3,i4,i5⟩,⟨a0,a1,a2,a3,a4,a5⟩,⟨b0,b1,b2,b3,b4,b5⟩,⟨r0,r1,r2,r3,r4,r5⟩,rf,rl,af⟩:=P3.out.al
   go_wp2
   exact bodyPost_ret (v:=VV.v (Az s (-1))) (by simp[results,Tryz.results164,go_sem,VV.v, *]) rfl ⟨congrArg (fun v=>Ending.returned (VV.v v)) (by simp only[Cb,if_neg HZ.out,if_neg HQ.out];simp),Al P3.out.bel P3.out.oR (Az s (-1))⟩
theorem Qs(d ra rb imm h:Int)(a b:VV)(s:Bool)(w:World)(ha:Bd a)(g0:0<=imm)(g1:imm<=63):
 Calls Tryz.prog 164 #[.agg #[Vi 13,Vi d,Vi ra,Vi rb,Vi imm,Vi h],.agg #[Vi a.k,.bool a.s,Vi a.m,Vi a.h,Vi a.lo,Vi a.hi],.agg #[Vi b.k,.bool b.s,Vi b.m,Vi b.h,Vi b.lo,Vi b.hi],.bool s] w fun e w'=>e=.returned (Cb 13 imm a b s).v/\Below w.heap.size w w':=by
 have am0:=ha.m0;have am1:=ha.m1;obtain⟨mx,hmx⟩:=Ae (Ao a);have HX:=hxy hmx;have hmm:0<=mx->mx=a.m:=by intro q;rw[<-hmx]at q⊢;unfold Ao at q⊢;split at q<;>simp_all
 clear hmx;go_enter Tryz.func164,Tryz.ntmps164;go_upto_region 1 with fail;obtain⟨u0,hu,pu⟩:=DJ w (op:=13) (d:=d) (ra:=ra) (rb:=rb) (imm:=imm) (h:=h) a b;rw[hu];have P0:=hxy pu;clear hu pu;obtain⟨⟨i0,i1,i2,i3,i4,i5⟩,⟨a0,a1,a2,a3,a4,a5⟩,⟨b0,b1,b2,b3,b4,b5⟩,⟨r0,r1,r2,r3,r4,r5⟩,rf,rl,af⟩:=P0.out.al;go_wp2_with fail;refine(Cc a.k a.s a.m a.h a.lo a.hi _).mono ?_;rintro e u1⟨rfl,hb⟩;have P1:=hxy (P0.out.below hb);clear hb;clear i0 i1 i2 i3 i4 i5 a0 a1 a2 a3 a4 a5 b0 b1 b2 b3 b4 b5 r0 r1 r2 r3 r4 r5 rf rl af;obtain⟨⟨i0,i1,i2,i3,i4,i5⟩,⟨a0,a1,a2,a3,a4,a5⟩,⟨b0,b1,b2,b3,b4,b5⟩,⟨r0,r1,r2,r3,r4,r5⟩,rf,rl,af⟩:=P1.out.al;rw[show Ao ⟨a.k,a.s,a.m,a.h,a.lo,a.hi⟩=mx from HX.out];by_cases p:0<=mx
 ·have ea:=hmm p
  subst ea;clear hmm;have HQ:Hid (0<=Ao a):=by rw[show(0<=Ao a)=(0<=a.m)from by rw[HX.out]];exact p
  obtain⟨pw,hpw,w0,w1⟩:=fZ g0 g1;obtain⟨y,hy,y0,y1⟩:=dF (m:=a.m) p am1 w0;have f3:IntKind.u64.wrap a.m=a.m:=by rw[IntKind.wrap_u64];omega
  have f4:¬pw=0:=by omega
  have f5:a.m.tdiv pw=y:=by rw[Int.tdiv_eq_ediv_of_nonneg p];exact hy
  have f6:IntKind.u64.wrap y=y:=by rw[IntKind.wrap_u64];omega
  have f7:IntKind.i64.wrap y=y:=by rw[IntKind.wrap_i64];omega
  have f8:wrap64 y=y:=by unfold wrap64;omega
  have HY:=hxy hy;clear hy;go_upto_region 36 with fail;clear i0 i1 i2 i3 i4 i5 a0 a1 a2 a3 a4 a5 b0 b1 b2 b3 b4 b5 r0 r1 r2 r3 r4 r5 rf rl af;have sa:∀w',(Vb w' (w.heap.size+1) a/\Vb w' (w.heap.size+1+1) b/\w'.cell? ⟨w.heap.size,4,none⟩=some (Vi imm))->w'.cell? ⟨w.heap.size,4,none⟩=some (Vi imm):=fun w' h=>h.2.2
  have x0:∀w',(Vb w' (w.heap.size+1) a/\Vb w' (w.heap.size+1+1) b/\w'.cell? ⟨w.heap.size,4,none⟩=some (Vi imm))->w'.cell? ⟨w.heap.size+1,0,none⟩=some (Vi a.k):=fun w' h=>h.1.cells.1
  have x1:∀w',(Vb w' (w.heap.size+1) a/\Vb w' (w.heap.size+1+1) b/\w'.cell? ⟨w.heap.size,4,none⟩=some (Vi imm))->w'.cell? ⟨w.heap.size+1,1,none⟩=some (.bool a.s):=fun w' h=>h.1.cells.2.1
  have x2:∀w',(Vb w' (w.heap.size+1) a/\Vb w' (w.heap.size+1+1) b/\w'.cell? ⟨w.heap.size,4,none⟩=some (Vi imm))->w'.cell? ⟨w.heap.size+1,2,none⟩=some (Vi a.m):=fun w' h=>h.1.cells.2.2.1
  have x3:∀w',(Vb w' (w.heap.size+1) a/\Vb w' (w.heap.size+1+1) b/\w'.cell? ⟨w.heap.size,4,none⟩=some (Vi imm))->w'.cell? ⟨w.heap.size+1,3,none⟩=some (Vi a.h):=fun w' h=>h.1.cells.2.2.2.1
  have x4:∀w',(Vb w' (w.heap.size+1) a/\Vb w' (w.heap.size+1+1) b/\w'.cell? ⟨w.heap.size,4,none⟩=some (Vi imm))->w'.cell? ⟨w.heap.size+1,4,none⟩=some (Vi a.lo):=fun w' h=>h.1.cells.2.2.2.2.1
  have x5:∀w',(Vb w' (w.heap.size+1) a/\Vb w' (w.heap.size+1+1) b/\w'.cell? ⟨w.heap.size,4,none⟩=some (Vi imm))->w'.cell? ⟨w.heap.size+1,5,none⟩=some (Vi a.hi):=fun w' h=>h.1.cells.2.2.2.2.2
  have y0:∀w',(Vb w' (w.heap.size+1) a/\Vb w' (w.heap.size+1+1) b/\w'.cell? ⟨w.heap.size,4,none⟩=some (Vi imm))->w'.cell? ⟨w.heap.size+1+1,0,none⟩=some (Vi b.k):=fun w' h=>h.2.1.cells.1
  have y1:∀w',(Vb w' (w.heap.size+1) a/\Vb w' (w.heap.size+1+1) b/\w'.cell? ⟨w.heap.size,4,none⟩=some (Vi imm))->w'.cell? ⟨w.heap.size+1+1,1,none⟩=some (.bool b.s):=fun w' h=>h.2.1.cells.2.1
  have y2:∀w',(Vb w' (w.heap.size+1) a/\Vb w' (w.heap.size+1+1) b/\w'.cell? ⟨w.heap.size,4,none⟩=some (Vi imm))->w'.cell? ⟨w.heap.size+1+1,2,none⟩=some (Vi b.m):=fun w' h=>h.2.1.cells.2.2.1
  have y3:∀w',(Vb w' (w.heap.size+1) a/\Vb w' (w.heap.size+1+1) b/\w'.cell? ⟨w.heap.size,4,none⟩=some (Vi imm))->w'.cell? ⟨w.heap.size+1+1,3,none⟩=some (Vi b.h):=fun w' h=>h.2.1.cells.2.2.2.1
  have y4:∀w',(Vb w' (w.heap.size+1) a/\Vb w' (w.heap.size+1+1) b/\w'.cell? ⟨w.heap.size,4,none⟩=some (Vi imm))->w'.cell? ⟨w.heap.size+1+1,4,none⟩=some (Vi b.lo):=fun w' h=>h.2.1.cells.2.2.2.2.1
  have y5:∀w',(Vb w' (w.heap.size+1) a/\Vb w' (w.heap.size+1+1) b/\w'.cell? ⟨w.heap.size,4,none⟩=some (Vi imm))->w'.cell? ⟨w.heap.size+1+1,5,none⟩=some (Vi b.hi):=fun w' h=>h.2.1.cells.2.2.2.2.2
  obtain⟨u2,hd,hb⟩:∃v,u1.drew=v/\Below u1.heap.size u1 v:=⟨_,rfl,(Below.refl _ _).drew⟩
  have P2:=hxy (P1.out.below hb);have hS2:=P2.out.S;refine wp_region_held_drew (S:=fun w'=>Vb w' (w.heap.size+1) a/\Vb w' (w.heap.size+1+1) b/\w'.cell? ⟨w.heap.size,4,none⟩=some (Vi imm)) (by kernel_rfl) (by rw[hd];exact hS2) (fun _=>?_);rw[hd];clear hd hb;refine AB 0 rfl ?_;refine AB 1 rfl ?_;refine AB 2 rfl ?_;refine AB 3 rfl ?_;refine AB 4 rfl ?_;refine AB 5 rfl ?_;refine AO 6 rfl (fun KK hK=>?_);go_simp;refine(KP imm _ g0 g1).mono ?_;rintro e w'⟨rfl,hw⟩;rw[hw];clear hw;go_wp2_with fail;refine hK.out _ _ P2.out.S (fun hS2'=>?_);clear hK KK;try go_frame
  try rw[hpw]
  refine AB 7 rfl ?_;refine AB 8 rfl ?_
  refine AO 9 rfl (fun KK hK=>?_)
  go_simp
  refine(Ap s y _).mono ?_
  rintro e u3⟨rfl,hb⟩
  have P3:=hxy (P2.out.below hb)
  clear hb
  simp only[VV.v]
  go_wp2_with fail
  refine hK.out _ _ P3.out.S (fun hS3=>?_)
  clear hK KK
  try go_frame
  obtain⟨⟨i0,i1,i2,i3,i4,i5⟩,⟨a0,a1,a2,a3,a4,a5⟩,⟨b0,b1,b2,b3,b4,b5⟩,⟨r0,r1,r2,r3,r4,r5⟩,rf,rl,af⟩:=P3.out.al
  refine AO 10 rfl (fun KK hK=>?_)
  go_simp
  change KK _ (Hr u3 (w.heap.size+1+1+1) (Az s y))
  obtain⟨z,hz,hbz,vz,va,vb,vi⟩:∃v,Hr u3 (w.heap.size+1+1+1) (Az s y)=v/\Below w.heap.size w v/\Vb v (w.heap.size+1+1+1) (Az s y)/\Vb v (w.heap.size+1) a/\Vb v (w.heap.size+1+1) b/\v.cell? ⟨w.heap.size,4,none⟩=some (Vi imm):=⟨_,rfl,Al P3.out.bel P3.out.oR _,Mi P3.out.R _,Hl P3.out.A _ (by omega),Hl P3.out.B _ (by omega),by rw[<-i4];exact Hw (by omega)⟩
  rw[hz]
  refine hK.out _ _ ⟨va,vb,vi⟩ (fun _=>?_)
  clear hK KK hz
  refine wpAnyH_done (by kernel_rfl) ?_ _
  clear i0 i1 i2 i3 i4 i5 a0 a1 a2 a3 a4 a5 b0 b1 b2 b3 b4 b5 r0 r1 r2 r3 r4 r5 rf rl af
  obtain⟨r0,r1,r2,r3,r4,r5⟩:=vz.cells
  have HB:=hxy hbz
  clear hbz vz va vb vi sa x0 x1 x2 x3 x4 x5 y0 y1 y2 y3 y4 y5
  go_wp2
  exact bodyPost_ret (v:=VV.v (Az s y)) (by simp[results,Tryz.results164,go_sem,VV.v, *]) rfl ⟨congrArg (fun v=>Ending.returned (VV.v v)) (by rw[<-HY.out,<-hpw];simp only[Cb,if_pos HQ.out];simp),HB.out⟩
 ·have HQ:Hid (¬0<=Ao a):=fun t=>p (by rw[<-HX.out];exact t)
  clear hmm
  by_cases q:24<=imm
  ·have HE:=hxy q
   obtain⟨pw,hpw,w0,w1⟩:=ah (i:=64-imm) (by omega) (by omega)
   have f1:IntKind.i64.wrap pw=pw:=by rw[IntKind.wrap_i64];omega
   have f2:wrap64 pw=pw:=by unfold wrap64;omega
   go_wp2_with fail
   refine(KP (64-imm) _ (by omega) (by omega)).mono ?_
   rintro e w'⟨rfl,hw⟩
   rw[hw]
   clear hw
   try rw[hpw]
   go_wp2_with fail
   refine(Ap s (pw-1) _).mono ?_
   rintro e u2⟨rfl,hb⟩
   have P2:=hxy (P1.out.below hb)
   clear hb
   clear i0 i1 i2 i3 i4 i5 a0 a1 a2 a3 a4 a5 b0 b1 b2 b3 b4 b5 r0 r1 r2 r3 r4 r5 rf rl af
   simp only[VV.v]
   obtain⟨⟨i0,i1,i2,i3,i4,i5⟩,⟨a0,a1,a2,a3,a4,a5⟩,⟨b0,b1,b2,b3,b4,b5⟩,⟨r0,r1,r2,r3,r4,r5⟩,rf,rl,af⟩:=P2.out.al
   go_wp2
   exact bodyPost_ret (v:=VV.v (Az s (pw-1))) (by simp[results,Tryz.results164,go_sem,VV.v, *]) rfl ⟨congrArg (fun v=>Ending.returned (VV.v v)) (by rw[<-hpw];simp only[Cb,if_neg (show¬0<=Ao a by have:=HQ.out;omega),if_pos HE.out];simp),Al P2.out.bel P2.out.oR (Az s (pw-1))⟩
  ·have HE:=hxy q
   go_wp2_with fail
   refine(Ap s (-1) _).mono ?_
   rintro e u2⟨rfl,hb⟩
   have P2:=hxy (P1.out.below hb)
   clear hb
   clear i0 i1 i2 i3 i4 i5 a0 a1 a2 a3 a4 a5 b0 b1 b2 b3 b4 b5 r0 r1 r2 r3 r4 r5 rf rl af
   simp only[VV.v]
   obtain⟨⟨i0,i1,i2,i3,i4,i5⟩,⟨a0,a1,a2,a3,a4,a5⟩,⟨b0,b1,b2,b3,b4,b5⟩,⟨r0,r1,r2,r3,r4,r5⟩,rf,rl,af⟩:=P2.out.al
   go_wp2
   exact bodyPost_ret (v:=VV.v (Az s (-1))) (by simp[results,Tryz.results164,go_sem,VV.v, *]) rfl ⟨congrArg (fun v=>Ending.returned (VV.v v)) (by simp only[Cb,if_neg (show¬0<=Ao a by have:=HQ.out;omega),if_neg (show¬24<=imm by have:=HE.out;omega)];simp),Al P2.out.bel P2.out.oR (Az s (-1))⟩
theorem QJ(op d ra rb imm h:Int)(a b:VV)(s:Bool)(w:World)(o1:1<=op)(o16:op<=16)(ha:Bd a)(hb:Bd b)(i0: -1000000<=imm)(i1:imm<=1000000)(i2:op=12∨op=13->0<=imm/\imm<=63):
 Calls Tryz.prog 164 #[.agg #[Vi op,Vi d,Vi ra,Vi rb,Vi imm,Vi h],.agg #[Vi a.k,.bool a.s,Vi a.m,Vi a.h,Vi a.lo,Vi a.hi],.agg #[Vi b.k,.bool b.s,Vi b.m,Vi b.h,Vi b.lo,Vi b.hi],.bool s] w fun e w'=>e=.returned (Cb op imm a b s).v/\Below w.heap.size w w':=by
 have hop:op=1∨op=2∨op=3∨op=4∨op=5∨op=6∨op=7∨op=8∨op=9∨op=10∨op=11∨op=12∨op=13∨op=14∨op=15∨op=16:=by omega
 rcases hop with rfl|rfl|rfl|rfl|rfl|rfl|rfl|rfl|rfl|rfl|rfl|rfl|rfl|rfl|rfl|rfl
 ·exact UL d ra rb imm h a b s w
 ·exact Uk d ra rb imm h a b s w
 ·exact Ug d ra rb imm h a b s w ha hb
 ·exact TS d ra rb imm h a b s w
 ·exact UC d ra rb imm h a b s w ha hb
 ·exact UA d ra rb imm h a b s w
 ·exact Tj d ra rb imm h a b s w ha hb
 ·exact Tp d ra rb imm h a b s w ha hb
 ·exact Ua d ra rb imm h a b s w
 ·exact Qx d ra rb imm h a b s w ha i0 i1
 ·exact SX d ra rb imm h a b s w
 ·exact SE d ra rb imm h a b s w ha (i2 (by omega)).1 (i2 (by omega)).2
 ·exact Qs d ra rb imm h a b s w ha (i2 (by omega)).1 (i2 (by omega)).2
 ·exact SY d ra rb imm h a b s w ha hb
 ·exact Qy d ra rb imm h a b s w ha hb
 ·exact Rn d ra rb imm h a b s w
end Go.Proofs.YtfpeecaaleijcaaGreatDoor
