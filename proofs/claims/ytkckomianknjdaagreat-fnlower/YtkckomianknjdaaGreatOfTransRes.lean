import Derived.Test.YtkckomianknjdaaGreatOfCoreF
import Derived.Test.YtkckomianknjdaaGreatOfTransAcc
import Derived.Test.YtkckomianknjdaaGreatOfTransResD
set_option maxHeartbeats 40000000
set_option maxRecDepth 20000
namespace Go.Proofs.YtkckomianknjdaaGreat
open Go.RowKit
theorem Qg(d ra rb j h:Int)(a b:VV)(s:Bool)(w:World)(ha:Bd a)(g0: -1000000<=j)(g1:j<=1000000):
 Calls Tryz.prog 156 #[.agg #[Vi 10,Vi d,Vi ra,Vi rb,Vi j,Vi h],.agg #[Vi a.k,.bool a.s,Vi a.m,Vi a.h,Vi a.lo,Vi a.hi],.agg #[Vi b.k,.bool b.s,Vi b.m,Vi b.h,Vi b.lo,Vi b.hi],.bool s] w fun e w'=>e=.returned (Cr 10 j a b s).v/\Below w.heap.size w w':=by
 have ad:=ha.l0;have ae:=ha.l1;have ab:=ha.h0;have ac:=ha.h1;have ah:=ha.m1;have ag:=ha.m0;go_enter Tryz.func156,Tryz.ntmps156;go_upto_region 1 with fail;obtain⟨u0,hu,pu⟩:=Dq w (op:=10) (d:=d) (ra:=ra) (rb:=rb) (imm:=j) (h:=h) a b;rw[hu];have P0:=hxy pu;clear hu pu;obtain⟨⟨o,J,K,L,M,N⟩,⟨p,r,u,x,y,z⟩,⟨B,C,D,E,F,I⟩,⟨O,Q,R,S,U,X⟩,Y,Z,A⟩:=P0.al;have ai:=o;by_cases c:a.k=1/\ -1099511627776<=a.lo+j/\a.hi+j<=1099511627776
 ·obtain⟨c1,c2,c3⟩:=c
  have e1:(a.k==1)=true:=by simp[c1]
  have e2:decide (-1099511627776<=a.lo+j)=true:=by simp[c2]
  have e3:decide (a.hi+j<=1099511627776)=true:=by simp[c3]
  have HC:Hid (a.k=1/\ -1099511627776<=a.lo+j/\a.hi+j<=1099511627776):=⟨c1,c2,c3⟩
  go_wp2;exact bodyPost_ret (v:=VV.v ⟨1,a.s,a.m,a.h,a.lo+j,a.hi+j⟩) (by simp[results,Tryz.results156,go_sem,VV.v, *]) rfl ⟨congrArg (fun v=>Ending.returned (VV.v v)) (by simp only[Cr,if_pos HC.out];simp[HC.1]),by(iterate 6 refine Below.setCell ?_ (show w.heap.size<=w.heap.size+1+1+1 by omega) _);(iterate 2 refine Below.setCell ?_ (show w.heap.size<=w.heap.size+1 by omega) _);exact P0.bel⟩
 ·have HC:=hxy c
  by_cases c1:a.k=1
  ·have e1:(a.k==1)=true:=by simp[c1]
   by_cases c2: -1099511627776<=a.lo+j
   ·have c3:¬a.hi+j<=1099511627776:=fun q=>c ⟨c1,c2,q⟩
    have e2:decide (-1099511627776<=a.lo+j)=true:=by simp[c2]
    have e3:decide (a.hi+j<=1099511627776)=false:=by simp;omega
    clear c c1;go_wp2_with fail;refine(Cz a.k a.s a.m a.h a.lo a.hi _).mono ?_;rintro e u1⟨rfl,n⟩;have P1:=hxy (P0.below n);clear n;clear o J K L M N p r u x y z B C D E F I O Q R S U X Y Z A;obtain⟨⟨o,J,K,L,M,N⟩,⟨p,r,u,x,y,z⟩,⟨B,C,D,E,F,I⟩,⟨O,Q,R,S,U,X⟩,Y,Z,A⟩:=P1.al;obtain⟨mx,aa⟩:=BG (Au a);have HX:=hxy aa;rw[show Au ⟨a.k,a.s,a.m,a.h,a.lo,a.hi⟩=mx from aa];clear aa;clear ad ae ab ac;by_cases m0:0<=mx
    ·by_cases j0:0<=j
     ·skip
      have HQ:Hid (0<=Au a/\0<=j):=⟨by rw[HX.out];exact m0,j0⟩
      have e4:decide (0<=mx)=true:=by simp[m0]
      have e5:decide (0<=j)=true:=by simp[j0]
      go_wp2_with fail;refine(Av s (a.m+j) _).mono ?_;rintro e u2⟨rfl,n⟩;have l:=hxy (P1.below n);clear n;clear o J K L M N p r u x y z B C D E F I O Q R S U X Y Z A;simp only[VV.v];obtain⟨⟨o,J,K,L,M,N⟩,⟨p,r,u,x,y,z⟩,⟨B,C,D,E,F,I⟩,⟨O,Q,R,S,U,X⟩,Y,Z,A⟩:=l.al;go_wp2;exact bodyPost_ret (v:=VV.v (BH s (a.m+j))) (by simp[results,Tryz.results156,go_sem,VV.v, *]) rfl ⟨congrArg (fun v=>Ending.returned (VV.v v)) (by simp only[Cr,if_neg HC.out,if_pos HQ.out];simp),Ap l.bel l.oR (BH s (a.m+j))⟩
     ·have HQ:Hid (¬(0<=Au a/\0<=j)):=fun q=>j0 q.2
      have e4:decide (0<=mx)=true:=by simp[m0]
      have e5:decide (0<=j)=false:=by simp;omega
      go_wp2_with fail;refine(Av s (-1) _).mono ?_;rintro e u2⟨rfl,n⟩;have l:=hxy (P1.below n);clear n;clear o J K L M N p r u x y z B C D E F I O Q R S U X Y Z A;simp only[VV.v];obtain⟨⟨o,J,K,L,M,N⟩,⟨p,r,u,x,y,z⟩,⟨B,C,D,E,F,I⟩,⟨O,Q,R,S,U,X⟩,Y,Z,A⟩:=l.al;go_wp2;exact bodyPost_ret (v:=VV.v (BH s (-1))) (by simp[results,Tryz.results156,go_sem,VV.v, *]) rfl ⟨congrArg (fun v=>Ending.returned (VV.v v)) (by simp only[Cr,if_neg HC.out,if_neg HQ.out];simp),Ap l.bel l.oR (BH s (-1))⟩
    ·have HQ:Hid (¬(0<=Au a/\0<=j)):=fun q=>m0 (by rw[<-HX.out];exact q.1)
     have e4:decide (0<=mx)=false:=by simp;omega
     go_wp2_with fail;refine(Av s (-1) _).mono ?_;rintro e u2⟨rfl,n⟩;have l:=hxy (P1.below n);clear n;clear o J K L M N p r u x y z B C D E F I O Q R S U X Y Z A;simp only[VV.v];obtain⟨⟨o,J,K,L,M,N⟩,⟨p,r,u,x,y,z⟩,⟨B,C,D,E,F,I⟩,⟨O,Q,R,S,U,X⟩,Y,Z,A⟩:=l.al;go_wp2;exact bodyPost_ret (v:=VV.v (BH s (-1))) (by simp[results,Tryz.results156,go_sem,VV.v, *]) rfl ⟨congrArg (fun v=>Ending.returned (VV.v v)) (by simp only[Cr,if_neg HC.out,if_neg HQ.out];simp),Ap l.bel l.oR (BH s (-1))⟩
   ·have e2:decide (-1099511627776<=a.lo+j)=false:=by simp;omega
    clear c c1;go_wp2_with fail;refine(Cz a.k a.s a.m a.h a.lo a.hi _).mono ?_;rintro e u1⟨rfl,n⟩;have P1:=hxy (P0.below n);clear n;clear o J K L M N p r u x y z B C D E F I O Q R S U X Y Z A;obtain⟨⟨o,J,K,L,M,N⟩,⟨p,r,u,x,y,z⟩,⟨B,C,D,E,F,I⟩,⟨O,Q,R,S,U,X⟩,Y,Z,A⟩:=P1.al;obtain⟨mx,aa⟩:=BG (Au a);have HX:=hxy aa;rw[show Au ⟨a.k,a.s,a.m,a.h,a.lo,a.hi⟩=mx from aa];clear aa;clear ad ae ab ac;by_cases m0:0<=mx
    ·by_cases j0:0<=j
     ·skip
      have HQ:Hid (0<=Au a/\0<=j):=⟨by rw[HX.out];exact m0,j0⟩
      have e4:decide (0<=mx)=true:=by simp[m0]
      have e5:decide (0<=j)=true:=by simp[j0]
      go_wp2_with fail;refine(Av s (a.m+j) _).mono ?_;rintro e u2⟨rfl,n⟩;have l:=hxy (P1.below n);clear n;clear o J K L M N p r u x y z B C D E F I O Q R S U X Y Z A;simp only[VV.v];obtain⟨⟨o,J,K,L,M,N⟩,⟨p,r,u,x,y,z⟩,⟨B,C,D,E,F,I⟩,⟨O,Q,R,S,U,X⟩,Y,Z,A⟩:=l.al;go_wp2;exact bodyPost_ret (v:=VV.v (BH s (a.m+j))) (by simp[results,Tryz.results156,go_sem,VV.v, *]) rfl ⟨congrArg (fun v=>Ending.returned (VV.v v)) (by simp only[Cr,if_neg HC.out,if_pos HQ.out];simp),Ap l.bel l.oR (BH s (a.m+j))⟩
     ·have HQ:Hid (¬(0<=Au a/\0<=j)):=fun q=>j0 q.2
      have e4:decide (0<=mx)=true:=by simp[m0]
      have e5:decide (0<=j)=false:=by simp;omega
      go_wp2_with fail;refine(Av s (-1) _).mono ?_;rintro e u2⟨rfl,n⟩;have l:=hxy (P1.below n);clear n;clear o J K L M N p r u x y z B C D E F I O Q R S U X Y Z A;simp only[VV.v];obtain⟨⟨o,J,K,L,M,N⟩,⟨p,r,u,x,y,z⟩,⟨B,C,D,E,F,I⟩,⟨O,Q,R,S,U,X⟩,Y,Z,A⟩:=l.al;go_wp2;exact bodyPost_ret (v:=VV.v (BH s (-1))) (by simp[results,Tryz.results156,go_sem,VV.v, *]) rfl ⟨congrArg (fun v=>Ending.returned (VV.v v)) (by simp only[Cr,if_neg HC.out,if_neg HQ.out];simp),Ap l.bel l.oR (BH s (-1))⟩
    ·have HQ:Hid (¬(0<=Au a/\0<=j)):=fun q=>m0 (by rw[<-HX.out];exact q.1)
     have e4:decide (0<=mx)=false:=by simp;omega
     go_wp2_with fail;refine(Av s (-1) _).mono ?_;rintro e u2⟨rfl,n⟩;have l:=hxy (P1.below n);clear n;clear o J K L M N p r u x y z B C D E F I O Q R S U X Y Z A;simp only[VV.v];obtain⟨⟨o,J,K,L,M,N⟩,⟨p,r,u,x,y,z⟩,⟨B,C,D,E,F,I⟩,⟨O,Q,R,S,U,X⟩,Y,Z,A⟩:=l.al;go_wp2;exact bodyPost_ret (v:=VV.v (BH s (-1))) (by simp[results,Tryz.results156,go_sem,VV.v, *]) rfl ⟨congrArg (fun v=>Ending.returned (VV.v v)) (by simp only[Cr,if_neg HC.out,if_neg HQ.out];simp),Ap l.bel l.oR (BH s (-1))⟩
  ·have e1:(a.k==1)=false:=by simp[c1]
   clear c;go_wp2_with fail;refine(Cz a.k a.s a.m a.h a.lo a.hi _).mono ?_;rintro e u1⟨rfl,n⟩;have P1:=hxy (P0.below n);clear n;clear o J K L M N p r u x y z B C D E F I O Q R S U X Y Z A;obtain⟨⟨o,J,K,L,M,N⟩,⟨p,r,u,x,y,z⟩,⟨B,C,D,E,F,I⟩,⟨O,Q,R,S,U,X⟩,Y,Z,A⟩:=P1.al;obtain⟨mx,aa⟩:=BG (Au a);have HX:=hxy aa;rw[show Au ⟨a.k,a.s,a.m,a.h,a.lo,a.hi⟩=mx from aa];clear aa;clear ad ae ab ac;by_cases m0:0<=mx
   ·by_cases j0:0<=j
    ·skip
     have HQ:Hid (0<=Au a/\0<=j):=⟨by rw[HX.out];exact m0,j0⟩
     have e4:decide (0<=mx)=true:=by simp[m0]
     have e5:decide (0<=j)=true:=by simp[j0]
     go_wp2_with fail;refine(Av s (a.m+j) _).mono ?_;rintro e u2⟨rfl,n⟩;have l:=hxy (P1.below n);clear n;clear o J K L M N p r u x y z B C D E F I O Q R S U X Y Z A;simp only[VV.v];obtain⟨⟨o,J,K,L,M,N⟩,⟨p,r,u,x,y,z⟩,⟨B,C,D,E,F,I⟩,⟨O,Q,R,S,U,X⟩,Y,Z,A⟩:=l.al;go_wp2;exact bodyPost_ret (v:=VV.v (BH s (a.m+j))) (by simp[results,Tryz.results156,go_sem,VV.v, *]) rfl ⟨congrArg (fun v=>Ending.returned (VV.v v)) (by simp only[Cr,if_neg HC.out,if_pos HQ.out];simp),Ap l.bel l.oR (BH s (a.m+j))⟩
    ·have HQ:Hid (¬(0<=Au a/\0<=j)):=fun q=>j0 q.2
     have e4:decide (0<=mx)=true:=by simp[m0]
     have e5:decide (0<=j)=false:=by simp;omega
     go_wp2_with fail;refine(Av s (-1) _).mono ?_;rintro e u2⟨rfl,n⟩;have l:=hxy (P1.below n);clear n;clear o J K L M N p r u x y z B C D E F I O Q R S U X Y Z A;simp only[VV.v];obtain⟨⟨o,J,K,L,M,N⟩,⟨p,r,u,x,y,z⟩,⟨B,C,D,E,F,I⟩,⟨O,Q,R,S,U,X⟩,Y,Z,A⟩:=l.al;go_wp2;exact bodyPost_ret (v:=VV.v (BH s (-1))) (by simp[results,Tryz.results156,go_sem,VV.v, *]) rfl ⟨congrArg (fun v=>Ending.returned (VV.v v)) (by simp only[Cr,if_neg HC.out,if_neg HQ.out];simp),Ap l.bel l.oR (BH s (-1))⟩
   ·have HQ:Hid (¬(0<=Au a/\0<=j)):=fun q=>m0 (by rw[<-HX.out];exact q.1)
    have e4:decide (0<=mx)=false:=by simp;omega
    go_wp2_with fail;refine(Av s (-1) _).mono ?_;rintro e u2⟨rfl,n⟩;have l:=hxy (P1.below n);clear n;clear o J K L M N p r u x y z B C D E F I O Q R S U X Y Z A;simp only[VV.v];obtain⟨⟨o,J,K,L,M,N⟩,⟨p,r,u,x,y,z⟩,⟨B,C,D,E,F,I⟩,⟨O,Q,R,S,U,X⟩,Y,Z,A⟩:=l.al;go_wp2;exact bodyPost_ret (v:=VV.v (BH s (-1))) (by simp[results,Tryz.results156,go_sem,VV.v, *]) rfl ⟨congrArg (fun v=>Ending.returned (VV.v v)) (by simp only[Cr,if_neg HC.out,if_neg HQ.out];simp),Ap l.bel l.oR (BH s (-1))⟩
theorem Qx(d ra rb j h:Int)(a b:VV)(s:Bool)(w:World)(ha:Bd a)(g0:0<=j)(g1:j<=63):
 Calls Tryz.prog 156 #[.agg #[Vi 12,Vi d,Vi ra,Vi rb,Vi j,Vi h],.agg #[Vi a.k,.bool a.s,Vi a.m,Vi a.h,Vi a.lo,Vi a.hi],.agg #[Vi b.k,.bool b.s,Vi b.m,Vi b.h,Vi b.lo,Vi b.hi],.bool s] w fun e c=>e=.returned (Cr 12 j a b s).v/\Below w.heap.size w c:=by
 have ai:=ha.m0;have ag:=ha.m1;obtain⟨mx,ab⟩:=BG (Au a);have HX:=hxy ab;have aa:0<=mx->mx=a.m:=by intro q;rw[<-ab]at q⊢;unfold Au at q⊢;split at q<;>simp_all
 clear ab;go_enter Tryz.func156,Tryz.ntmps156;go_upto_region 1 with fail;obtain⟨u0,hu,pu⟩:=Dq w (op:=12) (d:=d) (ra:=ra) (rb:=rb) (imm:=j) (h:=h) a b;rw[hu];have P0:=hxy pu;clear hu pu;obtain⟨⟨Y,Z,i2,i3,n,i5⟩,⟨D,E,F,I,J,K⟩,⟨M,N,O,Q,U,X⟩,⟨o,r,u,x,y,C⟩,rf,rl,L⟩:=P0.al;go_wp2_with fail;refine(Cz a.k a.s a.m a.h a.lo a.hi _).mono ?_;rintro e u1⟨rfl,l⟩;have P1:=hxy (P0.below l);clear l;clear Y Z i2 i3 n i5 D E F I J K M N O Q U X o r u x y C rf rl L;obtain⟨⟨Y,Z,i2,i3,n,i5⟩,⟨D,E,F,I,J,K⟩,⟨M,N,O,Q,U,X⟩,⟨o,r,u,x,y,C⟩,rf,rl,L⟩:=P1.al;rw[show Au ⟨a.k,a.s,a.m,a.h,a.lo,a.hi⟩=mx from HX.out];by_cases z:mx=0
 ·subst z
  clear aa;go_wp2_with fail;refine(Av s (0) _).mono ?_;rintro e u2⟨rfl,l⟩;have P2:=hxy (P1.below l);clear l;clear Y Z i2 i3 n i5 D E F I J K M N O Q U X o r u x y C rf rl L;simp only[VV.v];obtain⟨⟨Y,Z,i2,i3,n,i5⟩,⟨D,E,F,I,J,K⟩,⟨M,N,O,Q,U,X⟩,⟨o,r,u,x,y,C⟩,rf,rl,L⟩:=P2.al;go_wp2;exact bodyPost_ret (v:=VV.v (BH s (0))) (by simp[results,Tryz.results156,go_sem,VV.v, *]) rfl ⟨congrArg (fun v=>Ending.returned (VV.v v)) (by simp only[Cr,if_pos HX.out];simp),Ap P2.bel P2.oR (BH s (0))⟩
 ·have e0:(mx==0)=false:=by simp[z]
  have HZ:Hid (¬Au a=0):=by rw[show(Au a=0)=(mx=0)from by rw[HX.out]];exact z
  go_wp2_with fail;refine(Cz a.k a.s a.m a.h a.lo a.hi _).mono ?_;rintro e u2⟨rfl,l⟩;have P2:=hxy (P1.below l);clear l;clear Y Z i2 i3 n i5 D E F I J K M N O Q U X o r u x y C rf rl L;obtain⟨⟨Y,Z,i2,i3,n,i5⟩,⟨D,E,F,I,J,K⟩,⟨M,N,O,Q,U,X⟩,⟨o,r,u,x,y,C⟩,rf,rl,L⟩:=P2.al;rw[show Au ⟨a.k,a.s,a.m,a.h,a.lo,a.hi⟩=mx from HX.out];by_cases p:0<mx
  ·have ea:mx=a.m:=aa AB
   subst ea;clear aa e0 z;have e1:decide (0<a.m)=true:=by simp[p]
   by_cases q:j<=40
   ·have e2:decide (j<=40)=true:=by simp[q]
    have HQ:Hid (0<Au a/\j<=40):=⟨by rw[HX.out];exact p,q⟩
    obtain⟨pw,ae,w0,w1⟩:=Zw g0 q;have f1:IntKind.i64.wrap pw=pw:=by rw[IntKind.wrap_i64];omega
    have f2:wrap64 pw=pw:=by unfold wrap64;omega
    go_upto_region 33 with fail;clear Y Z i2 i3 n i5 D E F I J K M N O Q U X o r u x y C rf rl L;have sa:∀c,(Vb c (w.heap.size+1) a/\Vb c (w.heap.size+1+1) b/\c.cell? ⟨w.heap.size,4,none⟩=some (Vi j))->c.cell? ⟨w.heap.size,4,none⟩=some (Vi j):=fun c h=>h.2.2
    have x0:∀c,(Vb c (w.heap.size+1) a/\Vb c (w.heap.size+1+1) b/\c.cell? ⟨w.heap.size,4,none⟩=some (Vi j))->c.cell? ⟨w.heap.size+1,0,none⟩=some (Vi a.k):=fun c h=>h.1.cells.1
    have x1:∀c,(Vb c (w.heap.size+1) a/\Vb c (w.heap.size+1+1) b/\c.cell? ⟨w.heap.size,4,none⟩=some (Vi j))->c.cell? ⟨w.heap.size+1,1,none⟩=some (.bool a.s):=fun c h=>h.1.cells.2.1
    have x2:∀c,(Vb c (w.heap.size+1) a/\Vb c (w.heap.size+1+1) b/\c.cell? ⟨w.heap.size,4,none⟩=some (Vi j))->c.cell? ⟨w.heap.size+1,2,none⟩=some (Vi a.m):=fun c h=>h.1.cells.2.2.1
    have x3:∀c,(Vb c (w.heap.size+1) a/\Vb c (w.heap.size+1+1) b/\c.cell? ⟨w.heap.size,4,none⟩=some (Vi j))->c.cell? ⟨w.heap.size+1,3,none⟩=some (Vi a.h):=fun c h=>h.1.cells.2.2.2.1
    have x4:∀c,(Vb c (w.heap.size+1) a/\Vb c (w.heap.size+1+1) b/\c.cell? ⟨w.heap.size,4,none⟩=some (Vi j))->c.cell? ⟨w.heap.size+1,4,none⟩=some (Vi a.lo):=fun c h=>h.1.cells.2.2.2.2.1
    have x5:∀c,(Vb c (w.heap.size+1) a/\Vb c (w.heap.size+1+1) b/\c.cell? ⟨w.heap.size,4,none⟩=some (Vi j))->c.cell? ⟨w.heap.size+1,5,none⟩=some (Vi a.hi):=fun c h=>h.1.cells.2.2.2.2.2
    have y0:∀c,(Vb c (w.heap.size+1) a/\Vb c (w.heap.size+1+1) b/\c.cell? ⟨w.heap.size,4,none⟩=some (Vi j))->c.cell? ⟨w.heap.size+1+1,0,none⟩=some (Vi b.k):=fun c h=>h.2.1.cells.1
    have y1:∀c,(Vb c (w.heap.size+1) a/\Vb c (w.heap.size+1+1) b/\c.cell? ⟨w.heap.size,4,none⟩=some (Vi j))->c.cell? ⟨w.heap.size+1+1,1,none⟩=some (.bool b.s):=fun c h=>h.2.1.cells.2.1
    have y2:∀c,(Vb c (w.heap.size+1) a/\Vb c (w.heap.size+1+1) b/\c.cell? ⟨w.heap.size,4,none⟩=some (Vi j))->c.cell? ⟨w.heap.size+1+1,2,none⟩=some (Vi b.m):=fun c h=>h.2.1.cells.2.2.1
    have y3:∀c,(Vb c (w.heap.size+1) a/\Vb c (w.heap.size+1+1) b/\c.cell? ⟨w.heap.size,4,none⟩=some (Vi j))->c.cell? ⟨w.heap.size+1+1,3,none⟩=some (Vi b.h):=fun c h=>h.2.1.cells.2.2.2.1
    have y4:∀c,(Vb c (w.heap.size+1) a/\Vb c (w.heap.size+1+1) b/\c.cell? ⟨w.heap.size,4,none⟩=some (Vi j))->c.cell? ⟨w.heap.size+1+1,4,none⟩=some (Vi b.lo):=fun c h=>h.2.1.cells.2.2.2.2.1
    have y5:∀c,(Vb c (w.heap.size+1) a/\Vb c (w.heap.size+1+1) b/\c.cell? ⟨w.heap.size,4,none⟩=some (Vi j))->c.cell? ⟨w.heap.size+1+1,5,none⟩=some (Vi b.hi):=fun c h=>h.2.1.cells.2.2.2.2.2
    obtain⟨u3,hd,l⟩:∃v,u2.drew=v/\Bw u2 v:=⟨_,rfl,Al.drew⟩
    have P3:=hxy (P2.below l);have ah:=P3.S;refine wp_region_held_drew (S:=fun c=>Vb c (w.heap.size+1) a/\Vb c (w.heap.size+1+1) b/\c.cell? ⟨w.heap.size,4,none⟩=some (Vi j)) Ab (by rw[hd];exact ah) (fun _=>?_);rw[hd];clear hd l;refine lM [0,1,2,3,4] ?_;refine AO 5 rfl (fun KK hK=>?_);go_simp;refine(Km j _ g0 g1).mono ?_;rintro e c⟨rfl,hw⟩;rw[hw];clear hw;go_wp2_with fail;refine hK.out _ _ P3.S (fun ac=>?_);clear hK KK;try go_frame
    try rw[ae]
    refine Ao 6 ?_;refine AO 7 rfl (fun KK hK=>?_);go_simp;refine(LK a.m pw _ AB ag AB w1).mono ?_;rintro e c⟨rfl,hw⟩;rw[hw];clear hw;go_wp2_with fail;refine hK.out _ _ P3.S (fun ac=>?_);clear hK KK;try go_frame
    refine AO 8 rfl (fun KK hK=>?_)
    go_simp
    refine(Av s (FC a.m pw) _).mono ?_
    rintro e u4⟨rfl,l⟩
    have P4:=hxy (P3.below l)
    clear l
    simp only[VV.v]
    go_wp2_with fail
    refine hK.out _ _ P4.S (fun aj=>?_)
    clear hK KK
    try go_frame
    obtain⟨⟨Y,Z,i2,i3,n,i5⟩,⟨D,E,F,I,J,K⟩,⟨M,N,O,Q,U,X⟩,⟨o,r,u,x,y,C⟩,rf,rl,L⟩:=P4.al
    refine AO 9 rfl (fun KK hK=>?_)
    go_simp
    change KK _ (Im u4 (w.heap.size+1+1+1) (BH s (FC a.m pw)))
    obtain⟨z,hz,ad,vz,va,vb,vi⟩:∃v,Im u4 (w.heap.size+1+1+1) (BH s (FC a.m pw))=v/\Bw w v/\Vb v (w.heap.size+1+1+1) (BH s (FC a.m pw))/\Vb v (w.heap.size+1) a/\Vb v (w.heap.size+1+1) b/\v.cell? ⟨w.heap.size,4,none⟩=some (Vi j):=⟨_,rfl,Ap P4.bel P4.oR _,Mh P4.R _,Ip P4.A _ AB,Ip P4.B _ AB,by rw[<-n];exact JH AB⟩
    rw[hz]
    refine hK.out _ _ ⟨va,vb,vi⟩ (fun _=>?_)
    clear hK KK hz
    refine wpAnyH_done Ab ?_ _
    clear Y Z i2 i3 n i5 D E F I J K M N O Q U X o r u x y C rf rl L
    obtain⟨o,r,u,x,y,C⟩:=vz.cells
    have HB:=hxy ad
    clear ad vz va vb vi sa x0 x1 x2 x3 x4 x5 y0 y1 y2 y3 y4 y5
    go_wp2
    exact bodyPost_ret (v:=VV.v (BH s (FC a.m pw))) (by simp[results,Tryz.results156,go_sem,VV.v, *]) rfl ⟨congrArg (fun v=>Ending.returned (VV.v v)) (by simp only[Cr,if_neg HZ.out,if_pos HQ.out,<-ae];simp),HB⟩
   ·have e2:decide (j<=40)=false:=by simp;omega
    have HQ:Hid (¬(0<Au a/\j<=40)):=fun t=>q t.2
    go_wp2_with fail
    refine(Av s (-1) _).mono ?_
    rintro e u3⟨rfl,l⟩
    have P3:=hxy (P2.below l)
    clear l
    clear Y Z i2 i3 n i5 D E F I J K M N O Q U X o r u x y C rf rl L
    simp only[VV.v]
    obtain⟨⟨Y,Z,i2,i3,n,i5⟩,⟨D,E,F,I,J,K⟩,⟨M,N,O,Q,U,X⟩,⟨o,r,u,x,y,C⟩,rf,rl,L⟩:=P3.al
    go_wp2
    exact bodyPost_ret (v:=VV.v (BH s (-1))) (by simp[results,Tryz.results156,go_sem,VV.v, *]) rfl ⟨congrArg (fun v=>Ending.returned (VV.v v)) (by simp only[Cr,if_neg HZ.out,if_neg HQ.out];simp),Ap P3.bel P3.oR (BH s (-1))⟩
  ·have e1:decide (0<mx)=false:=by simp;omega
   have HQ:Hid (¬(0<Au a/\j<=40)):=fun t=>p (by rw[<-HX.out];exact t.1)
   go_wp2_with fail
   refine(Av s (-1) _).mono ?_
   rintro e u3⟨rfl,l⟩
   have P3:=hxy (P2.below l)
   clear l
   clear Y Z i2 i3 n i5 D E F I J K M N O Q U X o r u x y C rf rl L
   simp only[VV.v]
   obtain⟨⟨Y,Z,i2,i3,n,i5⟩,⟨D,E,F,I,J,K⟩,⟨M,N,O,Q,U,X⟩,⟨o,r,u,x,y,C⟩,rf,rl,L⟩:=P3.al
   go_wp2
   exact bodyPost_ret (v:=VV.v (BH s (-1))) (by simp[results,Tryz.results156,go_sem,VV.v, *]) rfl ⟨congrArg (fun v=>Ending.returned (VV.v v)) (by simp only[Cr,if_neg HZ.out,if_neg HQ.out];simp),Ap P3.bel P3.oR (BH s (-1))⟩
theorem RN(d ra rb j h:Int)(a b:VV)(s:Bool)(w:World)(ha:Bd a)(g0:0<=j)(g1:j<=63):
 Calls Tryz.prog 156 #[.agg #[Vi 13,Vi d,Vi ra,Vi rb,Vi j,Vi h],.agg #[Vi a.k,.bool a.s,Vi a.m,Vi a.h,Vi a.lo,Vi a.hi],.agg #[Vi b.k,.bool b.s,Vi b.m,Vi b.h,Vi b.lo,Vi b.hi],.bool s] w fun e c=>e=.returned (Cr 13 j a b s).v/\Below w.heap.size w c:=by
 have ah:=ha.m0;have ad:=ha.m1;obtain⟨mx,ab⟩:=BG (Au a);have HX:=hxy ab;have aa:0<=mx->mx=a.m:=by intro q;rw[<-ab]at q⊢;unfold Au at q⊢;split at q<;>simp_all
 clear ab;go_enter Tryz.func156,Tryz.ntmps156;go_upto_region 1 with fail;obtain⟨u0,hu,pu⟩:=Dq w (op:=13) (d:=d) (ra:=ra) (rb:=rb) (imm:=j) (h:=h) a b;rw[hu];have P0:=hxy pu;clear hu pu;obtain⟨⟨i0,i1,i2,i3,r,i5⟩,⟨J,K,L,M,N,O⟩,⟨U,X,Y,Z,b4,b5⟩,⟨x,C,D,E,F,I⟩,rf,rl,Q⟩:=P0.al;go_wp2_with fail;refine(Cz a.k a.s a.m a.h a.lo a.hi _).mono ?_;rintro e u1⟨rfl,l⟩;have P1:=hxy (P0.below l);clear l;clear i0 i1 i2 i3 r i5 J K L M N O U X Y Z b4 b5 x C D E F I rf rl Q;obtain⟨⟨i0,i1,i2,i3,r,i5⟩,⟨J,K,L,M,N,O⟩,⟨U,X,Y,Z,b4,b5⟩,⟨x,C,D,E,F,I⟩,rf,rl,Q⟩:=P1.al;rw[show Au ⟨a.k,a.s,a.m,a.h,a.lo,a.hi⟩=mx from HX.out];by_cases p:0<=mx
 ·have ea:=aa p
  subst ea;clear aa;have HQ:Hid (0<=Au a):=by rw[show(0<=Au a)=(0<=a.m)from by rw[HX.out]];exact p
  obtain⟨u,o,w0,w1⟩:=jJ g0 g1;obtain⟨y,hy,y0,y1⟩:=fA (m:=a.m) p ad w0;have f3:IntKind.u64.wrap a.m=a.m:=by rw[IntKind.wrap_u64];omega
  have f4:¬u=0:=AB;have f5:a.m.tdiv u=y:=by rw[Int.tdiv_eq_ediv_of_nonneg p];exact hy
  have f6:IntKind.u64.wrap y=y:=by rw[IntKind.wrap_u64];omega
  have f7:IntKind.i64.wrap y=y:=by rw[IntKind.wrap_i64];omega
  have f8:wrap64 y=y:=by unfold wrap64;omega
  have HY:=hxy hy;clear hy;go_upto_region 36 with fail;clear i0 i1 i2 i3 r i5 J K L M N O U X Y Z b4 b5 x C D E F I rf rl Q;have sa:∀c,(Vb c (w.heap.size+1) a/\Vb c (w.heap.size+1+1) b/\c.cell? ⟨w.heap.size,4,none⟩=some (Vi j))->c.cell? ⟨w.heap.size,4,none⟩=some (Vi j):=fun c h=>h.2.2
  have x0:∀c,(Vb c (w.heap.size+1) a/\Vb c (w.heap.size+1+1) b/\c.cell? ⟨w.heap.size,4,none⟩=some (Vi j))->c.cell? ⟨w.heap.size+1,0,none⟩=some (Vi a.k):=fun c h=>h.1.cells.1
  have x1:∀c,(Vb c (w.heap.size+1) a/\Vb c (w.heap.size+1+1) b/\c.cell? ⟨w.heap.size,4,none⟩=some (Vi j))->c.cell? ⟨w.heap.size+1,1,none⟩=some (.bool a.s):=fun c h=>h.1.cells.2.1
  have x2:∀c,(Vb c (w.heap.size+1) a/\Vb c (w.heap.size+1+1) b/\c.cell? ⟨w.heap.size,4,none⟩=some (Vi j))->c.cell? ⟨w.heap.size+1,2,none⟩=some (Vi a.m):=fun c h=>h.1.cells.2.2.1
  have x3:∀c,(Vb c (w.heap.size+1) a/\Vb c (w.heap.size+1+1) b/\c.cell? ⟨w.heap.size,4,none⟩=some (Vi j))->c.cell? ⟨w.heap.size+1,3,none⟩=some (Vi a.h):=fun c h=>h.1.cells.2.2.2.1
  have x4:∀c,(Vb c (w.heap.size+1) a/\Vb c (w.heap.size+1+1) b/\c.cell? ⟨w.heap.size,4,none⟩=some (Vi j))->c.cell? ⟨w.heap.size+1,4,none⟩=some (Vi a.lo):=fun c h=>h.1.cells.2.2.2.2.1
  have x5:∀c,(Vb c (w.heap.size+1) a/\Vb c (w.heap.size+1+1) b/\c.cell? ⟨w.heap.size,4,none⟩=some (Vi j))->c.cell? ⟨w.heap.size+1,5,none⟩=some (Vi a.hi):=fun c h=>h.1.cells.2.2.2.2.2
  have y0:∀c,(Vb c (w.heap.size+1) a/\Vb c (w.heap.size+1+1) b/\c.cell? ⟨w.heap.size,4,none⟩=some (Vi j))->c.cell? ⟨w.heap.size+1+1,0,none⟩=some (Vi b.k):=fun c h=>h.2.1.cells.1
  have y1:∀c,(Vb c (w.heap.size+1) a/\Vb c (w.heap.size+1+1) b/\c.cell? ⟨w.heap.size,4,none⟩=some (Vi j))->c.cell? ⟨w.heap.size+1+1,1,none⟩=some (.bool b.s):=fun c h=>h.2.1.cells.2.1
  have y2:∀c,(Vb c (w.heap.size+1) a/\Vb c (w.heap.size+1+1) b/\c.cell? ⟨w.heap.size,4,none⟩=some (Vi j))->c.cell? ⟨w.heap.size+1+1,2,none⟩=some (Vi b.m):=fun c h=>h.2.1.cells.2.2.1
  have y3:∀c,(Vb c (w.heap.size+1) a/\Vb c (w.heap.size+1+1) b/\c.cell? ⟨w.heap.size,4,none⟩=some (Vi j))->c.cell? ⟨w.heap.size+1+1,3,none⟩=some (Vi b.h):=fun c h=>h.2.1.cells.2.2.2.1
  have y4:∀c,(Vb c (w.heap.size+1) a/\Vb c (w.heap.size+1+1) b/\c.cell? ⟨w.heap.size,4,none⟩=some (Vi j))->c.cell? ⟨w.heap.size+1+1,4,none⟩=some (Vi b.lo):=fun c h=>h.2.1.cells.2.2.2.2.1
  have y5:∀c,(Vb c (w.heap.size+1) a/\Vb c (w.heap.size+1+1) b/\c.cell? ⟨w.heap.size,4,none⟩=some (Vi j))->c.cell? ⟨w.heap.size+1+1,5,none⟩=some (Vi b.hi):=fun c h=>h.2.1.cells.2.2.2.2.2
  obtain⟨u2,hd,l⟩:∃v,u1.drew=v/\Bw u1 v:=⟨_,rfl,Al.drew⟩
  have n:=hxy (P1.below l);have ae:=n.S;refine wp_region_held_drew (S:=fun c=>Vb c (w.heap.size+1) a/\Vb c (w.heap.size+1+1) b/\c.cell? ⟨w.heap.size,4,none⟩=some (Vi j)) Ab (by rw[hd];exact ae) (fun _=>?_);rw[hd];clear hd l;refine lM [0,1,2,3,4,5] ?_;refine AO 6 rfl (fun KK hK=>?_);go_simp;refine(Km j _ g0 g1).mono ?_;rintro e c⟨rfl,hw⟩;rw[hw];clear hw;go_wp2_with fail;refine hK.out _ _ n.S (fun ag=>?_);clear hK KK;try go_frame
  try rw[o]
  refine lM [7,8] ?_;refine AO 9 rfl (fun KK hK=>?_);go_simp
  refine(Av s y _).mono ?_
  rintro e u3⟨rfl,l⟩
  have P3:=hxy (n.below l)
  clear l
  simp only[VV.v]
  go_wp2_with fail
  refine hK.out _ _ P3.S (fun ai=>?_)
  clear hK KK
  try go_frame
  obtain⟨⟨i0,i1,i2,i3,r,i5⟩,⟨J,K,L,M,N,O⟩,⟨U,X,Y,Z,b4,b5⟩,⟨x,C,D,E,F,I⟩,rf,rl,Q⟩:=P3.al
  refine AO 10 rfl (fun KK hK=>?_)
  go_simp
  change KK _ (Im u3 (w.heap.size+1+1+1) (BH s y))
  obtain⟨z,hz,ac,vz,va,vb,vi⟩:∃v,Im u3 (w.heap.size+1+1+1) (BH s y)=v/\Bw w v/\Vb v (w.heap.size+1+1+1) (BH s y)/\Vb v (w.heap.size+1) a/\Vb v (w.heap.size+1+1) b/\v.cell? ⟨w.heap.size,4,none⟩=some (Vi j):=⟨_,rfl,Ap P3.bel P3.oR _,Mh P3.R _,Ip P3.A _ AB,Ip P3.B _ AB,by rw[<-r];exact JH AB⟩
  rw[hz]
  refine hK.out _ _ ⟨va,vb,vi⟩ (fun _=>?_)
  clear hK KK hz
  refine wpAnyH_done Ab ?_ _
  clear i0 i1 i2 i3 r i5 J K L M N O U X Y Z b4 b5 x C D E F I rf rl Q
  obtain⟨x,C,D,E,F,I⟩:=vz.cells
  have HB:=hxy ac
  clear ac vz va vb vi sa x0 x1 x2 x3 x4 x5 y0 y1 y2 y3 y4 y5
  go_wp2
  exact bodyPost_ret (v:=VV.v (BH s y)) (by simp[results,Tryz.results156,go_sem,VV.v, *]) rfl ⟨congrArg (fun v=>Ending.returned (VV.v v)) (by rw[<-HY.out,<-o];simp only[Cr,if_pos HQ.out];simp),HB⟩
 ·have HQ:Hid (¬0<=Au a):=fun t=>p (by rw[<-HX.out];exact t)
  clear aa
  by_cases q:24<=j
  ·have HE:=hxy q
   obtain⟨u,o,w0,w1⟩:=Zw (i:=64-j) AB AB
   have f1:IntKind.i64.wrap u=u:=by rw[IntKind.wrap_i64];omega
   have f2:wrap64 u=u:=by unfold wrap64;omega
   go_wp2_with fail
   refine(Km (64-j) _ AB AB).mono ?_
   rintro e c⟨rfl,hw⟩
   rw[hw]
   clear hw
   try rw[o]
   go_wp2_with fail
   refine(Av s (u-1) _).mono ?_
   rintro e u2⟨rfl,l⟩
   have n:=hxy (P1.below l)
   clear l
   clear i0 i1 i2 i3 r i5 J K L M N O U X Y Z b4 b5 x C D E F I rf rl Q
   simp only[VV.v]
   obtain⟨⟨i0,i1,i2,i3,r,i5⟩,⟨J,K,L,M,N,O⟩,⟨U,X,Y,Z,b4,b5⟩,⟨x,C,D,E,F,I⟩,rf,rl,Q⟩:=n.al
   go_wp2
   exact bodyPost_ret (v:=VV.v (BH s (u-1))) (by simp[results,Tryz.results156,go_sem,VV.v, *]) rfl ⟨congrArg (fun v=>Ending.returned (VV.v v)) (by rw[<-o];simp only[Cr,if_neg (show¬0<=Au a by have:=HQ.out;omega),if_pos HE.out];simp),Ap n.bel n.oR (BH s (u-1))⟩
  ·have HE:=hxy q
   go_wp2_with fail
   refine(Av s (-1) _).mono ?_
   rintro e u2⟨rfl,l⟩
   have n:=hxy (P1.below l)
   clear l
   clear i0 i1 i2 i3 r i5 J K L M N O U X Y Z b4 b5 x C D E F I rf rl Q
   simp only[VV.v]
   obtain⟨⟨i0,i1,i2,i3,r,i5⟩,⟨J,K,L,M,N,O⟩,⟨U,X,Y,Z,b4,b5⟩,⟨x,C,D,E,F,I⟩,rf,rl,Q⟩:=n.al
   go_wp2
   exact bodyPost_ret (v:=VV.v (BH s (-1))) (by simp[results,Tryz.results156,go_sem,VV.v, *]) rfl ⟨congrArg (fun v=>Ending.returned (VV.v v)) (by simp only[Cr,if_neg (show¬0<=Au a by have:=HQ.out;omega),if_neg (show¬24<=j by have:=HE.out;omega)];simp),Ap n.bel n.oR (BH s (-1))⟩
theorem QT(j d l n c h:Int)(a b:VV)(s:Bool)(w:World)(A:1<=j)(y:j<=16)(o:Bd a)(p:Bd b)(u: -1000000<=c)(x:c<=1000000)(q:j=12∨j=13->0<=c/\c<=63):
 Calls Tryz.prog 156 #[.agg #[Vi j,Vi d,Vi l,Vi n,Vi c,Vi h],.agg #[Vi a.k,.bool a.s,Vi a.m,Vi a.h,Vi a.lo,Vi a.hi],.agg #[Vi b.k,.bool b.s,Vi b.m,Vi b.h,Vi b.lo,Vi b.hi],.bool s] w fun e z=>e=.returned (Cr j c a b s).v/\Below w.heap.size w z:=by
 have r:j=1∨j=2∨j=3∨j=4∨j=5∨j=6∨j=7∨j=8∨j=9∨j=10∨j=11∨j=12∨j=13∨j=14∨j=15∨j=16:=AB;rcases r with rfl|rfl|rfl|rfl|rfl|rfl|rfl|rfl|rfl|rfl|rfl|rfl|rfl|rfl|rfl|rfl
 ·exact Tz d l n c h a b s w
 ·exact TN d l n c h a b s w
 ·exact Tg d l n c h a b s w o p
 ·exact UH d l n c h a b s w
 ·exact Ty d l n c h a b s w o p
 ·exact UJ d l n c h a b s w
 ·exact Te d l n c h a b s w o p
 ·exact Tx d l n c h a b s w o p
 ·exact TL d l n c h a b s w
 ·exact Qg d l n c h a b s w o u x
 ·exact Sq d l n c h a b s w
 ·exact Qx d l n c h a b s w o (q AB).1 (q AB).2
 ·exact RN d l n c h a b s w o (q AB).1 (q AB).2
 ·exact Rt d l n c h a b s w o p
 ·exact SG d l n c h a b s w o p
 ·exact Rc d l n c h a b s w
end Go.Proofs.YtkckomianknjdaaGreat
