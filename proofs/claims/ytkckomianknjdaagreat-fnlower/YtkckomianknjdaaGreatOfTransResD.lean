import Derived.Test.YtkckomianknjdaaGreatOfCoreF
import Derived.Test.YtkckomianknjdaaGreatOfTransAcc
set_option maxHeartbeats 4000000
set_option maxRecDepth 20000
namespace Go.Proofs.YtkckomianknjdaaGreat
open Go.RowKit
theorem Tg(d n o c h:Int)(a b:VV)(s:Bool)(w:World)(x:Bd a)(j:Bd b):
 Calls Tryz.prog 156 #[.agg #[Vi 3,Vi d,Vi n,Vi o,Vi c,Vi h],.agg #[Vi a.k,.bool a.s,Vi a.m,Vi a.h,Vi a.lo,Vi a.hi],.agg #[Vi b.k,.bool b.s,Vi b.m,Vi b.h,Vi b.lo,Vi b.hi],.bool s] w fun e y=>e=.returned (Cr 3 c a b s).v/\Below w.heap.size w y:=by
 go_enter Tryz.func156,Tryz.ntmps156;go_upto_region 1 with fail;obtain⟨u0,q,u⟩:=Dq w (op:=3) (d:=d) (ra:=n) (rb:=o) (imm:=c) (h:=h) a b;rw[q];have p:=hxy u;clear q u;have r:=p.al;go_wp2_with fail;refine(Ot a b _ x j).mono ?_;rintro e u1⟨rfl,j⟩;have l:=hxy (p.below j);clear j;clear r;simp only[VV.v];have r:=l.al;go_wp2;exact bodyPost_ret (v:=VV.v (QH a b)) (by simp[results,Tryz.results156,go_sem,VV.v, *]) rfl ⟨congrArg (fun v=>Ending.returned (VV.v v)) (by simp[Cr]),Ap l.bel l.oR (QH a b)⟩
theorem Rt(d n o c h:Int)(a b:VV)(s:Bool)(w:World)(x:Bd a)(j:Bd b):
 Calls Tryz.prog 156 #[.agg #[Vi 14,Vi d,Vi n,Vi o,Vi c,Vi h],.agg #[Vi a.k,.bool a.s,Vi a.m,Vi a.h,Vi a.lo,Vi a.hi],.agg #[Vi b.k,.bool b.s,Vi b.m,Vi b.h,Vi b.lo,Vi b.hi],.bool s] w fun e y=>e=.returned (Cr 14 c a b s).v/\Below w.heap.size w y:=by
 go_enter Tryz.func156,Tryz.ntmps156;go_upto_region 1 with fail;obtain⟨u0,q,u⟩:=Dq w (op:=14) (d:=d) (ra:=n) (rb:=o) (imm:=c) (h:=h) a b;rw[q];have p:=hxy u;clear q u;have r:=p.al;go_wp2_with fail;refine(Ot a b _ x j).mono ?_;rintro e u1⟨rfl,j⟩;have l:=hxy (p.below j);clear j;clear r;simp only[VV.v];have r:=l.al;go_wp2;exact bodyPost_ret (v:=VV.v (QH a b)) (by simp[results,Tryz.results156,go_sem,VV.v, *]) rfl ⟨congrArg (fun v=>Ending.returned (VV.v v)) (by simp[Cr]),Ap l.bel l.oR (QH a b)⟩
theorem UH(d l n c h:Int)(a b:VV)(s:Bool)(w:World):
 Calls Tryz.prog 156 #[.agg #[Vi 4,Vi d,Vi l,Vi n,Vi c,Vi h],.agg #[Vi a.k,.bool a.s,Vi a.m,Vi a.h,Vi a.lo,Vi a.hi],.agg #[Vi b.k,.bool b.s,Vi b.m,Vi b.h,Vi b.lo,Vi b.hi],.bool s] w fun e x=>e=.returned (Cr 4 c a b s).v/\Below w.heap.size w x:=by
 go_enter Tryz.func156,Tryz.ntmps156;go_upto_region 1 with fail;obtain⟨u0,q,u⟩:=Dq w (op:=4) (d:=d) (ra:=l) (rb:=n) (imm:=c) (h:=h) a b;rw[q];have o:=hxy u;clear q u;have r:=o.al;go_wp2_with fail;refine(Av s (-1) _).mono ?_;rintro e u1⟨rfl,p⟩;have j:=hxy (o.below p);clear p;clear r;simp only[VV.v];have r:=j.al;go_wp2;exact bodyPost_ret (v:=VV.v (BH s (-1))) (by simp[results,Tryz.results156,go_sem,VV.v, *]) rfl ⟨congrArg (fun v=>Ending.returned (VV.v v)) (by simp[Cr]),Ap j.bel j.oR (BH s (-1))⟩
theorem Rc(d l n c h:Int)(a b:VV)(s:Bool)(w:World):
 Calls Tryz.prog 156 #[.agg #[Vi 16,Vi d,Vi l,Vi n,Vi c,Vi h],.agg #[Vi a.k,.bool a.s,Vi a.m,Vi a.h,Vi a.lo,Vi a.hi],.agg #[Vi b.k,.bool b.s,Vi b.m,Vi b.h,Vi b.lo,Vi b.hi],.bool s] w fun e x=>e=.returned (Cr 16 c a b s).v/\Below w.heap.size w x:=by
 go_enter Tryz.func156,Tryz.ntmps156;go_upto_region 1 with fail;obtain⟨u0,q,u⟩:=Dq w (op:=16) (d:=d) (ra:=l) (rb:=n) (imm:=c) (h:=h) a b;rw[q];have o:=hxy u;clear q u;have r:=o.al;go_wp2_with fail;refine(Av s (-1) _).mono ?_;rintro e u1⟨rfl,p⟩;have j:=hxy (o.below p);clear p;clear r;simp only[VV.v];have r:=j.al;go_wp2;exact bodyPost_ret (v:=VV.v (BH s (-1))) (by simp[results,Tryz.results156,go_sem,VV.v, *]) rfl ⟨congrArg (fun v=>Ending.returned (VV.v v)) (by simp[Cr]),Ap j.bel j.oR (BH s (-1))⟩
theorem TL(d o p c h:Int)(a b:VV)(s:Bool)(w:World):
 Calls Tryz.prog 156 #[.agg #[Vi 9,Vi d,Vi o,Vi p,Vi c,Vi h],.agg #[Vi a.k,.bool a.s,Vi a.m,Vi a.h,Vi a.lo,Vi a.hi],.agg #[Vi b.k,.bool b.s,Vi b.m,Vi b.h,Vi b.lo,Vi b.hi],.bool s] w fun e y=>e=.returned (Cr 9 c a b s).v/\Below w.heap.size w y:=by
 go_enter Tryz.func156,Tryz.ntmps156;go_upto_region 1 with fail;obtain⟨u0,u,x⟩:=Dq w (op:=9) (d:=d) (ra:=o) (rb:=p) (imm:=c) (h:=h) a b;rw[u];have q:=hxy x;clear u x;have l:=q.al;go_wp2_with fail;refine(Cz a.k a.s a.m a.h a.lo a.hi _).mono ?_;rintro e u1⟨rfl,j⟩;have r:=hxy (q.below j);clear j;clear l;have l:=r.al;go_wp2_with fail;refine(Av s (Au a) _).mono ?_;rintro e u2⟨rfl,j⟩;have n:=hxy (r.below j);clear j;clear l;simp only[VV.v];have l:=n.al;go_wp2;exact bodyPost_ret (v:=VV.v (BH s (Au a))) (by simp[results,Tryz.results156,go_sem,VV.v, *]) rfl ⟨congrArg (fun v=>Ending.returned (VV.v v)) (by simp[Cr]),Ap n.bel n.oR (BH s (Au a))⟩
theorem Ty(d u x j h:Int)(a b:VV)(s:Bool)(w:World)(D:Bd a)(c:Bd b):
 Calls Tryz.prog 156 #[.agg #[Vi 5,Vi d,Vi u,Vi x,Vi j,Vi h],.agg #[Vi a.k,.bool a.s,Vi a.m,Vi a.h,Vi a.lo,Vi a.hi],.agg #[Vi b.k,.bool b.s,Vi b.m,Vi b.h,Vi b.lo,Vi b.hi],.bool s] w fun e C=>e=.returned (Cr 5 j a b s).v/\Below w.heap.size w C:=by
 go_enter Tryz.func156,Tryz.ntmps156;go_upto_region 1 with fail;obtain⟨u0,z,B⟩:=Dq w (op:=5) (d:=d) (ra:=u) (rb:=x) (imm:=j) (h:=h) a b;rw[z];have y:=hxy B;clear z B;have o:=y.al;go_wp2_with fail;refine(IE a.k a.s a.m a.h a.lo a.hi b.k b.s b.m b.h b.lo b.hi _).mono ?_;rintro e u1⟨rfl,c⟩;have r:=hxy (y.below c);clear c;clear o;have o:=r.al;by_cases l:0<=Au a/\0<=Au b
 ·have p:decide (0<=Au a/\0<=Au b)=true:=by simp[l]
  obtain⟨E,F⟩:=LW l.1 D;obtain⟨I,J⟩:=LW l.2 c;have q:=hxy l;clear l;rw[show decide (0<=Au ⟨a.k,a.s,a.m,a.h,a.lo,a.hi⟩/\0<=Au ⟨b.k,b.s,b.m,b.h,b.lo,b.hi⟩)=true from p];clear p;go_wp2_with fail;refine(LK a.m b.m _ E F I J).mono ?_;rintro e C⟨rfl,A⟩;rw[A];clear A;go_wp2_with fail;refine(Av s (FC a.m b.m) _).mono ?_;rintro e u2⟨rfl,c⟩;have n:=hxy (r.below c);clear c;clear o;simp only[VV.v];have o:=n.al;go_wp2;exact bodyPost_ret (v:=VV.v (BH s (FC a.m b.m))) (by simp[results,Tryz.results156,go_sem,VV.v, *]) rfl ⟨congrArg (fun v=>Ending.returned (VV.v v)) (by simp[Cr,q.out]),Ap n.bel n.oR (BH s (FC a.m b.m))⟩
 ·have p:decide (0<=Au a/\0<=Au b)=false:=by simp only[decide_eq_false_iff_not];exact l
  have q:=hxy l;clear l;rw[show decide (0<=Au ⟨a.k,a.s,a.m,a.h,a.lo,a.hi⟩/\0<=Au ⟨b.k,b.s,b.m,b.h,b.lo,b.hi⟩)=false from p];clear p;go_wp2_with fail;refine(Av s (-1) _).mono ?_;rintro e u2⟨rfl,c⟩;have n:=hxy (r.below c);clear c;clear o;simp only[VV.v];have o:=n.al;go_wp2;exact bodyPost_ret (v:=VV.v (BH s (-1))) (by simp[results,Tryz.results156,go_sem,VV.v, *]) rfl ⟨congrArg (fun v=>Ending.returned (VV.v v)) (by simp only[Cr,if_neg q.out];simp),Ap n.bel n.oR (BH s (-1))⟩
theorem Te(d x y j h:Int)(a b:VV)(s:Bool)(w:World)(D:Bd a)(c:Bd b):
 Calls Tryz.prog 156 #[.agg #[Vi 7,Vi d,Vi x,Vi y,Vi j,Vi h],.agg #[Vi a.k,.bool a.s,Vi a.m,Vi a.h,Vi a.lo,Vi a.hi],.agg #[Vi b.k,.bool b.s,Vi b.m,Vi b.h,Vi b.lo,Vi b.hi],.bool s] w fun e z=>e=.returned (Cr 7 j a b s).v/\Below w.heap.size w z:=by
 go_enter Tryz.func156,Tryz.ntmps156;go_upto_region 1 with fail;obtain⟨u0,B,C⟩:=Dq w (op:=7) (d:=d) (ra:=x) (rb:=y) (imm:=j) (h:=h) a b;rw[B];have A:=hxy C;clear B C;have o:=A.al;go_wp2_with fail;refine(IE a.k a.s a.m a.h a.lo a.hi b.k b.s b.m b.h b.lo b.hi _).mono ?_;rintro e u1⟨rfl,c⟩;have u:=hxy (A.below c);clear c;clear o;have o:=u.al;by_cases l:0<=Au a/\0<=Au b
 ·have p:decide (0<=Au a/\0<=Au b)=true:=by simp[l]
  obtain⟨E,F⟩:=LW l.1 D;obtain⟨I,J⟩:=LW l.2 c;have r:=hxy l;clear l;rw[show decide (0<=Au ⟨a.k,a.s,a.m,a.h,a.lo,a.hi⟩/\0<=Au ⟨b.k,b.s,b.m,b.h,b.lo,b.hi⟩)=true from p];clear p;go_wp2_with fail;refine(J8 a.m b.m _).mono ?_;rintro e z⟨rfl,q⟩;rw[q];clear q;go_wp2_with fail;refine(NU (Jk a.m b.m) _ (by unfold Jk;split<;>omega) (by unfold Jk;split<;>omega)).mono ?_;rintro e z⟨rfl,q⟩;rw[q];clear q;go_wp2_with fail;refine(Av s (JZ (Jk a.m b.m)) _).mono ?_;rintro e u2⟨rfl,c⟩;have n:=hxy (u.below c);clear c;clear o;simp only[VV.v];have o:=n.al;go_wp2;exact bodyPost_ret (v:=VV.v (BH s (JZ (Jk a.m b.m)))) (by simp[results,Tryz.results156,go_sem,VV.v, *]) rfl ⟨congrArg (fun v=>Ending.returned (VV.v v)) (by simp[Cr,r.out]),Ap n.bel n.oR (BH s (JZ (Jk a.m b.m)))⟩
 ·have p:decide (0<=Au a/\0<=Au b)=false:=by simp only[decide_eq_false_iff_not];exact l
  have r:=hxy l;clear l;rw[show decide (0<=Au ⟨a.k,a.s,a.m,a.h,a.lo,a.hi⟩/\0<=Au ⟨b.k,b.s,b.m,b.h,b.lo,b.hi⟩)=false from p];clear p;go_wp2_with fail;refine(Av s (-1) _).mono ?_;rintro e u2⟨rfl,c⟩;have n:=hxy (u.below c);clear c;clear o;simp only[VV.v];have o:=n.al;go_wp2;exact bodyPost_ret (v:=VV.v (BH s (-1))) (by simp[results,Tryz.results156,go_sem,VV.v, *]) rfl ⟨congrArg (fun v=>Ending.returned (VV.v v)) (by simp only[Cr,if_neg r.out];simp),Ap n.bel n.oR (BH s (-1))⟩
theorem Tx(d x y j h:Int)(a b:VV)(s:Bool)(w:World)(D:Bd a)(c:Bd b):
 Calls Tryz.prog 156 #[.agg #[Vi 8,Vi d,Vi x,Vi y,Vi j,Vi h],.agg #[Vi a.k,.bool a.s,Vi a.m,Vi a.h,Vi a.lo,Vi a.hi],.agg #[Vi b.k,.bool b.s,Vi b.m,Vi b.h,Vi b.lo,Vi b.hi],.bool s] w fun e z=>e=.returned (Cr 8 j a b s).v/\Below w.heap.size w z:=by
 go_enter Tryz.func156,Tryz.ntmps156;go_upto_region 1 with fail;obtain⟨u0,B,C⟩:=Dq w (op:=8) (d:=d) (ra:=x) (rb:=y) (imm:=j) (h:=h) a b;rw[B];have A:=hxy C;clear B C;have o:=A.al;go_wp2_with fail;refine(IE a.k a.s a.m a.h a.lo a.hi b.k b.s b.m b.h b.lo b.hi _).mono ?_;rintro e u1⟨rfl,c⟩;have u:=hxy (A.below c);clear c;clear o;have o:=u.al;by_cases l:0<=Au a/\0<=Au b
 ·have p:decide (0<=Au a/\0<=Au b)=true:=by simp[l]
  obtain⟨E,F⟩:=LW l.1 D;obtain⟨I,J⟩:=LW l.2 c;have r:=hxy l;clear l;rw[show decide (0<=Au ⟨a.k,a.s,a.m,a.h,a.lo,a.hi⟩/\0<=Au ⟨b.k,b.s,b.m,b.h,b.lo,b.hi⟩)=true from p];clear p;go_wp2_with fail;refine(J8 a.m b.m _).mono ?_;rintro e z⟨rfl,q⟩;rw[q];clear q;go_wp2_with fail;refine(NU (Jk a.m b.m) _ (by unfold Jk;split<;>omega) (by unfold Jk;split<;>omega)).mono ?_;rintro e z⟨rfl,q⟩;rw[q];clear q;go_wp2_with fail;refine(Av s (JZ (Jk a.m b.m)) _).mono ?_;rintro e u2⟨rfl,c⟩;have n:=hxy (u.below c);clear c;clear o;simp only[VV.v];have o:=n.al;go_wp2;exact bodyPost_ret (v:=VV.v (BH s (JZ (Jk a.m b.m)))) (by simp[results,Tryz.results156,go_sem,VV.v, *]) rfl ⟨congrArg (fun v=>Ending.returned (VV.v v)) (by simp[Cr,r.out]),Ap n.bel n.oR (BH s (JZ (Jk a.m b.m)))⟩
 ·have p:decide (0<=Au a/\0<=Au b)=false:=by simp only[decide_eq_false_iff_not];exact l
  have r:=hxy l;clear l;rw[show decide (0<=Au ⟨a.k,a.s,a.m,a.h,a.lo,a.hi⟩/\0<=Au ⟨b.k,b.s,b.m,b.h,b.lo,b.hi⟩)=false from p];clear p;go_wp2_with fail;refine(Av s (-1) _).mono ?_;rintro e u2⟨rfl,c⟩;have n:=hxy (u.below c);clear c;clear o;simp only[VV.v];have o:=n.al;go_wp2;exact bodyPost_ret (v:=VV.v (BH s (-1))) (by simp[results,Tryz.results156,go_sem,VV.v, *]) rfl ⟨congrArg (fun v=>Ending.returned (VV.v v)) (by simp only[Cr,if_neg r.out];simp),Ap n.bel n.oR (BH s (-1))⟩
theorem SG(d u x j h:Int)(a b:VV)(s:Bool)(w:World)(B:Bd a)(c:Bd b):
 Calls Tryz.prog 156 #[.agg #[Vi 15,Vi d,Vi u,Vi x,Vi j,Vi h],.agg #[Vi a.k,.bool a.s,Vi a.m,Vi a.h,Vi a.lo,Vi a.hi],.agg #[Vi b.k,.bool b.s,Vi b.m,Vi b.h,Vi b.lo,Vi b.hi],.bool s] w fun e C=>e=.returned (Cr 15 j a b s).v/\Below w.heap.size w C:=by
 go_enter Tryz.func156,Tryz.ntmps156;go_upto_region 1 with fail;obtain⟨u0,z,A⟩:=Dq w (op:=15) (d:=d) (ra:=u) (rb:=x) (imm:=j) (h:=h) a b;rw[z];have y:=hxy A;clear z A;have o:=y.al;go_wp2_with fail;refine(IE a.k a.s a.m a.h a.lo a.hi b.k b.s b.m b.h b.lo b.hi _).mono ?_;rintro e u1⟨rfl,c⟩;have r:=hxy (y.below c);clear c;clear o;have o:=r.al;by_cases l:0<=Au a/\0<=Au b
 ·have p:decide (0<=Au a/\0<=Au b)=true:=by simp[l]
  obtain⟨D,E⟩:=LW l.1 B;obtain⟨F,I⟩:=LW l.2 c;have q:=hxy l;clear l;rw[show decide (0<=Au ⟨a.k,a.s,a.m,a.h,a.lo,a.hi⟩/\0<=Au ⟨b.k,b.s,b.m,b.h,b.lo,b.hi⟩)=true from p];clear p;go_wp2_with fail;refine(Av s (a.m+b.m+1) _).mono ?_;rintro e u2⟨rfl,c⟩;have n:=hxy (r.below c);clear c;clear o;simp only[VV.v];have o:=n.al;go_wp2;exact bodyPost_ret (v:=VV.v (BH s (a.m+b.m+1))) (by simp[results,Tryz.results156,go_sem,VV.v, *]) rfl ⟨congrArg (fun v=>Ending.returned (VV.v v)) (by simp[Cr,q.out]),Ap n.bel n.oR (BH s (a.m+b.m+1))⟩
 ·have p:decide (0<=Au a/\0<=Au b)=false:=by simp only[decide_eq_false_iff_not];exact l
  have q:=hxy l;clear l;rw[show decide (0<=Au ⟨a.k,a.s,a.m,a.h,a.lo,a.hi⟩/\0<=Au ⟨b.k,b.s,b.m,b.h,b.lo,b.hi⟩)=false from p];clear p;go_wp2_with fail;refine(Av s (-1) _).mono ?_;rintro e u2⟨rfl,c⟩;have n:=hxy (r.below c);clear c;clear o;simp only[VV.v];have o:=n.al;go_wp2;exact bodyPost_ret (v:=VV.v (BH s (-1))) (by simp[results,Tryz.results156,go_sem,VV.v, *]) rfl ⟨congrArg (fun v=>Ending.returned (VV.v v)) (by simp only[Cr,if_neg q.out];simp),Ap n.bel n.oR (BH s (-1))⟩
theorem UJ(d ra rb j h:Int)(a b:VV)(s:Bool)(w:World):
 Calls Tryz.prog 156 #[.agg #[Vi 6,Vi d,Vi ra,Vi rb,Vi j,Vi h],.agg #[Vi a.k,.bool a.s,Vi a.m,Vi a.h,Vi a.lo,Vi a.hi],.agg #[Vi b.k,.bool b.s,Vi b.m,Vi b.h,Vi b.lo,Vi b.hi],.bool s] w fun e c=>e=.returned (Cr 6 j a b s).v/\Below w.heap.size w c:=by
 go_enter Tryz.func156,Tryz.ntmps156;go_upto_region 1 with fail;obtain⟨u0,hu,pu⟩:=Dq w (op:=6) (d:=d) (ra:=ra) (rb:=rb) (imm:=j) (h:=h) a b;rw[hu];have P0:=hxy pu;clear hu pu;obtain⟨⟨i0,i1,i2,i3,r,i5⟩,⟨I,J,K,L,M,N⟩,⟨Q,U,X,Y,Z,b5⟩,⟨u,x,y,C,D,E⟩,rf,rl,O⟩:=P0.al;go_upto_region 13 with fail;clear i0 i1 i2 i3 r i5 I J K L M N Q U X Y Z b5 u x y C D E rf rl O;have sa:∀c,(Vb c (w.heap.size+1) a/\Vb c (w.heap.size+1+1) b/\c.cell? ⟨w.heap.size,4,none⟩=some (Vi j))->c.cell? ⟨w.heap.size,4,none⟩=some (Vi j):=fun c h=>h.2.2
 have x0:∀c,(Vb c (w.heap.size+1) a/\Vb c (w.heap.size+1+1) b/\c.cell? ⟨w.heap.size,4,none⟩=some (Vi j))->c.cell? ⟨w.heap.size+1,0,none⟩=some (Vi a.k):=fun c h=>h.1.cells.1
 have x1:∀c,(Vb c (w.heap.size+1) a/\Vb c (w.heap.size+1+1) b/\c.cell? ⟨w.heap.size,4,none⟩=some (Vi j))->c.cell? ⟨w.heap.size+1,1,none⟩=some (.bool a.s):=fun c h=>h.1.cells.2.1
 have x2:∀c,(Vb c (w.heap.size+1) a/\Vb c (w.heap.size+1+1) b/\c.cell? ⟨w.heap.size,4,none⟩=some (Vi j))->c.cell? ⟨w.heap.size+1,2,none⟩=some (Vi a.m):=fun c h=>h.1.cells.2.2.1
 have x3:∀c,(Vb c (w.heap.size+1) a/\Vb c (w.heap.size+1+1) b/\c.cell? ⟨w.heap.size,4,none⟩=some (Vi j))->c.cell? ⟨w.heap.size+1,3,none⟩=some (Vi a.h):=fun c h=>h.1.cells.2.2.2.1
 have x4:∀c,(Vb c (w.heap.size+1) a/\Vb c (w.heap.size+1+1) b/\c.cell? ⟨w.heap.size,4,none⟩=some (Vi j))->c.cell? ⟨w.heap.size+1,4,none⟩=some (Vi a.lo):=fun c h=>h.1.cells.2.2.2.2.1
 have x5:∀c,(Vb c (w.heap.size+1) a/\Vb c (w.heap.size+1+1) b/\c.cell? ⟨w.heap.size,4,none⟩=some (Vi j))->c.cell? ⟨w.heap.size+1,5,none⟩=some (Vi a.hi):=fun c h=>h.1.cells.2.2.2.2.2
 have y0:∀c,(Vb c (w.heap.size+1) a/\Vb c (w.heap.size+1+1) b/\c.cell? ⟨w.heap.size,4,none⟩=some (Vi j))->c.cell? ⟨w.heap.size+1+1,0,none⟩=some (Vi b.k):=fun c h=>h.2.1.cells.1
 have y1:∀c,(Vb c (w.heap.size+1) a/\Vb c (w.heap.size+1+1) b/\c.cell? ⟨w.heap.size,4,none⟩=some (Vi j))->c.cell? ⟨w.heap.size+1+1,1,none⟩=some (.bool b.s):=fun c h=>h.2.1.cells.2.1
 have y2:∀c,(Vb c (w.heap.size+1) a/\Vb c (w.heap.size+1+1) b/\c.cell? ⟨w.heap.size,4,none⟩=some (Vi j))->c.cell? ⟨w.heap.size+1+1,2,none⟩=some (Vi b.m):=fun c h=>h.2.1.cells.2.2.1
 have y3:∀c,(Vb c (w.heap.size+1) a/\Vb c (w.heap.size+1+1) b/\c.cell? ⟨w.heap.size,4,none⟩=some (Vi j))->c.cell? ⟨w.heap.size+1+1,3,none⟩=some (Vi b.h):=fun c h=>h.2.1.cells.2.2.2.1
 have y4:∀c,(Vb c (w.heap.size+1) a/\Vb c (w.heap.size+1+1) b/\c.cell? ⟨w.heap.size,4,none⟩=some (Vi j))->c.cell? ⟨w.heap.size+1+1,4,none⟩=some (Vi b.lo):=fun c h=>h.2.1.cells.2.2.2.2.1
 have y5:∀c,(Vb c (w.heap.size+1) a/\Vb c (w.heap.size+1+1) b/\c.cell? ⟨w.heap.size,4,none⟩=some (Vi j))->c.cell? ⟨w.heap.size+1+1,5,none⟩=some (Vi b.hi):=fun c h=>h.2.1.cells.2.2.2.2.2
 obtain⟨u1,hd,n⟩:∃v,u0.drew=v/\Bw u0 v:=⟨_,rfl,Al.drew⟩
 have P1:=hxy (P0.below n);have aa:=P1.S;refine wp_region_held_drew (S:=fun c=>Vb c (w.heap.size+1) a/\Vb c (w.heap.size+1+1) b/\c.cell? ⟨w.heap.size,4,none⟩=some (Vi j)) Ab (by rw[hd];exact aa) (fun _=>?_);rw[hd];clear hd n;refine lM [0,1,3] ?_;refine AO 2 rfl (fun o l=>?_);go_simp;refine(Cz a.k a.s a.m a.h a.lo a.hi _).mono ?_;rintro e u2⟨rfl,n⟩;have P2:=hxy (P1.below n);clear n;go_wp2_with fail;refine l.out _ _ P2.S (fun ac=>?_);clear l o;try go_frame
 refine AO 4 rfl (fun o l=>?_);go_simp;refine(Cz b.k b.s b.m b.h b.lo b.hi _).mono ?_;rintro e u3⟨rfl,n⟩;have F:=hxy (P2.below n);clear n;go_wp2_with fail;refine l.out _ _ F.S (fun ad=>?_);clear l o;try go_frame
 refine AO 5 rfl (fun o l=>?_)
 go_simp
 refine(LZ (Au a) (Au b) _).mono ?_
 rintro e c⟨rfl,hw⟩
 rw[hw]
 clear hw
 go_wp2_with fail
 refine l.out _ _ F.S (fun ab=>?_)
 clear l o
 try go_frame
 refine AO 6 rfl (fun o l=>?_)
 go_simp
 refine(Av s (En (Au a) (Au b)) _).mono ?_
 rintro e u4⟨rfl,n⟩
 have p:=hxy (F.below n)
 clear n
 simp only[VV.v]
 go_wp2_with fail
 refine l.out _ _ p.S (fun ae=>?_)
 clear l o
 try go_frame
 obtain⟨⟨i0,i1,i2,i3,r,i5⟩,⟨I,J,K,L,M,N⟩,⟨Q,U,X,Y,Z,b5⟩,⟨u,x,y,C,D,E⟩,rf,rl,O⟩:=p.al
 refine AO 7 rfl (fun o l=>?_)
 go_simp
 change o _ (Im u4 (w.heap.size+1+1+1) (BH s (En (Au a) (Au b))))
 obtain⟨z,hz,q,vz,va,vb,vi⟩:∃v,Im u4 (w.heap.size+1+1+1) (BH s (En (Au a) (Au b)))=v/\Bw w v/\Vb v (w.heap.size+1+1+1) (BH s (En (Au a) (Au b)))/\Vb v (w.heap.size+1) a/\Vb v (w.heap.size+1+1) b/\v.cell? ⟨w.heap.size,4,none⟩=some (Vi j):=⟨_,rfl,Ap p.bel p.oR _,Mh p.R _,Ip p.A _ AB,Ip p.B _ AB,by rw[<-r];exact JH AB⟩
 rw[hz]
 refine l.out _ _ ⟨va,vb,vi⟩ (fun _=>?_)
 clear l o hz
 refine wpAnyH_done Ab ?_ _
 clear i0 i1 i2 i3 r i5 I J K L M N Q U X Y Z b5 u x y C D E rf rl O
 obtain⟨u,x,y,C,D,E⟩:=vz.cells
 have HB:=hxy q
 clear q vz va vb vi sa x0 x1 x2 x3 x4 x5 y0 y1 y2 y3 y4 y5
 go_wp2
 exact bodyPost_ret (v:=VV.v (BH s (En (Au a) (Au b)))) (by simp[results,Tryz.results156,go_sem,VV.v, *]) rfl ⟨congrArg (fun v=>Ending.returned (VV.v v)) (by simp[Cr]),HB⟩
theorem Sq(d ra rb j h:Int)(a b:VV)(s:Bool)(w:World):
 Calls Tryz.prog 156 #[.agg #[Vi 11,Vi d,Vi ra,Vi rb,Vi j,Vi h],.agg #[Vi a.k,.bool a.s,Vi a.m,Vi a.h,Vi a.lo,Vi a.hi],.agg #[Vi b.k,.bool b.s,Vi b.m,Vi b.h,Vi b.lo,Vi b.hi],.bool s] w fun e c=>e=.returned (Cr 11 j a b s).v/\Below w.heap.size w c:=by
 go_enter Tryz.func156,Tryz.ntmps156;go_upto_region 1 with fail;obtain⟨u0,hu,pu⟩:=Dq w (op:=11) (d:=d) (ra:=ra) (rb:=rb) (imm:=j) (h:=h) a b;rw[hu];have P0:=hxy pu;clear hu pu;obtain⟨⟨i0,i1,i2,i3,r,i5⟩,⟨I,J,K,L,M,N⟩,⟨Q,U,X,Y,Z,b5⟩,⟨u,x,y,C,D,E⟩,rf,rl,O⟩:=P0.al;go_upto_region 28 with fail;clear i0 i1 i2 i3 r i5 I J K L M N Q U X Y Z b5 u x y C D E rf rl O;have sa:∀c,(Vb c (w.heap.size+1) a/\Vb c (w.heap.size+1+1) b/\c.cell? ⟨w.heap.size,4,none⟩=some (Vi j))->c.cell? ⟨w.heap.size,4,none⟩=some (Vi j):=fun c h=>h.2.2
 have x0:∀c,(Vb c (w.heap.size+1) a/\Vb c (w.heap.size+1+1) b/\c.cell? ⟨w.heap.size,4,none⟩=some (Vi j))->c.cell? ⟨w.heap.size+1,0,none⟩=some (Vi a.k):=fun c h=>h.1.cells.1
 have x1:∀c,(Vb c (w.heap.size+1) a/\Vb c (w.heap.size+1+1) b/\c.cell? ⟨w.heap.size,4,none⟩=some (Vi j))->c.cell? ⟨w.heap.size+1,1,none⟩=some (.bool a.s):=fun c h=>h.1.cells.2.1
 have x2:∀c,(Vb c (w.heap.size+1) a/\Vb c (w.heap.size+1+1) b/\c.cell? ⟨w.heap.size,4,none⟩=some (Vi j))->c.cell? ⟨w.heap.size+1,2,none⟩=some (Vi a.m):=fun c h=>h.1.cells.2.2.1
 have x3:∀c,(Vb c (w.heap.size+1) a/\Vb c (w.heap.size+1+1) b/\c.cell? ⟨w.heap.size,4,none⟩=some (Vi j))->c.cell? ⟨w.heap.size+1,3,none⟩=some (Vi a.h):=fun c h=>h.1.cells.2.2.2.1
 have x4:∀c,(Vb c (w.heap.size+1) a/\Vb c (w.heap.size+1+1) b/\c.cell? ⟨w.heap.size,4,none⟩=some (Vi j))->c.cell? ⟨w.heap.size+1,4,none⟩=some (Vi a.lo):=fun c h=>h.1.cells.2.2.2.2.1
 have x5:∀c,(Vb c (w.heap.size+1) a/\Vb c (w.heap.size+1+1) b/\c.cell? ⟨w.heap.size,4,none⟩=some (Vi j))->c.cell? ⟨w.heap.size+1,5,none⟩=some (Vi a.hi):=fun c h=>h.1.cells.2.2.2.2.2
 have y0:∀c,(Vb c (w.heap.size+1) a/\Vb c (w.heap.size+1+1) b/\c.cell? ⟨w.heap.size,4,none⟩=some (Vi j))->c.cell? ⟨w.heap.size+1+1,0,none⟩=some (Vi b.k):=fun c h=>h.2.1.cells.1
 have y1:∀c,(Vb c (w.heap.size+1) a/\Vb c (w.heap.size+1+1) b/\c.cell? ⟨w.heap.size,4,none⟩=some (Vi j))->c.cell? ⟨w.heap.size+1+1,1,none⟩=some (.bool b.s):=fun c h=>h.2.1.cells.2.1
 have y2:∀c,(Vb c (w.heap.size+1) a/\Vb c (w.heap.size+1+1) b/\c.cell? ⟨w.heap.size,4,none⟩=some (Vi j))->c.cell? ⟨w.heap.size+1+1,2,none⟩=some (Vi b.m):=fun c h=>h.2.1.cells.2.2.1
 have y3:∀c,(Vb c (w.heap.size+1) a/\Vb c (w.heap.size+1+1) b/\c.cell? ⟨w.heap.size,4,none⟩=some (Vi j))->c.cell? ⟨w.heap.size+1+1,3,none⟩=some (Vi b.h):=fun c h=>h.2.1.cells.2.2.2.1
 have y4:∀c,(Vb c (w.heap.size+1) a/\Vb c (w.heap.size+1+1) b/\c.cell? ⟨w.heap.size,4,none⟩=some (Vi j))->c.cell? ⟨w.heap.size+1+1,4,none⟩=some (Vi b.lo):=fun c h=>h.2.1.cells.2.2.2.2.1
 have y5:∀c,(Vb c (w.heap.size+1) a/\Vb c (w.heap.size+1+1) b/\c.cell? ⟨w.heap.size,4,none⟩=some (Vi j))->c.cell? ⟨w.heap.size+1+1,5,none⟩=some (Vi b.hi):=fun c h=>h.2.1.cells.2.2.2.2.2
 obtain⟨u1,hd,o⟩:∃v,u0.drew=v/\Bw u0 v:=⟨_,rfl,Al.drew⟩
 have P1:=hxy (P0.below o);have aa:=P1.S;refine wp_region_held_drew (S:=fun c=>Vb c (w.heap.size+1) a/\Vb c (w.heap.size+1+1) b/\c.cell? ⟨w.heap.size,4,none⟩=some (Vi j)) Ab (by rw[hd];exact aa) (fun _=>?_);rw[hd];clear hd o;refine lM [0,1,2,3] ?_;refine AO 4 rfl (fun n l=>?_);go_simp;refine(Cz a.k a.s a.m a.h a.lo a.hi _).mono ?_;rintro e u2⟨rfl,o⟩;have F:=hxy (P1.below o);clear o;go_wp2_with fail;refine l.out _ _ F.S (fun ac=>?_);clear l n;try go_frame
 refine AO 5 rfl (fun n l=>?_);go_simp;refine(LZ j (Au a) _).mono ?_;rintro e c⟨rfl,hw⟩;rw[hw];clear hw;go_wp2_with fail;refine l.out _ _ F.S (fun ab=>?_);clear l n;try go_frame
 refine AO 6 rfl (fun n l=>?_)
 go_simp
 refine(Av s (En j (Au a)) _).mono ?_
 rintro e u3⟨rfl,o⟩
 have p:=hxy (F.below o)
 clear o
 simp only[VV.v]
 go_wp2_with fail
 refine l.out _ _ p.S (fun ad=>?_)
 clear l n
 try go_frame
 obtain⟨⟨i0,i1,i2,i3,r,i5⟩,⟨I,J,K,L,M,N⟩,⟨Q,U,X,Y,Z,b5⟩,⟨u,x,y,C,D,E⟩,rf,rl,O⟩:=p.al
 refine AO 7 rfl (fun n l=>?_)
 go_simp
 change n _ (Im u3 (w.heap.size+1+1+1) (BH s (En j (Au a))))
 obtain⟨z,hz,q,vz,va,vb,vi⟩:∃v,Im u3 (w.heap.size+1+1+1) (BH s (En j (Au a)))=v/\Bw w v/\Vb v (w.heap.size+1+1+1) (BH s (En j (Au a)))/\Vb v (w.heap.size+1) a/\Vb v (w.heap.size+1+1) b/\v.cell? ⟨w.heap.size,4,none⟩=some (Vi j):=⟨_,rfl,Ap p.bel p.oR _,Mh p.R _,Ip p.A _ AB,Ip p.B _ AB,by rw[<-r];exact JH AB⟩
 rw[hz]
 refine l.out _ _ ⟨va,vb,vi⟩ (fun _=>?_)
 clear l n hz
 refine wpAnyH_done Ab ?_ _
 clear i0 i1 i2 i3 r i5 I J K L M N Q U X Y Z b5 u x y C D E rf rl O
 obtain⟨u,x,y,C,D,E⟩:=vz.cells
 have HB:=hxy q
 clear q vz va vb vi sa x0 x1 x2 x3 x4 x5 y0 y1 y2 y3 y4 y5
 go_wp2
 exact bodyPost_ret (v:=VV.v (BH s (En j (Au a)))) (by simp[results,Tryz.results156,go_sem,VV.v, *]) rfl ⟨congrArg (fun v=>Ending.returned (VV.v v)) (by simp[Cr]),HB⟩
end Go.Proofs.YtkckomianknjdaaGreat
