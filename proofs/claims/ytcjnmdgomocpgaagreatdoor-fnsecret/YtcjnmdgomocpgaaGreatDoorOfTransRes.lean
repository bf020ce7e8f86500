import Derived.Test.YtcjnmdgomocpgaaGreatDoorOfTransResA
set_option maxHeartbeats 40000000
set_option maxRecDepth 20000
namespace Go.Proofs.YtcjnmdgomocpgaaGreatDoor
open Go.RowKit
theorem Ou(l d p q c h:Int)(a b:VV)(s:Bool)(w:World)(z:Bd a)(j:Bd b)(o:l=3∨l=14):
 Ks 105 #[.agg #[Vi l,Vi d,Vi p,Vi q,Vi c,Vi h],.agg #[Vi a.k,.bool a.s,Vi a.m,Vi a.h,Vi a.lo,Vi a.hi],.agg #[Vi b.k,.bool b.s,Vi b.m,Vi b.h,Vi b.lo,Vi b.hi],.bool s] w fun e A=>e=.returned (CQ l c a b s).v/\Below w.heap.size w A:=by
 rcases o with rfl|rfl;all_goals(
  go_enter Tryz.func105,Tryz.ntmps105;go_upto_region 1 with fail;obtain⟨u0,u,y⟩:=El w (d:=d) (ra:=p) (rb:=q) (imm:=c) (h:=h) a b;rw[u];have r:=EO y;clear u y;have x:=r.al;go_wp2_with fail;refine(Yp a b _ z j).mono ?_;rintro e u1⟨rfl,j⟩;have n:=EO (r.below j);clear j;clear x;simp only[VV.v];have x:=n.al;go_wp2;exact mY (VV.v (Mg a b)) (by simp[results,Tryz.results105,go_sem,VV.v, *]) ⟨congrArg (fun v=>Ending.returned (VV.v v)) (by simp[CQ]),Ag n.bel n.oR (Mg a b)⟩)
theorem Pe(j d o p c h:Int)(a b:VV)(s:Bool)(w:World)(n:j=4∨j=16):
 Ks 105 #[.agg #[Vi j,Vi d,Vi o,Vi p,Vi c,Vi h],.agg #[Vi a.k,.bool a.s,Vi a.m,Vi a.h,Vi a.lo,Vi a.hi],.agg #[Vi b.k,.bool b.s,Vi b.m,Vi b.h,Vi b.lo,Vi b.hi],.bool s] w fun e z=>e=.returned (CQ j c a b s).v/\Below w.heap.size w z:=by
 rcases n with rfl|rfl;all_goals(
  go_enter Tryz.func105,Tryz.ntmps105;go_upto_region 1 with fail;obtain⟨u0,u,y⟩:=El w (d:=d) (ra:=o) (rb:=p) (imm:=c) (h:=h) a b;rw[u];have q:=EO y;clear u y;have x:=q.al;go_wp2_with fail;refine(BN s (-1) _).mono ?_;rintro e u1⟨rfl,r⟩;have l:=EO (q.below r);clear r;clear x;simp only[VV.v];have x:=l.al;go_wp2;exact mY (VV.v (Al s (-1))) (by simp[results,Tryz.results105,go_sem,VV.v, *]) ⟨congrArg (fun v=>Ending.returned (VV.v v)) (by simp[CQ]),Ag l.bel l.oR (Al s (-1))⟩)
theorem Vw(d o p c h:Int)(a b:VV)(s:Bool)(w:World):
 Ks 105 #[.agg #[Vi 9,Vi d,Vi o,Vi p,Vi c,Vi h],.agg #[Vi a.k,.bool a.s,Vi a.m,Vi a.h,Vi a.lo,Vi a.hi],.agg #[Vi b.k,.bool b.s,Vi b.m,Vi b.h,Vi b.lo,Vi b.hi],.bool s] w fun e y=>e=.returned (CQ 9 c a b s).v/\Below w.heap.size w y:=by
 go_enter Tryz.func105,Tryz.ntmps105;go_upto_region 1 with fail;obtain⟨u0,u,x⟩:=El w (op:=9) (d:=d) (ra:=o) (rb:=p) (imm:=c) (h:=h) a b;rw[u];have q:=hxy x;clear u x;have l:=q.al;go_wp2_with fail;refine(DI a.k a.s a.m a.h a.lo a.hi _).mono ?_;rintro e u1⟨rfl,j⟩;have r:=hxy (q.below j);clear j;clear l;have l:=r.al;go_wp2_with fail;refine(BN s (AZ a) _).mono ?_;rintro e u2⟨rfl,j⟩;have n:=hxy (r.below j);clear j;clear l;simp only[VV.v];have l:=n.al;go_wp2;exact mY (VV.v (Al s (AZ a))) (by simp[results,Tryz.results105,go_sem,VV.v, *]) ⟨congrArg (fun v=>Ending.returned (VV.v v)) (by simp[CQ]),Ag n.bel n.oR (Al s (AZ a))⟩
theorem Vt(d u x j h:Int)(a b:VV)(s:Bool)(w:World)(D:Bd a)(c:Bd b):
 Ks 105 #[.agg #[Vi 5,Vi d,Vi u,Vi x,Vi j,Vi h],.agg #[Vi a.k,.bool a.s,Vi a.m,Vi a.h,Vi a.lo,Vi a.hi],.agg #[Vi b.k,.bool b.s,Vi b.m,Vi b.h,Vi b.lo,Vi b.hi],.bool s] w fun e C=>e=.returned (CQ 5 j a b s).v/\Below w.heap.size w C:=by
 go_enter Tryz.func105,Tryz.ntmps105;go_upto_region 1 with fail;obtain⟨u0,z,B⟩:=El w (op:=5) (d:=d) (ra:=u) (rb:=x) (imm:=j) (h:=h) a b;rw[z];have y:=hxy B;clear z B;have o:=y.al;go_wp2_with fail;refine(Kk a.k a.s a.m a.h a.lo a.hi b.k b.s b.m b.h b.lo b.hi _).mono ?_;rintro e u1⟨rfl,c⟩;have r:=hxy (y.below c);clear c;clear o;have o:=r.al;by_cases l:0<=AZ a/\0<=AZ b
 ·have p:decide (0<=AZ a/\0<=AZ b)=true:=by simp[l]
  obtain⟨E,F⟩:=Qa l.1 D;obtain⟨I,J⟩:=Qa l.2 c;have q:=hxy l;clear l;rw[show decide (0<=AZ ⟨a.k,a.s,a.m,a.h,a.lo,a.hi⟩/\0<=AZ ⟨b.k,b.s,b.m,b.h,b.lo,b.hi⟩)=true from p];clear p;go_wp2_with fail;refine(NI a.m b.m _ E F I J).mono ?_;rintro e C⟨rfl,A⟩;rw[A];clear A;go_wp2_with fail;refine(BN s (Dk a.m b.m) _).mono ?_;rintro e u2⟨rfl,c⟩;have n:=hxy (r.below c);clear c;clear o;simp only[VV.v];have o:=n.al;go_wp2;exact mY (VV.v (Al s (Dk a.m b.m))) (by simp[results,Tryz.results105,go_sem,VV.v, *]) ⟨congrArg (fun v=>Ending.returned (VV.v v)) (by simp[CQ,q.out]),Ag n.bel n.oR (Al s (Dk a.m b.m))⟩
 ·have p:decide (0<=AZ a/\0<=AZ b)=false:=by simp only[decide_eq_false_iff_not];exact l
  have q:=hxy l;clear l;rw[show decide (0<=AZ ⟨a.k,a.s,a.m,a.h,a.lo,a.hi⟩/\0<=AZ ⟨b.k,b.s,b.m,b.h,b.lo,b.hi⟩)=false from p];clear p;go_wp2_with fail;refine(BN s (-1) _).mono ?_;rintro e u2⟨rfl,c⟩;have n:=hxy (r.below c);clear c;clear o;simp only[VV.v];have o:=n.al;go_wp2;exact mY (VV.v (Al s (-1))) (by simp[results,Tryz.results105,go_sem,VV.v, *]) ⟨congrArg (fun v=>Ending.returned (VV.v v)) (by simp only[CQ,if_neg q.out];simp),Ag n.bel n.oR (Al s (-1))⟩
theorem OC(r d z A j h:Int)(a b:VV)(s:Bool)(w:World)(F:Bd a)(c:Bd b)(y:r=7∨r=8):
 Ks 105 #[.agg #[Vi r,Vi d,Vi z,Vi A,Vi j,Vi h],.agg #[Vi a.k,.bool a.s,Vi a.m,Vi a.h,Vi a.lo,Vi a.hi],.agg #[Vi b.k,.bool b.s,Vi b.m,Vi b.h,Vi b.lo,Vi b.hi],.bool s] w fun e B=>e=.returned (CQ r j a b s).v/\Below w.heap.size w B:=by
 rcases y with rfl|rfl;all_goals(
  go_enter Tryz.func105,Tryz.ntmps105;go_upto_region 1 with fail;obtain⟨u0,D,E⟩:=El w (d:=d) (ra:=z) (rb:=A) (imm:=j) (h:=h) a b;rw[D];have C:=EO E;clear D E;have o:=C.al;go_wp2_with fail;refine(Kk a.k a.s a.m a.h a.lo a.hi b.k b.s b.m b.h b.lo b.hi _).mono ?_;rintro e u1⟨rfl,c⟩;have x:=EO (C.below c);clear c;clear o;have o:=x.al;by_cases l:0<=AZ a/\0<=AZ b
  ·have p:decide (0<=AZ a/\0<=AZ b)=true:=by simp[l]
   obtain⟨I,J⟩:=Qa l.1 F;obtain⟨K,L⟩:=Qa l.2 c;have u:=hxy l;clear l;rw[show decide (0<=AZ ⟨a.k,a.s,a.m,a.h,a.lo,a.hi⟩/\0<=AZ ⟨b.k,b.s,b.m,b.h,b.lo,b.hi⟩)=true from p];clear p;go_wp2_with fail;refine(SH a.m b.m _).mono ?_;rintro e B⟨rfl,q⟩;rw[q];clear q;go_wp2_with fail;refine(Wj (Ic a.m b.m) _ (by unfold Ic;split<;>omega) (by unfold Ic;split<;>omega)).mono ?_;rintro e B⟨rfl,q⟩;rw[q];clear q;go_wp2_with fail;refine(BN s (IY (Ic a.m b.m)) _).mono ?_;rintro e u2⟨rfl,c⟩;have n:=EO (x.below c);clear c;clear o;simp only[VV.v];have o:=n.al;go_wp2;exact mY (VV.v (Al s (IY (Ic a.m b.m)))) (by simp[results,Tryz.results105,go_sem,VV.v, *]) ⟨congrArg (fun v=>Ending.returned (VV.v v)) (by simp[CQ,u.out]),Ag n.bel n.oR (Al s (IY (Ic a.m b.m)))⟩
  ·have p:decide (0<=AZ a/\0<=AZ b)=false:=by simp only[decide_eq_false_iff_not];exact l
   have u:=hxy l;clear l;rw[show decide (0<=AZ ⟨a.k,a.s,a.m,a.h,a.lo,a.hi⟩/\0<=AZ ⟨b.k,b.s,b.m,b.h,b.lo,b.hi⟩)=false from p];clear p;go_wp2_with fail;refine(BN s (-1) _).mono ?_;rintro e u2⟨rfl,c⟩;have n:=EO (x.below c);clear c;clear o;simp only[VV.v];have o:=n.al;go_wp2;exact mY (VV.v (Al s (-1))) (by simp[results,Tryz.results105,go_sem,VV.v, *]) ⟨congrArg (fun v=>Ending.returned (VV.v v)) (by simp only[CQ,if_neg u.out];simp),Ag n.bel n.oR (Al s (-1))⟩)
theorem Ui(d u x j h:Int)(a b:VV)(s:Bool)(w:World)(B:Bd a)(c:Bd b):
 Ks 105 #[.agg #[Vi 15,Vi d,Vi u,Vi x,Vi j,Vi h],.agg #[Vi a.k,.bool a.s,Vi a.m,Vi a.h,Vi a.lo,Vi a.hi],.agg #[Vi b.k,.bool b.s,Vi b.m,Vi b.h,Vi b.lo,Vi b.hi],.bool s] w fun e C=>e=.returned (CQ 15 j a b s).v/\Below w.heap.size w C:=by
 go_enter Tryz.func105,Tryz.ntmps105;go_upto_region 1 with fail;obtain⟨u0,z,A⟩:=El w (op:=15) (d:=d) (ra:=u) (rb:=x) (imm:=j) (h:=h) a b;rw[z];have y:=hxy A;clear z A;have o:=y.al;go_wp2_with fail;refine(Kk a.k a.s a.m a.h a.lo a.hi b.k b.s b.m b.h b.lo b.hi _).mono ?_;rintro e u1⟨rfl,c⟩;have r:=hxy (y.below c);clear c;clear o;have o:=r.al;by_cases l:0<=AZ a/\0<=AZ b
 ·have p:decide (0<=AZ a/\0<=AZ b)=true:=by simp[l]
  obtain⟨D,E⟩:=Qa l.1 B;obtain⟨F,I⟩:=Qa l.2 c;have q:=hxy l;clear l;rw[show decide (0<=AZ ⟨a.k,a.s,a.m,a.h,a.lo,a.hi⟩/\0<=AZ ⟨b.k,b.s,b.m,b.h,b.lo,b.hi⟩)=true from p];clear p;go_wp2_with fail;refine(BN s (a.m+b.m+1) _).mono ?_;rintro e u2⟨rfl,c⟩;have n:=hxy (r.below c);clear c;clear o;simp only[VV.v];have o:=n.al;go_wp2;exact mY (VV.v (Al s (a.m+b.m+1))) (by simp[results,Tryz.results105,go_sem,VV.v, *]) ⟨congrArg (fun v=>Ending.returned (VV.v v)) (by simp[CQ,q.out]),Ag n.bel n.oR (Al s (a.m+b.m+1))⟩
 ·have p:decide (0<=AZ a/\0<=AZ b)=false:=by simp only[decide_eq_false_iff_not];exact l
  have q:=hxy l;clear l;rw[show decide (0<=AZ ⟨a.k,a.s,a.m,a.h,a.lo,a.hi⟩/\0<=AZ ⟨b.k,b.s,b.m,b.h,b.lo,b.hi⟩)=false from p];clear p;go_wp2_with fail;refine(BN s (-1) _).mono ?_;rintro e u2⟨rfl,c⟩;have n:=hxy (r.below c);clear c;clear o;simp only[VV.v];have o:=n.al;go_wp2;exact mY (VV.v (Al s (-1))) (by simp[results,Tryz.results105,go_sem,VV.v, *]) ⟨congrArg (fun v=>Ending.returned (VV.v v)) (by simp only[CQ,if_neg q.out];simp),Ag n.bel n.oR (Al s (-1))⟩
theorem WZ(d ra rb j h:Int)(a b:VV)(s:Bool)(w:World):
 Ks 105 #[.agg #[Vi 6,Vi d,Vi ra,Vi rb,Vi j,Vi h],.agg #[Vi a.k,.bool a.s,Vi a.m,Vi a.h,Vi a.lo,Vi a.hi],.agg #[Vi b.k,.bool b.s,Vi b.m,Vi b.h,Vi b.lo,Vi b.hi],.bool s] w fun e c=>e=.returned (CQ 6 j a b s).v/\Below w.heap.size w c:=by
 go_enter Tryz.func105,Tryz.ntmps105;go_upto_region 1 with fail;obtain⟨u0,hu,pu⟩:=El w (op:=6) (d:=d) (ra:=ra) (rb:=rb) (imm:=j) (h:=h) a b;rw[hu];have P0:=hxy pu;clear hu pu;obtain⟨⟨i0,i1,i2,i3,r,i5⟩,⟨I,J,K,L,M,N⟩,⟨Q,U,X,Y,Z,b5⟩,⟨u,x,y,C,D,E⟩,rf,rl,O⟩:=P0.al;go_upto_region 13 with fail;clear i0 i1 i2 i3 r i5 I J K L M N Q U X Y Z b5 u x y C D E rf rl O;have sa:∀c,(Vb c (w.heap.size+1) a/\Vb c (w.heap.size+1+1) b/\c.cell? ⟨w.heap.size,4,none⟩=some (Vi j))->c.cell? ⟨w.heap.size,4,none⟩=some (Vi j):=fun c h=>h.2.2
 have x0:∀c,(Vb c (w.heap.size+1) a/\Vb c (w.heap.size+1+1) b/\c.cell? ⟨w.heap.size,4,none⟩=some (Vi j))->c.cell? ⟨w.heap.size+1,0,none⟩=some (Vi a.k):=fun c h=>h.1.cells.1
 have x1:∀c,(Vb c (w.heap.size+1) a/\Vb c (w.heap.size+1+1) b/\c.cell? ⟨w.heap.size,4,none⟩=some (Vi j))->c.cell? ⟨w.heap.size+1,1,none⟩=some (.bool a.s):=fun c h=>h.1.cells.2.1
 have x2:∀c,(Vb c (w.heap.size+1) a/\Vb c (w.heap.size+1+1) b/\c.cell? ⟨w.heap.size,4,none⟩=some (Vi j))->c.cell? ⟨w.heap.size+1,2,none⟩=some (Vi a.m):=fun c h=>h.1.cells.2.2.1
 have x3:∀c,(Vb c (w.heap.size+1) a/\Vb c (w.heap.size+1+1) b/\c.cell? ⟨w.heap.size,4,none⟩=some (Vi j))->c.cell? ⟨w.heap.size+1,3,none⟩=some (Vi a.h):=fun c h=>h.1.cells.2.2.2.1
 have x4:∀c,(Vb c (w.heap.size+1) a/\Vb c (w.heap.size+1+1) b/\c.cell? ⟨w.heap.size,4,none⟩=some (Vi j))->c.cell? ⟨w.heap.size+1,4,none⟩=some (Vi a.lo):=fun c h=>h.1.cells.2.2.2.2.1
 have x5:∀c,(Vb c (w.heap.size+1) a/\Vb c (w.heap.size+1+1) b/\c.cell? ⟨w.heap.size,4,none⟩=some (Vi j))->c.cell? ⟨w.heap.size+1,5,none⟩=some (Vi a.hi):=fun c h=>h.1.cells.2.2.2.2.2
 have y0:∀c,(Vb c (w.heap.size+1) a/\Vb c (w.heap.size+1+1) b/\c.cell? ⟨w.heap.size,4,none⟩=some (Vi j))->c.cell? ⟨w.heap.size+1+1,0,none⟩=some (Vi b.k):=fun c h=>h.2.1.cells.1
 have y1:∀c,(Vb c (w.heap.size+1) a/\Vb c (w.heap.size+1+1) b/\c.cell? ⟨w.heap.size,4,none⟩=some (Vi j))->c.cell? ⟨w.heap.size+1+1,1,none⟩=some (.bool b.s):=fun c h=>h.2.1.cells.2.1
 have y2:∀c,(Vb c (w.heap.size+1) a/\Vb c (w.heap.size+1+1) b/\c.cell? ⟨w.heap.size,4,none⟩=some (Vi j))->c.cell? ⟨w.heap.size+1+1,2,none⟩=some (Vi b.m):=fun c h=>h.2.1.cells.2.2.1
 have y3:∀c,(Vb c (w.heap.size+1) a/\Vb c (w.heap.size+1+1) b/\c.cell? ⟨w.heap.size,4,none⟩=some (Vi j))->c.cell? ⟨w.heap.size+1+1,3,none⟩=some (Vi b.h):=fun c h=>h.2.1.cells.2.2.2.1
 have y4:∀c,(Vb c (w.heap.size+1) a/\Vb c (w.heap.size+1+1) b/\c.cell? ⟨w.heap.size,4,none⟩=some (Vi j))->c.cell? ⟨w.heap.size+1+1,4,none⟩=some (Vi b.lo):=fun c h=>h.2.1.cells.2.2.2.2.1
 have y5:∀c,(Vb c (w.heap.size+1) a/\Vb c (w.heap.size+1+1) b/\c.cell? ⟨w.heap.size,4,none⟩=some (Vi j))->c.cell? ⟨w.heap.size+1+1,5,none⟩=some (Vi b.hi):=fun c h=>h.2.1.cells.2.2.2.2.2
 obtain⟨u1,hd,n⟩:∃v,u0.drew=v/\Bw u0 v:=⟨_,rfl,BJ.drew⟩
 have P1:=hxy (P0.below n);have aa:=P1.S;refine wp_region_held_drew (S:=fun c=>Vb c (w.heap.size+1) a/\Vb c (w.heap.size+1+1) b/\c.cell? ⟨w.heap.size,4,none⟩=some (Vi j)) AV (by rw[hd];exact aa) (fun _=>?_);rw[hd];clear hd n;refine EX [0,1,3] ?_;refine AO 2 rfl (fun o l=>?_);go_simp;refine(DI a.k a.s a.m a.h a.lo a.hi _).mono ?_;rintro e u2⟨rfl,n⟩;have P2:=hxy (P1.below n);clear n;go_wp2_with fail;refine l.out _ _ P2.S (fun ac=>?_);clear l o;try go_frame
 refine AO 4 rfl (fun o l=>?_);go_simp;refine(DI b.k b.s b.m b.h b.lo b.hi _).mono ?_;rintro e u3⟨rfl,n⟩;have F:=hxy (P2.below n);clear n;go_wp2_with fail;refine l.out _ _ F.S (fun ad=>?_);clear l o;try go_frame
 refine AO 5 rfl (fun o l=>?_)
 go_simp
 refine(NG (AZ a) (AZ b) _).mono ?_
 rintro e c⟨rfl,hw⟩
 rw[hw]
 clear hw
 go_wp2_with fail
 refine l.out _ _ F.S (fun ab=>?_)
 clear l o
 try go_frame
 refine AO 6 rfl (fun o l=>?_)
 go_simp
 refine(BN s (Dj (AZ a) (AZ b)) _).mono ?_
 rintro e u4⟨rfl,n⟩
 have p:=hxy (F.below n)
 clear n
 simp only[VV.v]
 go_wp2_with fail
 refine l.out _ _ p.S (fun ae=>?_)
 clear l o
 try go_frame
 obtain⟨⟨i0,i1,i2,i3,r,i5⟩,⟨I,J,K,L,M,N⟩,⟨Q,U,X,Y,Z,b5⟩,⟨u,x,y,C,D,E⟩,rf,rl,O⟩:=p.al
 refine AO 7 rfl (fun o l=>?_)
 go_simp
 change o _ (Iy u4 (w.heap.size+1+1+1) (Al s (Dj (AZ a) (AZ b))))
 obtain⟨z,hz,q,vz,va,vb,vi⟩:∃v,Iy u4 (w.heap.size+1+1+1) (Al s (Dj (AZ a) (AZ b)))=v/\Bw w v/\Vb v (w.heap.size+1+1+1) (Al s (Dj (AZ a) (AZ b)))/\Vb v (w.heap.size+1) a/\Vb v (w.heap.size+1+1) b/\v.cell? ⟨w.heap.size,4,none⟩=some (Vi j):=⟨_,rfl,Ag p.bel p.oR _,OB p.R _,Jo p.A _ AB,Jo p.B _ AB,by rw[<-r];exact J9 AB⟩
 rw[hz]
 refine l.out _ _ ⟨va,vb,vi⟩ (fun _=>?_)
 clear l o hz
 refine wpAnyH_done AV ?_ _
 clear i0 i1 i2 i3 r i5 I J K L M N Q U X Y Z b5 u x y C D E rf rl O
 obtain⟨u,x,y,C,D,E⟩:=vz.cells
 have HB:=hxy q
 clear q vz va vb vi sa x0 x1 x2 x3 x4 x5 y0 y1 y2 y3 y4 y5
 go_wp2
 exact mY (VV.v (Al s (Dj (AZ a) (AZ b)))) (by simp[results,Tryz.results105,go_sem,VV.v, *]) ⟨congrArg (fun v=>Ending.returned (VV.v v)) (by simp[CQ]),HB⟩
theorem Uo(d ra rb j h:Int)(a b:VV)(s:Bool)(w:World):
 Ks 105 #[.agg #[Vi 11,Vi d,Vi ra,Vi rb,Vi j,Vi h],.agg #[Vi a.k,.bool a.s,Vi a.m,Vi a.h,Vi a.lo,Vi a.hi],.agg #[Vi b.k,.bool b.s,Vi b.m,Vi b.h,Vi b.lo,Vi b.hi],.bool s] w fun e c=>e=.returned (CQ 11 j a b s).v/\Below w.heap.size w c:=by
 go_enter Tryz.func105,Tryz.ntmps105;go_upto_region 1 with fail;obtain⟨u0,hu,pu⟩:=El w (op:=11) (d:=d) (ra:=ra) (rb:=rb) (imm:=j) (h:=h) a b;rw[hu];have P0:=hxy pu;clear hu pu;obtain⟨⟨i0,i1,i2,i3,r,i5⟩,⟨I,J,K,L,M,N⟩,⟨Q,U,X,Y,Z,b5⟩,⟨u,x,y,C,D,E⟩,rf,rl,O⟩:=P0.al;go_upto_region 28 with fail;clear i0 i1 i2 i3 r i5 I J K L M N Q U X Y Z b5 u x y C D E rf rl O;have sa:∀c,(Vb c (w.heap.size+1) a/\Vb c (w.heap.size+1+1) b/\c.cell? ⟨w.heap.size,4,none⟩=some (Vi j))->c.cell? ⟨w.heap.size,4,none⟩=some (Vi j):=fun c h=>h.2.2
 have x0:∀c,(Vb c (w.heap.size+1) a/\Vb c (w.heap.size+1+1) b/\c.cell? ⟨w.heap.size,4,none⟩=some (Vi j))->c.cell? ⟨w.heap.size+1,0,none⟩=some (Vi a.k):=fun c h=>h.1.cells.1
 have x1:∀c,(Vb c (w.heap.size+1) a/\Vb c (w.heap.size+1+1) b/\c.cell? ⟨w.heap.size,4,none⟩=some (Vi j))->c.cell? ⟨w.heap.size+1,1,none⟩=some (.bool a.s):=fun c h=>h.1.cells.2.1
 have x2:∀c,(Vb c (w.heap.size+1) a/\Vb c (w.heap.size+1+1) b/\c.cell? ⟨w.heap.size,4,none⟩=some (Vi j))->c.cell? ⟨w.heap.size+1,2,none⟩=some (Vi a.m):=fun c h=>h.1.cells.2.2.1
 have x3:∀c,(Vb c (w.heap.size+1) a/\Vb c (w.heap.size+1+1) b/\c.cell? ⟨w.heap.size,4,none⟩=some (Vi j))->c.cell? ⟨w.heap.size+1,3,none⟩=some (Vi a.h):=fun c h=>h.1.cells.2.2.2.1
 have x4:∀c,(Vb c (w.heap.size+1) a/\Vb c (w.heap.size+1+1) b/\c.cell? ⟨w.heap.size,4,none⟩=some (Vi j))->c.cell? ⟨w.heap.size+1,4,none⟩=some (Vi a.lo):=fun c h=>h.1.cells.2.2.2.2.1
 have x5:∀c,(Vb c (w.heap.size+1) a/\Vb c (w.heap.size+1+1) b/\c.cell? ⟨w.heap.size,4,none⟩=some (Vi j))->c.cell? ⟨w.heap.size+1,5,none⟩=some (Vi a.hi):=fun c h=>h.1.cells.2.2.2.2.2
 have y0:∀c,(Vb c (w.heap.size+1) a/\Vb c (w.heap.size+1+1) b/\c.cell? ⟨w.heap.size,4,none⟩=some (Vi j))->c.cell? ⟨w.heap.size+1+1,0,none⟩=some (Vi b.k):=fun c h=>h.2.1.cells.1
 have y1:∀c,(Vb c (w.heap.size+1) a/\Vb c (w.heap.size+1+1) b/\c.cell? ⟨w.heap.size,4,none⟩=some (Vi j))->c.cell? ⟨w.heap.size+1+1,1,none⟩=some (.bool b.s):=fun c h=>h.2.1.cells.2.1
 have y2:∀c,(Vb c (w.heap.size+1) a/\Vb c (w.heap.size+1+1) b/\c.cell? ⟨w.heap.size,4,none⟩=some (Vi j))->c.cell? ⟨w.heap.size+1+1,2,none⟩=some (Vi b.m):=fun c h=>h.2.1.cells.2.2.1
 have y3:∀c,(Vb c (w.heap.size+1) a/\Vb c (w.heap.size+1+1) b/\c.cell? ⟨w.heap.size,4,none⟩=some (Vi j))->c.cell? ⟨w.heap.size+1+1,3,none⟩=some (Vi b.h):=fun c h=>h.2.1.cells.2.2.2.1
 have y4:∀c,(Vb c (w.heap.size+1) a/\Vb c (w.heap.size+1+1) b/\c.cell? ⟨w.heap.size,4,none⟩=some (Vi j))->c.cell? ⟨w.heap.size+1+1,4,none⟩=some (Vi b.lo):=fun c h=>h.2.1.cells.2.2.2.2.1
 have y5:∀c,(Vb c (w.heap.size+1) a/\Vb c (w.heap.size+1+1) b/\c.cell? ⟨w.heap.size,4,none⟩=some (Vi j))->c.cell? ⟨w.heap.size+1+1,5,none⟩=some (Vi b.hi):=fun c h=>h.2.1.cells.2.2.2.2.2
 obtain⟨u1,hd,o⟩:∃v,u0.drew=v/\Bw u0 v:=⟨_,rfl,BJ.drew⟩
 have P1:=hxy (P0.below o);have aa:=P1.S;refine wp_region_held_drew (S:=fun c=>Vb c (w.heap.size+1) a/\Vb c (w.heap.size+1+1) b/\c.cell? ⟨w.heap.size,4,none⟩=some (Vi j)) AV (by rw[hd];exact aa) (fun _=>?_);rw[hd];clear hd o;refine EX [0,1,2,3] ?_;refine AO 4 rfl (fun n l=>?_);go_simp;refine(DI a.k a.s a.m a.h a.lo a.hi _).mono ?_;rintro e u2⟨rfl,o⟩;have F:=hxy (P1.below o);clear o;go_wp2_with fail;refine l.out _ _ F.S (fun ac=>?_);clear l n;try go_frame
 refine AO 5 rfl (fun n l=>?_);go_simp;refine(NG j (AZ a) _).mono ?_;rintro e c⟨rfl,hw⟩;rw[hw];clear hw;go_wp2_with fail;refine l.out _ _ F.S (fun ab=>?_);clear l n;try go_frame
 refine AO 6 rfl (fun n l=>?_)
 go_simp
 refine(BN s (Dj j (AZ a)) _).mono ?_
 rintro e u3⟨rfl,o⟩
 have p:=hxy (F.below o)
 clear o
 simp only[VV.v]
 go_wp2_with fail
 refine l.out _ _ p.S (fun ad=>?_)
 clear l n
 try go_frame
 obtain⟨⟨i0,i1,i2,i3,r,i5⟩,⟨I,J,K,L,M,N⟩,⟨Q,U,X,Y,Z,b5⟩,⟨u,x,y,C,D,E⟩,rf,rl,O⟩:=p.al
 refine AO 7 rfl (fun n l=>?_)
 go_simp
 change n _ (Iy u3 (w.heap.size+1+1+1) (Al s (Dj j (AZ a))))
 obtain⟨z,hz,q,vz,va,vb,vi⟩:∃v,Iy u3 (w.heap.size+1+1+1) (Al s (Dj j (AZ a)))=v/\Bw w v/\Vb v (w.heap.size+1+1+1) (Al s (Dj j (AZ a)))/\Vb v (w.heap.size+1) a/\Vb v (w.heap.size+1+1) b/\v.cell? ⟨w.heap.size,4,none⟩=some (Vi j):=⟨_,rfl,Ag p.bel p.oR _,OB p.R _,Jo p.A _ AB,Jo p.B _ AB,by rw[<-r];exact J9 AB⟩
 rw[hz]
 refine l.out _ _ ⟨va,vb,vi⟩ (fun _=>?_)
 clear l n hz
 refine wpAnyH_done AV ?_ _
 clear i0 i1 i2 i3 r i5 I J K L M N Q U X Y Z b5 u x y C D E rf rl O
 obtain⟨u,x,y,C,D,E⟩:=vz.cells
 have HB:=hxy q
 clear q vz va vb vi sa x0 x1 x2 x3 x4 x5 y0 y1 y2 y3 y4 y5
 go_wp2
 exact mY (VV.v (Al s (Dj j (AZ a)))) (by simp[results,Tryz.results105,go_sem,VV.v, *]) ⟨congrArg (fun v=>Ending.returned (VV.v v)) (by simp[CQ]),HB⟩
theorem U6(d ra rb j h:Int)(a b:VV)(s:Bool)(w:World)(ha:Bd a)(g0: -1000000<=j)(g1:j<=1000000):
 Ks 105 #[.agg #[Vi 10,Vi d,Vi ra,Vi rb,Vi j,Vi h],.agg #[Vi a.k,.bool a.s,Vi a.m,Vi a.h,Vi a.lo,Vi a.hi],.agg #[Vi b.k,.bool b.s,Vi b.m,Vi b.h,Vi b.lo,Vi b.hi],.bool s] w fun e w'=>e=.returned (CQ 10 j a b s).v/\Below w.heap.size w w':=by
 have ad:=ha.l0;have ae:=ha.l1;have ab:=ha.h0;have ac:=ha.h1;have ah:=ha.m1;have ag:=ha.m0;go_enter Tryz.func105,Tryz.ntmps105;go_upto_region 1 with fail;obtain⟨u0,hu,pu⟩:=El w (op:=10) (d:=d) (ra:=ra) (rb:=rb) (imm:=j) (h:=h) a b;rw[hu];have P0:=hxy pu;clear hu pu;obtain⟨⟨o,J,K,L,M,N⟩,⟨p,r,u,x,y,z⟩,⟨B,C,D,E,F,I⟩,⟨O,Q,R,S,U,X⟩,Y,Z,A⟩:=P0.al;have ai:=o;by_cases c:a.k=1/\ -1099511627776<=a.lo+j/\a.hi+j<=1099511627776
 ·obtain⟨c1,c2,c3⟩:=c
  have e1:(a.k==1)=true:=by simp[c1]
  have e2:decide (-1099511627776<=a.lo+j)=true:=by simp[c2]
  have e3:decide (a.hi+j<=1099511627776)=true:=by simp[c3]
  have HC:Hid (a.k=1/\ -1099511627776<=a.lo+j/\a.hi+j<=1099511627776):=⟨c1,c2,c3⟩
  go_wp2;exact mY (VV.v ⟨1,a.s,a.m,a.h,a.lo+j,a.hi+j⟩) (by simp[results,Tryz.results105,go_sem,VV.v, *]) ⟨congrArg (fun v=>Ending.returned (VV.v v)) (by simp only[CQ,if_pos HC.out];simp[HC.1]),by(iterate 6 refine Below.setCell ?_ (show w.heap.size<=w.heap.size+1+1+1 by omega) _);(iterate 2 refine Below.setCell ?_ (show w.heap.size<=w.heap.size+1 by omega) _);exact P0.bel⟩
 ·have HC:=hxy c
  by_cases c1:a.k=1
  ·have e1:(a.k==1)=true:=by simp[c1]
   by_cases c2: -1099511627776<=a.lo+j
   ·have c3:¬a.hi+j<=1099511627776:=fun q=>c ⟨c1,c2,q⟩
    have e2:decide (-1099511627776<=a.lo+j)=true:=by simp[c2]
    have e3:decide (a.hi+j<=1099511627776)=false:=by simp;omega
    clear c c1;go_wp2_with fail;refine(DI a.k a.s a.m a.h a.lo a.hi _).mono ?_;rintro e u1⟨rfl,n⟩;have P1:=hxy (P0.below n);clear n;clear o J K L M N p r u x y z B C D E F I O Q R S U X Y Z A;obtain⟨⟨o,J,K,L,M,N⟩,⟨p,r,u,x,y,z⟩,⟨B,C,D,E,F,I⟩,⟨O,Q,R,S,U,X⟩,Y,Z,A⟩:=P1.al;obtain⟨mx,aa⟩:=Au (AZ a);have HX:=hxy aa;rw[show AZ ⟨a.k,a.s,a.m,a.h,a.lo,a.hi⟩=mx from aa];clear aa;clear ad ae ab ac;by_cases m0:0<=mx
    ·by_cases j0:0<=j
     ·skip
      have HQ:Hid (0<=AZ a/\0<=j):=⟨by rw[HX.out];exact m0,j0⟩
      have e4:decide (0<=mx)=true:=by simp[m0]
      have e5:decide (0<=j)=true:=by simp[j0]
      go_wp2_with fail;refine(BN s (a.m+j) _).mono ?_;rintro e u2⟨rfl,n⟩;have l:=hxy (P1.below n);clear n;clear o J K L M N p r u x y z B C D E F I O Q R S U X Y Z A;simp only[VV.v];obtain⟨⟨o,J,K,L,M,N⟩,⟨p,r,u,x,y,z⟩,⟨B,C,D,E,F,I⟩,⟨O,Q,R,S,U,X⟩,Y,Z,A⟩:=l.al;go_wp2;exact mY (VV.v (Al s (a.m+j))) (by simp[results,Tryz.results105,go_sem,VV.v, *]) ⟨congrArg (fun v=>Ending.returned (VV.v v)) (by simp only[CQ,if_neg HC.out,if_pos HQ.out];simp),Ag l.bel l.oR (Al s (a.m+j))⟩
     ·have HQ:Hid (¬(0<=AZ a/\0<=j)):=fun q=>j0 q.2
      have e4:decide (0<=mx)=true:=by simp[m0]
      have e5:decide (0<=j)=false:=by simp;omega
      go_wp2_with fail;refine(BN s (-1) _).mono ?_;rintro e u2⟨rfl,n⟩;have l:=hxy (P1.below n);clear n;clear o J K L M N p r u x y z B C D E F I O Q R S U X Y Z A;simp only[VV.v];obtain⟨⟨o,J,K,L,M,N⟩,⟨p,r,u,x,y,z⟩,⟨B,C,D,E,F,I⟩,⟨O,Q,R,S,U,X⟩,Y,Z,A⟩:=l.al;go_wp2;exact mY (VV.v (Al s (-1))) (by simp[results,Tryz.results105,go_sem,VV.v, *]) ⟨congrArg (fun v=>Ending.returned (VV.v v)) (by simp only[CQ,if_neg HC.out,if_neg HQ.out];simp),Ag l.bel l.oR (Al s (-1))⟩
    ·have HQ:Hid (¬(0<=AZ a/\0<=j)):=fun q=>m0 (by rw[<-HX.out];exact q.1)
     have e4:decide (0<=mx)=false:=by simp;omega
     go_wp2_with fail;refine(BN s (-1) _).mono ?_;rintro e u2⟨rfl,n⟩;have l:=hxy (P1.below n);clear n;clear o J K L M N p r u x y z B C D E F I O Q R S U X Y Z A;simp only[VV.v];obtain⟨⟨o,J,K,L,M,N⟩,⟨p,r,u,x,y,z⟩,⟨B,C,D,E,F,I⟩,⟨O,Q,R,S,U,X⟩,Y,Z,A⟩:=l.al;go_wp2;exact mY (VV.v (Al s (-1))) (by simp[results,Tryz.results105,go_sem,VV.v, *]) ⟨congrArg (fun v=>Ending.returned (VV.v v)) (by simp only[CQ,if_neg HC.out,if_neg HQ.out];simp),Ag l.bel l.oR (Al s (-1))⟩
   ·have e2:decide (-1099511627776<=a.lo+j)=false:=by simp;omega
    clear c c1;go_wp2_with fail;refine(DI a.k a.s a.m a.h a.lo a.hi _).mono ?_;rintro e u1⟨rfl,n⟩;have P1:=hxy (P0.below n);clear n;clear o J K L M N p r u x y z B C D E F I O Q R S U X Y Z A;obtain⟨⟨o,J,K,L,M,N⟩,⟨p,r,u,x,y,z⟩,⟨B,C,D,E,F,I⟩,⟨O,Q,R,S,U,X⟩,Y,Z,A⟩:=P1.al;obtain⟨mx,aa⟩:=Au (AZ a);have HX:=hxy aa;rw[show AZ ⟨a.k,a.s,a.m,a.h,a.lo,a.hi⟩=mx from aa];clear aa;clear ad ae ab ac;by_cases m0:0<=mx
    ·by_cases j0:0<=j
     ·skip
      have HQ:Hid (0<=AZ a/\0<=j):=⟨by rw[HX.out];exact m0,j0⟩
      have e4:decide (0<=mx)=true:=by simp[m0]
      have e5:decide (0<=j)=true:=by simp[j0]
      go_wp2_with fail;refine(BN s (a.m+j) _).mono ?_;rintro e u2⟨rfl,n⟩;have l:=hxy (P1.below n);clear n;clear o J K L M N p r u x y z B C D E F I O Q R S U X Y Z A;simp only[VV.v];obtain⟨⟨o,J,K,L,M,N⟩,⟨p,r,u,x,y,z⟩,⟨B,C,D,E,F,I⟩,⟨O,Q,R,S,U,X⟩,Y,Z,A⟩:=l.al;go_wp2;exact mY (VV.v (Al s (a.m+j))) (by simp[results,Tryz.results105,go_sem,VV.v, *]) ⟨congrArg (fun v=>Ending.returned (VV.v v)) (by simp only[CQ,if_neg HC.out,if_pos HQ.out];simp),Ag l.bel l.oR (Al s (a.m+j))⟩
     ·have HQ:Hid (¬(0<=AZ a/\0<=j)):=fun q=>j0 q.2
      have e4:decide (0<=mx)=true:=by simp[m0]
      have e5:decide (0<=j)=false:=by simp;omega
      go_wp2_with fail;refine(BN s (-1) _).mono ?_;rintro e u2⟨rfl,n⟩;have l:=hxy (P1.below n);clear n;clear o J K L M N p r u x y z B C D E F I O Q R S U X Y Z A;simp only[VV.v];obtain⟨⟨o,J,K,L,M,N⟩,⟨p,r,u,x,y,z⟩,⟨B,C,D,E,F,I⟩,⟨O,Q,R,S,U,X⟩,Y,Z,A⟩:=l.al;go_wp2;exact mY (VV.v (Al s (-1))) (by simp[results,Tryz.results105,go_sem,VV.v, *]) ⟨congrArg (fun v=>Ending.returned (VV.v v)) (by simp only[CQ,if_neg HC.out,if_neg HQ.out];simp),Ag l.bel l.oR (Al s (-1))⟩
    ·have HQ:Hid (¬(0<=AZ a/\0<=j)):=fun q=>m0 (by rw[<-HX.out];exact q.1)
     have e4:decide (0<=mx)=false:=by simp;omega
     go_wp2_with fail;refine(BN s (-1) _).mono ?_;rintro e u2⟨rfl,n⟩;have l:=hxy (P1.below n);clear n;clear o J K L M N p r u x y z B C D E F I O Q R S U X Y Z A;simp only[VV.v];obtain⟨⟨o,J,K,L,M,N⟩,⟨p,r,u,x,y,z⟩,⟨B,C,D,E,F,I⟩,⟨O,Q,R,S,U,X⟩,Y,Z,A⟩:=l.al;go_wp2;exact mY (VV.v (Al s (-1))) (by simp[results,Tryz.results105,go_sem,VV.v, *]) ⟨congrArg (fun v=>Ending.returned (VV.v v)) (by simp only[CQ,if_neg HC.out,if_neg HQ.out];simp),Ag l.bel l.oR (Al s (-1))⟩
  ·have e1:(a.k==1)=false:=by simp[c1]
   clear c;go_wp2_with fail;refine(DI a.k a.s a.m a.h a.lo a.hi _).mono ?_;rintro e u1⟨rfl,n⟩;have P1:=hxy (P0.below n);clear n;clear o J K L M N p r u x y z B C D E F I O Q R S U X Y Z A;obtain⟨⟨o,J,K,L,M,N⟩,⟨p,r,u,x,y,z⟩,⟨B,C,D,E,F,I⟩,⟨O,Q,R,S,U,X⟩,Y,Z,A⟩:=P1.al;obtain⟨mx,aa⟩:=Au (AZ a);have HX:=hxy aa;rw[show AZ ⟨a.k,a.s,a.m,a.h,a.lo,a.hi⟩=mx from aa];clear aa;clear ad ae ab ac;by_cases m0:0<=mx
   ·by_cases j0:0<=j
    ·skip
     have HQ:Hid (0<=AZ a/\0<=j):=⟨by rw[HX.out];exact m0,j0⟩
     have e4:decide (0<=mx)=true:=by simp[m0]
     have e5:decide (0<=j)=true:=by simp[j0]
     go_wp2_with fail;refine(BN s (a.m+j) _).mono ?_;rintro e u2⟨rfl,n⟩;have l:=hxy (P1.below n);clear n;clear o J K L M N p r u x y z B C D E F I O Q R S U X Y Z A;simp only[VV.v];obtain⟨⟨o,J,K,L,M,N⟩,⟨p,r,u,x,y,z⟩,⟨B,C,D,E,F,I⟩,⟨O,Q,R,S,U,X⟩,Y,Z,A⟩:=l.al;go_wp2;exact mY (VV.v (Al s (a.m+j))) (by simp[results,Tryz.results105,go_sem,VV.v, *]) ⟨congrArg (fun v=>Ending.returned (VV.v v)) (by simp only[CQ,if_neg HC.out,if_pos HQ.out];simp),Ag l.bel l.oR (Al s (a.m+j))⟩
    ·have HQ:Hid (¬(0<=AZ a/\0<=j)):=fun q=>j0 q.2
     have e4:decide (0<=mx)=true:=by simp[m0]
     have e5:decide (0<=j)=false:=by simp;omega
     go_wp2_with fail;refine(BN s (-1) _).mono ?_;rintro e u2⟨rfl,n⟩;have l:=hxy (P1.below n);clear n;clear o J K L M N p r u x y z B C D E F I O Q R S U X Y Z A;simp only[VV.v];obtain⟨⟨o,J,K,L,M,N⟩,⟨p,r,u,x,y,z⟩,⟨B,C,D,E,F,I⟩,⟨O,Q,R,S,U,X⟩,Y,Z,A⟩:=l.al;go_wp2;exact mY (VV.v (Al s (-1))) (by simp[results,Tryz.results105,go_sem,VV.v, *]) ⟨congrArg (fun v=>Ending.returned (VV.v v)) (by simp only[CQ,if_neg HC.out,if_neg HQ.out];simp),Ag l.bel l.oR (Al s (-1))⟩
   ·have HQ:Hid (¬(0<=AZ a/\0<=j)):=fun q=>m0 (by rw[<-HX.out];exact q.1)
    have e4:decide (0<=mx)=false:=by simp;omega
    go_wp2_with fail;refine(BN s (-1) _).mono ?_;rintro e u2⟨rfl,n⟩;have l:=hxy (P1.below n);clear n;clear o J K L M N p r u x y z B C D E F I O Q R S U X Y Z A;simp only[VV.v];obtain⟨⟨o,J,K,L,M,N⟩,⟨p,r,u,x,y,z⟩,⟨B,C,D,E,F,I⟩,⟨O,Q,R,S,U,X⟩,Y,Z,A⟩:=l.al;go_wp2;exact mY (VV.v (Al s (-1))) (by simp[results,Tryz.results105,go_sem,VV.v, *]) ⟨congrArg (fun v=>Ending.returned (VV.v v)) (by simp only[CQ,if_neg HC.out,if_neg HQ.out];simp),Ag l.bel l.oR (Al s (-1))⟩
theorem UO(d ra rb j h:Int)(a b:VV)(s:Bool)(w:World)(ha:Bd a)(g0:0<=j)(g1:j<=63):
 Ks 105 #[.agg #[Vi 12,Vi d,Vi ra,Vi rb,Vi j,Vi h],.agg #[Vi a.k,.bool a.s,Vi a.m,Vi a.h,Vi a.lo,Vi a.hi],.agg #[Vi b.k,.bool b.s,Vi b.m,Vi b.h,Vi b.lo,Vi b.hi],.bool s] w fun e c=>e=.returned (CQ 12 j a b s).v/\Below w.heap.size w c:=by
 have ai:=ha.m0;have ag:=ha.m1;obtain⟨mx,ab⟩:=Au (AZ a);have HX:=hxy ab;have aa:0<=mx->mx=a.m:=by intro q;rw[<-ab]at q⊢;unfold AZ at q⊢;split at q<;>simp_all
 clear ab;go_enter Tryz.func105,Tryz.ntmps105;go_upto_region 1 with fail;obtain⟨u0,hu,pu⟩:=El w (op:=12) (d:=d) (ra:=ra) (rb:=rb) (imm:=j) (h:=h) a b;rw[hu];have P0:=hxy pu;clear hu pu;obtain⟨⟨Y,Z,i2,i3,n,i5⟩,⟨D,E,F,I,J,K⟩,⟨M,N,O,Q,U,X⟩,⟨o,r,u,x,y,C⟩,rf,rl,L⟩:=P0.al;go_wp2_with fail;refine(DI a.k a.s a.m a.h a.lo a.hi _).mono ?_;rintro e u1⟨rfl,l⟩;have P1:=hxy (P0.below l);clear l;clear Y Z i2 i3 n i5 D E F I J K M N O Q U X o r u x y C rf rl L;obtain⟨⟨Y,Z,i2,i3,n,i5⟩,⟨D,E,F,I,J,K⟩,⟨M,N,O,Q,U,X⟩,⟨o,r,u,x,y,C⟩,rf,rl,L⟩:=P1.al;rw[show AZ ⟨a.k,a.s,a.m,a.h,a.lo,a.hi⟩=mx from HX.out];by_cases z:mx=0
 ·subst z
  clear aa;go_wp2_with fail;refine(BN s (0) _).mono ?_;rintro e u2⟨rfl,l⟩;have P2:=hxy (P1.below l);clear l;clear Y Z i2 i3 n i5 D E F I J K M N O Q U X o r u x y C rf rl L;simp only[VV.v];obtain⟨⟨Y,Z,i2,i3,n,i5⟩,⟨D,E,F,I,J,K⟩,⟨M,N,O,Q,U,X⟩,⟨o,r,u,x,y,C⟩,rf,rl,L⟩:=P2.al;go_wp2;exact mY (VV.v (Al s (0))) (by simp[results,Tryz.results105,go_sem,VV.v, *]) ⟨congrArg (fun v=>Ending.returned (VV.v v)) (by simp only[CQ,if_pos HX.out];simp),Ag P2.bel P2.oR (Al s (0))⟩
 ·have e0:(mx==0)=false:=by simp[z]
  have HZ:Hid (¬AZ a=0):=by rw[show(AZ a=0)=(mx=0)from by rw[HX.out]];exact z
  go_wp2_with fail;refine(DI a.k a.s a.m a.h a.lo a.hi _).mono ?_;rintro e u2⟨rfl,l⟩;have P2:=hxy (P1.below l);clear l;clear Y Z i2 i3 n i5 D E F I J K M N O Q U X o r u x y C rf rl L;obtain⟨⟨Y,Z,i2,i3,n,i5⟩,⟨D,E,F,I,J,K⟩,⟨M,N,O,Q,U,X⟩,⟨o,r,u,x,y,C⟩,rf,rl,L⟩:=P2.al;rw[show AZ ⟨a.k,a.s,a.m,a.h,a.lo,a.hi⟩=mx from HX.out];by_cases p:0<mx
  ·have ea:mx=a.m:=aa AB
   subst ea;clear aa e0 z;have e1:decide (0<a.m)=true:=by simp[p]
   by_cases q:j<=40
   ·have e2:decide (j<=40)=true:=by simp[q]
    have HQ:Hid (0<AZ a/\j<=40):=⟨by rw[HX.out];exact p,q⟩
    obtain⟨pw,ae,w0,w1⟩:=qj g0 q;have f1:IntKind.i64.wrap pw=pw:=by rw[IntKind.wrap_i64];omega
    have f2:wrap64 pw=pw:=by unfold wrap64;omega
    go_upto_region 33 with fail;clear Y Z i2 i3 n i5 D E F I J K M N O Q U X o r u x y C rf rl L;have sa:∀c,(Vb c (w.heap.size+1) a/\Vb c (w.heap.size+1+1) b/\c.cell? ⟨w.heap.size,4,none⟩=some (Vi j))->c.cell? ⟨w.heap.size,4,none⟩=some (Vi j):=fun c h=>h.2.2
    have x0:∀c,(Vb c (w.heap.size+1) a/\Vb c (w.heap.size+1+1) b/\c.cell? ⟨w.heap.size,4,none⟩=some (Vi j))->c.cell? ⟨w.heap.size+1,0,none⟩=some (Vi a.k):=fun c h=>h.1.cells.1
    have x1:∀c,(Vb c (w.heap.size+1) a/\Vb c (w.heap.size+1+1) b/\c.cell? ⟨w.heap.size,4,none⟩=some (Vi j))->c.cell? ⟨w.heap.size+1,1,none⟩=some (.bool a.s):=fun c h=>h.1.cells.2.1
    have x2:∀c,(Vb c (w.heap.size+1) a/\Vb c (w.heap.size+1+1) b/\c.cell? ⟨w.heap.size,4,none⟩=some (Vi j))->c.cell? ⟨w.heap.size+1,2,none⟩=some (Vi a.m):=fun c h=>h.1.cells.2.2.1
    have x3:∀c,(Vb c (w.heap.size+1) a/\Vb c (w.heap.size+1+1) b/\c.cell? ⟨w.heap.size,4,none⟩=some (Vi j))->c.cell? ⟨w.heap.size+1,3,none⟩=some (Vi a.h):=fun c h=>h.1.cells.2.2.2.1
    have x4:∀c,(Vb c (w.heap.size+1) a/\Vb c (w.heap.size+1+1) b/\c.cell? ⟨w.heap.size,4,none⟩=some (Vi j))->c.cell? ⟨w.heap.size+1,4,none⟩=some (Vi a.lo):=fun c h=>h.1.cells.2.2.2.2.1
    have x5:∀c,(Vb c (w.heap.size+1) a/\Vb c (w.heap.size+1+1) b/\c.cell? ⟨w.heap.size,4,none⟩=some (Vi j))->c.cell? ⟨w.heap.size+1,5,none⟩=some (Vi a.hi):=fun c h=>h.1.cells.2.2.2.2.2
    have y0:∀c,(Vb c (w.heap.size+1) a/\Vb c (w.heap.size+1+1) b/\c.cell? ⟨w.heap.size,4,none⟩=some (Vi j))->c.cell? ⟨w.heap.size+1+1,0,none⟩=some (Vi b.k):=fun c h=>h.2.1.cells.1
    have y1:∀c,(Vb c (w.heap.size+1) a/\Vb c (w.heap.size+1+1) b/\c.cell? ⟨w.heap.size,4,none⟩=some (Vi j))->c.cell? ⟨w.heap.size+1+1,1,none⟩=some (.bool b.s):=fun c h=>h.2.1.cells.2.1
    have y2:∀c,(Vb c (w.heap.size+1) a/\Vb c (w.heap.size+1+1) b/\c.cell? ⟨w.heap.size,4,none⟩=some (Vi j))->c.cell? ⟨w.heap.size+1+1,2,none⟩=some (Vi b.m):=fun c h=>h.2.1.cells.2.2.1
    have y3:∀c,(Vb c (w.heap.size+1) a/\Vb c (w.heap.size+1+1) b/\c.cell? ⟨w.heap.size,4,none⟩=some (Vi j))->c.cell? ⟨w.heap.size+1+1,3,none⟩=some (Vi b.h):=fun c h=>h.2.1.cells.2.2.2.1
    have y4:∀c,(Vb c (w.heap.size+1) a/\Vb c (w.heap.size+1+1) b/\c.cell? ⟨w.heap.size,4,none⟩=some (Vi j))->c.cell? ⟨w.heap.size+1+1,4,none⟩=some (Vi b.lo):=fun c h=>h.2.1.cells.2.2.2.2.1
    have y5:∀c,(Vb c (w.heap.size+1) a/\Vb c (w.heap.size+1+1) b/\c.cell? ⟨w.heap.size,4,none⟩=some (Vi j))->c.cell? ⟨w.heap.size+1+1,5,none⟩=some (Vi b.hi):=fun c h=>h.2.1.cells.2.2.2.2.2
    obtain⟨u3,hd,l⟩:∃v,u2.drew=v/\Bw u2 v:=⟨_,rfl,BJ.drew⟩
    have P3:=hxy (P2.below l);have ah:=P3.S;refine wp_region_held_drew (S:=fun c=>Vb c (w.heap.size+1) a/\Vb c (w.heap.size+1+1) b/\c.cell? ⟨w.heap.size,4,none⟩=some (Vi j)) AV (by rw[hd];exact ah) (fun _=>?_);rw[hd];clear hd l;refine EX [0,1,2,3,4] ?_;refine AO 5 rfl (fun KK hK=>?_);go_simp;refine(MJ j _ g0 g1).mono ?_;rintro e c⟨rfl,hw⟩;rw[hw];clear hw;go_wp2_with fail;refine hK.out _ _ P3.S (fun ac=>?_);clear hK KK;try go_frame
    try rw[ae]
    refine AU 6 ?_;refine AO 7 rfl (fun KK hK=>?_);go_simp;refine(NI a.m pw _ AB ag AB w1).mono ?_;rintro e c⟨rfl,hw⟩;rw[hw];clear hw;go_wp2_with fail;refine hK.out _ _ P3.S (fun ac=>?_);clear hK KK;try go_frame
    refine AO 8 rfl (fun KK hK=>?_)
    go_simp
    refine(BN s (Dk a.m pw) _).mono ?_
    rintro e u4⟨rfl,l⟩
    have P4:=hxy (P3.below l)
    clear l
    simp only[VV.v]
    go_wp2_with fail
    refine hK.out _ _ P4.S (fun aj=>?_)
    clear hK KK
    try go_frame
    obtain⟨⟨Y,Z,i2,i3,n,i5⟩,⟨D,E,F,I,J,K⟩,⟨M,N,O,Q,U,X⟩,⟨o,r,u,x,y,C⟩,rf,rl,L⟩:=P4.al
    refine AO 9 rfl (fun KK hK=>?_)
    go_simp
    change KK _ (Iy u4 (w.heap.size+1+1+1) (Al s (Dk a.m pw)))
    obtain⟨z,hz,ad,vz,va,vb,vi⟩:∃v,Iy u4 (w.heap.size+1+1+1) (Al s (Dk a.m pw))=v/\Bw w v/\Vb v (w.heap.size+1+1+1) (Al s (Dk a.m pw))/\Vb v (w.heap.size+1) a/\Vb v (w.heap.size+1+1) b/\v.cell? ⟨w.heap.size,4,none⟩=some (Vi j):=⟨_,rfl,Ag P4.bel P4.oR _,OB P4.R _,Jo P4.A _ AB,Jo P4.B _ AB,by rw[<-n];exact J9 AB⟩
    rw[hz]
    refine hK.out _ _ ⟨va,vb,vi⟩ (fun _=>?_)
    clear hK KK hz
    refine wpAnyH_done AV ?_ _
    clear Y Z i2 i3 n i5 D E F I J K M N O Q U X o r u x y C rf rl L
    obtain⟨o,r,u,x,y,C⟩:=vz.cells
    have HB:=hxy ad
    clear ad vz va vb vi sa x0 x1 x2 x3 x4 x5 y0 y1 y2 y3 y4 y5
    go_wp2
    exact mY (VV.v (Al s (Dk a.m pw))) (by simp[results,Tryz.results105,go_sem,VV.v, *]) ⟨congrArg (fun v=>Ending.returned (VV.v v)) (by simp only[CQ,if_neg HZ.out,if_pos HQ.out,<-ae];simp),HB⟩
   ·have e2:decide (j<=40)=false:=by simp;omega
    have HQ:Hid (¬(0<AZ a/\j<=40)):=fun t=>q t.2
    go_wp2_with fail
    refine(BN s (-1) _).mono ?_
    rintro e u3⟨rfl,l⟩
    have P3:=hxy (P2.below l)
    clear l
    clear Y Z i2 i3 n i5 D E F I J K M N O Q U X o r u x y C rf rl L
    simp only[VV.v]
    obtain⟨⟨Y,Z,i2,i3,n,i5⟩,⟨D,E,F,I,J,K⟩,⟨M,N,O,Q,U,X⟩,⟨o,r,u,x,y,C⟩,rf,rl,L⟩:=P3.al
    go_wp2
    exact mY (VV.v (Al s (-1))) (by simp[results,Tryz.results105,go_sem,VV.v, *]) ⟨congrArg (fun v=>Ending.returned (VV.v v)) (by simp only[CQ,if_neg HZ.out,if_neg HQ.out];simp),Ag P3.bel P3.oR (Al s (-1))⟩
  ·have e1:decide (0<mx)=false:=by simp;omega
   have HQ:Hid (¬(0<AZ a/\j<=40)):=fun t=>p (by rw[<-HX.out];exact t.1)
   go_wp2_with fail
   refine(BN s (-1) _).mono ?_
   rintro e u3⟨rfl,l⟩
   have P3:=hxy (P2.below l)
   clear l
   clear Y Z i2 i3 n i5 D E F I J K M N O Q U X o r u x y C rf rl L
   simp only[VV.v]
   obtain⟨⟨Y,Z,i2,i3,n,i5⟩,⟨D,E,F,I,J,K⟩,⟨M,N,O,Q,U,X⟩,⟨o,r,u,x,y,C⟩,rf,rl,L⟩:=P3.al
   go_wp2
   exact mY (VV.v (Al s (-1))) (by simp[results,Tryz.results105,go_sem,VV.v, *]) ⟨congrArg (fun v=>Ending.returned (VV.v v)) (by simp only[CQ,if_neg HZ.out,if_neg HQ.out];simp),Ag P3.bel P3.oR (Al s (-1))⟩
theorem UZ(d ra rb j h:Int)(a b:VV)(s:Bool)(w:World)(ha:Bd a)(g0:0<=j)(g1:j<=63):
 Ks 105 #[.agg #[Vi 13,Vi d,Vi ra,Vi rb,Vi j,Vi h],.agg #[Vi a.k,.bool a.s,Vi a.m,Vi a.h,Vi a.lo,Vi a.hi],.agg #[Vi b.k,.bool b.s,Vi b.m,Vi b.h,Vi b.lo,Vi b.hi],.bool s] w fun e c=>e=.returned (CQ 13 j a b s).v/\Below w.heap.size w c:=by
 have ah:=ha.m0;have ad:=ha.m1;obtain⟨mx,ab⟩:=Au (AZ a);have HX:=hxy ab;have aa:0<=mx->mx=a.m:=by intro q;rw[<-ab]at q⊢;unfold AZ at q⊢;split at q<;>simp_all
 clear ab;go_enter Tryz.func105,Tryz.ntmps105;go_upto_region 1 with fail;obtain⟨u0,hu,pu⟩:=El w (op:=13) (d:=d) (ra:=ra) (rb:=rb) (imm:=j) (h:=h) a b;rw[hu];have P0:=hxy pu;clear hu pu;obtain⟨⟨i0,i1,i2,i3,r,i5⟩,⟨J,K,L,M,N,O⟩,⟨U,X,Y,Z,b4,b5⟩,⟨x,C,D,E,F,I⟩,rf,rl,Q⟩:=P0.al;go_wp2_with fail;refine(DI a.k a.s a.m a.h a.lo a.hi _).mono ?_;rintro e u1⟨rfl,l⟩;have P1:=hxy (P0.below l);clear l;clear i0 i1 i2 i3 r i5 J K L M N O U X Y Z b4 b5 x C D E F I rf rl Q;obtain⟨⟨i0,i1,i2,i3,r,i5⟩,⟨J,K,L,M,N,O⟩,⟨U,X,Y,Z,b4,b5⟩,⟨x,C,D,E,F,I⟩,rf,rl,Q⟩:=P1.al;rw[show AZ ⟨a.k,a.s,a.m,a.h,a.lo,a.hi⟩=mx from HX.out];by_cases p:0<=mx
 ·have ea:=aa p
  subst ea;clear aa;have HQ:Hid (0<=AZ a):=by rw[show(0<=AZ a)=(0<=a.m)from by rw[HX.out]];exact p
  obtain⟨u,o,w0,w1⟩:=wJ g0 g1;obtain⟨y,hy,y0,y1⟩:=uM (m:=a.m) p ad w0;have f3:IntKind.u64.wrap a.m=a.m:=by rw[IntKind.wrap_u64];omega
  have f4:¬u=0:=AB;have f5:a.m.tdiv u=y:=by rw[Int.tdiv_eq_ediv_of_nonneg p];exact hy
  have f6:IntKind.u64.wrap y=y:=by rw[IntKind.wrap_u64];omega
  have f7:IntKind.i64.wrap y=y:=by rw[IntKind.wrap_i64];omega
  have f8:wrap64 y=y:=by unfold wrap64;omega
  have HY:=hxy hy;clear hy;go_upto_region 36 with fail;clear i0 i1 i2 i3 r i5 J K L M N O U X Y Z b4 b5 x C D E F I rf rl Q;have sa:∀c,(Vb c (w.heap.size+1) a/\Vb c (w.heap.size+1+1) b/\c.cell? ⟨w.heap.size,4,none⟩=some (Vi j))->c.cell? ⟨w.heap.size,4,none⟩=some (Vi j):=fun c h=>h.2.2
  have x0:∀c,(Vb c (w.heap.size+1) a/\Vb c (w.heap.size+1+1) b/\c.cell? ⟨w.heap.size,4,none⟩=some (Vi j))->c.cell? ⟨w.heap.size+1,0,none⟩=some (Vi a.k):=fun c h=>h.1.cells.1
  have x1:∀c,(Vb c (w.heap.size+1) a/\Vb c (w.heap.size+1+1) b/\c.cell? ⟨w.heap.size,4,none⟩=some (Vi j))->c.cell? ⟨w.heap.size+1,1,none⟩=some (.bool a.s):=fun c h=>h.1.cells.2.1
  have x2:∀c,(Vb c (w.heap.size+1) a/\Vb c (w.heap.size+1+1) b/\c.cell? ⟨w.heap.size,4,none⟩=some (Vi j))->c.cell? ⟨w.heap.size+1,2,none⟩=some (Vi a.m):=fun c h=>h.1.cells.2.2.1
  have x3:∀c,(Vb c (w.heap.size+1) a/\Vb c (w.heap.size+1+1) b/\c.cell? ⟨w.heap.size,4,none⟩=some (Vi j))->c.cell? ⟨w.heap.size+1,3,none⟩=some (Vi a.h):=fun c h=>h.1.cells.2.2.2.1
  have x4:∀c,(Vb c (w.heap.size+1) a/\Vb c (w.heap.size+1+1) b/\c.cell? ⟨w.heap.size,4,none⟩=some (Vi j))->c.cell? ⟨w.heap.size+1,4,none⟩=some (Vi a.lo):=fun c h=>h.1.cells.2.2.2.2.1
  have x5:∀c,(Vb c (w.heap.size+1) a/\Vb c (w.heap.size+1+1) b/\c.cell? ⟨w.heap.size,4,none⟩=some (Vi j))->c.cell? ⟨w.heap.size+1,5,none⟩=some (Vi a.hi):=fun c h=>h.1.cells.2.2.2.2.2
  have y0:∀c,(Vb c (w.heap.size+1) a/\Vb c (w.heap.size+1+1) b/\c.cell? ⟨w.heap.size,4,none⟩=some (Vi j))->c.cell? ⟨w.heap.size+1+1,0,none⟩=some (Vi b.k):=fun c h=>h.2.1.cells.1
  have y1:∀c,(Vb c (w.heap.size+1) a/\Vb c (w.heap.size+1+1) b/\c.cell? ⟨w.heap.size,4,none⟩=some (Vi j))->c.cell? ⟨w.heap.size+1+1,1,none⟩=some (.bool b.s):=fun c h=>h.2.1.cells.2.1
  have y2:∀c,(Vb c (w.heap.size+1) a/\Vb c (w.heap.size+1+1) b/\c.cell? ⟨w.heap.size,4,none⟩=some (Vi j))->c.cell? ⟨w.heap.size+1+1,2,none⟩=some (Vi b.m):=fun c h=>h.2.1.cells.2.2.1
  have y3:∀c,(Vb c (w.heap.size+1) a/\Vb c (w.heap.size+1+1) b/\c.cell? ⟨w.heap.size,4,none⟩=some (Vi j))->c.cell? ⟨w.heap.size+1+1,3,none⟩=some (Vi b.h):=fun c h=>h.2.1.cells.2.2.2.1
  have y4:∀c,(Vb c (w.heap.size+1) a/\Vb c (w.heap.size+1+1) b/\c.cell? ⟨w.heap.size,4,none⟩=some (Vi j))->c.cell? ⟨w.heap.size+1+1,4,none⟩=some (Vi b.lo):=fun c h=>h.2.1.cells.2.2.2.2.1
  have y5:∀c,(Vb c (w.heap.size+1) a/\Vb c (w.heap.size+1+1) b/\c.cell? ⟨w.heap.size,4,none⟩=some (Vi j))->c.cell? ⟨w.heap.size+1+1,5,none⟩=some (Vi b.hi):=fun c h=>h.2.1.cells.2.2.2.2.2
  obtain⟨u2,hd,l⟩:∃v,u1.drew=v/\Bw u1 v:=⟨_,rfl,BJ.drew⟩
  have n:=hxy (P1.below l);have ae:=n.S;refine wp_region_held_drew (S:=fun c=>Vb c (w.heap.size+1) a/\Vb c (w.heap.size+1+1) b/\c.cell? ⟨w.heap.size,4,none⟩=some (Vi j)) AV (by rw[hd];exact ae) (fun _=>?_);rw[hd];clear hd l;refine EX [0,1,2,3,4,5] ?_;refine AO 6 rfl (fun KK hK=>?_);go_simp;refine(MJ j _ g0 g1).mono ?_;rintro e c⟨rfl,hw⟩;rw[hw];clear hw;go_wp2_with fail;refine hK.out _ _ n.S (fun ag=>?_);clear hK KK;try go_frame
  try rw[o]
  refine EX [7,8] ?_;refine AO 9 rfl (fun KK hK=>?_);go_simp
  refine(BN s y _).mono ?_
  rintro e u3⟨rfl,l⟩
  have P3:=hxy (n.below l)
  clear l
  simp only[VV.v]
  go_wp2_with fail
  refine hK.out _ _ P3.S (fun ai=>?_)
  clear hK KK
  try go_frame
  obtain⟨⟨i0,i1,i2,i3,r,i5⟩,⟨J,K,L,M,N,O⟩,⟨U,X,Y,Z,b4,b5⟩,⟨x,C,D,E,F,I⟩,rf,rl,Q⟩:=P3.al
  refine AO 10 rfl (fun KK hK=>?_)
  go_simp
  change KK _ (Iy u3 (w.heap.size+1+1+1) (Al s y))
  obtain⟨z,hz,ac,vz,va,vb,vi⟩:∃v,Iy u3 (w.heap.size+1+1+1) (Al s y)=v/\Bw w v/\Vb v (w.heap.size+1+1+1) (Al s y)/\Vb v (w.heap.size+1) a/\Vb v (w.heap.size+1+1) b/\v.cell? ⟨w.heap.size,4,none⟩=some (Vi j):=⟨_,rfl,Ag P3.bel P3.oR _,OB P3.R _,Jo P3.A _ AB,Jo P3.B _ AB,by rw[<-r];exact J9 AB⟩
  rw[hz]
  refine hK.out _ _ ⟨va,vb,vi⟩ (fun _=>?_)
  clear hK KK hz
  refine wpAnyH_done AV ?_ _
  clear i0 i1 i2 i3 r i5 J K L M N O U X Y Z b4 b5 x C D E F I rf rl Q
  obtain⟨x,C,D,E,F,I⟩:=vz.cells
  have HB:=hxy ac
  clear ac vz va vb vi sa x0 x1 x2 x3 x4 x5 y0 y1 y2 y3 y4 y5
  go_wp2
  exact mY (VV.v (Al s y)) (by simp[results,Tryz.results105,go_sem,VV.v, *]) ⟨congrArg (fun v=>Ending.returned (VV.v v)) (by rw[<-HY.out,<-o];simp only[CQ,if_pos HQ.out];simp),HB⟩
 ·have HQ:Hid (¬0<=AZ a):=fun t=>p (by rw[<-HX.out];exact t)
  clear aa
  by_cases q:24<=j
  ·have HE:=hxy q
   obtain⟨u,o,w0,w1⟩:=qj (i:=64-j) AB AB
   have f1:IntKind.i64.wrap u=u:=by rw[IntKind.wrap_i64];omega
   have f2:wrap64 u=u:=by unfold wrap64;omega
   go_wp2_with fail
   refine(MJ (64-j) _ AB AB).mono ?_
   rintro e c⟨rfl,hw⟩
   rw[hw]
   clear hw
   try rw[o]
   go_wp2_with fail
   refine(BN s (u-1) _).mono ?_
   rintro e u2⟨rfl,l⟩
   have n:=hxy (P1.below l)
   clear l
   clear i0 i1 i2 i3 r i5 J K L M N O U X Y Z b4 b5 x C D E F I rf rl Q
   simp only[VV.v]
   obtain⟨⟨i0,i1,i2,i3,r,i5⟩,⟨J,K,L,M,N,O⟩,⟨U,X,Y,Z,b4,b5⟩,⟨x,C,D,E,F,I⟩,rf,rl,Q⟩:=n.al
   go_wp2
   exact mY (VV.v (Al s (u-1))) (by simp[results,Tryz.results105,go_sem,VV.v, *]) ⟨congrArg (fun v=>Ending.returned (VV.v v)) (by rw[<-o];simp only[CQ,if_neg (show¬0<=AZ a by have:=HQ.out;omega),if_pos HE.out];simp),Ag n.bel n.oR (Al s (u-1))⟩
  ·have HE:=hxy q
   go_wp2_with fail
   refine(BN s (-1) _).mono ?_
   rintro e u2⟨rfl,l⟩
   have n:=hxy (P1.below l)
   clear l
   clear i0 i1 i2 i3 r i5 J K L M N O U X Y Z b4 b5 x C D E F I rf rl Q
   simp only[VV.v]
   obtain⟨⟨i0,i1,i2,i3,r,i5⟩,⟨J,K,L,M,N,O⟩,⟨U,X,Y,Z,b4,b5⟩,⟨x,C,D,E,F,I⟩,rf,rl,Q⟩:=n.al
   go_wp2
   exact mY (VV.v (Al s (-1))) (by simp[results,Tryz.results105,go_sem,VV.v, *]) ⟨congrArg (fun v=>Ending.returned (VV.v v)) (by simp only[CQ,if_neg (show¬0<=AZ a by have:=HQ.out;omega),if_neg (show¬24<=j by have:=HE.out;omega)];simp),Ag n.bel n.oR (Al s (-1))⟩
theorem RL(j d l n c h:Int)(a b:VV)(s:Bool)(w:World)(A:1<=j)(y:j<=16)(o:Bd a)(p:Bd b)(u: -1000000<=c)(x:c<=1000000)(q:j=12∨j=13->0<=c/\c<=63):
 Ks 105 #[.agg #[Vi j,Vi d,Vi l,Vi n,Vi c,Vi h],.agg #[Vi a.k,.bool a.s,Vi a.m,Vi a.h,Vi a.lo,Vi a.hi],.agg #[Vi b.k,.bool b.s,Vi b.m,Vi b.h,Vi b.lo,Vi b.hi],.bool s] w fun e z=>e=.returned (CQ j c a b s).v/\Below w.heap.size w z:=by
 have r:j=1∨j=2∨j=3∨j=4∨j=5∨j=6∨j=7∨j=8∨j=9∨j=10∨j=11∨j=12∨j=13∨j=14∨j=15∨j=16:=AB;rcases r with rfl|rfl|rfl|rfl|rfl|rfl|rfl|rfl|rfl|rfl|rfl|rfl|rfl|rfl|rfl|rfl
 ·exact WS d l n c h a b s w
 ·exact VJ d l n c h a b s w
 ·exact Ou 3 d l n c h a b s w o p Ad
 ·exact Pe 4 d l n c h a b s w Ad
 ·exact Vt d l n c h a b s w o p
 ·exact WZ d l n c h a b s w
 ·exact OC 7 d l n c h a b s w o p Ad
 ·exact OC 8 d l n c h a b s w o p Ad
 ·exact Vw d l n c h a b s w
 ·exact U6 d l n c h a b s w o u x
 ·exact Uo d l n c h a b s w
 ·exact UO d l n c h a b s w o (q AB).1 (q AB).2
 ·exact UZ d l n c h a b s w o (q AB).1 (q AB).2
 ·exact Ou 14 d l n c h a b s w o p Ad
 ·exact Ui d l n c h a b s w o p
 ·exact Pe 16 d l n c h a b s w Ad
end Go.Proofs.YtcjnmdgomocpgaaGreatDoor
