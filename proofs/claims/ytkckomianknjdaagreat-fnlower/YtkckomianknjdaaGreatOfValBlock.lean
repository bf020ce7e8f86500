import Derived.Test.YtkckomianknjdaaGreatOfCoreF
import Derived.Test.YtkckomianknjdaaGreatOfLen64
import Derived.Test.YtkckomianknjdaaGreatRows
import Derived.Deep.RegionHeld3
import Derived.Deep.Cut
import Derived.Deep.DeepCutAuto
set_option maxHeartbeats 4000000
namespace Go.Proofs.YtkckomianknjdaaGreat
open Go.RowKit
variable {n:Int}{J b k o:Nat}{S:Nat->HS}{V:Nat->VV}{y:VV}{w:World}
def Er(x:VV)(n:Int):Bool:=
 if x.k=0 then decide (-1<=x.m/\x.m<=1099511627776/\x.h=0/\x.lo=0/\x.hi=0)
 else decide (x.k=1/\x.s=false/\x.m=0/\0<=x.h/\x.h<n/\ -1099511627776<=x.lo/\x.lo<=x.hi/\x.hi<=1099511627776)
theorem J9(x b a:Int)(w:World):
 Calls Tryz.prog 19 #[Vi x,Vi b,Vi a] w fun e c=>e=.returned (.bool (decide (b<=x/\x<=a)))/\c=w:=by
 go_enter Tryz.func19,Tryz.ntmps19;go_wp2;all_goals(go_ret;refine⟨AZ ?_,rfl⟩;simp<;>omega)
theorem TB(k:Int)(s:Bool)(m h b a:Int)(n:Int)(w:World)(j:0<=n)(d:n<=8):
 Calls Tryz.prog 170 #[.agg #[Vi k,.bool s,Vi m,Vi h,Vi b,Vi a],Vi n] w fun e c=>e=.returned (.bool (Er ⟨k,s,m,h,b,a⟩ n))/\Below w.heap.size w c:=by
 go_enter Tryz.func170,Tryz.ntmps170;go_wp2_with(go_at_call 19;refine(J9 _ _ _ _).mono ?_;rintro e c⟨rfl,rfl⟩);all_goals(go_ret;refine⟨AZ ?_,Ah⟩;simp_all[Er]<;>first|omega|rfl)
def Dp(V:Nat->VV)(len:Nat)(n:Int):Bool:=decide (len=8)&&(List.range len).all fun i=>Er (V i) n
theorem Pf{u:Nat}(a:k<u)(h:Er (V k) n=false):Dp V u n=false:=by
 have:(List.range u).all (fun i=>Er (V i) n)=false:=by
  rw[List.all_eq_false];exact⟨k,List.mem_range.2 a,by simp[h]⟩
 simp[Dp,this]
theorem Rh{u:Nat}(h:∀i,i<u->Er (V i) n=true):Dp V u n=decide (u=8):=by
 have:(List.range u).all (fun i=>Er (V i) n)=true:=by
  rw[List.all_eq_true];exact fun i a=>h i (List.mem_range.1 a)
 simp only[Dp,this,Bool.and_true]
theorem good_step(h:∀i,i<k->Er (V i) n=true)(g:Er (V k) n=true):∀i,i<k+1->Er (V i) n=true:=by
 intro i a;by_cases e:i=k
 ·rw[e];exact g
 ·exact h i AB
theorem JQ(b c d x:Nat)(V:Nat->VV)(n:Int)(w:World)(D:d<=1048576)(N:0<=n)(A:n<=8)(r:At w b c (d*6) (vF V)):
 Calls Tryz.prog 162 #[.slice (some ⟨b,c,none⟩) d x,Vi n] w fun e Q=>e=.returned (.bool (Dp V d n))/\Below w.heap.size w Q:=by
 have o:=r.lt;have l:=hxy r;by_cases C:d=8
 ·subst C
  go_enter Tryz.func162,Tryz.ntmps162;go_wp2;go_loopw [5](fun i wr=>∃k:Nat,k<=8/\i=Vi k/\Bw w wr/\∀i,i<k->Er (V i) n=true)(fun i _=>8-(intOf i).toNat)
  case atStart=>exact⟨0,Nat.zero_le _,rfl,Below.refl _ _,fun i R=>by omega⟩
  case round=>
   obtain⟨k,S,rfl,a,q⟩:=hrel;have B:=hxy q;by_cases z:k<8
   ·have E:=(a.cell (p:=Va b (c+k*6)) o).trans (l.cell (i:=k*6+0) AB |>.trans (congrArg some (Cq V k 0 AB)))
    have F:=(a.cell (p:=Va b (c+k*6+1)) o).trans (l.cell (i:=k*6+1) AB |>.trans (congrArg some (Cq V k 1 AB)));have I:=(a.cell (p:=Va b (c+k*6+2)) o).trans (l.cell (i:=k*6+2) AB |>.trans (congrArg some (Cq V k 2 AB)));have J:=(a.cell (p:=Va b (c+k*6+3)) o).trans (l.cell (i:=k*6+3) AB |>.trans (congrArg some (Cq V k 3 AB)));have K:=(a.cell (p:=Va b (c+k*6+4)) o).trans (l.cell (i:=k*6+4) AB |>.trans (congrArg some (Cq V k 4 AB)));have L:=(a.cell (p:=Va b (c+k*6+5)) o).trans (l.cell (i:=k*6+5) AB |>.trans (congrArg some (Cq V k 5 AB)));simp only[vC]at E F I J K L;go_wp2_with fail;refine(TB _ _ _ _ _ _ _ _ N A).mono ?_;rintro e U⟨rfl,y⟩;have j:=a.trans (y.mono a.size);have O:Er ⟨(V k).k,(V k).s,(V k).m,(V k).h,(V k).lo,(V k).hi⟩ n=Er (V k) n:=rfl;rw[O];cases hg:Er (V k) n with
    |false=>
     have u:=hxy hg;go_wp2;go_ret;exact⟨AZ (Pf z u).symm,j⟩
    |true=>
     have u:=hxy hg;go_wp2;go_roundw
     case rel=>exact⟨k+1,AB,by go_num,j,good_step B u⟩
     case measure=>simp[intOf];omega
   ·obtain rfl:k=8:=AB
    go_wp2;go_ret;exact⟨AZ (by rw[Rh B.out];rfl),a⟩
 ·have M:Dp V d n=false:=by simp[Dp,C]
  rw[M];go_enter Tryz.func162,Tryz.ntmps162;go_wp2;all_goals(go_ret;exact⟨rfl,Below.refl _ _⟩)
structure Dl(w:World)(bH nH:Nat)(S:Nat->HS)(bR nR:Nat)(V:Nat->VV):Prop where
 h:BZ w bH (nH*3) (Xt S)
 r:BZ w bR (nR*6) (vF V)
theorem Dl.below{j:World}{A:Nat}{C:Nat}(x:Dl w A o S C J V)(a:Below w.heap.size w j):Dl j A o S C J V:=
 ⟨x.h.below a x.h.lt,x.r.below a x.r.lt⟩
def Hu(S:Nat->HS)(i:Nat):Bool:=decide (1<=(S i).size/\(S i).size<=4096)
def Ed(nH:Nat)(S:Nat->HS)(nR:Nat)(V:Nat->VV):Bool:=decide (nH<=8)&&(List.range nH).all (Hu S)&&Dp V nR nH
theorem YZ(h:8<o):Ed o S J V=false:=by
 simp[Ed];intros;omega
theorem WE(a:k<o)(h:Hu S k=false):Ed o S J V=false:=by
 have:(List.range o).all (Hu S)=false:=by
  rw[List.all_eq_false];exact⟨k,List.mem_range.2 a,by simp[h]⟩
 simp[Ed,this]
theorem Zv(a:o<=8)(h:∀i,i<o->Hu S i=true):Ed o S J V=Dp V J o:=by
 have:(List.range o).all (Hu S)=true:=by
  rw[List.all_eq_true];exact fun i b=>h i (List.mem_range.1 b)
 simp[Ed,this,a]
theorem Xn(h:∀i,i<k->Hu S i=true)(g:Hu S k=true):∀i,i<k+1->Hu S i=true:=by
 intro i a;by_cases e:i=k
 ·rw[e];exact g
 ·exact h i AB
theorem Sv(c A b:Nat)(S:Nat->HS)(o B l:Nat)(V:Nat->VV)(w:World)(R:b<=1048576)(J:l<=1048576)(C:Dl w c b S o l V):
 Calls Tryz.prog 161 #[.agg #[Vs c b A,Vs o l B]] w fun e K=>e=.returned (.bool (Ed b S l V))/\Below w.heap.size w K:=by
 have u:=C.h.lt;have m:=hxy C;by_cases F:8<b
 ·rw[YZ F]
  go_enter Tryz.func161,Tryz.ntmps161;go_wp2;go_ret;exact⟨rfl,Ah⟩
 ·have q:b<=8:=AB
  go_enter Tryz.func161,Tryz.ntmps161;go_wp2;go_loopw [3](fun i wr=>∃k:Nat,k<=b/\i=Vi k/\Bw w wr/\w.heap.size<wr.heap.size/\wr.cell? ⟨w.heap.size,0,none⟩=some (Vs c b A)/\wr.cell? ⟨w.heap.size,1,none⟩=some (Vs o l B)/\∀i,i<k->Hu S i=true)(fun i _=>b-(intOf i).toNat)
  case atStart=>exact⟨0,Nat.zero_le _,rfl,Ah,AY,by simp[go_sem],by simp[go_sem],fun i O=>by omega⟩
  case round=>
   obtain⟨k,Q,rfl,j,y,M,N,d⟩:=hrel;have z:=hxy d;have a:=hxy j;by_cases x:k<b
   ·have E:=(j.cell (p:=Va c (k*3)) u).trans (m.h.cell (i:=k*3+0) AB |>.trans (congrArg some (QR S k 0 AB)))
    simp only[kY]at E;have D:c<wr.heap.size:=AB;go_wp2_with fail;refine(J9 _ _ _ _).mono ?_;rintro e L⟨rfl,rfl⟩;have I:decide (1<=(S k).size/\(S k).size<=4096)=Hu S k:=rfl;rw[I];cases hg:Hu S k with
    |false=>
     have n:=hxy hg;go_wp2;go_ret;exact⟨AZ (WE x n).symm,a⟩
    |true=>
     have n:=hxy hg;go_wp2;go_roundw
     case rel=>exact⟨k+1,AB,by go_num,a,y,M,N,Xn z n⟩
     case measure=>simp[intOf];omega
   ·obtain rfl:k=b:=AB
    go_wp2_with fail;refine(JQ _ _ _ _ V _ _ J AB AB (m.r.below a m.r.lt).at).mono ?_;rintro e L⟨rfl,s⟩;go_wp2;go_ret;exact⟨AZ (Zv q z).symm,a.trans (s.mono a.size)⟩
def Js(z:Int):Bool:=decide (0<=z/\z<=2)
def BQ(nH:Nat)(S:Nat->HS)(nR:Nat)(V:Nat->VV)(nA:Nat)(U:Nat->VV)(z c:Int):Bool:=Ed nH S nR V&&Dp U nA nH&&Js z&&Js c
theorem Uj(h:Ed o S J V=true):o<=8:=by
 simp[Ed]at h;omega
theorem Gp(x D a:Nat)(S:Nat->HS)(y E k:Nat)(V:Nat->VV)(u C j:Nat)(U:Nat->VV)(z c:Int)(w:World)(Q:a<=1048576)(R:k<=1048576)(O:j<=1048576)(J:Dl w x a S y k V)(K:BZ w u (j*6) (vF U)):
 Calls Tryz.prog 154 #[.agg #[Vs x a D,Vs y k E],.agg #[Vs u j C,Vi z,Vi c]] w fun e X=>e=.returned (.bool (BQ a S k V j U z c))/\Below w.heap.size w X:=by
 have I:=hxy J;have B:=hxy K;go_enter Tryz.func154,Tryz.ntmps154;go_wp2_with fail;have s:Bw w ((w.alloc (.cells #[Vs x a D,Vs y k E] 45)).alloc (.cells #[Vs u j C,Vi z,Vi c] 142)):=(Ah).alloc AY _;refine(Sv _ _ _ S _ _ _ V _ Q R (I.below s)).mono ?_;rintro e F⟨rfl,l⟩;have b:=hxy (s.trans (l.mono s.size));obtain⟨L,_⟩:=Rj l;have m:w.heap.size+1<F.heap.size:=by have:=l.size;simp at this;omega
 have N:w.heap.size<F.heap.size:=AB;have p:Hid (BQ a S k V j U z c=(Ed a S k V&&Dp U j a&&Js z&&Js c)):=rfl;cases hg:Ed a S k V with
 |false=>
  have n:=hxy hg;go_wp2;go_ret;exact⟨AZ (by rw[p.out,n.out];rfl),b⟩
 |true=>
  have n:=hxy hg;have h8:=Uj hg;go_wp2_with fail;refine(JQ _ _ _ _ U _ _ O AB AB (B.below b B.lt).at).mono ?_;rintro e A⟨rfl,h⟩;have d:=hxy (b.trans (h.mono b.size));have Y:A.cell? ⟨w.heap.size+1,1,none⟩=some (Vi z):=by rw[h.cell m];go_simp
  have Z:A.cell? ⟨w.heap.size+1,2,none⟩=some (Vi c):=by rw[h.cell m];go_simp
  have M:w.heap.size+1<A.heap.size:=DY m h.size;cases hk:Dp U j a with
  |false=>
   have o:=hxy hk;go_wp2;go_ret;exact⟨AZ (by rw[p.out,n.out,o.out];rfl),d⟩
  |true=>
   have o:=hxy hk;go_wp2_with fail;refine(J9 _ _ _ _).mono ?_;rintro e w3⟨rfl,rfl⟩;cases hz:Js z with
   |false=>
    have q:=hxy hz;try rw[show decide (0<=z/\z<=2)=false from hz]
    go_wp2;go_ret;exact⟨AZ (by rw[p.out,n.out,o.out,q.out];rfl),d⟩
   |true=>
    have q:=hxy hz;try rw[show decide (0<=z/\z<=2)=true from hz]
    go_wp2_with fail;refine(J9 _ _ _ _).mono ?_;rintro e w4⟨rfl,rfl⟩
    cases hz:Js c with
    |false=>
     have r:=hxy hz
     try rw[show decide (0<=c/\c<=2)=false from hz]
     go_wp2
     go_ret
     exact⟨AZ (by rw[p.out,n.out,o.out,q.out,r.out];rfl),d⟩
    |true=>
     have r:=hxy hz
     try rw[show decide (0<=c/\c<=2)=true from hz]
     go_wp2
     go_ret
     exact⟨AZ (by rw[p.out,n.out,o.out,q.out,r.out];rfl),d⟩
def Vb(w:World)(b:Nat)(x:VV):Prop:=BZ w b 6 (vC x)
theorem Vb.new(w:World)(x:VV):Vb (w.alloc (.cells #[Vi x.k,.bool x.s,Vi x.m,Vi x.h,Vi x.lo,Vi x.hi] 95)) w.heap.size x:=by
 refine⟨AY,fun i=>by simp[go_sem],fun i a=>?_⟩;match i,a with
 |0,_=>simp[go_sem,vC]
 |1,_=>simp[go_sem,vC]
 |2,_=>simp[go_sem,vC]
 |3,_=>simp[go_sem,vC]
 |4,_=>simp[go_sem,vC]
 |5,_=>simp[go_sem,vC]
theorem Vb.cells{x:VV}(h:Vb w b x):w.cell? (Va b 0)=some (Vi x.k)/\w.cell? (Va b 1)=some (.bool x.s)/\w.cell? (Va b 2)=some (Vi x.m)/\w.cell? (Va b 3)=some (Vi x.h)/\w.cell? (Va b 4)=some (Vi x.lo)/\w.cell? (Va b 5)=some (Vi x.hi):=
 ⟨h.cell (i:=0) AB,h.cell (i:=1) AB,h.cell (i:=2) AB,h.cell (i:=3) AB,h.cell (i:=4) AB,h.cell (i:=5) AB⟩
theorem BZ.set1{n:Nat}{f:Nat->Value}(h:BZ w b n f)(o:Nat)(a:o<n)(v:Value):BZ (w.setCell (Va b o) v) b n (fun i=>if i=o then v else f i):=by
 have:=h.setCells o [v] (by simp;omega);refine BZ.congr (f:=fun i=>if o<=i/\i<o+[v].length then[v].getD (i-o) undef else f i) this fun i _=>?_
 by_cases e:i=o
 ·subst e;simp
 ·rw[if_neg (by simp;omega),if_neg e]
theorem Kc{f:Nat->Value}(a:f 0=Vi y.k)(b:f 1=.bool y.s)(c:f 2=Vi y.m)(d:f 3=Vi y.h)(e:f 4=Vi y.lo)(j:f 5=Vi y.hi):∀i,i<6->f i=vC y i:=by
 intro i l;match i,l with
 |0,_=>exact a
 |1,_=>exact b
 |2,_=>exact c
 |3,_=>exact d
 |4,_=>exact e
 |5,_=>exact j
def zV:VV:=⟨0,false,0,0,0,0⟩
def Im(w:World)(b:Nat)(x:VV):World:=(((((w.setCell (Va b 0) (Vi x.k)).setCell (Va b 1) (.bool x.s)).setCell (Va b 2) (Vi x.m)).setCell (Va b 3) (Vi x.h)).setCell (Va b 4) (Vi x.lo)).setCell (Va b 5) (Vi x.hi)
theorem Mh(h:Vb w b y)(x:VV):Vb (Im w b x) b x:=
 (BZ.set1 (BZ.set1 (BZ.set1 (BZ.set1 (BZ.set1 (BZ.set1 h 0 AB _) 1 AB _) 2 AB _) 3 AB _) 4 AB _) 5 AB _).congr (Kc rfl rfl rfl rfl rfl rfl)
theorem Ip{q:Nat}(h:Vb w b y)(x:VV)(a:q≠b):Vb (Im w q x) b y:=by
 unfold Im;exact(((((BZ.other h a _).other a _).other a _).other a _).other a _).other a _
theorem Ap{B:Nat}{u:World}{q:Nat}(h:Below B w u)(a:B<=q)(x:VV):Below B w (Im u q x):=by
 unfold Im;exact(((((h.setCell a _).setCell a _).setCell a _).setCell a _).setCell a _).setCell a _
end Go.Proofs.YtkckomianknjdaaGreat
