import Derived.Test.YtcjnmdgomocpgaaGreatDoorOfSpecLeaf
set_option maxHeartbeats 4000000
namespace Go.Proofs.YtcjnmdgomocpgaaGreatDoor
open Go.RowKit
variable {n:Int}{J b k o:Nat}{S:Nat->HS}{V:Nat->VV}{y:VV}{w:World}
def Cy(x:VV)(n:Int):Bool:=
 if x.k=0 then decide (-1<=x.m/\x.m<=1099511627776/\x.h=0/\x.lo=0/\x.hi=0)
 else decide (x.k=1/\x.s=false/\x.m=0/\0<=x.h/\x.h<n/\ -1099511627776<=x.lo/\x.lo<=x.hi/\x.hi<=1099511627776)
theorem JC(x b a:Int)(w:World):
 Ks 44 #[Vi x,Vi b,Vi a] w fun e c=>e=.returned (.bool (decide (b<=x/\x<=a)))/\c=w:=by
 go_enter Tryz.func44,Tryz.ntmps44;go_wp2;all_goals(go_ret;refine⟨AY ?_,rfl⟩;simp<;>omega)
theorem Rz(k:Int)(s:Bool)(m h b a:Int)(n:Int)(w:World):
 Ks 89 #[.agg #[Vi k,.bool s,Vi m,Vi h,Vi b,Vi a],Vi n] w fun e c=>e=.returned (.bool (Cy ⟨k,s,m,h,b,a⟩ n))/\Below w.heap.size w c:=by
 go_enter Tryz.func89,Tryz.ntmps89;go_wp2;all_goals(go_ret;refine⟨AY ?_,Ai⟩;simp_all[Cy]<;>omega)
theorem VQ(k:Int)(s:Bool)(m h b a:Int)(n:Int)(w:World)(j:0<=n)(d:n<=8):
 Ks 98 #[.agg #[Vi k,.bool s,Vi m,Vi h,Vi b,Vi a],Vi n] w fun e c=>e=.returned (.bool (Cy ⟨k,s,m,h,b,a⟩ n))/\Below w.heap.size w c:=by
 go_enter Tryz.func98,Tryz.ntmps98;go_wp2_with(go_at_call 44;refine(JC _ _ _ _).mono ?_;rintro e c⟨rfl,rfl⟩);all_goals(go_ret;refine⟨AY ?_,Ai⟩;simp_all[Cy]<;>first|omega|rfl)
def Dq(V:Nat->VV)(len:Nat)(n:Int):Bool:=decide (len=8)&&(List.range len).all fun i=>Cy (V i) n
theorem LJ{X:Nat}(a:k<X)(h:Cy (V k) n=false):Dq V X n=false:=by
 have:(List.range X).all (fun i=>Cy (V i) n)=false:=by
  rw[List.all_eq_false];exact⟨k,List.mem_range.2 a,by simp[h]⟩
 simp[Dq,this]
theorem Mr{X:Nat}(h:∀i,i<X->Cy (V i) n=true):Dq V X n=decide (X=8):=by
 have:(List.range X).all (fun i=>Cy (V i) n)=true:=by
  rw[List.all_eq_true];exact fun i a=>h i (List.mem_range.1 a)
 simp only[Dq,this,Bool.and_true]
theorem good_step(h:∀i,i<k->Cy (V i) n=true)(g:Cy (V k) n=true):∀i,i<k+1->Cy (V i) n=true:=by
 intro i a;by_cases e:i=k
 ·rw[e];exact g
 ·exact h i AB
theorem Rp(b d c x:Nat)(V:Nat->VV)(n:Int)(w:World)(B:c<=1048576)(r:At w b d (c*6) (vF V)):
 Ks 52 #[.slice (some ⟨b,d,none⟩) c x,Vi n] w fun e L=>e=.returned (.bool (Dq V c n))/\Below w.heap.size w L:=by
 have o:=r.lt;have l:=hxy r;go_enter Tryz.func52,Tryz.ntmps52;go_wp2;go_loopw [9](fun i wr=>∃k:Nat,k<=c/\i=Vi k/\Bw w wr/\∀i,i<k->Cy (V i) n=true)(fun i _=>c-(intOf i).toNat)
 case atStart=>exact⟨0,Nat.zero_le _,rfl,Below.refl _ _,fun i N=>by omega⟩
 case round=>
  obtain⟨k,O,rfl,a,q⟩:=hrel;have A:=hxy q;by_cases z:k<c
  ·have C:=(a.cell (p:=Va b (d+k*6)) o).trans (l.cell (i:=k*6+0) AB |>.trans (congrArg some (Bz V k 0 AB)))
   have D:=(a.cell (p:=Va b (d+k*6+1)) o).trans (l.cell (i:=k*6+1) AB |>.trans (congrArg some (Bz V k 1 AB)));have E:=(a.cell (p:=Va b (d+k*6+2)) o).trans (l.cell (i:=k*6+2) AB |>.trans (congrArg some (Bz V k 2 AB)));have F:=(a.cell (p:=Va b (d+k*6+3)) o).trans (l.cell (i:=k*6+3) AB |>.trans (congrArg some (Bz V k 3 AB)));have I:=(a.cell (p:=Va b (d+k*6+4)) o).trans (l.cell (i:=k*6+4) AB |>.trans (congrArg some (Bz V k 4 AB)));have J:=(a.cell (p:=Va b (d+k*6+5)) o).trans (l.cell (i:=k*6+5) AB |>.trans (congrArg some (Bz V k 5 AB)));simp only[vC]at C D E F I J;go_wp2_with fail;refine(Rz _ _ _ _ _ _ _ _).mono ?_;rintro e M⟨rfl,y⟩;have j:Bw w M:=(a.alloc a.size _).trans (y.mono (by have:=a.size;simp;omega));have K:Cy ⟨(V k).k,(V k).s,(V k).m,(V k).h,(V k).lo,(V k).hi⟩ n=Cy (V k) n:=rfl;rw[K];cases hg:Cy (V k) n with
   |false=>
    have u:=hxy hg;go_wp2;go_ret;exact⟨AY (LJ z u).symm,j⟩
   |true=>
    have u:=hxy hg;go_wp2;go_roundw
    case rel=>exact⟨k+1,AB,by go_num,j,good_step A u⟩
    case measure=>simp[intOf];omega
  ·obtain rfl:k=c:=AB
   go_wp2
   ·go_ret
    refine⟨AY ?_,a⟩;rw[Mr A.out,Bool.eq_iff_iff];simp<;>omega
theorem KR(b c d x:Nat)(V:Nat->VV)(n:Int)(w:World)(D:d<=1048576)(N:0<=n)(A:n<=8)(r:At w b c (d*6) (vF V)):
 Ks 61 #[.slice (some ⟨b,c,none⟩) d x,Vi n] w fun e Q=>e=.returned (.bool (Dq V d n))/\Below w.heap.size w Q:=by
 have o:=r.lt;have l:=hxy r;by_cases C:d=8
 ·subst C
  go_enter Tryz.func61,Tryz.ntmps61;go_wp2;go_loopw [5](fun i wr=>∃k:Nat,k<=8/\i=Vi k/\Bw w wr/\∀i,i<k->Cy (V i) n=true)(fun i _=>8-(intOf i).toNat)
  case atStart=>exact⟨0,Nat.zero_le _,rfl,Below.refl _ _,fun i R=>by omega⟩
  case round=>
   obtain⟨k,S,rfl,a,q⟩:=hrel;have B:=hxy q;by_cases z:k<8
   ·have E:=(a.cell (p:=Va b (c+k*6)) o).trans (l.cell (i:=k*6+0) AB |>.trans (congrArg some (Bz V k 0 AB)))
    have F:=(a.cell (p:=Va b (c+k*6+1)) o).trans (l.cell (i:=k*6+1) AB |>.trans (congrArg some (Bz V k 1 AB)));have I:=(a.cell (p:=Va b (c+k*6+2)) o).trans (l.cell (i:=k*6+2) AB |>.trans (congrArg some (Bz V k 2 AB)));have J:=(a.cell (p:=Va b (c+k*6+3)) o).trans (l.cell (i:=k*6+3) AB |>.trans (congrArg some (Bz V k 3 AB)));have K:=(a.cell (p:=Va b (c+k*6+4)) o).trans (l.cell (i:=k*6+4) AB |>.trans (congrArg some (Bz V k 4 AB)));have L:=(a.cell (p:=Va b (c+k*6+5)) o).trans (l.cell (i:=k*6+5) AB |>.trans (congrArg some (Bz V k 5 AB)));simp only[vC]at E F I J K L;go_wp2_with fail;refine(VQ _ _ _ _ _ _ _ _ N A).mono ?_;rintro e U⟨rfl,y⟩;have j:=a.trans (y.mono a.size);have O:Cy ⟨(V k).k,(V k).s,(V k).m,(V k).h,(V k).lo,(V k).hi⟩ n=Cy (V k) n:=rfl;rw[O];cases hg:Cy (V k) n with
    |false=>
     have u:=hxy hg;go_wp2;go_ret;exact⟨AY (LJ z u).symm,j⟩
    |true=>
     have u:=hxy hg;go_wp2;go_roundw
     case rel=>exact⟨k+1,AB,by go_num,j,good_step B u⟩
     case measure=>simp[intOf];omega
   ·obtain rfl:k=8:=AB
    go_wp2;go_ret;exact⟨AY (by rw[Mr B.out];rfl),a⟩
 ·have M:Dq V d n=false:=by simp[Dq,C]
  rw[M];go_enter Tryz.func61,Tryz.ntmps61;go_wp2;all_goals(go_ret;exact⟨rfl,Below.refl _ _⟩)
def Vb(w:World)(b:Nat)(x:VV):Prop:=Ak w b 6 (vC x)
theorem Vb.new(w:World)(x:VV):Vb (w.alloc (.cells #[Vi x.k,.bool x.s,Vi x.m,Vi x.h,Vi x.lo,Vi x.hi] 47)) w.heap.size x:=by
 refine⟨AX,fun i=>by simp[go_sem],fun i a=>?_⟩;match i,a with
 |0,_=>simp[go_sem,vC]
 |1,_=>simp[go_sem,vC]
 |2,_=>simp[go_sem,vC]
 |3,_=>simp[go_sem,vC]
 |4,_=>simp[go_sem,vC]
 |5,_=>simp[go_sem,vC]
theorem Vb.cells{x:VV}(h:Vb w b x):w.cell? (Va b 0)=some (Vi x.k)/\w.cell? (Va b 1)=some (.bool x.s)/\w.cell? (Va b 2)=some (Vi x.m)/\w.cell? (Va b 3)=some (Vi x.h)/\w.cell? (Va b 4)=some (Vi x.lo)/\w.cell? (Va b 5)=some (Vi x.hi):=
 ⟨h.cell (i:=0) AB,h.cell (i:=1) AB,h.cell (i:=2) AB,h.cell (i:=3) AB,h.cell (i:=4) AB,h.cell (i:=5) AB⟩
theorem Ak.set1{n:Nat}{f:Nat->Value}(h:Ak w b n f)(o:Nat)(a:o<n)(v:Value):Ak (w.setCell (Va b o) v) b n (fun i=>if i=o then v else f i):=by
 have:=h.setCells o [v] (by simp;omega);refine Ak.congr (f:=fun i=>if o<=i/\i<o+[v].length then[v].getD (i-o) undef else f i) this fun i _=>?_
 by_cases e:i=o
 ·subst e;simp
 ·rw[if_neg (by simp;omega),if_neg e]
theorem Ll{f:Nat->Value}(a:f 0=Vi y.k)(b:f 1=.bool y.s)(c:f 2=Vi y.m)(d:f 3=Vi y.h)(e:f 4=Vi y.lo)(j:f 5=Vi y.hi):∀i,i<6->f i=vC y i:=by
 intro i l;match i,l with
 |0,_=>exact a
 |1,_=>exact b
 |2,_=>exact c
 |3,_=>exact d
 |4,_=>exact e
 |5,_=>exact j
def zV:VV:=⟨0,false,0,0,0,0⟩
def Iy(w:World)(b:Nat)(x:VV):World:=(((((w.setCell (Va b 0) (Vi x.k)).setCell (Va b 1) (.bool x.s)).setCell (Va b 2) (Vi x.m)).setCell (Va b 3) (Vi x.h)).setCell (Va b 4) (Vi x.lo)).setCell (Va b 5) (Vi x.hi)
theorem OB(h:Vb w b y)(x:VV):Vb (Iy w b x) b x:=
 (Ak.set1 (Ak.set1 (Ak.set1 (Ak.set1 (Ak.set1 (Ak.set1 h 0 AB _) 1 AB _) 2 AB _) 3 AB _) 4 AB _) 5 AB _).congr (Ll rfl rfl rfl rfl rfl rfl)
theorem Jo{q:Nat}(h:Vb w b y)(x:VV)(a:q≠b):Vb (Iy w q x) b y:=by
 unfold Iy;exact(((((Ak.other h a _).other a _).other a _).other a _).other a _).other a _
theorem Ag{B:Nat}{u:World}{q:Nat}(h:Below B w u)(a:B<=q)(x:VV):Below B w (Iy u q x):=by
 unfold Iy;exact(((((h.setCell a _).setCell a _).setCell a _).setCell a _).setCell a _).setCell a _
structure Ck(w:World)(bH nH:Nat)(S:Nat->HS)(bR nR:Nat)(V:Nat->VV):Prop where
 h:Ak w bH (nH*3) (Ur S)
 r:Ak w bR (nR*6) (vF V)
theorem Ck.below{j:World}{A:Nat}{D:Nat}(x:Ck w A o S D J V)(a:Below w.heap.size w j):Ck j A o S D J V:=
 ⟨x.h.below a x.h.lt,x.r.below a x.r.lt⟩
def GJ(S:Nat->HS)(i:Nat):Bool:=decide (1<=(S i).size/\(S i).size<=4096)
def Db(nH:Nat)(S:Nat->HS)(nR:Nat)(V:Nat->VV):Bool:=decide (nH<=8)&&(List.range nH).all (GJ S)&&Dq V nR nH
theorem Xd(h:8<o):Db o S J V=false:=by
 simp[Db];intros;omega
theorem Nw(a:k<o)(h:GJ S k=false):Db o S J V=false:=by
 have:(List.range o).all (GJ S)=false:=by
  rw[List.all_eq_false];exact⟨k,List.mem_range.2 a,by simp[h]⟩
 simp[Db,this]
theorem Xa(a:o<=8)(h:∀i,i<o->GJ S i=true):Db o S J V=Dq V J o:=by
 have:(List.range o).all (GJ S)=true:=by
  rw[List.all_eq_true];exact fun i b=>h i (List.mem_range.1 b)
 simp[Db,this,a]
theorem UF(h:∀i,i<k->GJ S i=true)(g:GJ S k=true):∀i,i<k+1->GJ S i=true:=by
 intro i a;by_cases e:i=k
 ·rw[e];exact g
 ·exact h i AB
theorem Mw(d y b:Nat)(S:Nat->HS)(q z o:Nat)(V:Nat->VV)(w:World)(N:b<=1048576)(J:o<=1048576)(A:Ck w d b S q o V):
 Ks 23 #[.agg #[Vs d b y,Vs q o z]] w fun e K=>e=.returned (.bool (Db b S o V))/\Below w.heap.size w K:=by
 have j:=A.h.lt;have l:=hxy A;by_cases F:8<b
 ·rw[Xd F]
  go_enter Tryz.func23,Tryz.ntmps23;go_wp2;go_ret;exact⟨rfl,Ai⟩
 ·have s:b<=8:=AB
  go_enter Tryz.func23,Tryz.ntmps23;go_wp2;go_loopw [12](fun i wr=>∃k:Nat,k<=b/\i=Vi k/\Bw w wr/\w.heap.size<wr.heap.size/\wr.cell? ⟨w.heap.size,0,none⟩=some (Vs d b y)/\wr.cell? ⟨w.heap.size,1,none⟩=some (Vs q o z)/\∀i,i<k->GJ S i=true)(fun i _=>b-(intOf i).toNat)
  case atStart=>exact⟨0,Nat.zero_le _,rfl,Ai,AX,by simp[go_sem],by simp[go_sem],fun i L=>by omega⟩
  case round=>
   obtain⟨k,M,rfl,c,I,Q,R,m⟩:=hrel;have x:=hxy m;have a:=hxy c;by_cases n:k<b
   ·have C:=(c.cell (p:=Va d (k*3)) j).trans (l.h.cell (i:=k*3+0) AB |>.trans (congrArg some (Fb S k 0 AB)))
    have D:=(c.cell (p:=Va d (k*3+1)) j).trans (l.h.cell (i:=k*3+1) AB |>.trans (congrArg some (Fb S k 1 AB)));have E:=(c.cell (p:=Va d (k*3+2)) j).trans (l.h.cell (i:=k*3+2) AB |>.trans (congrArg some (Fb S k 2 AB)));simp only[wm]at C D E;have B:d<wr.heap.size:=AB;go_wp2
    ·go_ret
     exact⟨AY (Nw n (by simp[GJ];omega)).symm,a.alloc a.size _⟩
    ·go_roundw
     case rel=>exact⟨k+1,AB,by go_num,a.alloc a.size _,by simp;omega,by go_simp,by go_simp,UF x (by simp[GJ];omega)⟩
     case measure=>simp[intOf];omega
    ·go_ret
     exact⟨AY (Nw n (by simp[GJ];omega)).symm,a.alloc a.size _⟩
   ·obtain rfl:k=b:=AB
    go_wp2_with fail;refine(Rp _ _ _ _ V _ _ J (l.r.below a l.r.lt).at).mono ?_;rintro e O⟨rfl,u⟩;go_wp2;go_ret;exact⟨AY (Xa s x).symm,a.trans (u.mono a.size)⟩
theorem NC(c A b:Nat)(S:Nat->HS)(o B l:Nat)(V:Nat->VV)(w:World)(R:b<=1048576)(J:l<=1048576)(C:Ck w c b S o l V):
 Ks 29 #[.agg #[Vs c b A,Vs o l B]] w fun e K=>e=.returned (.bool (Db b S l V))/\Below w.heap.size w K:=by
 have u:=C.h.lt;have m:=hxy C;by_cases F:8<b
 ·rw[Xd F]
  go_enter Tryz.func29,Tryz.ntmps29;go_wp2;go_ret;exact⟨rfl,Ai⟩
 ·have q:b<=8:=AB
  go_enter Tryz.func29,Tryz.ntmps29;go_wp2;go_loopw [3](fun i wr=>∃k:Nat,k<=b/\i=Vi k/\Bw w wr/\w.heap.size<wr.heap.size/\wr.cell? ⟨w.heap.size,0,none⟩=some (Vs c b A)/\wr.cell? ⟨w.heap.size,1,none⟩=some (Vs o l B)/\∀i,i<k->GJ S i=true)(fun i _=>b-(intOf i).toNat)
  case atStart=>exact⟨0,Nat.zero_le _,rfl,Ai,AX,by simp[go_sem],by simp[go_sem],fun i O=>by omega⟩
  case round=>
   obtain⟨k,Q,rfl,j,y,M,N,d⟩:=hrel;have z:=hxy d;have a:=hxy j;by_cases x:k<b
   ·have E:=(j.cell (p:=Va c (k*3)) u).trans (m.h.cell (i:=k*3+0) AB |>.trans (congrArg some (Fb S k 0 AB)))
    simp only[wm]at E;have D:c<wr.heap.size:=AB;go_wp2_with fail;refine(JC _ _ _ _).mono ?_;rintro e L⟨rfl,rfl⟩;have I:decide (1<=(S k).size/\(S k).size<=4096)=GJ S k:=rfl;rw[I];cases hg:GJ S k with
    |false=>
     have n:=hxy hg;go_wp2;go_ret;exact⟨AY (Nw x n).symm,a⟩
    |true=>
     have n:=hxy hg;go_wp2;go_roundw
     case rel=>exact⟨k+1,AB,by go_num,a,y,M,N,UF z n⟩
     case measure=>simp[intOf];omega
   ·obtain rfl:k=b:=AB
    go_wp2_with fail;refine(KR _ _ _ _ V _ _ J AB AB (m.r.below a m.r.lt).at).mono ?_;rintro e L⟨rfl,s⟩;go_wp2;go_ret;exact⟨AY (Xa q z).symm,a.trans (s.mono a.size)⟩
def Kl(z:Int):Bool:=decide (0<=z/\z<=2)
def BK(nH:Nat)(S:Nat->HS)(nR:Nat)(V:Nat->VV)(nA:Nat)(U:Nat->VV)(z c:Int):Bool:=Db nH S nR V&&Dq U nA nH&&Kl z&&Kl c
theorem NY(h:Db o S J V=true):o<=8:=by
 simp[Db]at h;omega
theorem GN(x D a:Nat)(S:Nat->HS)(y E k:Nat)(V:Nat->VV)(u C j:Nat)(U:Nat->VV)(z c:Int)(w:World)(Q:a<=1048576)(R:k<=1048576)(O:j<=1048576)(J:Ck w x a S y k V)(K:Ak w u (j*6) (vF U)):
 Ks 100 #[.agg #[Vs x a D,Vs y k E],.agg #[Vs u j C,Vi z,Vi c]] w fun e X=>e=.returned (.bool (BK a S k V j U z c))/\Below w.heap.size w X:=by
 have I:=hxy J;have B:=hxy K;go_enter Tryz.func100,Tryz.ntmps100;go_wp2_with fail;have s:Bw w ((w.alloc (.cells #[Vs x a D,Vs y k E] 26)).alloc (.cells #[Vs u j C,Vi z,Vi c] 31)):=(Ai).alloc AX _;refine(NC _ _ _ S _ _ _ V _ Q R (I.below s)).mono ?_;rintro e F⟨rfl,l⟩;have b:=hxy (s.trans (l.mono s.size));obtain⟨L,_⟩:=Ud l;have m:w.heap.size+1<F.heap.size:=by have:=l.size;simp at this;omega
 have N:w.heap.size<F.heap.size:=AB;have p:Hid (BK a S k V j U z c=(Db a S k V&&Dq U j a&&Kl z&&Kl c)):=rfl;cases hg:Db a S k V with
 |false=>
  have n:=hxy hg;go_wp2;go_ret;exact⟨AY (by rw[p.out,n.out];rfl),b⟩
 |true=>
  have n:=hxy hg;have h8:=NY hg;go_wp2_with fail;refine(KR _ _ _ _ U _ _ O AB AB (B.below b B.lt).at).mono ?_;rintro e A⟨rfl,h⟩;have d:=hxy (b.trans (h.mono b.size));have Y:A.cell? ⟨w.heap.size+1,1,none⟩=some (Vi z):=by rw[h.cell m];go_simp
  have Z:A.cell? ⟨w.heap.size+1,2,none⟩=some (Vi c):=by rw[h.cell m];go_simp
  have M:w.heap.size+1<A.heap.size:=Ey m h.size;cases hk:Dq U j a with
  |false=>
   have o:=hxy hk;go_wp2;go_ret;exact⟨AY (by rw[p.out,n.out,o.out];rfl),d⟩
  |true=>
   have o:=hxy hk;go_wp2_with fail;refine(JC _ _ _ _).mono ?_;rintro e w3⟨rfl,rfl⟩;cases hz:Kl z with
   |false=>
    have q:=hxy hz;try rw[show decide (0<=z/\z<=2)=false from hz]
    go_wp2;go_ret;exact⟨AY (by rw[p.out,n.out,o.out,q.out];rfl),d⟩
   |true=>
    have q:=hxy hz;try rw[show decide (0<=z/\z<=2)=true from hz]
    go_wp2_with fail;refine(JC _ _ _ _).mono ?_;rintro e w4⟨rfl,rfl⟩
    cases hz:Kl c with
    |false=>
     have r:=hxy hz
     try rw[show decide (0<=c/\c<=2)=false from hz]
     go_wp2
     go_ret
     exact⟨AY (by rw[p.out,n.out,o.out,q.out,r.out];rfl),d⟩
    |true=>
     have r:=hxy hz
     try rw[show decide (0<=c/\c<=2)=true from hz]
     go_wp2
     go_ret
     exact⟨AY (by rw[p.out,n.out,o.out,q.out,r.out];rfl),d⟩
end Go.Proofs.YtcjnmdgomocpgaaGreatDoor
