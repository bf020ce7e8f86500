import Derived.Test.YtcjnmdgomocpgaaGreatDoorOfDrawM0
set_option maxHeartbeats 4000000
set_option maxRecDepth 20000
namespace Go.Proofs.YtcjnmdgomocpgaaGreatDoor
open Go.RowKit
variable {c z:Bool}{k l n:Nat}{p:Nat->Bool}{K:Nat->Int}{j w:World}
def qO(base:Int)(len:Nat):Bool:=decide (1<=(len:Int))&&decide ((len:Int)<=4096)&&decide (base<=18446744073709551615-(len:Int))
def xN(base:Int)(len:Nat)(base':Int)(len':Nat):Bool:=decide (base<base'+(len':Int))&&decide (base'<base+(len:Int))
theorem Zy(b:Int)(wr:Bool)(d:Option Addr)(a c:Nat)(w:World)(j:a<=1048576):
 Ks 68 #[.agg #[.int .u64 b,.bool wr,.slice d a c]] w fun e h=>e=.returned (.int .u64 a)/\Below w.heap.size w h:=by
 go_enter Tryz.func68,Tryz.ntmps68;go_wp2;go_ret;exact⟨rfl,Ai⟩
theorem QI(a:Int)(wr:Bool)(d:Option Addr)(b c:Nat)(w:World)(j:b<=1048576):
 Ks 146 #[.agg #[.int .u64 a,.bool wr,.slice d b c]] w fun e h=>e=.returned (.bool (qO a b))/\Below w.heap.size w h:=by
 go_enter Tryz.func146,Tryz.ntmps146;go_wp2;all_goals(go_ret;refine⟨AY ?_,Ai⟩;simp[qO]<;>omega)
theorem UN(b:Int)(wr:Bool)(o:Option Addr)(d k:Nat)(a:Int)(l:Bool)(j:Option Addr)(c h:Nat)(w:World)(u:d<=1048576)(r:c<=1048576)(p:0<=b)(q:b+d<=18446744073709551615)(m:0<=a)(n:a+c<=18446744073709551615):
 Ks 147 #[.agg #[.int .u64 b,.bool wr,.slice o d k],.agg #[.int .u64 a,.bool l,.slice j c h]] w fun e s=>e=.returned (.bool (xN b d a c))/\Below w.heap.size w s:=by
 go_enter Tryz.func147,Tryz.ntmps147;go_wp2;all_goals(go_ret;refine⟨AY ?_,(Ai).alloc AX _⟩;simp[xN]<;>omega)
def Il(Hp:Nat->Bv)(i j:Nat):Bool:=!xN (Hp j).base (Hp j).len (Hp i).base (Hp i).len
def Bg(Hp:Nat->Bv)(i:Nat):Bool:=qO (Hp i).base (Hp i).len&&(List.range i).all (Il Hp i)
def Ea(n:Nat)(Hp:Nat->Bv):Bool:=decide (n<=8)&&(List.range n).all (Bg Hp)
theorem Vd(a:k<n)(h:p k=false):(List.range n).all p=false:=by
 rw[List.all_eq_false];exact⟨k,List.mem_range.2 a,by simp[h]⟩
theorem LH(h:∀i,i<n->p i=true):(List.range n).all p=true:=by
 rw[List.all_eq_true];exact fun i a=>h i (List.mem_range.1 a)
theorem MI(h:∀i,i<k->p i=true)(g:p k=true):∀i,i<k+1->p i=true:=by
 intro i a;by_cases e:i=k
 ·rw[e];exact g
 ·exact h i AB
theorem T9{a:Nat->Bv}(b:k<n)(h:Bg a k=false):Ea n a=false:=by simp[Ea,Vd b h]
theorem YE{a:Nat->Bv}(b:n<=8)(h:∀i,i<n->Bg a i=true):Ea n a=true:=by simp[Ea,LH h,b]
theorem Zu{l:Int}{X:Nat}(h:qO l X=true):1<=X/\X<=4096/\l+X<=18446744073709551615:=by
 simp[qO]at h;omega
theorem Pd(x:Option Addr)(B n o:Nat)(a:Nat->Bv)(hA:Nat->Option Addr)(hC:Nat->Nat)(w:World)(hn:n<=8)(aa:n<=o)(K:∀i,i<n->(a i).len<=1048576)(s:∀i,i<n->0<=(a i).base)(hx:0<n->x=some ⟨B,0,none⟩)(I:Ak w B (n*3) (CO fun i=>(a i).put (hA i) (hC i))):
 Ks 114 #[.slice x n o] w fun e w'=>e=.returned (.bool (Ea n a))/\Below w.heap.size w w':=by
 have D:=I.lt;have C:=hxy I;have O:=hxy hx;have M:=hxy K;have HZ:=hxy s;go_enter Tryz.func114,Tryz.ntmps114;go_wp2;go_loopw [12](fun i wr=>∃k:Nat,k<=n/\i=Vi k/\Bw w wr/\∀i,i<k->Bg a i=true)(fun i _=>n-(intOf i).toNat)
 case atStart=>exact⟨0,Nat.zero_le _,rfl,Below.refl _ _,fun i hi=>by omega⟩
 case round=>
  obtain⟨k,hk,rfl,c,F⟩:=hrel;have L:=hxy F;by_cases h:k<n
  ·obtain rfl:x=some ⟨B,0,none⟩:=O.out AB
   have Q:=(c.cell (p:=Va B (k*3)) D).trans ((C.cell (i:=k*3+0) AB).trans (congrArg some (Iz _ k)));have R:=(c.cell (p:=Va B (k*3+1)) D).trans ((C.cell (i:=k*3+1) AB).trans (congrArg some (JE _ k)));have S:=(c.cell (p:=Va B (k*3+2)) D).trans ((C.cell (i:=k*3+2) AB).trans (congrArg some (GD _ k)));simp only[Bv.put]at Q R S;go_wp2_with fail;refine(QI _ _ _ _ _ _ (M k h)).mono ?_;rintro e Z⟨rfl,r⟩;have d:Hid (Bw w Z):=(c.alloc c.size _).trans (r.mono (by have:=c.size;simp;omega));obtain⟨u,_⟩:=Ud r;have l:wr.heap.size<Z.heap.size:=by have:=r.size;simp at this;omega
   have y:=u wr.heap.size 0 AX;have z:=u wr.heap.size 1 AX;have A:=u wr.heap.size 2 AX;simp[go_sem]at y z A;cases hv:qO (a k).base (a k).len with
   |false=>
    go_wp2;go_ret;exact⟨AY (T9 h (by simp[Bg,hv])).symm,d⟩
   |true=>
    have HV:=hxy hv;have Y:k<=o:=AB;go_wp2;generalize wr.heap.size=Bx at l y z A⊢;go_loopw [24](fun i wi=>∃j:Nat,j<=k/\i=Vi j/\Bw Z wi/\∀i,i<j->Il a k i=true)(fun i _=>k-(intOf i).toNat)
    case atStart=>exact⟨0,Nat.zero_le _,rfl,Below.refl _ _,fun i hi=>by omega⟩
    case round=>
     obtain⟨j,hj,rfl,b,U⟩:=hrel;have HP:=hxy U;have y0:=(b.cell (p:=Va Bx 0) l).trans y;have y1:=(b.cell (p:=Va Bx 1) l).trans z;have y2:=(b.cell (p:=Va Bx 2) l).trans A;have m:=hxy (d.trans (b.mono d.size));have ab:Bx<wr.heap.size:=Ey l b.size;by_cases J:j<k
     ·have Q:=(m.cell (p:=Va B (j*3)) D).trans ((C.cell (i:=j*3+0) AB).trans (congrArg some (Iz _ j)))
      have R:=(m.cell (p:=Va B (j*3+1)) D).trans ((C.cell (i:=j*3+1) AB).trans (congrArg some (JE _ j)));have S:=(m.cell (p:=Va B (j*3+2)) D).trans ((C.cell (i:=j*3+2) AB).trans (congrArg some (GD _ j)));simp only[Bv.put]at Q R S;go_wp2_with fail;have o1:=Zu HV;have o2:qO (a j).base (a j).len=true:=by have:=L.out j J;simp[Bg]at this;exact this.1
      have o3:=Zu o2;refine(UN _ _ _ _ _ _ _ _ _ _ _ (M j AB) (M k h) (HZ j AB) o3.2.2 (HZ k h) o1.2.2).mono ?_;rintro e w3⟨rfl,X⟩;have b3:=(b.alloc b.size _).trans (X.mono (by have:=b.size;simp;omega));have E:=hxy b3;cases hv:xN (a j).base (a j).len (a k).base (a k).len with
      |true=>
       go_wp2;go_ret;exact⟨AY (T9 h (by simp[Bg,Vd J (show Il a k j=false by simp[Il,hv])])).symm,d.trans (E.mono d.size)⟩
      |false=>
       have q:Il a k j=true:=by simp[Il,hv]
       have N:=hxy q;go_wp2;go_roundw
       case rel=>exact⟨j+1,AB,by go_num,E,MI HP N⟩
       case measure=>simp[intOf];omega
     ·obtain rfl:j=k:=AB
      have q:Bg a j=true:=by simp only[Bg,HV.out,LH HP.out,Bool.and_self]
      have N:=hxy q;go_wp2;go_roundw
      case rel=>exact⟨j+1,AB,by go_num,m,MI L N⟩
      case measure=>simp[intOf];omega
  ·go_wp2
   go_ret;obtain rfl:k=n:=AB;exact⟨AY (YE hn L).symm,c⟩
def Gz(n:Nat)(K:Nat->Int):Bool:=decide (n<=200000)&&(List.range n).all fun i=>EM (K i) 1 3
def Et(nR:Nat)(z c hz hc:Bool)(nH:Nat)(Hp:Nat->Bv)(pc st:Int)(nO:Nat)(K:Nat->Int):Bool:=
 decide (nR=8)&&(hz||!z)&&(hc||!c)&&Ea nH Hp&&EM pc 0 2000&&EM st 0 2&&Gz nO K
theorem Xb(a:k<n)(h:EM (K k) 1 3=false):Gz n K=false:=by
 simp[Gz,Vd (p:=fun i=>EM (K i) 1 3) a h]
theorem kY{nR:Nat}{I J:Bool}{o:Nat}{a:Nat->Bv}{M N:Int}{u:Nat}(h:¬(0<=M/\M<=2000/\0<=N/\N<=2)):Et nR z c I J o a M N u K=false:=by
 have:(EM M 0 2000&&EM N 0 2)=false:=by simp[EM];omega
 simp only[Et,Bool.and_assoc];rw[show(EM M 0 2000&&(EM N 0 2&&Gz u K))=false by rw[<-Bool.and_assoc,this];rfl];simp
theorem Ml(c:Option Addr)(n a:Nat)(b:Nat->Bv)(w:World)(k:8<n)(j:n<=1048576):
 Ks 114 #[.slice c n a] w fun e d=>e=.returned (.bool (Ea n b))/\Below w.heap.size w d:=by
 have h:Ea n b=false:=by simp[Ea];omega
 rw[h];go_enter Tryz.func114,Tryz.ntmps114;go_wp2;go_ret;exact⟨rfl,Below.refl _ _⟩
theorem NP(b:Option Addr)(n a:Nat)(K:Nat->Int)(w:World)(j:200000<n)(d:n<=1048576):
 Ks 115 #[.slice b n a] w fun e c=>e=.returned (.bool (Gz n K))/\Below w.heap.size w c:=by
 have h:Gz n K=false:=by simp[Gz];omega
 rw[h];go_enter Tryz.func115,Tryz.ntmps115;go_wp2;go_ret;exact⟨rfl,Below.refl _ _⟩
theorem Sd(x:Option Addr)(b n j:Nat)(K V:Nat->Int)(w:World)(y:n<=200000)(s:0<n->x=some ⟨b,0,none⟩)(l:Ak w b (n*2) (Dg K V)):
 Ks 115 #[.slice x n j] w fun e A=>e=.returned (.bool (Gz n K))/\Below w.heap.size w A:=by
 have q:=l.lt;have m:=hxy l;have h:=hxy s;clear l s;go_enter Tryz.func115,Tryz.ntmps115;go_wp2;go_loopw [10](fun i wr=>∃k:Nat,k<=n/\i=Vi k/\Bw w wr/\∀i,i<k->EM (K i) 1 3=true)(fun i _=>n-(intOf i).toNat)
 case atStart=>exact⟨0,Nat.zero_le _,rfl,Below.refl _ _,fun i r=>by omega⟩
 case round=>
  obtain⟨k,D,rfl,a,c⟩:=hrel;have o:=hxy c;clear c;by_cases d:k<n
  ·obtain rfl:x=some ⟨b,0,none⟩:=h.out AB
   have B:=(a.cell (p:=Va b (k*2)) q).trans ((m.cell (i:=k*2+0) AB).trans (congrArg some (Zh K V k)));have C:=(a.cell (p:=Va b (k*2+1)) q).trans ((m.cell (i:=k*2+1) AB).trans (congrArg some (M4 K V k)));by_cases r:1<=K k/\K k<=3
   ·obtain⟨z,u⟩:=r
    go_wp2;go_roundw
    case rel=>exact⟨k+1,AB,by go_num,a.alloc a.size _,MI o (by simp[EM];omega)⟩
    case measure=>simp[intOf];omega
   ·by_cases z:1<=K k
    ·have u:3<K k:=AB
     go_wp2;go_ret;exact⟨AY (Xb d (by simp[EM];omega)).symm,a.alloc a.size _⟩
    ·have u:K k<1:=AB
     go_wp2;go_ret;exact⟨AY (Xb d (by simp[EM];omega)).symm,a.alloc a.size _⟩
  ·go_wp2
   go_ret;obtain rfl:k=n:=AB;exact⟨AY (by simp only[Gz,LH o.out,y,decide_true,Bool.and_self]),a⟩
theorem Py(x:Option Addr)(b n a:Nat)(K V:Nat->Int)(w:World)(d:n<=1048576)(j:0<n->x=some ⟨b,0,none⟩)(c:Ak w b (n*2) (Dg K V)):
 Ks 115 #[.slice x n a] w fun e k=>e=.returned (.bool (Gz n K))/\Below w.heap.size w k:=by
 by_cases h:n<=200000
 ·exact Sd x b n a K V w h j c
 ·exact NP _ n a K w AB d
theorem PG(x:Option Addr)(B n a:Nat)(c:Nat->Bv)(l:Nat->Option Addr)(m:Nat->Nat)(w:World)(o:n<=1048576)(d:n<=a)(j:∀i,i<n->(c i).len<=1048576)(b:∀i,i<n->0<=(c i).base)(p:0<n->x=some ⟨B,0,none⟩)(k:Ak w B (n*3) (CO fun i=>(c i).put (l i) (m i))):
 Ks 114 #[.slice x n a] w fun e q=>e=.returned (.bool (Ea n c))/\Below w.heap.size w q:=by
 by_cases h:n<=8
 ·exact Pd x B n a c l m w h d j b p k
 ·exact Ml _ n a c w AB o
theorem La(B:Option Addr)(E Y m:Nat)(R:Nat->Int)(z c k o:Bool)(y:Option Addr)(C J l:Nat)(n:Nat->Bv)(N:Nat->Option Addr)(O:Nat->Nat)(p q:Int)(A:Option Addr)(D L s:Nat)(K V:Nat->Int)(w:World)
 (x:Small m l n s)(d:∀i,i<l->0<=(n i).base)(h:Hf w B E Y m R y C J l n N O A D L s K V):
 Ks 74 #[.agg #[.slice B m E,.bool z,.bool c,.bool k,.bool o,.slice y l C,Vi p,Vi q,.slice A s D]] w fun e w'=>
  e=.returned (.bool (Et m z c k o l n p q s K))/\Below w.heap.size w w':=by
 have HS:=hxy x;have r:=hxy h;have X:=hxy d;have hr:=x.regs;clear x h d;have F:=(Below.refl w.heap.size w).alloc BQ (.cells #[.slice B m E,.bool z,.bool c,.bool k,.bool o,.slice y l C,Vi p,Vi q,.slice A s D] 39);have a:=hxy F;clear F;by_cases M:m=8
 ·subst M
  cases hzz:(k||!z)with
  |false=>
   cases k<;>cases z<;>simp at hzz
   go_enter Tryz.func74,Tryz.ntmps74;go_wp2;go_ret;exact⟨AY (by simp[Et]),a⟩
  |true=>
   cases hcc:(o||!c)with
   |false=>
    cases o<;>cases c<;>simp at hcc
    cases k<;>cases z<;>simp at hzz
    all_goals
     go_enter Tryz.func74,Tryz.ntmps74;go_wp2;go_ret;exact⟨AY (by simp[Et]),a⟩
   |true=>
    cases k<;>cases z<;>simp at hzz<;>cases o<;>cases c<;>simp at hcc
    all_goals
     go_enter Tryz.func74,Tryz.ntmps74;go_wp2_with fail;refine(PG _ J _ _ n N O _ HS.heaps r.cH HS.data X r.eH.some (r.below a BQ).heaps).mono ?_;rintro e w1⟨rfl,j⟩;have I:=a.trans (j.mono AX);have b:=hxy I;obtain⟨aa,_⟩:=Ud j;have hy:w.heap.size<w1.heap.size:=by have:=j.size;simp at this;omega
     clear j I;cases hH:Ea l n with
     |false=>
      go_wp2;go_ret;exact⟨AY (by simp[Et,hH]),b⟩
     |true=>
      have S:=hxy hH;clear hH;by_cases Q:0<=p/\p<=2000/\0<=q/\q<=2
      ·have q1:=Q
       go_wp2_with fail;refine(Py _ L _ _ K V _ HS.obs r.eO.some (r.below b BQ).obs).mono ?_;rintro e w2⟨rfl,u⟩;go_wp2;go_ret;have i1:EM p 0 2000=true:=by simp[EM];omega
       have i2:EM q 0 2=true:=by simp[EM];omega
       exact⟨AY (by simp[Et,S.out,i1,i2]),b.trans (u.mono b.size)⟩
      ·have U:=hxy Q
       go_wp2_with fail;all_goals(go_ret;exact⟨AY (kY U).symm,b⟩)
 ·have Z:((m:Int)==8)=false:=by simp;omega
  go_enter Tryz.func74,Tryz.ntmps74;go_wp2;go_ret;exact⟨AY (by simp[Et,M]),a⟩
structure Lf(R:Nat->Int)(nH:Nat)(Hp:Nat->Bv):Prop where
 reg:∀i,i<8->0<=R i/\R i<=18446744073709551615
 base:∀i,i<nH->0<=(Hp i).base/\(Hp i).base<=18446744073709551615
 dat:∀i,i<nH->∀j,j<(Hp i).len->0<=(Hp i).dat j/\(Hp i).dat j<=255
theorem PL{J:Nat}{I hc:Bool}{o:Nat}{a:Nat->Bv}{M N:Int}{u:Nat}(h:Et J z c I hc o a M N u K=true):
 J=8/\o<=8/\(∀i,i<o->1<=(a i).len/\(a i).len<=4096/\(a i).base<=18446744073709551615-((a i).len:Int))/\0<=M/\u<=200000:=by
 unfold Et Ea Gz EM at h;simp only[Bool.and_eq_true,decide_eq_true_eq,List.all_eq_true,List.mem_range]at h;obtain⟨⟨⟨⟨⟨⟨b,_⟩,_⟩,d,e⟩,j,_⟩,_⟩,k,_⟩:=h;refine⟨b,d,fun i l=>?_,j,k⟩;have:=e i l;unfold Bg qO at this;simp only[Bool.and_eq_true,decide_eq_true_eq]at this;omega
def xX(p:Pl)(M:MV):Value:=.agg #[Vs p.bR 8 p.cR,.bool M.z,.bool M.c,.bool M.hz,.bool M.hc,.slice p.aH M.nH p.cH,Vi M.pc,Vi M.st,.slice p.aO M.nO p.cO]
def zeroV:Value:=.agg Zq
def yM(w:World)(base:Nat)(v:Value):Option MV->Prop
 |none=>v=zeroV
 |some M=>∃p,v=xX p M/\Mem w base p M
theorem qR{J:Nat}{R:Nat->Int}{hz hc:Bool}{nH:Nat}{Hp:Nat->Bv}{pc st:Int}{nO:Nat}{V:Nat->Int}(h:Et J z c hz hc nH Hp pc st nO K=true)(d:Lf R nH Hp):
 MV.Ok {R:=R,z:=z,c:=c,hz:=hz,hc:=hc,nH:=nH,Hp:=Hp,pc:=pc,st:=st,nO:=nO,K:=K,V:=V}:=by
 obtain⟨_,e,b,_⟩:=PL h;exact⟨d.reg,e,fun i a=>⟨(d.base i a).1,(b i a).1,(b i a).2.1,by have:=(b i a).2.2;show(Hp i).base+((Hp i).len:Int)<=18446744073709551615;omega⟩,d.dat⟩
def uq(op d a b h:Nat)(imm:Int)(M:MV):MV:=match exec op d a b h imm M 0 with
 |.inl (M',_)=>M'
 |.inr M'=>M'.fault
section
variable{w:World}{base:Nat}{p:Pl}{M:MV}
def MR(base:Nat)(w:World)(M':MV)(e:Ending)(w':World):Prop:=∃p',e=.returned (xX p' M')/\Below base w w'/\Mem w' base p' M'
def Kept(w w':World):Prop:=∀(k:Nat)(cur:Array Value)(ty:Nat)(fr:Nat×Nat),w.heap[k]?=some (.cells cur ty fr)->ty≠41->ty≠43->ty≠5->ty≠167->w'.heap[k]?=w.heap[k]?
theorem Kept.lt{b:Obj}(h:w.heap[k]?=some b):k<w.heap.size:=(I8.1 h).1
theorem gW{e s:Nat}{v:Value}{d:List Value}(h:w.ownsRow l e s v n d)(b:v.ownBlock=some k):∃a,w.heap[k]?=some (.cells a e (0,0)):=by
 rcases h.2 with o|⟨g,j,a,p,q,m,c⟩
 ·rw[o.1]at b;cases b
 ·rw[p]at b
  have:g=k:=by simpa[Value.ownBlock]using b
  subst this;exact⟨a,m⟩
theorem Nh{e s:Nat}{v:Value}{d:List Value}(h:w.ownsRow l e s v n d){C:Array Value}{a:Nat}{j:Nat×Nat}(m:w.heap[k]?=some (.cells C a j))(c:a≠e):v.ownBlock≠some k:=fun q=>by
 obtain⟨o,b⟩:=gW h q;rw[m]at b;simp only[Option.some.injEq,Obj.cells.injEq]at b;exact c b.2.1
def Bf(base:Nat)(w:World)(M':MV)(e:Ending)(w':World):Prop:=MR base w M' e w'/\Kept w w'
theorem Kept.below(a:Below w.heap.size w j):Kept w j:=fun k _ _ _ b _ _ _ _=>a.block k (Kept.lt b)
theorem Kept.set{p:Pl}{M:MV}(h:Mem w l p M)(d:Nat)(v:Int)(m:Below w.heap.size (w.setCell ⟨p.bR,d,none⟩ (.int .u64 v)) j):Kept w j:=fun k c o n b e _ _ _=>by
 have a:k≠p.bR:=fun q=>Nh h.regs b e (by rw[q];rfl)
 exact(m.block k (Kept.lt b)).trans (heap_setCell_other _ _ _ _ a)
theorem Mem.ltR(h:Mem w base p M):base<=p.bR/\p.bR<w.heap.size:=h.regs.lt p.bR rfl
theorem Mem.reg(h:Mem w base p M){i:Nat}(a:i<8):w.cell? ⟨p.bR,i,none⟩=some (.int .u64 (M.R i)):=by
 rw[h.regs.cellAt i AB,G6 a];rfl
theorem Mem.freeR(h:Mem w base p M)(i:Nat):w.frozen? ⟨p.bR,i,none⟩=false:=h.regs.frozenAt i
theorem MR.set{p:Pl}{M:MV}(h:Mem w l p M)(d:Nat)(v:Int)(a:Below w.heap.size (w.setCell ⟨p.bR,d,none⟩ (.int .u64 v)) j):MR l w (M.setR d v) (.returned (xX p (M.setR d v))) j:=
 ⟨p,rfl,(BJ.setCell (by simpa using h.ltR.1) _).trans (a.mono (Nat.le_of_lt (Nat.lt_of_le_of_lt h.ltR.1 h.ltR.2))),(h.setR d v).below (by simpa using a)⟩
theorem Mem.flagged(h:Mem w base p M)(r:Int)(k:Bool):Mem w base p (M.flags r k):=⟨h.regs,h.heaps,h.data,h.obs,h.ne⟩
theorem Mem.faulted(h:Mem w base p M):Mem w base p M.fault:=⟨h.regs,h.heaps,h.data,h.obs,h.ne⟩
theorem MR.stay{p:Pl}{M:MV}(h:Mem w l p M)(a:Below w.heap.size w j):MR l w M (.returned (xX p M)) j:=
 ⟨p,rfl,a.mono (Nat.le_of_lt (Nat.lt_of_le_of_lt h.ltR.1 h.ltR.2)),h.below a⟩
theorem Bf.set{p:Pl}{M:MV}(h:Mem w l p M)(d:Nat)(v:Int)(a:Below w.heap.size (w.setCell ⟨p.bR,d,none⟩ (.int .u64 v)) j):Bf l w (M.setR d v) (.returned (xX p (M.setR d v))) j:=⟨MR.set h d v a,Kept.set h d v a⟩
theorem Bf.stay{p:Pl}{M:MV}(h:Mem w l p M)(a:Below w.heap.size w j):Bf l w M (.returned (xX p M)) j:=⟨MR.stay h a,Kept.below a⟩
theorem LZ(n:Mem w base p M)(x:M.Ok)(j d a b h:Nat)(l:Int)(O:d<8)(C:a<8)(D:b<8)(y:j=1∨j=2∨j=3∨j=4∨j=5∨j=6∨j=7∨j=8∨j=10∨j=11):
 Ks 84 #[.agg #[Vs p.bR 8 p.cR,.bool M.z,.bool M.c,.bool M.hz,.bool M.hc,.slice p.aH M.nH p.cH,Vi M.pc,Vi M.st,.slice p.aO M.nO p.cO],.agg #[Vi j,Vi d,Vi a,Vi b,Vi l,Vi h]] w (Bf base w (uq j d a b h l M)):=by
 have Q:(d:Int)<8:=AB;have L:(a:Int)<8:=AB;have N:(b:Int)<8:=AB;have E:=n.reg C;have F:=n.reg D;have I:=n.reg O;have B:=n.freeR d;have q:=n.ltR.2;have R:=x.reg a C;have X:=x.reg b D;obtain⟨S,U⟩:=R;obtain⟨Y,Z⟩:=X;have J:=hxy n;clear n x;go_enter Tryz.func84,Tryz.ntmps84;go_upto_region 1 with fail;generalize k:((w.alloc (.cells #[Vs p.bR 8 p.cR,.bool M.z,.bool M.c,.bool M.hz,.bool M.hc,.slice p.aH M.nH p.cH,Vi M.pc,Vi M.st,.slice p.aO M.nO p.cO] 39)).alloc (.cells #[Vi j,Vi d,Vi a,Vi b,Vi l,Vi h] 99)).alloc (.cells Zq 39)=m;have o:Bw w m:=by rw[<-k];exact((Ai).alloc AX _).alloc (by simp;omega) _
 have z0:m.heap.size=w.heap.size+3:=by rw[<-k];simp
 have s:m.ownsRow w.heap.size 39 9 (Vs w.heap.size 1 1) 1 [Vs p.bR 8 p.cR,.bool M.z,.bool M.c,.bool M.hz,.bool M.hc,.slice p.aH M.nH p.cH,Vi M.pc,Vi M.st,.slice p.aO M.nO p.cO]:=by rw[<-k];exact((World.ownsRow_lit w #[Vs p.bR 8 p.cR,.bool M.z,.bool M.c,.bool M.hz,.bool M.hc,.slice p.aH M.nH p.cH,Vi M.pc,Vi M.st,.slice p.aO M.nO p.cO] 1 BQ (by unfold maxLen;omega) rfl).alloc _).alloc _
 have A:m.ownsRow w.heap.size 99 6 (.slice (some ⟨w.heap.size+1,0,none⟩) 1 1) 1 [Vi j,Vi d,Vi a,Vi b,Vi l,Vi h]:=by
  rw[<-k];have:=(World.ownsRow_lit (base:=w.heap.size) (e:=99) (size:=6) (w.alloc (.cells #[Vs p.bR 8 p.cR,.bool M.z,.bool M.c,.bool M.hz,.bool M.hc,.slice p.aH M.nH p.cH,Vi M.pc,Vi M.st,.slice p.aO M.nO p.cO] 39)) #[Vi j,Vi d,Vi a,Vi b,Vi l,Vi h] 1 AX (by unfold maxLen;omega) rfl).alloc (.cells Zq 39);rw[World.size_alloc]at this;exact this
 have u:m.ownsRow w.heap.size 39 9 (.slice (some ⟨w.heap.size+1+1,0,none⟩) 1 1) 1 Zp:=by
  rw[<-k];have:=World.ownsRow_lit (base:=w.heap.size) (e:=39) (size:=9) ((w.alloc (.cells #[Vs p.bR 8 p.cR,.bool M.z,.bool M.c,.bool M.hz,.bool M.hc,.slice p.aH M.nH p.cH,Vi M.pc,Vi M.st,.slice p.aO M.nO p.cO] 39)).alloc (.cells #[Vi j,Vi d,Vi a,Vi b,Vi l,Vi h] 99)) Zq 1 (by simp;omega) (by unfold maxLen;omega) rfl;rw[World.size_alloc,World.size_alloc]at this;exact this
 have m0:=Dl s;have i0:=E5 A;obtain⟨s0,s1,s2,s3,s4,s5,s6,s7,s8⟩:=Dl u;have mf:∀i,m.frozen? ⟨w.heap.size,i,none⟩=false:=fun i=>s.frozenAt i
 have sf:∀i,m.frozen? ⟨w.heap.size+1+1,i,none⟩=false:=fun i=>u.frozenAt i
 have aa:=(o.cell (p:=⟨p.bR,a,none⟩) q).trans E;have ab:=(o.cell (p:=⟨p.bR,b,none⟩) q).trans F;have ac:=(o.cell (p:=⟨p.bR,d,none⟩) q).trans I;have K:=(o.frozen (p:=⟨p.bR,d,none⟩) q).trans B;have ad:p.bR<m.heap.size:=AB;have y0:w.heap.size<m.heap.size:=AB;have y1:w.heap.size+1<m.heap.size:=AB;have y2:w.heap.size+1+1<m.heap.size:=AB;have n0:p.bR≠w.heap.size:=AB;have n1:p.bR≠w.heap.size+1:=AB;have n2:p.bR≠w.heap.size+1+1:=AB;have r:=hxy o;clear k o s A u E F I B;rcases y with rfl|rfl|rfl|rfl|rfl|rfl|rfl|rfl|rfl|rfl;all_goals
  go_wp2;refine mY (.agg #[Vs p.bR 8 p.cR,.bool M.z,.bool M.c,.bool M.hz,.bool M.hc,.slice p.aH M.nH p.cH,Vi M.pc,Vi M.st,.slice p.aO M.nO p.cO]) (by simp[results,Tryz.results84,go_sem,s0,s1,s2,s3,s4,s5,s6,s7,s8]) ?_;refine Bf.set J d _ ?_;iterate 9 refine Below.setCell ?_ (by simp;omega) _
  exact Dp (p:=⟨p.bR,d,none⟩) r q _
end
end Go.Proofs.YtcjnmdgomocpgaaGreatDoor
