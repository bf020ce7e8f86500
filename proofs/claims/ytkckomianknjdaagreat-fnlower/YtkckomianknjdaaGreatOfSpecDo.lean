import Derived.Test.YtkckomianknjdaaGreatOfCoreF
import Derived.Test.YtkckomianknjdaaGreatOfMachCopy2
import Derived.Test.YtkckomianknjdaaGreatOfFlatAny
import Derived.Test.YtkckomianknjdaaGreatOfDrawM0
import Derived.Test.YtkckomianknjdaaGreatOpTable
import Derived.Test.YtkckomianknjdaaGreatOfCoreStep3
import Derived.Deep.Cut
set_option maxHeartbeats 4000000
set_option maxRecDepth 20000
namespace Go.Proofs.YtkckomianknjdaaGreat
open Go.RowKit
variable {c z:Bool}{J k l n:Nat}{p:Nat->Bool}{K:Nat->Int}{j w:World}
def Sy(base:Int)(len:Nat):Bool:=decide (1<=(len:Int))&&decide ((len:Int)<=4096)&&decide (base<=18446744073709551615-(len:Int))
def Vx(base:Int)(len:Nat)(base':Int)(len':Nat):Bool:=decide (base<base'+(len':Int))&&decide (base'<base+(len:Int))
theorem Cx(b:Int)(wr:Bool)(d:Option Addr)(a c:Nat)(w:World)(j:a<=1048576):
 Calls Tryz.prog 41 #[.agg #[.int .u64 b,.bool wr,.slice d a c]] w fun e h=>e=.returned (.int .u64 a)/\Below w.heap.size w h:=by
 go_enter Tryz.func41,Tryz.ntmps41;go_wp2;go_ret;exact⟨rfl,Ah⟩
theorem Nw(a:Int)(wr:Bool)(d:Option Addr)(b c:Nat)(w:World)(j:b<=1048576):
 Calls Tryz.prog 77 #[.agg #[.int .u64 a,.bool wr,.slice d b c]] w fun e h=>e=.returned (.bool (Sy a b))/\Below w.heap.size w h:=by
 go_enter Tryz.func77,Tryz.ntmps77;go_wp2;all_goals(go_ret;refine⟨AZ ?_,Ah⟩;simp[Sy]<;>omega)
theorem RL(b:Int)(wr:Bool)(o:Option Addr)(d k:Nat)(a:Int)(l:Bool)(j:Option Addr)(c h:Nat)(w:World)(u:d<=1048576)(r:c<=1048576)(p:0<=b)(q:b+d<=18446744073709551615)(m:0<=a)(n:a+c<=18446744073709551615):
 Calls Tryz.prog 78 #[.agg #[.int .u64 b,.bool wr,.slice o d k],.agg #[.int .u64 a,.bool l,.slice j c h]] w fun e s=>e=.returned (.bool (Vx b d a c))/\Below w.heap.size w s:=by
 go_enter Tryz.func78,Tryz.ntmps78;go_wp2;all_goals(go_ret;refine⟨AZ ?_,(Ah).alloc AY _⟩;simp[Vx]<;>omega)
def FK(Hp:Nat->Bj)(i j:Nat):Bool:=!Vx (Hp j).base (Hp j).len (Hp i).base (Hp i).len
def heapAt(Hp:Nat->Bj)(i:Nat):Bool:=Sy (Hp i).base (Hp i).len&&(List.range i).all (FK Hp i)
def DV(n:Nat)(Hp:Nat->Bj):Bool:=decide (n<=8)&&(List.range n).all (heapAt Hp)
theorem QN(a:k<n)(h:p k=false):(List.range n).all p=false:=by
 rw[List.all_eq_false];exact⟨k,List.mem_range.2 a,by simp[h]⟩
theorem KR(h:∀i,i<n->p i=true):(List.range n).all p=true:=by
 rw[List.all_eq_true];exact fun i a=>h i (List.mem_range.1 a)
theorem Ei(h:∀i,i<k->p i=true)(g:p k=true):∀i,i<k+1->p i=true:=by
 intro i a;by_cases e:i=k
 ·rw[e];exact g
 ·exact h i AB
theorem Jz{a:Nat->Bj}(b:k<n)(h:heapAt a k=false):DV n a=false:=by simp[DV,QN b h]
theorem Om{a:Nat->Bj}(b:n<=8)(h:∀i,i<n->heapAt a i=true):DV n a=true:=by simp[DV,KR h,b]
theorem Pg{l:Int}{u:Nat}(h:Sy l u=true):1<=u/\u<=4096/\l+u<=18446744073709551615:=by
 simp[Sy]at h;omega
theorem Mv(x:Option Addr)(B n o:Nat)(a:Nat->Bj)(hA:Nat->Option Addr)(hC:Nat->Nat)(w:World)(hn:n<=8)(aa:n<=o)(K:∀i,i<n->(a i).len<=1048576)(s:∀i,i<n->0<=(a i).base)(hx:0<n->x=some ⟨B,0,none⟩)(I:BZ w B (n*3) (CO fun i=>(a i).put (hA i) (hC i))):
 Calls Tryz.prog 51 #[.slice x n o] w fun e w'=>e=.returned (.bool (DV n a))/\Below w.heap.size w w':=by
 have D:=I.lt;have C:=hxy I;have O:=hxy hx;have M:=hxy K;have HZ:=hxy s;go_enter Tryz.func51,Tryz.ntmps51;go_wp2;go_loopw [12](fun i wr=>∃k:Nat,k<=n/\i=Vi k/\Bw w wr/\∀i,i<k->heapAt a i=true)(fun i _=>n-(intOf i).toNat)
 case atStart=>exact⟨0,Nat.zero_le _,rfl,Below.refl _ _,fun i hi=>by omega⟩
 case round=>
  obtain⟨k,hk,rfl,c,F⟩:=hrel;have L:=hxy F;by_cases h:k<n
  ·obtain rfl:x=some ⟨B,0,none⟩:=O.out AB
   have Q:=(c.cell (p:=Va B (k*3)) D).trans ((C.cell (i:=k*3+0) AB).trans (congrArg some (FR _ k)));have R:=(c.cell (p:=Va B (k*3+1)) D).trans ((C.cell (i:=k*3+1) AB).trans (congrArg some (FQ _ k)));have S:=(c.cell (p:=Va B (k*3+2)) D).trans ((C.cell (i:=k*3+2) AB).trans (congrArg some (Ef _ k)));simp only[Bj.put]at Q R S;go_wp2_with fail;refine(Nw _ _ _ _ _ _ (M k h)).mono ?_;rintro e Z⟨rfl,r⟩;have d:Hid (Bw w Z):=(c.alloc c.size _).trans (r.mono (by have:=c.size;simp;omega));obtain⟨u,_⟩:=Rj r;have l:wr.heap.size<Z.heap.size:=by have:=r.size;simp at this;omega
   have y:=u wr.heap.size 0 AY;have z:=u wr.heap.size 1 AY;have A:=u wr.heap.size 2 AY;simp[go_sem]at y z A;cases hv:Sy (a k).base (a k).len with
   |false=>
    go_wp2;go_ret;exact⟨AZ (Jz h (by simp[heapAt,hv])).symm,d⟩
   |true=>
    have HV:=hxy hv;have Y:k<=o:=AB;go_wp2;generalize wr.heap.size=Bx at l y z A⊢;go_loopw [24](fun i wi=>∃j:Nat,j<=k/\i=Vi j/\Bw Z wi/\∀i,i<j->FK a k i=true)(fun i _=>k-(intOf i).toNat)
    case atStart=>exact⟨0,Nat.zero_le _,rfl,Below.refl _ _,fun i hi=>by omega⟩
    case round=>
     obtain⟨j,hj,rfl,b,U⟩:=hrel;have HP:=hxy U;have y0:=(b.cell (p:=Va Bx 0) l).trans y;have y1:=(b.cell (p:=Va Bx 1) l).trans z;have y2:=(b.cell (p:=Va Bx 2) l).trans A;have m:=hxy (d.trans (b.mono d.size));have ab:Bx<wr.heap.size:=DY l b.size;by_cases J:j<k
     ·have Q:=(m.cell (p:=Va B (j*3)) D).trans ((C.cell (i:=j*3+0) AB).trans (congrArg some (FR _ j)))
      have R:=(m.cell (p:=Va B (j*3+1)) D).trans ((C.cell (i:=j*3+1) AB).trans (congrArg some (FQ _ j)));have S:=(m.cell (p:=Va B (j*3+2)) D).trans ((C.cell (i:=j*3+2) AB).trans (congrArg some (Ef _ j)));simp only[Bj.put]at Q R S;go_wp2_with fail;have o1:=Pg HV;have o2:Sy (a j).base (a j).len=true:=by have:=L.out j J;simp[heapAt]at this;exact this.1
      have o3:=Pg o2;refine(RL _ _ _ _ _ _ _ _ _ _ _ (M j AB) (M k h) (HZ j AB) o3.2.2 (HZ k h) o1.2.2).mono ?_;rintro e w3⟨rfl,X⟩;have b3:=(b.alloc b.size _).trans (X.mono (by have:=b.size;simp;omega));have E:=hxy b3;cases hv:Vx (a j).base (a j).len (a k).base (a k).len with
      |true=>
       go_wp2;go_ret;exact⟨AZ (Jz h (by simp[heapAt,QN J (show FK a k j=false by simp[FK,hv])])).symm,d.trans (E.mono d.size)⟩
      |false=>
       have q:FK a k j=true:=by simp[FK,hv]
       have N:=hxy q;go_wp2;go_roundw
       case rel=>exact⟨j+1,AB,by go_num,E,Ei HP N⟩
       case measure=>simp[intOf];omega
     ·obtain rfl:j=k:=AB
      have q:heapAt a j=true:=by simp only[heapAt,HV.out,KR HP.out,Bool.and_self]
      have N:=hxy q;go_wp2;go_roundw
      case rel=>exact⟨j+1,AB,by go_num,m,Ei L N⟩
      case measure=>simp[intOf];omega
  ·go_wp2
   go_ret;obtain rfl:k=n:=AB;exact⟨AZ (Om hn L).symm,c⟩
def EQ(n:Nat)(K:Nat->Int):Bool:=decide (n<=200000)&&(List.range n).all fun i=>Dm (K i) 1 3
def DZ(nR:Nat)(z c hz hc:Bool)(nH:Nat)(Hp:Nat->Bj)(pc st:Int)(nO:Nat)(K:Nat->Int):Bool:=
 decide (nR=8)&&(hz||!z)&&(hc||!c)&&DV nH Hp&&Dm pc 0 2000&&Dm st 0 2&&EQ nO K
theorem Pn(a:k<n)(h:Dm (K k) 1 3=false):EQ n K=false:=by
 simp[EQ,QN (p:=fun i=>Dm (K i) 1 3) a h]
theorem Yl{B m:Bool}{o:Nat}{a:Nat->Bj}{O L:Int}{p:Nat}(h:¬(0<=O/\O<=2000/\0<=L/\L<=2)):DZ J z c B m o a O L p K=false:=by
 have:(Dm O 0 2000&&Dm L 0 2)=false:=by simp[Dm];omega
 simp only[DZ,Bool.and_assoc];rw[show(Dm O 0 2000&&(Dm L 0 2&&EQ p K))=false by rw[<-Bool.and_assoc,this];rfl];simp
theorem Kq(c:Option Addr)(n a:Nat)(b:Nat->Bj)(w:World)(k:8<n)(j:n<=1048576):
 Calls Tryz.prog 51 #[.slice c n a] w fun e d=>e=.returned (.bool (DV n b))/\Below w.heap.size w d:=by
 have h:DV n b=false:=by simp[DV];omega
 rw[h];go_enter Tryz.func51,Tryz.ntmps51;go_wp2;go_ret;exact⟨rfl,Below.refl _ _⟩
theorem Lj(b:Option Addr)(n a:Nat)(K:Nat->Int)(w:World)(j:200000<n)(d:n<=1048576):
 Calls Tryz.prog 52 #[.slice b n a] w fun e c=>e=.returned (.bool (EQ n K))/\Below w.heap.size w c:=by
 have h:EQ n K=false:=by simp[EQ];omega
 rw[h];go_enter Tryz.func52,Tryz.ntmps52;go_wp2;go_ret;exact⟨rfl,Below.refl _ _⟩
theorem Pz(x:Option Addr)(b n j:Nat)(K V:Nat->Int)(w:World)(y:n<=200000)(s:0<n->x=some ⟨b,0,none⟩)(l:BZ w b (n*2) (CR K V)):
 Calls Tryz.prog 52 #[.slice x n j] w fun e A=>e=.returned (.bool (EQ n K))/\Below w.heap.size w A:=by
 have q:=l.lt;have m:=hxy l;have h:=hxy s;clear l s;go_enter Tryz.func52,Tryz.ntmps52;go_wp2;go_loopw [10](fun i wr=>∃k:Nat,k<=n/\i=Vi k/\Bw w wr/\∀i,i<k->Dm (K i) 1 3=true)(fun i _=>n-(intOf i).toNat)
 case atStart=>exact⟨0,Nat.zero_le _,rfl,Below.refl _ _,fun i r=>by omega⟩
 case round=>
  obtain⟨k,D,rfl,a,c⟩:=hrel;have o:=hxy c;clear c;by_cases d:k<n
  ·obtain rfl:x=some ⟨b,0,none⟩:=h.out AB
   have B:=(a.cell (p:=Va b (k*2)) q).trans ((m.cell (i:=k*2+0) AB).trans (congrArg some (Ml K V k)));have C:=(a.cell (p:=Va b (k*2+1)) q).trans ((m.cell (i:=k*2+1) AB).trans (congrArg some (QX K V k)));by_cases r:1<=K k/\K k<=3
   ·obtain⟨z,u⟩:=r
    go_wp2;go_roundw
    case rel=>exact⟨k+1,AB,by go_num,a.alloc a.size _,Ei o (by simp[Dm];omega)⟩
    case measure=>simp[intOf];omega
   ·by_cases z:1<=K k
    ·have u:3<K k:=AB
     go_wp2;go_ret;exact⟨AZ (Pn d (by simp[Dm];omega)).symm,a.alloc a.size _⟩
    ·have u:K k<1:=AB
     go_wp2;go_ret;exact⟨AZ (Pn d (by simp[Dm];omega)).symm,a.alloc a.size _⟩
  ·go_wp2
   go_ret;obtain rfl:k=n:=AB;exact⟨AZ (by simp only[EQ,KR o.out,y,decide_true,Bool.and_self]),a⟩
theorem Ny(x:Option Addr)(b n a:Nat)(K V:Nat->Int)(w:World)(d:n<=1048576)(j:0<n->x=some ⟨b,0,none⟩)(c:BZ w b (n*2) (CR K V)):
 Calls Tryz.prog 52 #[.slice x n a] w fun e k=>e=.returned (.bool (EQ n K))/\Below w.heap.size w k:=by
 by_cases h:n<=200000
 ·exact Pz x b n a K V w h j c
 ·exact Lj _ n a K w AB d
theorem Mg(x:Option Addr)(B n a:Nat)(c:Nat->Bj)(l:Nat->Option Addr)(m:Nat->Nat)(w:World)(o:n<=1048576)(d:n<=a)(j:∀i,i<n->(c i).len<=1048576)(b:∀i,i<n->0<=(c i).base)(p:0<n->x=some ⟨B,0,none⟩)(k:BZ w B (n*3) (CO fun i=>(c i).put (l i) (m i))):
 Calls Tryz.prog 51 #[.slice x n a] w fun e q=>e=.returned (.bool (DV n c))/\Below w.heap.size w q:=by
 by_cases h:n<=8
 ·exact Mv x B n a c l m w h d j b p k
 ·exact Kq _ n a c w AB o
theorem KM(B:Option Addr)(E Y m:Nat)(R:Nat->Int)(z c k o:Bool)(y:Option Addr)(C J l:Nat)(n:Nat->Bj)(N:Nat->Option Addr)(O:Nat->Nat)(p q:Int)(A:Option Addr)(D L s:Nat)(K V:Nat->Int)(w:World)
 (x:Small m l n s)(d:∀i,i<l->0<=(n i).base)(h:FN w B E Y m R y C J l n N O A D L s K V):
 Calls Tryz.prog 23 #[.agg #[.slice B m E,.bool z,.bool c,.bool k,.bool o,.slice y l C,Vi p,Vi q,.slice A s D]] w fun e w'=>
  e=.returned (.bool (DZ m z c k o l n p q s K))/\Below w.heap.size w w':=by
 have HS:=hxy x;have r:=hxy h;have X:=hxy d;have hr:=x.regs;clear x h d;have F:=(Below.refl w.heap.size w).alloc BP (.cells #[.slice B m E,.bool z,.bool c,.bool k,.bool o,.slice y l C,Vi p,Vi q,.slice A s D] 28);have a:=hxy F;clear F;by_cases M:m=8
 ·subst M
  cases hzz:(k||!z)with
  |false=>
   cases k<;>cases z<;>simp at hzz
   go_enter Tryz.func23,Tryz.ntmps23;go_wp2;go_ret;exact⟨AZ (by simp[DZ]),a⟩
  |true=>
   cases hcc:(o||!c)with
   |false=>
    cases o<;>cases c<;>simp at hcc
    cases k<;>cases z<;>simp at hzz
    all_goals
     go_enter Tryz.func23,Tryz.ntmps23;go_wp2;go_ret;exact⟨AZ (by simp[DZ]),a⟩
   |true=>
    cases k<;>cases z<;>simp at hzz<;>cases o<;>cases c<;>simp at hcc
    all_goals
     go_enter Tryz.func23,Tryz.ntmps23;go_wp2_with fail;refine(Mg _ J _ _ n N O _ HS.heaps r.cH HS.data X r.eH.some (r.below a BP).heaps).mono ?_;rintro e w1⟨rfl,j⟩;have I:=a.trans (j.mono AY);have b:=hxy I;obtain⟨aa,_⟩:=Rj j;have hy:w.heap.size<w1.heap.size:=by have:=j.size;simp at this;omega
     clear j I;cases hH:DV l n with
     |false=>
      go_wp2;go_ret;exact⟨AZ (by simp[DZ,hH]),b⟩
     |true=>
      have S:=hxy hH;clear hH;by_cases Q:0<=p/\p<=2000/\0<=q/\q<=2
      ·have q1:=Q
       go_wp2_with fail;refine(Ny _ L _ _ K V _ HS.obs r.eO.some (r.below b BP).obs).mono ?_;rintro e w2⟨rfl,u⟩;go_wp2;go_ret;have i1:Dm p 0 2000=true:=by simp[Dm];omega
       have i2:Dm q 0 2=true:=by simp[Dm];omega
       exact⟨AZ (by simp[DZ,S.out,i1,i2]),b.trans (u.mono b.size)⟩
      ·have U:=hxy Q
       go_wp2_with fail;all_goals(go_ret;exact⟨AZ (Yl U).symm,b⟩)
 ·have Z:((m:Int)==8)=false:=by simp;omega
  go_enter Tryz.func23,Tryz.ntmps23;go_wp2;go_ret;exact⟨AZ (by simp[DZ,M]),a⟩
structure IQ(R:Nat->Int)(nH:Nat)(Hp:Nat->Bj):Prop where
 reg:∀i,i<8->0<=R i/\R i<=18446744073709551615
 base:∀i,i<nH->0<=(Hp i).base/\(Hp i).base<=18446744073709551615
 dat:∀i,i<nH->∀j,j<(Hp i).len->0<=(Hp i).dat j/\(Hp i).dat j<=255
theorem GY{B m:Bool}{o:Nat}{a:Nat->Bj}{O L:Int}{p:Nat}(h:DZ J z c B m o a O L p K=true):
 J=8/\o<=8/\(∀i,i<o->1<=(a i).len/\(a i).len<=4096/\(a i).base<=18446744073709551615-((a i).len:Int))/\0<=O/\p<=200000:=by
 unfold DZ DV EQ Dm at h;simp only[Bool.and_eq_true,decide_eq_true_eq,List.all_eq_true,List.mem_range]at h;obtain⟨⟨⟨⟨⟨⟨b,_⟩,_⟩,d,e⟩,j,_⟩,_⟩,k,_⟩:=h;refine⟨b,d,fun i l=>?_,j,k⟩;have:=e i l;unfold heapAt Sy at this;simp only[Bool.and_eq_true,decide_eq_true_eq]at this;omega
theorem LG(h:Option Addr)(l bR nR:Nat)(R:Nat->Int)(z c hz hc:Bool)(b:Option Addr)(j bH nH:Nat)(Hp:Nat->Bj)(hA:Nat->Option Addr)(hC:Nat->Nat)(pc st:Int)(d:Option Addr)(k bO nO:Nat)(K V:Nat->Int)(w:World)(aa:nR=8)(Y:nH<=8)(Z:nO<=1048576)(a:∀i,i<nH->1<=(Hp i).len/\(Hp i).len<=4096)(hm:FN w h l bR nR R b j bH nH Hp hA hC d k bO nO K V):
 Calls Tryz.prog 25 #[.agg #[.slice h nR l,.bool z,.bool c,.bool hz,.bool hc,.slice b nH j,Vi pc,Vi st,.slice d nO k]] w fun e w'=>∃bC p ab,
  e=.returned (Vq bC)/\Below w.heap.size w w'/\Core w' w.heap.size bC p 0 ab {R:=R,z:=z,c:=c,hz:=hz,hc:=hc,nH:=nH,Hp:=Hp,pc:=pc,st:=st,nO:=nO,K:=K,V:=V}:=by
 subst aa;have HM:=hxy hm;have HL:=hxy a;go_enter Tryz.func25,Tryz.ntmps25;go_wp2_with fail;have b0:Bw w (w.alloc (.cells #[.slice h 8 l,.bool z,.bool c,.bool hz,.bool hc,.slice b nH j,Vi pc,Vi st,.slice d nO k] 28)):=Ah;refine(Pk h l bR 8 R z c hz hc b j bH nH Hp hA hC pc st d k bO nO K V _ rfl Y Z HL (HM.below b0 BP)).mono ?_;rintro e w1⟨p,rfl,s,m1⟩;rw[World.size_alloc]at s m1;have m:Hid (Bw w w1):=b0.trans (s.mono AB);have o:=hxy m1;have z1:w.heap.size<w1.heap.size:=by have:=s.size;simp at this;omega
 go_wp2_with fail;refine(Si w1).mono ?_;rintro e w2⟨c3,c4,c5,c6,c7,c8,x,y,A,B,C,D,E,F,I,J,L,M,N,O,Q,S,U,X,rfl,t2,u⟩;have n:Hid (Bw w w2):=m.trans (u.mono AB);have q:=hxy (o.below u);have r:=hxy t2;have z2:=u.size;go_wp2;go_ret;refine⟨_,p,[.nilFunc,.func (.func 85) #[] #[],.func (.func 86) #[] #[],.func (.func 125) #[] c3,.func (.func 125) #[] c4,.func (.func 125) #[] c5,.func (.func 125) #[] c6,.func (.func 125) #[] c7,.func (.func 125) #[] c8,.func (.func 94) #[] #[],.func (.func 128) #[] x,.func (.func 128) #[] y,.func (.func 128) #[] A,.func (.func 128) #[] B,.func (.func 98) #[] #[],.func (.func 99) #[] #[],.func (.func 100) #[] #[],.func (.func 101) #[] #[],.func (.func 102) #[] #[],.func (.func 131) #[] C,.func (.func 131) #[] D,.func (.func 133) #[] E,.func (.func 133) #[] F,.func (.func 135) #[] I,.func (.func 135) #[] J,.func (.func 133) #[] L,.func (.func 133) #[] M,.func (.func 135) #[] N,.func (.func 135) #[] O,.func (.func 110) #[] #[],.func (.func 136) #[] Q,.func (.func 136) #[] S,.func (.func 136) #[] U,.func (.func 136) #[] X,.func (.func 112) #[] #[]],rfl,n.alloc AB _,(q.below Ah).mono AB,?_,?_⟩
 ·exact World.ownsRow_lit w2 _ 1 AB (by unfold maxLen;omega) rfl
 ·refine⟨rfl,fun op o1 o2=>?_⟩
  obtain⟨v,hv,he⟩:=r.2 op o1 o2;exact⟨v,hv,(he.below Ah).mono AB⟩
def Fu(p:Pl)(M:MV):Value:=.agg #[Vs p.bR 8 p.cR,.bool M.z,.bool M.c,.bool M.hz,.bool M.hc,.slice p.aH M.nH p.cH,Vi M.pc,Vi M.st,.slice p.aO M.nO p.cO]
def zeroV:Value:=.agg #[.slice none 0 0,.bool false,.bool false,.bool false,.bool false,.slice none 0 0,Vi 0,Vi 0,.slice none 0 0]
def kJ(w:World)(base:Nat)(v:Value):Option MV->Prop
 |none=>v=zeroV
 |some M=>∃p,v=Fu p M/\Mem w base p M
theorem QE{R:Nat->Int}{hz hc:Bool}{nH:Nat}{Hp:Nat->Bj}{pc st:Int}{nO:Nat}{V:Nat->Int}(h:DZ J z c hz hc nH Hp pc st nO K=true)(d:IQ R nH Hp):
 MV.Ok {R:=R,z:=z,c:=c,hz:=hz,hc:=hc,nH:=nH,Hp:=Hp,pc:=pc,st:=st,nO:=nO,K:=K,V:=V}:=by
 obtain⟨_,e,b,_⟩:=GY h;exact⟨d.reg,e,fun i a=>⟨(d.base i a).1,(b i a).1,(b i a).2.1,by have:=(b i a).2.2;show(Hp i).base+((Hp i).len:Int)<=18446744073709551615;omega⟩,d.dat⟩
def Ew(op d a b h:Nat)(imm:Int)(M:MV):MV:=match exec op d a b h imm M 0 with
 |.inl (M',_)=>M'
 |.inr M'=>M'.fault
section
variable{w:World}{base:Nat}{p:Pl}{M:MV}
def PG(base:Nat)(w:World)(M':MV)(e:Ending)(w':World):Prop:=∃p',e=.returned (Fu p' M')/\Below base w w'/\Mem w' base p' M'
def Kept(w w':World):Prop:=∀(k:Nat)(cur:Array Value)(ty:Nat)(fr:Nat×Nat),w.heap[k]?=some (.cells cur ty fr)->ty≠74->ty≠76->ty≠5->ty≠109->w'.heap[k]?=w.heap[k]?
theorem Kept.lt{b:Obj}(h:w.heap[k]?=some b):k<w.heap.size:=(Cj.1 h).1
theorem Wn{e s:Nat}{v:Value}{d:List Value}(h:w.ownsRow l e s v n d)(b:v.ownBlock=some k):∃a,w.heap[k]?=some (.cells a e (0,0)):=by
 rcases h.2 with o|⟨g,j,a,p,q,m,c⟩
 ·rw[o.1]at b;cases b
 ·rw[p]at b
  have:g=k:=by simpa[Value.ownBlock]using b
  subst this;exact⟨a,m⟩
theorem EG{e s:Nat}{v:Value}{d:List Value}(h:w.ownsRow l e s v n d){F:Array Value}{B:Nat}{c:Nat×Nat}(j:w.heap[k]?=some (.cells F B c))(b:B≠e):v.ownBlock≠some k:=fun q=>by
 obtain⟨m,a⟩:=Wn h q;rw[j]at a;simp only[Option.some.injEq,Obj.cells.injEq]at a;exact b a.2.1
def Es(base:Nat)(w:World)(M':MV)(e:Ending)(w':World):Prop:=PG base w M' e w'/\Kept w w'
theorem Kept.below(a:Below w.heap.size w j):Kept w j:=fun k _ _ _ b _ _ _ _=>a.block k (Kept.lt b)
theorem Kept.set{p:Pl}{M:MV}(h:Mem w l p M)(d:Nat)(v:Int)(m:Below w.heap.size (w.setCell ⟨p.bR,d,none⟩ (.int .u64 v)) j):Kept w j:=fun k c o n b e _ _ _=>by
 have a:k≠p.bR:=fun q=>EG h.regs b e (by rw[q];rfl)
 exact(m.block k (Kept.lt b)).trans (heap_setCell_other _ _ _ _ a)
theorem Mem.ltR(h:Mem w base p M):base<=p.bR/\p.bR<w.heap.size:=h.regs.lt p.bR rfl
theorem Mem.reg(h:Mem w base p M){i:Nat}(a:i<8):w.cell? ⟨p.bR,i,none⟩=some (.int .u64 (M.R i)):=by
 rw[h.regs.cellAt i AB,DF a];rfl
theorem Mem.freeR(h:Mem w base p M)(i:Nat):w.frozen? ⟨p.bR,i,none⟩=false:=h.regs.frozenAt i
theorem PG.set{p:Pl}{M:MV}(h:Mem w l p M)(d:Nat)(v:Int)(a:Below w.heap.size (w.setCell ⟨p.bR,d,none⟩ (.int .u64 v)) j):PG l w (M.setR d v) (.returned (Fu p (M.setR d v))) j:=
 ⟨p,rfl,(Al.setCell (by simpa using h.ltR.1) _).trans (a.mono (Nat.le_of_lt (Nat.lt_of_le_of_lt h.ltR.1 h.ltR.2))),(h.setR d v).below (by simpa using a)⟩
theorem Mem.flagged(h:Mem w base p M)(r:Int)(k:Bool):Mem w base p (M.flags r k):=⟨h.regs,h.heaps,h.data,h.obs,h.ne⟩
theorem Mem.faulted(h:Mem w base p M):Mem w base p M.fault:=⟨h.regs,h.heaps,h.data,h.obs,h.ne⟩
theorem Es.set{p:Pl}{M:MV}(h:Mem w l p M)(d:Nat)(v:Int)(a:Below w.heap.size (w.setCell ⟨p.bR,d,none⟩ (.int .u64 v)) j):Es l w (M.setR d v) (.returned (Fu p (M.setR d v))) j:=⟨PG.set h d v a,Kept.set h d v a⟩
theorem OT(n:Mem w base p M)(x:M.Ok)(j d a b h:Nat)(l:Int)(O:d<8)(C:a<8)(D:b<8)(y:j=1∨j=2∨j=3∨j=4∨j=5∨j=6∨j=7∨j=8∨j=10∨j=11):
 Calls Tryz.prog 49 #[.agg #[Vs p.bR 8 p.cR,.bool M.z,.bool M.c,.bool M.hz,.bool M.hc,.slice p.aH M.nH p.cH,Vi M.pc,Vi M.st,.slice p.aO M.nO p.cO],.agg #[Vi j,Vi d,Vi a,Vi b,Vi l,Vi h]] w (Es base w (Ew j d a b h l M)):=by
 have Q:(d:Int)<8:=AB;have L:(a:Int)<8:=AB;have N:(b:Int)<8:=AB;have E:=n.reg C;have F:=n.reg D;have I:=n.reg O;have B:=n.freeR d;have q:=n.ltR.2;have R:=x.reg a C;have X:=x.reg b D;obtain⟨S,U⟩:=R;obtain⟨Y,Z⟩:=X;have J:=hxy n;clear n x;go_enter Tryz.func49,Tryz.ntmps49;go_upto_region 1 with fail;generalize k:((w.alloc (.cells #[Vs p.bR 8 p.cR,.bool M.z,.bool M.c,.bool M.hz,.bool M.hc,.slice p.aH M.nH p.cH,Vi M.pc,Vi M.st,.slice p.aO M.nO p.cO] 28)).alloc (.cells #[Vi j,Vi d,Vi a,Vi b,Vi l,Vi h] 85)).alloc (.cells #[.slice none 0 0,.bool false,.bool false,.bool false,.bool false,.slice none 0 0,Vi 0,Vi 0,.slice none 0 0] 28)=m;have o:Bw w m:=by rw[<-k];exact((Ah).alloc AY _).alloc (by simp;omega) _
 have z0:m.heap.size=w.heap.size+3:=by rw[<-k];simp
 have s:m.ownsRow w.heap.size 28 9 (Vs w.heap.size 1 1) 1 [Vs p.bR 8 p.cR,.bool M.z,.bool M.c,.bool M.hz,.bool M.hc,.slice p.aH M.nH p.cH,Vi M.pc,Vi M.st,.slice p.aO M.nO p.cO]:=by rw[<-k];exact((World.ownsRow_lit w #[Vs p.bR 8 p.cR,.bool M.z,.bool M.c,.bool M.hz,.bool M.hc,.slice p.aH M.nH p.cH,Vi M.pc,Vi M.st,.slice p.aO M.nO p.cO] 1 BP (by unfold maxLen;omega) rfl).alloc _).alloc _
 have A:m.ownsRow w.heap.size 85 6 (.slice (some ⟨w.heap.size+1,0,none⟩) 1 1) 1 [Vi j,Vi d,Vi a,Vi b,Vi l,Vi h]:=by
  rw[<-k];have:=(World.ownsRow_lit (base:=w.heap.size) (e:=85) (size:=6) (w.alloc (.cells #[Vs p.bR 8 p.cR,.bool M.z,.bool M.c,.bool M.hz,.bool M.hc,.slice p.aH M.nH p.cH,Vi M.pc,Vi M.st,.slice p.aO M.nO p.cO] 28)) #[Vi j,Vi d,Vi a,Vi b,Vi l,Vi h] 1 AY (by unfold maxLen;omega) rfl).alloc (.cells #[.slice none 0 0,.bool false,.bool false,.bool false,.bool false,.slice none 0 0,Vi 0,Vi 0,.slice none 0 0] 28);rw[World.size_alloc]at this;exact this
 have u:m.ownsRow w.heap.size 28 9 (.slice (some ⟨w.heap.size+1+1,0,none⟩) 1 1) 1 [.slice none 0 0,.bool false,.bool false,.bool false,.bool false,.slice none 0 0,Vi 0,Vi 0,.slice none 0 0]:=by
  rw[<-k];have:=World.ownsRow_lit (base:=w.heap.size) (e:=28) (size:=9) ((w.alloc (.cells #[Vs p.bR 8 p.cR,.bool M.z,.bool M.c,.bool M.hz,.bool M.hc,.slice p.aH M.nH p.cH,Vi M.pc,Vi M.st,.slice p.aO M.nO p.cO] 28)).alloc (.cells #[Vi j,Vi d,Vi a,Vi b,Vi l,Vi h] 85)) #[.slice none 0 0,.bool false,.bool false,.bool false,.bool false,.slice none 0 0,Vi 0,Vi 0,.slice none 0 0] 1 (by simp;omega) (by unfold maxLen;omega) rfl;rw[World.size_alloc,World.size_alloc]at this;exact this
 have m0:=BX s;have i0:=Gc A;obtain⟨s0,s1,s2,s3,s4,s5,s6,s7,s8⟩:=BX u;have mf:∀i,m.frozen? ⟨w.heap.size,i,none⟩=false:=fun i=>s.frozenAt i
 have sf:∀i,m.frozen? ⟨w.heap.size+1+1,i,none⟩=false:=fun i=>u.frozenAt i
 have aa:=(o.cell (p:=⟨p.bR,a,none⟩) q).trans E;have ab:=(o.cell (p:=⟨p.bR,b,none⟩) q).trans F;have ac:=(o.cell (p:=⟨p.bR,d,none⟩) q).trans I;have K:=(o.frozen (p:=⟨p.bR,d,none⟩) q).trans B;have ad:p.bR<m.heap.size:=AB;have y0:w.heap.size<m.heap.size:=AB;have y1:w.heap.size+1<m.heap.size:=AB;have y2:w.heap.size+1+1<m.heap.size:=AB;have n0:p.bR≠w.heap.size:=AB;have n1:p.bR≠w.heap.size+1:=AB;have n2:p.bR≠w.heap.size+1+1:=AB;have r:=hxy o;clear k o s A u E F I B;rcases y with rfl|rfl|rfl|rfl|rfl|rfl|rfl|rfl|rfl|rfl;all_goals
  go_wp2;refine bodyPost_ret (v:=.agg #[Vs p.bR 8 p.cR,.bool M.z,.bool M.c,.bool M.hz,.bool M.hc,.slice p.aH M.nH p.cH,Vi M.pc,Vi M.st,.slice p.aO M.nO p.cO]) (by simp[results,Tryz.results49,go_sem,s0,s1,s2,s3,s4,s5,s6,s7,s8]) rfl ?_;refine Es.set J d _ ?_;iterate 9 refine Below.setCell ?_ (by simp;omega) _
  exact BI (p:=⟨p.bR,d,none⟩) r q _
end
end Go.Proofs.YtkckomianknjdaaGreat
