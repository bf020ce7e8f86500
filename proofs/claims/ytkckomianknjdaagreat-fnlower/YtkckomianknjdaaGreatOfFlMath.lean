import Derived.Test.YtkckomianknjdaaGreatOfCoreF
import Derived.Test.YtkckomianknjdaaGreatOfRunMath
import Derived.Test.YtkckomianknjdaaGreatOfEvRun
import Derived.Test.YtkckomianknjdaaGreatOfSpecAny
import Derived.Deep.MidRow
import Derived.Test.YtkckomianknjdaaGreatOfFlatAny
namespace Go.Proofs.YtkckomianknjdaaGreat
open Go.RowKit
variable {b:Array Value}{O c:Int}{B Q a i l n p q:Nat}{L:Nat->SV}{Z:Oper}{P:Program}{s:SV}{t:TypeId}{u w:World}
structure RV where
 M:MV
 used:Int
 out:Bool
def RV.go(r:RV):Prop:=r.out=false/\r.M.st=0
def RV.goB(r:RV):Bool:=!r.out&&decide (r.M.st=0)
theorem RV.goB_iff{r:RV}:r.goB=true↔r.go:=by simp[RV.goB,RV.go]
theorem RV.goB_yes{r:RV}(h:r.go):r.goB=true:=RV.goB_iff.2 h
theorem RV.goB_nt{r:RV}(h:¬r.go):¬r.goB=true:=fun q=>h (RV.goB_iff.1 q)
theorem RV.goB_no{r:RV}(h:¬r.go):r.goB=false:=by simpa using RV.goB_nt h
def RJ(s:SV)(M:MV):MV:=Ew s.op.toNat s.d.toNat s.a.toNat s.b.toNat s.h.toNat s.imm M
def fI(fu:Int)(r:RV):RV:=if r.used=fu then{r with out:=true}else{r with used:=r.used+1}
def Gu(fu:Int)(s:SV)(r:RV):RV:=if r.used=fu then{r with out:=true}else{M:=RJ s r.M,used:=r.used+1,out:=r.out}
def Jr(c:Int)(M:MV):Bool:=if c<=2 then M.hz else M.hc
def Gh(c:Int)(M:MV):Bool:=if c<=2 then M.z==decide (c=1)else M.c==decide (c=3)
def Ea(c:Int)(M:MV):MV:=if Jr c M then M.see 2 (if Gh c M then 0 else 1)else M.fault
def CZ(fu:Int)(c:Int)(r:RV):RV×Bool:=
 if r.used=fu then({r with out:=true},false)else({M:=Ea c r.M,used:=r.used+1,out:=r.out},Jr c r.M&&Gh c r.M)
def Ic(L:Nat->SV)(i:Nat):Nat:=i+1+(L i).thn.toNat+(L i).els.toNat
structure jM(L:Nat->SV)(fu:Int)(P:Nat->Nat->RV->RV->Prop):Prop where
 stop:∀{i te:Nat}{r:RV},¬(i<te/\r.go)->P i te r r
 ins:∀{i te:Nat}{r r':RV},i<te->r.go->(L i).k=1->P (Ic L i) te (Gu fu (L i) r) r'->P i te r r'
 yes:∀{i te:Nat}{r r1 r2 r':RV},i<te->r.go->(L i).k=2->CZ fu (L i).cond r=(r1,true)->P (i+1) (i+1+(L i).thn.toNat) r1 r2->P (Ic L i) te r2 r'->P i te r r'
 no:∀{i te:Nat}{r r1 r2 r':RV},i<te->r.go->(L i).k=2->CZ fu (L i).cond r=(r1,false)->P (i+1+(L i).thn.toNat) (Ic L i) r1 r2->P (Ic L i) te r2 r'->P i te r r'
 more:∀{i te:Nat}{r r1 r2 r':RV},i<te->r.go->(L i).k=3->CZ fu (L i).cond r=(r1,true)->P (i+1) (i+1+(L i).thn.toNat) r1 r2->P i te r2 r'->P i te r r'
 done:∀{i te:Nat}{r r1 r':RV},i<te->r.go->(L i).k=3->CZ fu (L i).cond r=(r1,false)->P (Ic L i) te r1 r'->P i te r r'
def Ev(L:Nat->SV)(fu:Int)(i te:Nat)(r r':RV):Prop:=∀P,jM L fu P->P i te r r'
theorem Ev.cl(L:Nat->SV)(d:Int):jM L d (Ev L d):=⟨fun h _ c=>c.stop h,fun a b k h P c=>c.ins a b k (h P c),fun a b k l x y P c=>c.yes a b k l (x P c) (y P c),fun a b k l x y P c=>c.no a b k l (x P c) (y P c),fun a b k l x y P c=>c.more a b k l (x P c) (y P c),fun a b k l x P c=>c.done a b k l (x P c)⟩
theorem Ev.stop{r:RV}(h:¬(i<Q/\r.go)):Ev L O i Q r r:=(Ev.cl L O).stop h
theorem Ev.ins{r c:RV}(a:i<Q)(b:r.go)(k:(L i).k=1)(x:Ev L O (Ic L i) Q (Gu O (L i) r) c):Ev L O i Q r c:=(Ev.cl L O).ins a b k x
theorem Ev.yes{r d e c:RV}(a:i<Q)(b:r.go)(k:(L i).k=2)(l:CZ O (L i).cond r=(d,true))(x:Ev L O (i+1) (i+1+(L i).thn.toNat) d e)(y:Ev L O (Ic L i) Q e c):Ev L O i Q r c:=(Ev.cl L O).yes a b k l x y
theorem Ev.no{r d e c:RV}(a:i<Q)(b:r.go)(k:(L i).k=2)(l:CZ O (L i).cond r=(d,false))(x:Ev L O (i+1+(L i).thn.toNat) (Ic L i) d e)(y:Ev L O (Ic L i) Q e c):Ev L O i Q r c:=(Ev.cl L O).no a b k l x y
theorem Ev.more{te:Nat}{r d e c:RV}(a:i<te)(b:r.go)(k:(L i).k=3)(l:CZ O (L i).cond r=(d,true))(x:Ev L O (i+1) (i+1+(L i).thn.toNat) d e)(y:Ev L O i te e c):Ev L O i te r c:=(Ev.cl L O).more a b k l x y
theorem Ev.done{r d c:RV}(a:i<Q)(b:r.go)(k:(L i).k=3)(l:CZ O (L i).cond r=(d,false))(x:Ev L O (Ic L i) Q d c):Ev L O i Q r c:=(Ev.cl L O).done a b k l x
structure kg(L:Nat->SV)(fu:Int)(i te:Nat)(r r':RV):Prop where
 me:Ev L fu i te r r'
 stop:¬(i<te/\r.go)->r'=r
 ins:i<te->r.go->(L i).k=1->Ev L fu (Ic L i) te (Gu fu (L i) r) r'
 yes:i<te->r.go->(L i).k=2->∀{r1},CZ fu (L i).cond r=(r1,true)->∃r2,Ev L fu (i+1) (i+1+(L i).thn.toNat) r1 r2/\Ev L fu (Ic L i) te r2 r'
 no:i<te->r.go->(L i).k=2->∀{r1},CZ fu (L i).cond r=(r1,false)->∃r2,Ev L fu (i+1+(L i).thn.toNat) (Ic L i) r1 r2/\Ev L fu (Ic L i) te r2 r'
 more:i<te->r.go->(L i).k=3->∀{r1},CZ fu (L i).cond r=(r1,true)->∃r2,Ev L fu (i+1) (i+1+(L i).thn.toNat) r1 r2/\Ev L fu i te r2 r'
 done:i<te->r.go->(L i).k=3->∀{r1},CZ fu (L i).cond r=(r1,false)->Ev L fu (Ic L i) te r1 r'
theorem Ev.inv{r c:RV}(h:Ev L O i Q r c):kg L O i Q r c:=by
 have d:∀{a:RV×Bool}{x y:RV},a=(x,true)->a=(y,false)->False:=fun p q=>by rw[p]at q;cases(Prod.mk.inj q).2
 have j:∀{a:RV×Bool}{x y:RV}{b:Bool},a=(x,b)->a=(y,b)->x=y:=fun p q=>by rw[p]at q;exact(Prod.mk.inj q).1
 refine h (kg L O) ⟨?_,?_,?_,?_,?_,?_⟩
 ·intro i Q r n
  exact⟨.stop n,fun _=>rfl,fun a b=>absurd ⟨a,b⟩ n,fun a b=>absurd ⟨a,b⟩ n,fun a b=>absurd ⟨a,b⟩ n,fun a b=>absurd ⟨a,b⟩ n,fun a b=>absurd ⟨a,b⟩ n⟩
 ·intro i Q r c a b k x
  exact⟨.ins a b k x.me,fun n=>absurd ⟨a,b⟩ n,fun _ _ _=>x.me,fun _ _ q=>by omega,fun _ _ q=>by omega,fun _ _ q=>by omega,fun _ _ q=>by omega⟩
 ·intro i Q r m o c a b k l x y
  exact⟨.yes a b k l x.me y.me,fun n=>absurd ⟨a,b⟩ n,fun _ _ q=>by omega,fun _ _ _ _ e=>by obtain rfl:=j l e;exact⟨_,x.me,y.me⟩,fun _ _ _ _ e=>(d l e).elim,fun _ _ q=>by omega,fun _ _ q=>by omega⟩
 ·intro i Q r m o c a b k l x y
  exact⟨.no a b k l x.me y.me,fun n=>absurd ⟨a,b⟩ n,fun _ _ q=>by omega,fun _ _ _ _ e=>(d e l).elim,fun _ _ _ _ e=>by obtain rfl:=j l e;exact⟨_,x.me,y.me⟩,fun _ _ q=>by omega,fun _ _ q=>by omega⟩
 ·intro i Q r m o c a b k l x y
  exact⟨.more a b k l x.me y.me,fun n=>absurd ⟨a,b⟩ n,fun _ _ q=>by omega,fun _ _ q=>by omega,fun _ _ q=>by omega,fun _ _ _ _ e=>by obtain rfl:=j l e;exact⟨_,x.me,y.me⟩,fun _ _ _ _ e=>(d l e).elim⟩
 ·intro i Q r m c a b k l x
  exact⟨.done a b k l x.me,fun n=>absurd ⟨a,b⟩ n,fun _ _ q=>by omega,fun _ _ q=>by omega,fun _ _ q=>by omega,fun _ _ _ _ e=>(d e l).elim,fun _ _ _ _ e=>by obtain rfl:=j l e;exact x.me⟩
theorem Ev.det{r a:RV}(h:Ev L O i Q r a):∀{b:RV},Ev L O i Q r b->a=b:=by
 have e:∀{i Q j s:Nat}{p u o b:RV},(∀b,Ev L O i Q p b->u=b)->(∀b,Ev L O j s u b->o=b)->(∃q,Ev L O i Q p q/\Ev L O j s q b)->o=b:=fun x y z=>by
  obtain⟨q,A,B⟩:=z;obtain rfl:=x q A;exact y _ B
 have H:=h (fun i Q r a=>∀b,Ev L O i Q r b->a=b) ⟨fun n b m=>(m.inv.stop n).symm,fun a b k x c d=>x c (d.inv.ins a b k),fun a b k l x y c d=>e x y (d.inv.yes a b k l),fun a b k l x y c d=>e x y (d.inv.no a b k l),fun a b k l x y c d=>e x y (d.inv.more a b k l),fun a b k l x c d=>x c (d.inv.done a b k l)⟩;exact fun{b}m=>H b m
structure Dz(fu:Int)(B:Nat)(r:RV):Prop where
 ok:r.M.Ok
 u0:0<=r.used
 u1:r.used<=fu
 seen:(r.M.nO:Int)<=B+r.used
theorem jc(j d a b h:Nat)(c:Int)(M:MV):∃o,exec j d a b h c M 0=o/\Ew j d a b h c M=(match o with|.inl (e,_)=>e|.inr e=>e.fault):=⟨_,rfl,rfl⟩
theorem gF{M:MV}(p:M.Ok)(e d a b h:Nat)(c:Int)(m:a<8)(n:b<8):(Ew e d a b h c M).Ok/\(Ew e d a b h c M).nO<=M.nO+1:=by
 have j:=Ue p e d a b h c 0 m n;have k:=UX e d a b h c M 0;unfold Ew;generalize exec e d a b h c M 0=o at j k;cases o with
 |inl q=>obtain⟨l,r⟩:=q;exact⟨j,k.2.2⟩
 |inr l=>exact⟨MV.Ok.faulted j,k.2.2⟩
theorem Ig{y:Int}(h:BS s y=true)(c:s.k=1):Ar s.op s.d s.a s.b s.imm s.h=true/\s.op<29:=by
 unfold BS at h;rw[if_pos c]at h;simp only[Bool.and_eq_true,decide_eq_true_eq]at h;exact⟨h.1,h.2.1⟩
theorem Ke{y:Int}(h:BS s y=true)(a:s.k=2∨s.k=3):1<=s.cond/\s.cond<=4:=by
 unfold BS at h;rcases a with a|a
 ·rw[if_neg AB,if_pos a]at h
  simp only[decide_eq_true_eq]at h;exact⟨h.2.1,h.2.2.1⟩
 ·rw[if_neg AB,if_neg AB,if_pos a]at h
  simp only[decide_eq_true_eq]at h;exact⟨h.2.1,h.2.2.1⟩
theorem Dz.ins{r:RV}(h:Dz O B r)(c:Ar s.op s.d s.a s.b s.imm s.h=true):Dz O B (Gu O s r):=by
 have e:=GQ c;have k:=gF h.ok s.op.toNat s.d.toNat s.a.toNat s.b.toNat s.h.toNat s.imm AB AB;have j:=h.u0;have l:=h.u1;have m:=h.seen;unfold Gu;split
 ·exact⟨h.ok,h.u0,h.u1,h.seen⟩
 ·refine⟨k.1,?_,?_,?_⟩
  ·show 0<=r.used+1;omega
  ·show r.used+1<=O;omega
  ·have:=k.2
   show((RJ s r.M).nO:Int)<=B+(r.used+1);unfold RJ;omega
theorem WI{M:MV}(a:M.Ok)(c:Int):(Ea c M).Ok/\(Ea c M).nO<=M.nO+1:=by
 unfold Ea;split
 ·exact⟨a.seen _ _,BP⟩
 ·exact⟨MV.Ok.faulted a,Nat.le_succ _⟩
theorem Dz.look{r:RV}(h:Dz O B r)(c:Int):Dz O B (CZ O c r).1:=by
 have k:=WI h.ok c;have a:=h.u0;have b:=h.u1;have d:=h.seen;unfold CZ;split
 ·exact⟨h.ok,h.u0,h.u1,h.seen⟩
 ·refine⟨k.1,?_,?_,?_⟩
  ·show 0<=r.used+1;omega
  ·show r.used+1<=O;omega
  ·have:=k.2
   show((Ea c r.M).nO:Int)<=B+(r.used+1);omega
theorem G9{r a:RV}(h:CZ O c r=(a,true))(d:r.go):a.used=r.used+1/\a.go:=by
 unfold CZ at h;split at h
 ·cases(Prod.mk.inj h).2
 ·obtain⟨e,b⟩:=Prod.mk.inj h
  simp only[Bool.and_eq_true]at b;subst e;refine⟨rfl,d.1,?_⟩;show(Ea c r.M).st=0;unfold Ea;rw[if_pos b.1];exact d.2
theorem Ev.mono{r a:RV}(h:Ev L O i Q r a):r.used<=a.used:=by
 have j:∀s r,r.used<=(Gu O s r).used:=fun s r=>by unfold Gu;split<;>simp<;>omega
 have d:∀{c r r1 b},CZ O c r=(r1,b)->r.used<=r1.used:=fun{c r r1 b}h=>by
  have e:=congrArg Prod.fst h;simp only at e;rw[<-e];unfold CZ;split<;>simp<;>omega
 exact h (fun _ _ r a=>r.used<=a.used) ⟨fun _=>Int.le_refl _,fun _ _ _ k=>Int.le_trans (j _ _) k,fun _ _ _ h a b=>Int.le_trans (d h) (Int.le_trans a b),fun _ _ _ h a b=>Int.le_trans (d h) (Int.le_trans a b),fun _ _ _ h a b=>Int.le_trans (d h) (Int.le_trans a b),fun _ _ _ h a=>Int.le_trans (d h) a⟩
def MV.at(M:MV)(x:Int):MV:={M with pc:=x}
def II.at(x:Int):II->II
 |.inl (M,n)=>.done (M.at x) n
 |.inr M=>.flt (M.at x)
theorem Uc(M:MV)(x:Int)(h o:Nat)(v:Int):∀k,(M.at x).pokeN h o v k=(M.pokeN h o v k).at x
 |0=>rfl
 |k+1=>by show((M.at x).pokeN h o v k).poke _ _ _=_;rw[Uc M x h o v k];rfl
theorem Xh(s:Bool)(a:Nat)(A:Int)(d h:Nat)(M:MV)(x e:Int):Ca s a A d h (M.at x) e=(Ca s a A d h M e).at x:=by
 unfold Ca;by_cases b:M.nH<=h
 ·rw[if_pos b,if_pos (show(M.at x).nH<=h from b)];rfl
 ·rw[if_neg b,if_neg (show¬(M.at x).nH<=h from b)]
  by_cases c:(lies (M.Hp h).base A a (M.Hp h).len&&(!s||(M.Hp h).wr))=true
  ·rw[if_pos c,if_pos (show(lies ((M.at x).Hp h).base A a ((M.at x).Hp h).len&&(!s||((M.at x).Hp h).wr))=true from c)]
   cases s with
   |true=>exact congrArg (fun q=>II.done q e) (Uc (M.see 1 A) x h _ _ a)
   |false=>rfl
  ·rw[if_neg c,if_neg (show¬(lies ((M.at x).Hp h).base A a ((M.at x).Hp h).len&&(!s||((M.at x).Hp h).wr))=true from c)];rfl
theorem UZ(c d a b h:Nat)(e:Int)(M:MV)(x j:Int)(l:1<=c)(m:c<=28):exec c d a b h e (M.at x) j=(exec c d a b h e M j).at x:=by
 have k:c=1∨c=2∨c=3∨c=4∨c=5∨c=6∨c=7∨c=8∨c=9∨c=10∨c=11∨c=12∨c=13∨c=14∨c=15∨c=16∨c=17∨c=18∨c=19∨c=20∨c=21∨c=22∨c=23∨c=24∨c=25∨c=26∨c=27∨c=28:=AB;rcases k with rfl|rfl|rfl|rfl|rfl|rfl|rfl|rfl|rfl|rfl|rfl|rfl|rfl|rfl|rfl|rfl|rfl|rfl|rfl|rfl|rfl|rfl|rfl|rfl|rfl|rfl|rfl|rfl;all_goals first
  |rfl
  |exact Xh _ _ _ _ _ _ _ _
  |(show(if M.hc=true then _ else _)=II.at x (if M.hc=true then _ else _)
    cases M.hc<;>rfl)
  |(show(if M.hz=true then _ else _)=II.at x (if M.hz=true then _ else _)
    cases M.hz<;>rfl)
theorem Xj(M:MV)(F:Nat->Nat->Int)(q:1<=s.op)(r:s.op<=28)(k:F 0 0=s.op)(l:F 0 1=s.d)(m:F 0 2=s.a)(n:F 0 3=s.b)(o:F 0 4=s.imm)(p:F 0 5=s.h):
 ∃x,stepM 1 F (M.at 0)=(RJ s M).at x:=by
 rw[Ij 1 F (M.at 0) (by show¬((1:Nat):Int)<=0;omega)];show∃x,FO (exec (F (0:Int).toNat 0).toNat (F (0:Int).toNat 1).toNat (F (0:Int).toNat 2).toNat (F (0:Int).toNat 3).toNat (F (0:Int).toNat 5).toNat (F (0:Int).toNat 4) (M.at 0) 1)=_;rw[show(0:Int).toNat=0 from rfl,k,l,m,n,o,p,UZ _ _ _ _ _ _ _ _ _ AB AB];have e:=Np s.op.toNat s.d.toNat s.a.toNat s.b.toNat s.h.toNat s.imm M AB AB;unfold RJ Ew;rcases e with⟨j,c,_,_⟩|⟨j,c⟩
 ·rw[c,c];exact⟨1,rfl⟩
 ·rw[c,c];exact⟨0,rfl⟩
theorem VP(M:MV)(F:Nat->Nat->Int)(e:1<=c)(h:c<=4)(a:F 0 0=Bu c)(b:F 0 4=0):
 ∃x,stepM 1 F (M.at 0)=(Ea c M).at x/\(x=0↔(Jr c M&&Gh c M)=false):=by
 rw[Ij 1 F (M.at 0) (by show¬((1:Nat):Int)<=0;omega)];show∃x,FO (exec (F (0:Int).toNat 0).toNat (F (0:Int).toNat 1).toNat (F (0:Int).toNat 2).toNat (F (0:Int).toNat 3).toNat (F (0:Int).toNat 5).toNat (F (0:Int).toNat 4) (M.at 0) 1)=_/\_;rw[show(0:Int).toNat=0 from rfl,a,b];have d:c=1∨c=2∨c=3∨c=4:=AB;rcases d with rfl|rfl|rfl|rfl
 ·show∃x,FO (Cw M.hz M.z false 0 (M.at 0) 1)=(if M.hz=true then M.see 2 (if(M.z==true)=true then 0 else 1)else M.fault).at x/\(x=0↔(M.hz&&(M.z==true))=false)
  cases M.hz<;>cases M.z<;>first|exact⟨0,rfl,AY⟩|exact⟨1,rfl,AY⟩
 ·show∃x,FO (Cw M.hz M.z true 0 (M.at 0) 1)=(if M.hz=true then M.see 2 (if(M.z==false)=true then 0 else 1)else M.fault).at x/\(x=0↔(M.hz&&(M.z==false))=false)
  cases M.hz<;>cases M.z<;>first|exact⟨0,rfl,AY⟩|exact⟨1,rfl,AY⟩
 ·show∃x,FO (Cw M.hc M.c false 0 (M.at 0) 1)=(if M.hc=true then M.see 2 (if(M.c==true)=true then 0 else 1)else M.fault).at x/\(x=0↔(M.hc&&(M.c==true))=false)
  cases M.hc<;>cases M.c<;>first|exact⟨0,rfl,AY⟩|exact⟨1,rfl,AY⟩
 ·show∃x,FO (Cw M.hc M.c true 0 (M.at 0) 1)=(if M.hc=true then M.see 2 (if(M.c==false)=true then 0 else 1)else M.fault).at x/\(x=0↔(M.hc&&(M.c==false))=false)
  cases M.hc<;>cases M.c<;>first|exact⟨0,rfl,AY⟩|exact⟨1,rfl,AY⟩
theorem Af{a:Nat×Nat}(h:w.heap[p]?=some (.cells b t a))(j:Nat):w.cell? (Va p j)=b[j]?:=by
 unfold World.cell?;simp only[h];rfl
theorem J6(h:w.heap[p]?=some (.cells b t))(j:Nat):w.frozen? (Va p j)=false:=by
 unfold World.frozen?;simp[h]
theorem QW(h:w.heap[p]?=some (.cells b t))(j:Nat)(v:Value):(w.setCell (Va p j) v).heap[p]?=some (.cells (b.setIfInBounds j v) t):=by
 unfold World.setCell;rw[Array.getElem?_modify,if_pos rfl,h];rfl
theorem Eo(w:World)(o:Obj):(w.alloc o).heap[w.heap.size]?=some o:=by simp only[World.alloc];simp
def KU:Array Value->Nat->List Value->Array Value
 |a,_,[]=>a
 |a,o,v::vs=>KU (a.setIfInBounds o v) (o+1) vs
theorem QJ:∀(a:List Value)(o:Nat){w:World}{b:Array Value},w.heap[q]?=some (.cells b t)->(w.setCells q o a).heap[q]?=some (.cells (KU b o a) t)
 |[],_,_,_,h=>h
 |v::a,o,_,_,h=>QJ a (o+1) (QW h o v)
theorem Ft.sets:∀(a:List Value)(o:Nat){u:World},Ft q w u->Ft q w (u.setCells q o a)
 |[],_,_,h=>h
 |v::a,o,_,h=>Ft.sets a (o+1) (Ft.set h o v)
theorem Ad{b:Array Oper}{E:List Oper}{a:Act}{Q:Exit->Act->World->Prop}(e:Z.guard=none)(l:TypeId)(x y:Operand)(o:Z.op=.store l x y)
 (q:Nat)(d c:Array Value)(t:TypeId)(p:a.eval x=Vq q)(r:a.eval y=.agg c)(k:w.heap[q]?=some (.cells d t))(z:c.size<=d.size)(n:(P.info? l).map (·.size)=some c.size)(m:c.all (·.oneCell')=true)
 (h:∀u,u.heap[q]?=some (.cells (KU d 0 c.toList) t)->Ft q w u->u.heap.size=w.heap.size->Hid (wpList P b Q E (a.put Z.dst undef) u)):wpList P b Q (Z::E) a w:=by
 refine wpList_store_mid e l x y o q 0 c p r (fun j s=>?_) n m (h _ (QJ _ 0 k) (Ft.sets _ _ (Ft.refl _ _)) (size_setCells ..));rw[Nat.zero_add];refine⟨?_,J6 k j⟩;rw[Af k j,Array.getElem?_eq_getElem AB];rfl
theorem QO{a:Act}{K:Act->World->Prop}{Q:Exit->Act->World->Prop}(e:TypeId)(x y:Operand)(m:Z.op=.store e x y)
 (q:Nat)(c b:Array Value)(t:TypeId)(n:a.eval x=Vq q)(o:a.eval y=.agg b)(d:w.heap[q]?=some (.cells c t))(r:b.size<=c.size)(l:(P.info? e).map (·.size)=some b.size)(k:b.all (·.oneCell')=true)
 (h:∀u,u.heap[q]?=some (.cells (KU c 0 b.toList) t)->Ft q w u->u.heap.size=w.heap.size->K (a.put Z.dst undef) u):Z.wp P a w K Q:=by
 refine wp_store_mid e x y m q 0 b n o (fun j p=>?_) l k (h _ (QJ _ 0 d) (Ft.sets _ _ (Ft.refl _ _)) (size_setCells ..));rw[Nat.zero_add];refine⟨?_,J6 d j⟩;rw[Af d j,Array.getElem?_eq_getElem AB];rfl
theorem C8(h:w.heap[q]?=some (.cells b t))(a:TypeId)(d:TypeDesc)(k:P.underlying a=some d)(c:d.isRow=true)(e:(P.info? a).map (·.size)=some b.size):(loadVar a ⟨q,0,none⟩).run P w=.ok (.agg b) w:=by
 have:=run_loadVar_mid (P:=P) w q 0 a b.toList d (fun j v l=>by rw[Nat.zero_add,Af h j];simpa using l) k c (by simpa using e);simpa using this
theorem Du{b:Array Oper}{E:List Oper}{a:Act}{Q:Exit->Act->World->Prop}(k:Z.guard=none)(e:TypeId)(x:Operand)(n:Z.op=.load e x)
 (q:Nat)(c:Array Value)(t:TypeId)(d:TypeDesc)(s:a.eval x=Vq q)(o:w.heap[q]?=some (.cells c t))(p:P.underlying e=some d)(l:d.isRow=true)(m:(P.info? e).map (·.size)=some c.size)
 (h:wpList P b Q E (a.put Z.dst (.agg c)) w):wpList P b Q (Z::E) a w:=by
 refine wpList_load_mid k e x n q 0 s c.toList d (fun j v r=>?_) p l (by simpa using m) (by simpa using h);rw[Nat.zero_add,Af o j];simpa using r
theorem Ud{j:World}{e s:Nat}{v:Value}{d:List Value}(h:w.ownsRow l e s v n d)(r:∀k,v.ownBlock=some k->j.heap[k]?=w.heap[k]?):j.ownsRow l e s v n d:=by
 refine⟨h.1,?_⟩;rcases h.2 with q|⟨g,b,c,m,o,p,a⟩
 ·exact .inl q
 ·exact .inr ⟨g,b,c,m,o,(r g (by rw[m];rfl)).trans p,a⟩
theorem Mem.off{p:Pl}{M:MV}(h:Mem w l p M)(f:Ft q w u){F:Array Value}{r:Nat×Nat}(x:w.heap[q]?=some (.cells F B r))(y:B≠74)(z:B≠76)(C:B≠5)(D:B≠109):Mem u l p M:=by
 have b:∀{e c n:Nat}{v:Value}{o:List Value},B≠e->w.ownsRow l e c v n o->u.ownsRow l e c v n o:=fun d j=>
  Ud j fun k m=>f.block k (j.lt k m).2 fun e=>by subst e;exact EG j x d m
 exact⟨b y h.regs,b z h.heaps,fun i s=>b C (h.data i s),b D h.obs,h.ne⟩
theorem Kept.ft{F:World}(h:Kept F w)(p:F.heap.size<=w.heap.size)(f:Ft q w u)(o:F.heap.size<=q):Kept F u:=fun k a m c b d e j l=>by
 have n:=Kept.lt b;exact(f.block k AB AB).trans (h k a m c b d e j l)
theorem Co{F:World}(h:Below B F w)(f:Ft q w u)(a:B<=w.heap.size)(c:B<=q):Below B F u:=
 h.trans ⟨f.os,f.tape,f.output,f.size,fun k b=>f.block k AB AB⟩
def rA(p:Pl)(fu:Int)(r:RV):Array Value:=#[Vs p.bR 8 p.cR,.bool r.M.z,.bool r.M.c,.bool r.M.hz,.bool r.M.hc,.slice p.aH r.M.nH p.cH,Vi r.M.pc,Vi r.M.st,.slice p.aO r.M.nO p.cO,Vi r.used,Vi fu,.bool r.out]
def mA(p:Pl)(M:MV):Array Value:=#[Vs p.bR 8 p.cR,.bool M.z,.bool M.c,.bool M.hz,.bool M.hc,.slice p.aH M.nH p.cH,Vi M.pc,Vi M.st,.slice p.aO M.nO p.cO]
def zA:Array Value:=#[.slice none 0 0,.bool false,.bool false,.bool false,.bool false,.slice none 0 0,Vi 0,Vi 0,.slice none 0 0,Vi 0,Vi 0,.bool false]
structure EW(w0:World)(base q:Nat)(fu:Int)(u:World)(p:Pl)(r:RV):Prop where
 B:Below base w0 u
 K:Kept w0 u
 Q:u.heap[q]?=some (.cells (rA p fu r) 55)
 M:Mem u base p r.M
 q0:w0.heap.size<=q
 bs:base<=w0.heap.size
section
variable{w0 u v:World}{base q:Nat}{fu:Int}{p p':Pl}{r r':RV}
theorem EW.lt(h:EW w0 base q fu u p r):q<u.heap.size:=(Cj.1 h.Q).1
theorem EW.below(h:EW w0 base q fu u p r)(b:Below u.heap.size u v):EW w0 base q fu v p r:=
 ⟨h.B.trans (b.mono (Nat.le_trans h.bs h.B.size)),fun k a n d c e j l m=>(b.block k (DY (Kept.lt c) h.B.size)).trans (h.K k a n d c e j l m),(b.block q h.lt).trans h.Q,h.M.below b,h.q0,h.bs⟩
theorem EW.kept(h:EW w0 base q fu u p r)(k:Kept u v):v.heap[q]?=some (.cells (rA p fu r) 55):=
 (k q _ _ _ h.Q Aa Aa Aa Aa).trans h.Q
theorem EW.put{R:World}(h:EW w0 base q fu u p r)(b:Below base u R)(k:Kept u R)(m:Mem R base p' r'.M)(f:Ft q R v)(c:v.heap[q]?=some (.cells (rA p' fu r') 55)):EW w0 base q fu v p' r':=
 ⟨Co (h.B.trans b) f (Nat.le_trans h.bs (Nat.le_trans h.B.size b.size)) (Nat.le_trans h.bs h.q0),(h.K.trans k).ft (Nat.le_trans h.B.size b.size) f h.q0,c,m.off f (h.kept k) Aa Aa Aa Aa,h.q0,h.bs⟩
theorem EW.cells(h:EW w0 base q fu u p r):u.cell? (Va q 0)=some (Vs p.bR 8 p.cR)/\u.cell? (Va q 1)=some (.bool r.M.z)/\u.cell? (Va q 2)=some (.bool r.M.c)/\u.cell? (Va q 3)=some (.bool r.M.hz)/\u.cell? (Va q 4)=some (.bool r.M.hc)/\u.cell? (Va q 5)=some (.slice p.aH r.M.nH p.cH)/\u.cell? (Va q 6)=some (Vi r.M.pc)/\u.cell? (Va q 7)=some (Vi r.M.st)/\u.cell? (Va q 8)=some (.slice p.aO r.M.nO p.cO)/\u.cell? (Va q 9)=some (Vi r.used)/\u.cell? (Va q 10)=some (Vi fu)/\u.cell? (Va q 11)=some (.bool r.out):=
 ⟨Af h.Q 0,Af h.Q 1,Af h.Q 2,Af h.Q 3,Af h.Q 4,Af h.Q 5,Af h.Q 6,Af h.Q 7,Af h.Q 8,Af h.Q 9,Af h.Q 10,Af h.Q 11⟩
end
theorem Gs(p b:Pl)(a:Int)(r c:RV):KU (rA p a r) 0 (rA b a c).toList=rA b a c:=by
 simp[KU,rA]
theorem Pm(p b:Pl)(a:Int)(r:RV)(M:MV):KU (rA p a r) 0 (mA b M).toList=rA b a ⟨M,r.used,r.out⟩:=by
 simp[KU,rA,mA]
theorem Kz(b:Pl)(a:Int)(c:RV):KU zA 0 (rA b a c).toList=rA b a c:=by
 simp[KU,rA,zA]
theorem Bp{d:Func}{p:Tmp}{B:TypeId}(h:d.results=#[.cell p B])(a:Array Value)(w:World)(b:Nat)(v:Value)(j:a.getD p undef=Vq b)(e:(loadVar B ⟨b,0,none⟩).run P w=.ok v w):(results d a).run P w=.ok v w:=by
 have c:a[p]?.getD undef=Vq b:=by simpa using j
 simp[results,h,c,asAddr,e]
theorem Gl{e:Func}{p q:Tmp}{B:TypeId}(h:e.results=#[.cell p B,.tmp q])(a:Array Value)(w:World)(b:Nat)(v x:Value)(k:a.getD p undef=Vq b)(l:a.getD q undef=x)(j:(loadVar B ⟨b,0,none⟩).run P w=.ok v w):(results e a).run P w=.ok (.tuple #[v,x]) w:=by
 have c:a[p]?.getD undef=Vq b:=by simpa using k
 have d:a[q]?.getD undef=x:=by simpa using l
 simp[results,h,c,d,asAddr,j]
theorem Em(p:Pl)(a:Int)(r:RV):(rA p a r).all (·.oneCell')=true:=by
 unfold rA;simp[Value.oneCell']
theorem Pt(p:Pl)(M:MV):(mA p M).all (·.oneCell')=true:=by
 unfold mA;simp[Value.oneCell']
theorem Be:(Tryz.prog.info? 55).map (·.size)=some 12:=Ab
theorem I9:(Tryz.prog.info? 28).map (·.size)=some 9:=Ab
def FM(r:RV):MV:={r.M with pc:=0,st:=if r.goB then 1 else r.M.st}
def Vw(p:Pl)(M:MV)(dn:Bool)(used:Int):Array Value:=#[.bool true,.bool dn,Vi used,Vs p.bR 8 p.cR,.bool M.z,.bool M.c,.bool M.hz,.bool M.hc,.slice p.aH M.nH p.cH,Vi M.pc,Vi M.st,.slice p.aO M.nO p.cO]
def eZ:Array Value:=#[.bool false,.bool false,Vi 0,.slice none 0 0,.bool false,.bool false,.bool false,.bool false,.slice none 0 0,Vi 0,Vi 0,.slice none 0 0]
theorem e9{S a I k E D v6 v7 v8:Value}(h:u.heap[q]?=some (.cells #[S,a,I,k,E,D,v6,v7,v8] t)):u.cell? (Va q 0)=some S/\u.cell? (Va q 1)=some a/\u.cell? (Va q 2)=some I/\u.cell? (Va q 3)=some k/\u.cell? (Va q 4)=some E/\u.cell? (Va q 5)=some D/\u.cell? (Va q 6)=some v6/\u.cell? (Va q 7)=some v7/\u.cell? (Va q 8)=some v8:=
 ⟨Af h 0,Af h 1,Af h 2,Af h 3,Af h 4,Af h 5,Af h 6,Af h 7,Af h 8⟩
theorem lT(p:Pl)(M:MV)(b:Bool)(a:Int):KU eZ 0 (Vw p M b a).toList=Vw p M b a:=by
 simp[KU,eZ,Vw]
theorem Gb:KU eZ 0 eZ.toList=eZ:=by simp[KU,eZ]
theorem QS(p:Pl)(M:MV)(b:Bool)(a:Int):(Vw p M b a).all (·.oneCell')=true:=by
 unfold Vw;simp[Value.oneCell']
theorem Ga:eZ.all (·.oneCell')=true:=by
 unfold eZ;simp[Value.oneCell']
theorem Bt:(Tryz.prog.info? 32).map (·.size)=some 12:=Ab
def jh(L:Nat->SV)(n nR:Nat)(M:MV)(fu:Int):Prop:=IZ L n/\DZ nR M.z M.c M.hz M.hc M.nH M.Hp M.pc M.st M.nO M.K=true/\M.st=0/\0<=fu/\fu<=40000/\M.nO<=100000
def ER(L:Nat->SV)(n nR:Nat)(M:MV)(fu:Int):Option (MV×Bool×Int)->Prop
 |none=>¬jh L n nR M fu
 |some x=>jh L n nR M fu/\∃r',Ev L fu 0 n ⟨M,0,false⟩ r'/\Dz fu M.nO r'/\x=(FM r',!r'.out,r'.used)
theorem ER.det{J:Nat}{M:MV}{a b:Option (MV×Bool×Int)}(c:ER L n J M O a)(d:ER L n J M O b):a=b:=by
 cases a with
 |none=>
  cases b with
  |none=>rfl
  |some y=>exact absurd d.1 c
 |some x=>
  cases b with
  |none=>exact absurd c.1 d
  |some y=>
   obtain⟨_,r,e,_,rfl⟩:=c;obtain⟨_,s,h,_,rfl⟩:=d;obtain rfl:=e.det h;rfl
def Ym(w:World)(base:Nat)(v:Value):Option (MV×Bool×Int)->Prop
 |none=>v=.agg eZ
 |some x=>∃p,v=.agg (Vw p x.1 x.2.1 x.2.2)/\Mem w base p x.1
theorem Ev.outs{r a:RV}(h:Ev L O i Q r a)(k:r.out=true->r.M.st=0):a.out=true->a.M.st=0:=by
 have l:∀s r,r.go->(Gu O s r).out=true->(Gu O s r).M.st=0:=fun s r d=>by
  unfold Gu;split
  ·exact fun _=>d.2
  ·intro h;exact absurd (d.1.symm.trans h) Aa
 have j:∀{c r r1 b},r.go->CZ O c r=(r1,b)->r1.out=true->r1.M.st=0:=fun{c r r1 b}d h=>by
  have e:=congrArg Prod.fst h;simp only at e;rw[<-e];unfold CZ;split
  ·exact fun _=>d.2
  ·intro h;exact absurd (d.1.symm.trans h) Aa
 exact h (fun _ _ r a=>(r.out=true->r.M.st=0)->a.out=true->a.M.st=0) ⟨fun _ k=>k,fun _ g _ m _=>m (l _ _ g),fun _ g _ h a b _=>b (a (j g h)),fun _ g _ h a b _=>b (a (j g h)),fun _ g _ h a b _=>b (a (j g h)),fun _ g _ h a _=>a (j g h)⟩ k
theorem Xx{r:RV}(h:r.out=true->r.M.st=0):((FM r).st !=0)=!r.out:=by
 have e:(FM r).st=if r.goB then 1 else r.M.st:=rfl
 rw[e];by_cases g:r.go
 ·rw[if_pos (RV.goB_yes g),g.1];rfl
 ·rw[if_neg (RV.goB_nt g)]
  by_cases b:r.out=true
  ·rw[h b,b];rfl
  ·have a:r.out=false:=by simpa using b
   have c:r.M.st≠0:=fun e=>g ⟨a,e⟩
   rw[a];simpa using c
theorem Mem.fm{p:Pl}{r:RV}(h:Mem w l p r.M):Mem w l p (FM r):=⟨h.regs,h.heaps,h.data,h.obs,h.ne⟩
def jA:NV:=⟨0,0,0,0,0,0⟩
def kN(x:NV):Nat->Int
 |0=>x.op
 |1=>x.d
 |2=>x.a
 |3=>x.b
 |4=>x.imm
 |_=>x.h
def Ns(xs:List NV)(i j:Nat):Int:=kN (xs.getD i jA) j
theorem Yt(b:List NV):∀p,p<b.length*6->(ci b)[p]?=some (Ia (Ns b) p):=by
 induction b with
 |nil=>intro p h;simp at h
 |cons a l e=>
  intro p h;show(fT a++ci l)[p]?=_;by_cases c:p<6
  ·rw[List.getElem?_append_left (by show p<6;exact c)]
   unfold Ia Ns;rw[show p/6=0 by omega,show p%6=p by omega];match p,c with
   |0,_=>rfl
   |1,_=>rfl
   |2,_=>rfl
   |3,_=>rfl
   |4,_=>rfl
   |5,_=>rfl
  ·rw[List.getElem?_append_right (by show 6<=p;omega)]
   show(ci l)[p-6]?=_;rw[e (p-6) (by simp at h;omega)];unfold Ia Ns;rw[show(p-6)/6=p/6-1 by omega,show(p-6)%6=p%6 by omega];obtain⟨q,d⟩:∃q,p/6=q+1:=⟨p/6-1,AB⟩
   rw[d];rfl
def jT(m:Nat)(y:NV):Prop:=Ar y.op y.d y.a y.b y.imm y.h=true/\(Df y.op=true->y.imm<=(m:Int))
theorem J7{Z:Int}{t m:Nat}(a:Z=29∨Z=30∨Z=31∨Z=32∨Z=33)(d:t<=m)(c:m<=1999):jT m (A7 Z (t:Int)):=by
 refine⟨?_,fun _=>by show(t:Int)<=m;omega⟩;have b:Dm (t:Int) 0 1999=true:=by unfold Dm;simp;omega
 show Ar Z 0 0 0 (t:Int) 0=true;rcases a with rfl|rfl|rfl|rfl|rfl<;>(unfold Ar;rw[show∀k,Cc k 8=Cc k 8 from fun _=>rfl];simp only[show Cc 29 8=true by kernel_rfl,show Cc 30 8=true by kernel_rfl,show Cc 31 8=true by kernel_rfl,show Cc 32 8=true by kernel_rfl,show Cc 33 8=true by kernel_rfl,show Cc 29 1=false by kernel_rfl,show Cc 30 1=false by kernel_rfl,show Cc 31 1=false by kernel_rfl,show Cc 32 1=false by kernel_rfl,show Cc 33 1=false by kernel_rfl,show Cc 29 2=false by kernel_rfl,show Cc 30 2=false by kernel_rfl,show Cc 31 2=false by kernel_rfl,show Cc 32 2=false by kernel_rfl,show Cc 33 2=false by kernel_rfl,show Cc 29 4=false by kernel_rfl,show Cc 30 4=false by kernel_rfl,show Cc 31 4=false by kernel_rfl,show Cc 32 4=false by kernel_rfl,show Cc 33 4=false by kernel_rfl,show Cc 29 16=false by kernel_rfl,show Cc 30 16=false by kernel_rfl,show Cc 31 16=false by kernel_rfl,show Cc 32 16=false by kernel_rfl,show Cc 33 16=false by kernel_rfl,Da,Cv,DI];simp;simp[Dm];omega)
theorem UR(c:Int):Bu c=29∨Bu c=30∨Bu c=31∨Bu c=32∨Bu c=33:=by unfold Bu;(repeat' split)<;>omega
theorem iP(h:BS s 0=true):s.k=1∨s.k=2∨s.k=3:=by
 unfold BS at h;by_cases a:s.k=1
 ·exact .inl a
 by_cases b:s.k=2
 ·exact .inr (.inl b)
 by_cases c:s.k=3
 ·exact .inr (.inr c)
 rw[if_neg a,if_neg b,if_neg c]at h;split at h
 ·have:=of_decide_eq_true h;omega
 ·cases h
theorem fE:∀(m c i e:Nat)(b:Int),e-i<=m->(Cy L 0 0 321 i e b).1=0->∀T:Nat,c+(Bq L c i e).length<=T->T<=1999->∀y∈Bq L c i e,jT T y:=by
 intro m;induction m with
 |zero=>intro c i e b D _ T _ _ y a;rw[G6 AB]at a;cases a
 |succ m o=>
  intro c i e b D C T l d y a;by_cases h:i<e
  rotate_left
  ·rw[G6 h]at a;cases a
  obtain⟨p,r,u,A,q⟩:=GU C h;obtain⟨x,n⟩:=BG (Bq L (c+1) (i+1) (i+1+(L i).thn.toNat));rcases iP p with k|k|k
  ·rw[QL h r k]at a l
   simp only[List.length_cons]at l;rcases List.mem_cons.1 a with rfl|a
   ·obtain⟨B,E⟩:=Ig p k
    exact⟨B,fun j=>by unfold Df at j;simp only[Bool.and_eq_true,decide_eq_true_eq]at j;have:(Hg (L i)).op=(L i).op:=rfl;omega⟩
   ·exact o (c+1) _ e b AB q T AB d y a
  ·obtain⟨z,s⟩:=BG (Bq L (c+2+x.length) (i+1+(L i).thn.toNat) (i+1+(L i).thn.toNat+(L i).els.toNat))
   rw[Mt h r k n s]at a l;simp only[List.length_cons,List.length_append]at l;rcases List.mem_cons.1 a with rfl|a
   ·exact J7 (UR _) AB d
   rcases List.mem_append.1 a with a|a
   ·exact o (c+1) (i+1) _ _ AB u T (by rw[n];omega) d y (by rw[n];exact a)
   rcases List.mem_cons.1 a with rfl|a
   ·exact J7 (Or.inl rfl) AB d
   rcases List.mem_append.1 a with a|a
   ·exact o _ _ _ _ AB A T (by rw[s];omega) d y (by rw[s];exact a)
   ·exact o _ _ e b AB q T AB d y a
  ·rw[Ms h r k n]at a l
   simp only[List.length_cons,List.length_append]at l;rcases List.mem_cons.1 a with rfl|a
   ·exact J7 (UR _) AB d
   rcases List.mem_append.1 a with a|a
   ·exact o (c+1) (i+1) _ _ AB u T (by rw[n];omega) d y (by rw[n];exact a)
   rcases List.mem_cons.1 a with rfl|a
   ·exact J7 (Or.inl rfl) AB d
   ·exact o _ _ e b AB q T AB d y a
theorem QZ(h:IZ L n):FJ L n=Bq L 0 0 n++[A7 34 0]/\(Bq L 0 0 n).length<=1999:=by
 have a:=RU (L:=L) (Z:=fun _=>0) (fun _=>Int.le_refl _) n 0 0 n AB AB;have b:=h.2.2;rw[show Cg L (fun _=>0) 0=0 from rfl]at a;exact⟨by unfold FJ;rw[if_pos h],AB⟩
theorem RX(h:IZ L n):Dw (FJ L n).length (Ns (FJ L n))=true:=by
 obtain⟨l,e⟩:=QZ h;have k:=fE n 0 0 n 0 AB h.2.1 (Bq L 0 0 n).length AB e;rw[l];generalize Bq L 0 0 n=a at e k;have b:(a++[A7 34 0]).length=a.length+1:=AY;rw[Mj AB AB (fun i m=>?_),b,Nat.add_sub_cancel]
 ·show(kN ((a++[A7 34 0]).getD a.length jA) 0==34)=true
  rw[Jw,List.getElem?_append_right BP,Nat.sub_self];rfl
 ·show(Ar _ _ _ _ _ _&&_)=true
  by_cases c:i<a.length
  ·have d:(a++[A7 34 0]).getD i jA=a[i]:=by
    rw[Jw,List.getElem?_append_left c,List.getElem?_eq_getElem c];rfl
   have j:=k a[i] (List.getElem_mem c);unfold Ns;rw[d,b];simp only[kN];rw[j.1];cases hj:Df a[i].op with
   |false=>rfl
   |true=>
    have:=j.2 hj;simp;omega
  ·have d:(a++[A7 34 0]).getD i jA=A7 34 0:=by
    rw[Jw,List.getElem?_append_right AB,show i-a.length=0 by omega];rfl
   unfold Ns;rw[d];rfl
section
variable{P:List NV}{q:Nat}{M:MV}
abbrev iY(P:List NV)(M:MV):MV:=stepM P.length (Ns P) M
abbrev Mc(P:List NV)(k:Nat)(M:MV):MV:=Kn P.length (Ns P) k M
theorem PN{y:NV}(c:P[q]?=some y):iY P (M.at q)=FO (exec y.op.toNat y.d.toNat y.a.toNat y.b.toNat y.h.toNat y.imm (M.at q) (q+1)):=by
 have e:P.getD q jA=y:=by rw[Jw,c];rfl
 have j:=(List.getElem?_eq_some_iff.1 c).1;unfold iY;rw[Ij _ _ _ (by show¬(P.length:Int)<=q;omega)];show FO (exec (Ns P (q:Int).toNat 0).toNat (Ns P (q:Int).toNat 1).toNat (Ns P (q:Int).toNat 2).toNat (Ns P (q:Int).toNat 3).toNat (Ns P (q:Int).toNat 5).toNat (Ns P (q:Int).toNat 4) (M.at q) (q+1))=_;unfold Ns;rw[Int.toNat_natCast,e];rfl
theorem jY(k:P[q]?=some (Hg s))(l:1<=s.op)(m:s.op<=28):∃x,iY P (M.at q)=(RJ s M).at x/\((RJ s M).st=0->x=q+1):=by
 rw[PN k];show∃x,FO (exec s.op.toNat s.d.toNat s.a.toNat s.b.toNat s.h.toNat s.imm (M.at q) (q+1))=_/\_;rw[UZ _ _ _ _ _ _ _ _ _ AB AB];have e:=Np s.op.toNat s.d.toNat s.a.toNat s.b.toNat s.h.toNat s.imm M AB AB;unfold RJ Ew;rcases e with⟨j,c,_,_⟩|⟨j,c⟩
 ·rw[c,c];exact⟨q+1,rfl,fun _=>rfl⟩
 ·rw[c,c];exact⟨q,rfl,fun h=>absurd (show(2:Int)=0 from h) Aa⟩
theorem iy{t:Int}(b:P[q]?=some (A7 (Bu c) t))(d:1<=c)(e:c<=4):∃x,iY P (M.at q)=(Ea c M).at x/\(Jr c M=true->x=if Gh c M then(q:Int)+1 else t):=by
 rw[PN b];have a:c=1∨c=2∨c=3∨c=4:=AB;rcases a with rfl|rfl|rfl|rfl
 ·show∃x,FO (Cw M.hz M.z false t (M.at q) (q+1))=(if M.hz=true then M.see 2 (if(M.z==true)=true then 0 else 1)else M.fault).at x/\(M.hz=true->x=if(M.z==true)=true then(q:Int)+1 else t)
  cases M.hz<;>cases M.z<;>first|exact⟨_,rfl,AY⟩|exact⟨_,rfl,fun _=>rfl⟩
 ·show∃x,FO (Cw M.hz M.z true t (M.at q) (q+1))=(if M.hz=true then M.see 2 (if(M.z==false)=true then 0 else 1)else M.fault).at x/\(M.hz=true->x=if(M.z==false)=true then(q:Int)+1 else t)
  cases M.hz<;>cases M.z<;>first|exact⟨_,rfl,AY⟩|exact⟨_,rfl,fun _=>rfl⟩
 ·show∃x,FO (Cw M.hc M.c false t (M.at q) (q+1))=(if M.hc=true then M.see 2 (if(M.c==true)=true then 0 else 1)else M.fault).at x/\(M.hc=true->x=if(M.c==true)=true then(q:Int)+1 else t)
  cases M.hc<;>cases M.c<;>first|exact⟨_,rfl,AY⟩|exact⟨_,rfl,fun _=>rfl⟩
 ·show∃x,FO (Cw M.hc M.c true t (M.at q) (q+1))=(if M.hc=true then M.see 2 (if(M.c==false)=true then 0 else 1)else M.fault).at x/\(M.hc=true->x=if(M.c==false)=true then(q:Int)+1 else t)
  cases M.hc<;>cases M.c<;>first|exact⟨_,rfl,AY⟩|exact⟨_,rfl,fun _=>rfl⟩
theorem stepJ{t:Int}(a:P[q]?=some (A7 29 t)):iY P (M.at q)=M.at t:=by rw[PN a];rfl
theorem Jl{k:Nat}(h:M.st=0):Mc P (k+1) M=Mc P k (iY P M):=Ou _ _ k h
theorem Gt(a b:Nat):∀{M:MV},Mc P (a+b) M=Mc P b (Mc P a M):=by
 induction a with
 |zero=>intro M;rw[Nat.zero_add];rfl
 |succ a c=>
  intro M;by_cases h:M.st=0
  ·rw[Nat.succ_add,Jl h,Jl h,c]
  ·rw[show Mc P (a+1) M=M from FX _ _ _ h,show Mc P b M=M from FX _ _ _ h];exact FX _ _ _ h
def Loc(P:List NV)(a:Nat)(X:List NV):Prop:=∀j,j<X.length->P[a+j]?=X[j]?
theorem Loc.head{y:NV}{X:List NV}(h:Loc P a (y::X)):P[a]?=some y:=h 0 (Nat.succ_pos _)
theorem Loc.tail{y:NV}{X:List NV}(h:Loc P a (y::X)):Loc P (a+1) X:=fun j b=>by
 have:=h (j+1) (Nat.succ_lt_succ b);rw[show a+1+j=a+(j+1)by omega,this];rfl
theorem Loc.left{X Y:List NV}(h:Loc P a (X++Y)):Loc P a X:=fun j b=>by
 rw[h j (by simp;omega),List.getElem?_append_left b]
theorem Loc.right{b:Nat}{X Y:List NV}(h:Loc P a (X++Y))(e:b=a+X.length):Loc P b Y:=fun j c=>by
 subst e;rw[Nat.add_assoc,h _ (by simp;omega),List.getElem?_append_right AB,Nat.add_sub_cancel_left]
end
section
variable{L:Nat->SV}{fu:Int}{P:List NV}
def Smt(L:Nat->SV)(P:List NV)(a i te:Nat)(r r':RV):Prop:=∃(k:Nat)(x:Int),(k:Int)<=2*(r'.used-r.used)/\r'.used-r.used<=k/\Mc P k (r.M.at a)=r'.M.at x/\(r'.go->x=(a:Int)+(Bq L a i te).length)
def kK(L:Nat->SV)(P:List NV)(i te:Nat)(r r':RV):Prop:=(¬r.go->r'=r)/\∀(a:Nat)(depth:Int),(Cy L 0 0 321 i te depth).1=0->Loc P a (Bq L a i te)->Smt L P a i te r r'
theorem Ox(M:MV)(x:Int):(M.at x).st=M.st:=rfl
theorem JB{r d:RV}{b:Bool}{t:Int}(q:1<=c)(s:c<=4)(m:r.go)(l:CZ fu c r=(d,b))(u:P[a]?=some (A7 (Bu c) t)):
 (b=true/\d.go/\d.used=r.used+1/\Mc P 1 (r.M.at a)=d.M.at ((a:Int)+1))∨(b=false/\d.go/\d.used=r.used+1/\Mc P 1 (r.M.at a)=d.M.at t)∨(b=false/\¬d.go/\∃(k:Nat)(x:Int),(k:Int)<=2*(d.used-r.used)/\d.used-r.used<=k/\Mc P k (r.M.at a)=d.M.at x):=by
 unfold CZ at l;by_cases p:r.used=fu
 ·rw[if_pos p]at l
  obtain⟨rfl,rfl⟩:=Prod.mk.inj l;exact .inr (.inr ⟨rfl,fun g=>absurd g.1 AY,0,a,AY,AY,rfl⟩)
 ·rw[if_neg p]at l
  obtain⟨rfl,rfl⟩:=Prod.mk.inj l;obtain⟨x,e,y⟩:=iy (M:=r.M) u q s;have h:Mc P 1 (r.M.at a)=(Ea c r.M).at x:=by rw[Jl (by rw[Ox];exact m.2)];exact e
  by_cases j:Jr c r.M=true
  ·have o:(Ea c r.M).st=0:=by unfold Ea;rw[if_pos j];exact m.2
   rw[y j]at h;cases hd:Gh c r.M with
   |true=>exact .inl ⟨by rw[j];rfl,⟨m.1,o⟩,rfl,by rw[h,hd];rfl⟩
   |false=>exact .inr (.inl ⟨by rw[j];rfl,⟨m.1,o⟩,rfl,by rw[h,hd];rfl⟩)
  ·have n:Jr c r.M=false:=by simpa using j
   refine .inr (.inr ⟨by rw[n];rfl,fun g=>?_,1,x,?_,?_,h⟩)
   ·have:=g.2
    simp only[Ea,n]at this;exact absurd (show(2:Int)=0 from this) Aa
   ·show((1:Nat):Int)<=2*(r.used+1-r.used);omega
   ·show r.used+1-r.used<=((1:Nat):Int);omega
theorem Smt.then{b j s:Nat}{r c n:RV}(p:∃(k:Nat)(x:Int),(k:Int)<=2*(c.used-r.used)/\c.used-r.used<=k/\Mc P k (r.M.at a)=c.M.at x/\(c.go->x=b))(m:kK L P j s c n)(d:Int)(u:(Cy L 0 0 321 j s d).1=0)(q:Loc P b (Bq L b j s))(y:(b:Int)+(Bq L b j s).length=a+(Bq L a i Q).length):Smt L P a i Q r n:=by
 obtain⟨k,x,B,C,e,z⟩:=p;by_cases g:c.go
 ·obtain⟨A,D,E,F,o,l⟩:=m.2 b d u q
  refine⟨k+A,D,AB,AB,?_,fun h=>by rw[l h,y]⟩;rw[Gt,e,z g,o]
 ·obtain rfl:=m.1 g
  exact⟨k,x,B,C,e,fun h=>absurd h g⟩
theorem Yh{r S:RV}(h:Ev L fu i Q r S):kK L P i Q r S:=by
 refine h (kK L P) ⟨?_,?_,?_,?_,?_,?_⟩
 ·intro i Q r n
  refine⟨fun _=>rfl,fun a d _ _=>⟨0,a,AY,AY,rfl,fun g=>?_⟩⟩;rw[G6 (fun q=>n ⟨q,g⟩)];simp
 ·intro i Q r S z g k ih
  refine⟨fun n=>absurd g n,fun a d U m=>?_⟩;obtain⟨J,K,_,_,N⟩:=GU U z;have e:=QL (at':=a) z K k;rw[e]at m;obtain⟨E,I⟩:=Ig J k;have ab:=(GQ E).1;refine Smt.then (b:=a+1) ?_ ih d N m.tail (by rw[e];simp only[List.length_cons,Ic];omega)
  unfold Gu;by_cases hu:r.used=fu
  ·rw[if_pos hu];exact⟨0,a,AY,AY,rfl,fun g=>absurd g.1 AY⟩
  ·rw[if_neg hu]
   obtain⟨x,e1,hx⟩:=jY (M:=r.M) m.head AB AB;refine⟨1,x,?_,?_,?_,fun g'=>(hx g'.2).trans AB⟩
   ·show((1:Nat):Int)<=2*(r.used+1-r.used);omega
   ·show r.used+1-r.used<=((1:Nat):Int);omega
   ·rw[Jl (by rw[Ox];exact g.2)];exact e1
 all_goals
  intro i Q r r1;first|intro r2 S z g k l Z R|intro S z g k l R
  refine⟨fun n=>absurd g n,fun a d U m=>?_⟩;obtain⟨J,K,c1,c2,N⟩:=GU U z;have c:=Ke J AB;obtain⟨X,D⟩:=BG (Bq L (a+1) (i+1) (i+1+(L i).thn.toNat))
 ·obtain⟨Y,O⟩:=BG (Bq L (a+2+X.length) (i+1+(L i).thn.toNat) (Ic L i))
  have e:=Mt (at':=a) z K k D O;rw[e]at m;rcases JB c.1 c.2 g l m.head with⟨_,C,u1,A⟩|⟨q,_⟩|⟨q,_⟩;rotate_left
  ·cases q
  ·cases q
  have p:=m.tail;have F:=(p.right (b:=a+1+X.length) rfl).head;refine Smt.then (b:=a+2+X.length+Y.length) ?_ R d N (((p.right (b:=a+1+X.length) rfl).tail).right AB) (by rw[e];simp only[List.length_cons,List.length_append,Ic];omega)
  obtain⟨u,B,E,I,o,s⟩:=Z.2 (a+1) _ c1 (by rw[D];exact p.left);by_cases y:r2.go
  ·refine⟨1+(u+1),_,AB,AB,?_,fun _=>rfl⟩
   rw[Gt,A,Gt];rw[show r1.M.at ((a:Int)+1)=r1.M.at ((a+1:Nat):Int)by simp,o,s y,D,Jl (by rw[Ox];exact y.2)];exact stepJ (q:=a+1+X.length) F
  ·exact⟨1+u,B,AB,AB,by rw[Gt,A];exact o,fun g=>absurd g y⟩
 ·obtain⟨Y,O⟩:=BG (Bq L (a+2+X.length) (i+1+(L i).thn.toNat) (Ic L i))
  have e:=Mt (at':=a) z K k D O;rw[e]at m;have p:=(m.tail.right (b:=a+1+X.length) rfl).tail;refine Smt.then (b:=a+2+X.length+Y.length) ?_ R d N (p.right AB) (by rw[e];simp only[List.length_cons,List.length_append,Ic];omega)
  rcases JB c.1 c.2 g l m.head with⟨q,_⟩|⟨_,C,u1,A⟩|⟨_,C,u,B,E,I,o⟩
  ·cases q
  ·obtain⟨u,B,E,I,o,s⟩:=Z.2 (a+2+X.length) _ c2 (by rw[O];exact fun j F=>by rw[show a+2+X.length+j=a+1+X.length+1+j by omega];exact p.left j F)
   exact⟨1+u,B,AB,AB,by rw[Gt,A];exact o,fun y=>by rw[s y,O];omega⟩
  ·obtain rfl:=Z.1 C
   exact⟨u,B,E,I,o,fun g=>absurd g C⟩
 ·have e:=Ms (at':=a) z K k D
  have aa:=m;rw[e]at m;rcases JB c.1 c.2 g l m.head with⟨_,C,u1,A⟩|⟨q,_⟩|⟨q,_⟩;rotate_left
  ·cases q
  ·cases q
  have p:=m.tail;have F:=(p.right (b:=a+1+X.length) rfl).head;refine Smt.then (b:=a) ?_ R d U aa rfl
  obtain⟨u,B,E,I,o,s⟩:=Z.2 (a+1) _ c1 (by rw[D];exact p.left);by_cases y:r2.go
  ·refine⟨1+(u+1),_,AB,AB,?_,fun _=>rfl⟩
   rw[Gt,A,Gt];rw[show r1.M.at ((a:Int)+1)=r1.M.at ((a+1:Nat):Int)by simp,o,s y,D,Jl (by rw[Ox];exact y.2)];exact stepJ (q:=a+1+X.length) F
  ·exact⟨1+u,B,AB,AB,by rw[Gt,A];exact o,fun g=>absurd g y⟩
 ·have e:=Ms (at':=a) z K k D
  rw[e]at m;have p:=(m.tail.right (b:=a+1+X.length) rfl).tail;refine Smt.then (b:=a+2+X.length) ?_ R d N (fun j F=>by rw[show a+2+X.length+j=a+1+X.length+1+j by omega];exact p j F) (by rw[e];simp only[List.length_cons,List.length_append,Ic];omega)
  rcases JB c.1 c.2 g l m.head with⟨q,_⟩|⟨_,C,u1,A⟩|⟨_,C,u,B,E,I,o⟩
  ·cases q
  ·exact⟨1,_,AB,AB,A,fun _=>by omega⟩
  ·exact⟨u,B,E,I,o,fun g=>absurd g C⟩
theorem Ev.full{r a:RV}(h:Ev L fu i Q r a)(k:r.out=true->r.used=fu):a.out=true->a.used=fu:=by
 have l:∀s r,r.go->(Gu fu s r).out=true->(Gu fu s r).used=fu:=fun s r j=>by
  unfold Gu;split
  ·next h=>exact fun _=>h
  ·intro h;exact absurd (j.1.symm.trans h) Aa
 have d:∀{c r r1 b},r.go->CZ fu c r=(r1,b)->r1.out=true->r1.used=fu:=fun{c r r1 b}j h=>by
  have e:=congrArg Prod.fst h;simp only at e;rw[<-e];unfold CZ;split
  ·next h=>exact fun _=>h
  ·intro h;exact absurd (j.1.symm.trans h) Aa
 exact h (fun _ _ r a=>(r.out=true->r.used=fu)->a.out=true->a.used=fu) ⟨fun _ k=>k,fun _ g _ m _=>m (l _ _ g),fun _ g _ h a b _=>b (a (d g h)),fun _ g _ h a b _=>b (a (d g h)),fun _ g _ h a b _=>b (a (d g h)),fun _ g _ h a _=>a (d g h)⟩ k
theorem WZ{M:MV}{a:RV}(p:IZ L n)(u:M.pc=0)(h:Ev L fu 0 n ⟨M,0,false⟩ a):0<=a.used/\(a.out=false->∃x,Mc (FJ L n) (2*a.used+1).toNat M=(FM a).at x)/\(a.out=true->(Mc (FJ L n) fu.toNat M).st=0):=by
 obtain⟨o,E⟩:=QZ p;have b:Loc (FJ L n) 0 (Bq L 0 0 n):=fun j s=>by rw[o,Nat.zero_add,List.getElem?_append_left s]
 obtain⟨k,x,B,C,e,A⟩:=(Yh (P:=FJ L n) h).2 0 0 p.2.1 b;have r:M.at ((0:Nat):Int)=M:=by unfold MV.at;rw[<-show M.pc=((0:Nat):Int)from u]
 simp only at B C e;rw[r]at e;have z:0<=a.used:=AB;refine⟨z,fun l=>?_,fun l=>?_⟩
 ·obtain⟨d,m⟩:∃d:Nat,(2*a.used+1).toNat=k+(d+1):=⟨(2*a.used+1).toNat-k-1,AB⟩
  rw[m,Gt,e];by_cases g:a.go
  ·have y:(FJ L n)[(Bq L 0 0 n).length]?=some (A7 34 0):=by rw[o,List.getElem?_append_right BP,Nat.sub_self];rfl
   rw[A g,Jl (by rw[Ox];exact g.2)];have c:=PN (M:=a.M) y;rw[show((0:Nat):Int)+((Bq L 0 0 n).length:Int)=((Bq L 0 0 n).length:Int)by omega,c];refine⟨((Bq L 0 0 n).length:Int),?_⟩;rw[show Mc (FJ L n) d _=_ from FX _ _ _ (by show(1:Int)≠0;decide)];unfold FM;rw[RV.goB_yes g];rfl
  ·have c:a.M.st≠0:=fun q=>g ⟨l,q⟩
   refine⟨x,?_⟩;rw[show Mc (FJ L n) (d+1) _=_ from FX _ _ _ (by rw[Ox];exact c)];unfold FM;rw[RV.goB_no g];rfl
 ·have D:=h.full (fun q=>by cases q) l
  have c:=h.outs (fun q=>by cases q) l;obtain⟨d,m⟩:∃d:Nat,k=fu.toNat+d:=⟨k-fu.toNat,AB⟩
  by_cases g:(Mc (FJ L n) fu.toNat M).st=0
  ·exact g
  ·rw[m,Gt,show Mc (FJ L n) d _=_ from FX _ _ _ g]at e
   rw[e]at g;exact absurd c g
end
end Go.Proofs.YtkckomianknjdaaGreat
