import Derived.Test.YtcjnmdgomocpgaaGreatDoorFtStep
import Derived.Test.YtcjnmdgomocpgaaGreatDoorOfFlMath
set_option maxHeartbeats 2000000
namespace Go.Proofs.YtcjnmdgomocpgaaGreatDoor
open Go.RowKit
variable {g:HS}{Z a c m x y:Int}{h t:Nat}
structure Low(nH:Nat)(S:Nat->HS)(V:Nat->VV)(z c:Int)(M N:MV):Prop where
 rg:∀i,i<8->(V i).s=false->M.R i=N.R i
 z:z=1->M.z=N.z
 c:c=1->M.c=N.c
 bs:∀i,i<nH->(M.Hp i).base=(N.Hp i).base
 dt:∀i,i<nH->(S i).s=false->(M.Hp i).dat=(N.Hp i).dat
 nO:M.nO=N.nO
 ob:∀i,i<M.nO->M.K i=N.K i/\M.V i=N.V i
section
variable{nH:Nat}{S:Nat->HS}{V:Nat->VV}{z c z' c':Int}{M N:MV}
theorem Low.set(p:Low nH S V z c M N){d:Nat}{r:VV}(h:r.s=false->x=y):Low nH S (Df V d r) z c (M.setR d x) (N.setR d y):=by
 refine⟨fun i a q=>?_,p.z,p.c,p.bs,p.dt,p.nO,p.ob⟩;show(if i=d then x else M.R i)=(if i=d then y else N.R i);unfold Df at q;by_cases e:i=d
 ·rw[if_pos e]at q⊢;rw[if_pos e];exact h q
 ·rw[if_neg e]at q⊢;rw[if_neg e];exact p.rg i a q
theorem Low.see(p:Low nH S V z c M N)(k:Int)(h:x=y):Low nH S V z c (M.see k x) (N.see k y):=by
 subst h;refine⟨p.rg,p.z,p.c,p.bs,p.dt,congrArg (· +1) p.nO,fun i a=>?_⟩;show(if i=M.nO then k else M.K i)=(if i=N.nO then k else N.K i)/\(if i=M.nO then x else M.V i)=(if i=N.nO then x else N.V i);rw[<-p.nO];have b:i<M.nO+1:=a;by_cases e:i=M.nO
 ·rw[if_pos e,if_pos e,if_pos e,if_pos e];exact⟨rfl,rfl⟩
 ·rw[if_neg e,if_neg e,if_neg e,if_neg e];exact p.ob i AB
theorem Low.flags(p:Low nH S V z c M N){u v:Bool}(b:z'=1->x=y)(a:c'=1->u=v):Low nH S V z' c' (M.flags x u) (N.flags y v):=
 ⟨p.rg,fun q=>by show decide (x=0)=decide (y=0);rw[b q],fun q=>a q,p.bs,p.dt,p.nO,p.ob⟩
theorem Low.poke(p:Low nH S V z c M N){j:Nat}(e:(S h).s=false->x=y):Low nH S V z c (M.poke h j x) (N.poke h j y):=by
 refine⟨p.rg,p.z,p.c,fun i b=>?_,fun i b q=>?_,p.nO,p.ob⟩
 ·rw[(Mj M h j x i).1,(Mj N h j y i).1];exact p.bs i b
 ·unfold MV.poke
  dsimp only;by_cases a:i=h
  ·rw[if_pos a,if_pos a]
   have:=p.dt i b q;dsimp only;rw[this,e (a▸q)]
  ·rw[if_neg a,if_neg a];exact p.dt i b q
theorem Low.pokeN(p:Low nH S V z c M N){o:Nat}(e:(S h).s=false->x=y):∀k,Low nH S V z c (M.pokeN h o x k) (N.pokeN h o y k)
 |0=>p
 |k+1=>(Low.pokeN p e k).poke (fun q=>by rw[e q])
end
def Vv(v:VV):Prop:=v.k=1->v.s=false
section
variable{a b:VV}{fl imm op:Int}{g:HS}{s:Bool}
theorem jL(c:Vv a)(d:Vv b):(Mg a b).s=(a.s||b.s):=by
 unfold Mg;split
 ·rename_i k
  unfold Tv;split
  ·rename_i h;show b.s=_;rw[d k,h.2.2.1];rfl
  ·split<;>exact Bool.or_comm _ _
 ·unfold Tv
  split
  ·rename_i h;show a.s=_;rw[c h.1,h.2.2.1];rfl
  ·split<;>rfl
theorem Wo(c:Vv a)(d:Vv b):(Cg a b).s=(a.s||b.s):=by
 unfold Cg;split
 ·rename_i h;rw[c h.1,d h.2.1];rfl
 ·split<;>rfl
theorem ZQ(c:Vv a)(d:Vv b):(KW a b fl).s=(a.s||b.s||decide (fl=2)):=by
 show((if fl=2/\(Cg a b).k=1 then Al true (-1)else Cg a b).s||decide (fl=2))=_;by_cases h:fl=2/\(Cg a b).k=1
 ·rw[if_pos h,h.1];simp
 ·rw[if_neg h,Wo c d]
end
section
variable{nH nR:Nat}{S:Nat->HS}{V V0:Nat->VV}{z c imm:Int}{M N:MV}{di ia ib q:Nat}
theorem lZ{op:Int}(k:1<=op)(l:op<=16∨op=19∨op=20)(d:Vv (V ia))(j:Vv (V ib)):(kS op imm (Gl V op ia) (Gb V op ib) (Gi V op z c ia ib) (Jw op z c) g).s=Gi V op z c ia ib:=by
 have a:Vv (Gl V op ia):=by unfold Gl;split;exact d;exact fun _=>rfl
 have b:Vv (Gb V op ib):=by unfold Gb;split;exact j;exact fun _=>rfl
 have h:op=1∨op=2∨op=3∨op=4∨op=5∨op=6∨op=7∨op=8∨op=9∨op=10∨op=11∨op=12∨op=13∨op=14∨op=15∨op=16∨op=19∨op=20:=AB;rcases h with rfl|rfl|rfl|rfl|rfl|rfl|rfl|rfl|rfl|rfl|rfl|rfl|rfl|rfl|rfl|rfl|rfl|rfl
 ·show(Gl V 1 ia).s=((Gl V 1 ia).s||(Gb V 1 ib).s||decide (Jw 1 z c=2))
  rw[Xp (show Ap 1 4=false by kernel_rfl)];simp[Jw,zV]
 ·show false=((Gl V 2 ia).s||(Gb V 2 ib).s||decide (Jw 2 z c=2))
  rw[Xp (show Ap 2 4=false by kernel_rfl)];simp[Gl,show Ap 2 2=false by kernel_rfl,Jw,zV]
 ·show(Mg (Gl V 3 ia) (Gb V 3 ib)).s=((Gl V 3 ia).s||(Gb V 3 ib).s||decide (Jw 3 z c=2))
  rw[jL a b];simp[Jw]
 ·rfl
 ·show(if _ then Al _ _ else Al _ _).s=_
  split<;>rfl
 ·rfl
 ·show(if _ then Al _ _ else Al _ _).s=_
  split<;>rfl
 ·show(if _ then Al _ _ else Al _ _).s=_
  split<;>rfl
 ·rfl
 ·show(if _ then _ else if _ then Al _ _ else Al _ _:VV).s=_
  split
  ·rename_i h
   have e:=a h.1;show(Gl V 10 ia).s=((Gl V 10 ia).s||(Gb V 10 ib).s||decide (Jw 10 z c=2));rw[Xp (show Ap 10 4=false by kernel_rfl)];simp[Jw,zV]
  ·split<;>rfl
 ·rfl
 ·show(if _ then _ else if _ then Al _ _ else Al _ _:VV).s=_
  split
  ·rfl
  ·split<;>rfl
 ·show(if _ then _ else if _ then Al _ _ else Al _ _:VV).s=_
  split
  ·rfl
  ·split<;>rfl
 ·show(Mg (Gl V 14 ia) (Gb V 14 ib)).s=((Gl V 14 ia).s||(Gb V 14 ib).s||decide (Jw 14 z c=2))
  rw[jL a b];simp[Jw]
 ·show(if _ then Al _ _ else Al _ _).s=_
  split<;>rfl
 ·rfl
 ·exact ZQ a b
 ·exact ZQ a b
theorem lG{op:Int}(p:Low nH S V z c M N)(a:ia<8)(b:ib<8)(h:Gi V op z c ia ib=false):(Ap op 2=true->M.R ia=N.R ia)/\(Ap op 4=true->M.R ib=N.R ib)/\Jw op z c≠2:=by
 unfold Gi at h;simp only[Bool.or_eq_false_iff,decide_eq_false_iff_not]at h;exact⟨fun q=>p.rg ia a (by have:=h.1.1;rwa [EQ q]at this),fun q=>p.rg ib b (by have:=h.1.2;rwa [Gm q]at this),h.2⟩
theorem PE{h:Int}{a b x:VV}(e:A8 Z m h a b x g=0):b.s=false:=by
 unfold A8 at e;by_cases c:a.k≠1
 ·rw[if_pos c]at e;omega
 rw[if_neg c]at e;by_cases d:a.h≠h
 ·rw[if_pos d]at e;omega
 rw[if_neg d]at e;by_cases j:b.s=true∨AZ b<0
 ·rw[if_pos j]at e;omega
 ·cases q:b.s
  ·rfl
  ·exact absurd (Or.inl q) j
theorem SY{h:Int}{a b x:VV}(e:A8 Z m h a b x g=0)(c:oN Z=true)(k:x.s=true):g.s=true:=by
 obtain⟨l,n,o,p,r,d⟩:=Dv e;have j:=PE e;unfold A8 at e;rw[if_neg AB,if_neg AB,if_neg (by rw[j];rintro(h|h);cases h;omega),if_neg AB,if_neg (by rw[c];decide),if_neg (by rw[d c];decide)]at e;by_cases q:x.s=true/\g.s=false
 ·rw[if_pos q]at e;omega
 ·cases qq:g.s
  ·exact absurd ⟨k,qq⟩ q
  ·rfl
theorem A7{M a:MV}{n:Int}(h:Ia.done M n=Ia.done a m):M=a:=(Prod.mk.inj (Sum.inl.inj h)).1
theorem QF{N:Bool}{w d:Nat}{A:Int}{M a:MV}(e:Cm N w A d h M c=.done a c):a=if N then(M.see 1 A).pokeN h (A-(M.Hp h).base).toNat (M.R d) w else(M.see 1 A).setR d (Hu (M.Hp h).dat (A-(M.Hp h).base).toNat w):=by
 unfold Cm at e;split at e
 ·cases e
 ·split at e
  ·cases N
   ·exact(A7 e).symm
   ·exact(A7 e).symm
  ·cases e
theorem Low.mem{r:VV}{st:Bool}{A B nx:Int}{w:Nat}{j k:MV}(p:Low nH S V z c M N)(l:q<nH)(b:di<8)(u:A=B)(x:r=Al (S q).s r.m)(d:st=true->(V di).s=true->(S q).s=true)(n:Cm st w A di q M nx=.done j nx)(o:Cm st w B di q N a=.done k a):Low nH S (if st then V else Df V di r) z c j k:=by
 subst u;rw[QF n,QF o,p.bs q l];cases st
 ·exact(p.see 1 rfl).set (fun h=>by
   rw[x]at h;rw[p.dt q l h])
 ·exact(p.see 1 rfl).pokeN (fun h=>p.rg di b (by cases e:(V di).s;rfl;rw[d rfl e]at h;cases h)) w
theorem Yv{nx:Int}{Y N':MV}(B:BK nH S nR V0 8 V z c=true)(K:BF Z (di:Int) (ia:Int) (ib:Int) imm (q:Int)=true)(D:Z<=28)(m:di<8)(y:ia<8)(u:ib<8)(U:Ls nH S V z c M)(X:Ls nH S V z c N)(p:Low nH S V z c M N)(O:TN nH S nR V0 8 V z c Z (di:Int) (ia:Int) (ib:Int) imm (q:Int)=0)
 (d:exec Z.toNat di ia ib q imm M nx=.done Y nx)(j:exec Z.toNat di ia ib q imm N a=.done N' a):Low nH S (Pj S V z c Z (di:Int) (ia:Int) (ib:Int) imm (q:Int)) (Mc V z c Z (ia:Int) (ib:Int) z) (Mc V z c Z (ia:Int) (ib:Int) c) Y N':=by
 have L:FL Z (Jw Z z c) (Gi V Z z c ia ib) (A8 Z imm (q:Int) (Gl V Z ia) (Gb V Z ib) (V di) (S q))=0:=by
  unfold TN at O;rw[if_pos ⟨B,K,D⟩]at O;exact O
 obtain⟨A,l⟩:=XU L;have h9:Z=9->Gi V Z z c ia ib=false:=by
  intro e;unfold FL at L;rw[if_neg A]at L;by_cases h:Z=9/\Gi V Z z c ia ib=true
  ·rw[if_pos h]at L;omega
  ·cases q:Gi V Z z c ia ib
   ·rfl
   ·exact absurd ⟨e,q⟩ h
 clear L O;obtain⟨o1,_⟩:=Gx K D;obtain⟨_,_,G⟩:=FR B;obtain⟨_,_,_,fz,fc⟩:=Co.1 B;have E:=lG (op:=Z) p y u;have T:=fun h1 h2=>lZ (imm:=imm) (g:=S q) (V:=V) (z:=z) (c:=c) (ia:=ia) (ib:=ib) (op:=Z) h1 h2 (fun k=>NH (G ia y) k) (fun k=>NH (G ib u) k)
 have n:(V ia).k=1->(V ia).h=(q:Int)->q<nH:=fun k e=>by have:=Iu (G ia y) k;omega
 have C:(V ia).k=1->M.R ia=N.R ia:=fun k=>p.rg ia y (NH (G ia y) k)
 have F:Fj Z=true->∀x,Mc V z c Z (ia:Int) (ib:Int) x=1->Gi V Z z c ia ib=false:=by
  intro h x e;unfold Mc at e;rw[if_pos h]at e;cases q:Gi V Z z c ia ib
  ·rfl
  ·have:Gi V Z z c (ia:Int).toNat (ib:Int).toNat=true:=q
   rw[if_pos this]at e;omega
 clear G B;rcases UJ o1 D with rfl|rfl|rfl|rfl|rfl|rfl|rfl|rfl|rfl|rfl|rfl|rfl|rfl|rfl|rfl|rfl|rfl|rfl|rfl|rfl|rfl|rfl|rfl|rfl|rfl|rfl|rfl|rfl
 ·rw[Er (show Ik 1=true by kernel_rfl),CK (show Fj 1=false by kernel_rfl),CK (show Fj 1=false by kernel_rfl)]
  rw[<-A7 d,<-A7 j];exact p.set (fun h=>by have e:=E ((T Ad Ad).symm.trans h);rw[e.1 AV])
 ·rw[Er (show Ik 2=true by kernel_rfl),CK (show Fj 2=false by kernel_rfl),CK (show Fj 2=false by kernel_rfl)]
  rw[<-A7 d,<-A7 j];exact p.set (fun h=>rfl)
 ·rw[Er (show Ik 3=true by kernel_rfl),CK (show Fj 3=false by kernel_rfl),CK (show Fj 3=false by kernel_rfl)]
  rw[<-A7 d,<-A7 j];exact p.set (fun h=>by have e:=E ((T Ad Ad).symm.trans h);rw[e.1 AV,e.2.1 AV])
 ·rw[Er (show Ik 4=true by kernel_rfl),CK (show Fj 4=false by kernel_rfl),CK (show Fj 4=false by kernel_rfl)]
  rw[<-A7 d,<-A7 j];exact p.set (fun h=>by have e:=E ((T Ad Ad).symm.trans h);rw[e.1 AV,e.2.1 AV])
 ·rw[Er (show Ik 5=true by kernel_rfl),CK (show Fj 5=false by kernel_rfl),CK (show Fj 5=false by kernel_rfl)]
  rw[<-A7 d,<-A7 j];exact p.set (fun h=>by have e:=E ((T Ad Ad).symm.trans h);rw[e.1 AV,e.2.1 AV])
 ·rw[Er (show Ik 6=true by kernel_rfl),CK (show Fj 6=false by kernel_rfl),CK (show Fj 6=false by kernel_rfl)]
  rw[<-A7 d,<-A7 j];exact p.set (fun h=>by have e:=E ((T Ad Ad).symm.trans h);rw[e.1 AV,e.2.1 AV])
 ·rw[Er (show Ik 7=true by kernel_rfl),CK (show Fj 7=false by kernel_rfl),CK (show Fj 7=false by kernel_rfl)]
  rw[<-A7 d,<-A7 j];exact p.set (fun h=>by have e:=E ((T Ad Ad).symm.trans h);rw[e.1 AV,e.2.1 AV])
 ·rw[Er (show Ik 8=true by kernel_rfl),CK (show Fj 8=false by kernel_rfl),CK (show Fj 8=false by kernel_rfl)]
  rw[<-A7 d,<-A7 j];exact p.set (fun h=>by have e:=E ((T Ad Ad).symm.trans h);rw[e.1 AV,e.2.1 AV])
 ·rw[Er (show Ik 9=true by kernel_rfl),CK (show Fj 9=false by kernel_rfl),CK (show Fj 9=false by kernel_rfl)]
  have e:=E (h9 rfl);rw[<-A7 d,<-A7 j];exact(p.see 3 (by rw[e.1 AV,e.2.1 AV])).set (fun _=>by rw[e.1 AV,e.2.1 AV])
 ·rw[Er (show Ik 10=true by kernel_rfl),CK (show Fj 10=false by kernel_rfl),CK (show Fj 10=false by kernel_rfl)]
  rw[<-A7 d,<-A7 j];exact p.set (fun h=>by have e:=E ((T Ad Ad).symm.trans h);rw[e.1 AV])
 ·rw[Er (show Ik 11=true by kernel_rfl),CK (show Fj 11=false by kernel_rfl),CK (show Fj 11=false by kernel_rfl)]
  rw[<-A7 d,<-A7 j];exact p.set (fun h=>by have e:=E ((T Ad Ad).symm.trans h);rw[e.1 AV])
 ·rw[Er (show Ik 12=true by kernel_rfl),CK (show Fj 12=false by kernel_rfl),CK (show Fj 12=false by kernel_rfl)]
  rw[<-A7 d,<-A7 j];exact p.set (fun h=>by have e:=E ((T Ad Ad).symm.trans h);rw[e.1 AV])
 ·rw[Er (show Ik 13=true by kernel_rfl),CK (show Fj 13=false by kernel_rfl),CK (show Fj 13=false by kernel_rfl)]
  rw[<-A7 d,<-A7 j];exact p.set (fun h=>by have e:=E ((T Ad Ad).symm.trans h);rw[e.1 AV])
 ·rw[Er (show Ik 14=true by kernel_rfl)]
  rw[<-A7 d,<-A7 j];exact(p.set (fun h=>by have e:=E ((T Ad Ad).symm.trans h);rw[e.1 AV,e.2.1 AV])).flags (fun h=>by have e:=E (F AV _ h);rw[e.1 AV,e.2.1 AV]) (fun h=>by have e:=E (F AV _ h);rw[e.1 AV,e.2.1 AV])
 ·rw[Er (show Ik 15=true by kernel_rfl)]
  have I:M.hc=true:=by rcases U.hc with h|h;exact absurd h A;exact h
  have J:N.hc=true:=by rcases X.hc with h|h;exact absurd h A;exact h
  rw[show exec (15:Int).toNat di ia ib q imm M nx=.done _ nx from if_pos I]at d;rw[show exec (15:Int).toNat di ia ib q imm N a=.done _ a from if_pos J]at j;have Q:Gi V 15 z c ia ib=false->M.c=N.c:=fun h=>p.c (by have e1:c≠2:=(E h).2.2;have e2:c≠0:=A;omega)
  rw[<-A7 d,<-A7 j];exact(p.set (fun h=>by have q:=(T Ad Ad).symm.trans h;have e:=E q;rw[e.1 AV,e.2.1 AV,Q q])).flags (fun h=>by have q:=F AV _ h;have e:=E q;rw[e.1 AV,e.2.1 AV,Q q]) (fun h=>by have q:=F AV _ h;have e:=E q;rw[e.1 AV,e.2.1 AV,Q q])
 ·rw[Er (show Ik 16=true by kernel_rfl)]
  rw[<-A7 d,<-A7 j];exact(p.flags (fun h=>by have e:=E (F AV _ h);rw[e.1 AV,e.2.1 AV]) (fun h=>by have e:=E (F AV _ h);rw[e.1 AV,e.2.1 AV])).set (fun h=>by have e:=E ((T Ad Ad).symm.trans h);rw[e.1 AV,e.2.1 AV])
 ·rw[Qf (show Ik 17=false by kernel_rfl)]
  rw[<-A7 d,<-A7 j];exact p.flags (fun h=>by have e:=E (F AV _ h);rw[e.1 AV,e.2.1 AV]) (fun h=>by have e:=E (F AV _ h);rw[e.1 AV,e.2.1 AV])
 ·rw[Qf (show Ik 18=false by kernel_rfl)]
  rw[<-A7 d,<-A7 j];exact p.flags (fun h=>by have e:=E (F AV _ h);rw[e.1 AV]) (fun h=>by have e:=E (F AV _ h);rw[e.1 AV])
 ·rw[Er (show Ik 19=true by kernel_rfl),CK (show Fj 19=false by kernel_rfl),CK (show Fj 19=false by kernel_rfl)]
  have I:M.hz=true:=by rcases U.hz with h|h;exact absurd h A;exact h
  have J:N.hz=true:=by rcases X.hz with h|h;exact absurd h A;exact h
  rw[show exec (19:Int).toNat di ia ib q imm M nx=.done _ nx from if_pos I]at d;rw[show exec (19:Int).toNat di ia ib q imm N a=.done _ a from if_pos J]at j;rw[<-A7 d,<-A7 j];exact p.set (fun h=>by have q:=(T Ad Ad).symm.trans h;have e:=E q;rw[e.1 AV,e.2.1 AV,p.z (by have e1:z≠2:=e.2.2;have e2:z≠0:=A;omega)])
 ·rw[Er (show Ik 20=true by kernel_rfl),CK (show Fj 20=false by kernel_rfl),CK (show Fj 20=false by kernel_rfl)]
  have I:M.hc=true:=by rcases U.hc with h|h;exact absurd h A;exact h
  have J:N.hc=true:=by rcases X.hc with h|h;exact absurd h A;exact h
  rw[show exec (20:Int).toNat di ia ib q imm M nx=.done _ nx from if_pos I]at d;rw[show exec (20:Int).toNat di ia ib q imm N a=.done _ a from if_pos J]at j;rw[<-A7 d,<-A7 j];exact p.set (fun h=>by have q:=(T Ad Ad).symm.trans h;have e:=E q;rw[e.1 AV,e.2.1 AV,p.c (by have e1:c≠2:=e.2.2;have e2:c≠0:=A;omega)])
 ·have b:=l Ad Ad
  rw[EQ (show Ap 21 2=true by kernel_rfl),Xp (show Ap 21 4=false by kernel_rfl)]at b;have o:=n (Dv b).1 (Dv b).2.1;rw[Er (show Ik 21=true by kernel_rfl),CK (show Fj 21=false by kernel_rfl),CK (show Fj 21=false by kernel_rfl)];exact p.mem (r:=kS 21 imm (Gl V 21 ia) (Gb V 21 ib) (Gi V 21 z c ia ib) (Jw 21 z c) (S q)) (st:=false) (w:=1) o m (by unfold FK;rw[C (Dv b).1]) rfl (fun h=>by cases h) d j
 ·have b:=l Ad Ad
  rw[EQ (show Ap 22 2=true by kernel_rfl),Xp (show Ap 22 4=false by kernel_rfl)]at b;have o:=n (Dv b).1 (Dv b).2.1;rw[Er (show Ik 22=true by kernel_rfl),CK (show Fj 22=false by kernel_rfl),CK (show Fj 22=false by kernel_rfl)];exact p.mem (r:=kS 22 imm (Gl V 22 ia) (Gb V 22 ib) (Gi V 22 z c ia ib) (Jw 22 z c) (S q)) (st:=false) (w:=8) o m (by unfold FK;rw[C (Dv b).1]) rfl (fun h=>by cases h) d j
 ·have b:=l Ad Ad
  rw[EQ (show Ap 23 2=true by kernel_rfl),Xp (show Ap 23 4=false by kernel_rfl)]at b;have o:=n (Dv b).1 (Dv b).2.1;rw[Qf (show Ik 23=false by kernel_rfl),CK (show Fj 23=false by kernel_rfl),CK (show Fj 23=false by kernel_rfl)];exact p.mem (r:=Al (S q).s 0) (st:=true) (w:=1) o m (by unfold FK;rw[C (Dv b).1]) rfl (fun _=>SY b rfl) d j
 ·have b:=l Ad Ad
  rw[EQ (show Ap 24 2=true by kernel_rfl),Xp (show Ap 24 4=false by kernel_rfl)]at b;have o:=n (Dv b).1 (Dv b).2.1;rw[Qf (show Ik 24=false by kernel_rfl),CK (show Fj 24=false by kernel_rfl),CK (show Fj 24=false by kernel_rfl)];exact p.mem (r:=Al (S q).s 0) (st:=true) (w:=8) o m (by unfold FK;rw[C (Dv b).1]) rfl (fun _=>SY b rfl) d j
 ·have b:=l Ad Ad
  rw[EQ (show Ap 25 2=true by kernel_rfl),Gm (show Ap 25 4=true by kernel_rfl)]at b;have o:=n (Dv b).1 (Dv b).2.1;rw[Er (show Ik 25=true by kernel_rfl),CK (show Fj 25=false by kernel_rfl),CK (show Fj 25=false by kernel_rfl)];exact p.mem (r:=kS 25 imm (Gl V 25 ia) (Gb V 25 ib) (Gi V 25 z c ia ib) (Jw 25 z c) (S q)) (st:=false) (w:=1) o m (by unfold FJ;rw[C (Dv b).1,p.rg ib u (PE b)]) rfl (fun h=>by cases h) d j
 ·have b:=l Ad Ad
  rw[EQ (show Ap 26 2=true by kernel_rfl),Gm (show Ap 26 4=true by kernel_rfl)]at b;have o:=n (Dv b).1 (Dv b).2.1;rw[Er (show Ik 26=true by kernel_rfl),CK (show Fj 26=false by kernel_rfl),CK (show Fj 26=false by kernel_rfl)];exact p.mem (r:=kS 26 imm (Gl V 26 ia) (Gb V 26 ib) (Gi V 26 z c ia ib) (Jw 26 z c) (S q)) (st:=false) (w:=8) o m (by unfold FJ;rw[C (Dv b).1,p.rg ib u (PE b)]) rfl (fun h=>by cases h) d j
 ·have b:=l Ad Ad
  rw[EQ (show Ap 27 2=true by kernel_rfl),Gm (show Ap 27 4=true by kernel_rfl)]at b;have o:=n (Dv b).1 (Dv b).2.1;rw[Qf (show Ik 27=false by kernel_rfl),CK (show Fj 27=false by kernel_rfl),CK (show Fj 27=false by kernel_rfl)];exact p.mem (r:=Al (S q).s 0) (st:=true) (w:=1) o m (by unfold FJ;rw[C (Dv b).1,p.rg ib u (PE b)]) rfl (fun _=>SY b rfl) d j
 ·have b:=l Ad Ad
  rw[EQ (show Ap 28 2=true by kernel_rfl),Gm (show Ap 28 4=true by kernel_rfl)]at b;have o:=n (Dv b).1 (Dv b).2.1;rw[Qf (show Ik 28=false by kernel_rfl),CK (show Fj 28=false by kernel_rfl),CK (show Fj 28=false by kernel_rfl)];exact p.mem (r:=Al (S q).s 0) (st:=true) (w:=8) o m (by unfold FJ;rw[C (Dv b).1,p.rg ib u (PE b)]) rfl (fun _=>SY b rfl) d j
end
structure Tw(G:SG)(F:FS)(M N:MV):Prop where
 okM:M.Ok
 okN:N.Ok
 stM:M.st=0
 stN:N.st=0
 aM:Ls G.nH G.S F.V F.z F.c M
 aN:Ls G.nH G.S F.V F.z F.c N
 low:Low G.nH G.S F.V F.z F.c M N
theorem kX{v:VV}{n:Int}(h:GV v n):(v.k=0∨v.k=1)/\Vv v:=by
 rcases h with h|h
 ·exact⟨Or.inl h.1,fun k=>by have:=h.1;omega⟩
 ·exact⟨Or.inr h.1,fun _=>h.2.1⟩
theorem ig{b:Int}{f:Bool}(h:(a=0∨f=true)∨(b=0∨f=true)):MF a b=0∨f=true:=by
 unfold MF;by_cases e:a=0∨b=0
 ·rw[if_pos e];exact Or.inl rfl
 ·rcases h with(h|h)|(h|h)
  ·exact absurd (Or.inl h) e
  ·exact Or.inr h
  ·exact absurd (Or.inr h) e
  ·exact Or.inr h
theorem iD{b:Int}(d:0<=a/\a<=2)(j:0<=b/\b<=2)(h:MF a b=1):a=1/\b=1:=by
 unfold MF at h;by_cases e:a=0∨b=0
 ·rw[if_pos e]at h;omega
 rw[if_neg e]at h;by_cases c:a=2∨b=2
 ·rw[if_pos c]at h;omega
 ·omega
section
variable{G:SG}{L:Nat->SV}{F B C D:FS}{M N:MV}
theorem Ls.jn(hF:Ri G F)(e:Ri G B)(h:Ls G.nH G.S F.V F.z F.c M∨Ls G.nH G.S B.V B.z B.c M):Ls G.nH G.S (jF F B).V (jF F B).z (jF F B).c M:=by
 obtain⟨_,_,d,_,_⟩:=Co.1 hF;obtain⟨_,_,b,_,_⟩:=Co.1 e;rcases h with p|p
 ·exact⟨p.nh,p.sz,fun i a=>MK (kX (d i a)).1 (kX (b i a)).1 (Or.inl (p.rg i a)),ig (Or.inl p.hz),ig (Or.inl p.hc)⟩
 ·exact⟨p.nh,p.sz,fun i a=>MK (kX (d i a)).1 (kX (b i a)).1 (Or.inr (p.rg i a)),ig (Or.inr p.hz),ig (Or.inr p.hc)⟩
theorem Low.jn(hF:Ri G F)(o:Ri G B)(h:Low G.nH G.S F.V F.z F.c M N∨Low G.nH G.S B.V B.z B.c M N):Low G.nH G.S (jF F B).V (jF F B).z (jF F B).c M N:=by
 obtain⟨_,_,n,zF,d⟩:=Co.1 hF;obtain⟨_,_,m,l,b⟩:=Co.1 o;have k:∀i,i<8->((jF F B).V i).s=false->(F.V i).s=false/\(B.V i).s=false:=fun i a e=>by
  have j:(Cg (F.V i) (B.V i)).s=false:=e;rw[Wo (kX (n i a)).2 (kX (m i a)).2]at j;simpa using j
 rcases h with p|p
 ·exact⟨fun i a e=>p.rg i a (k i a e).1,fun e=>p.z (iD zF l e).1,fun e=>p.c (iD d b e).1,p.bs,p.dt,p.nO,p.ob⟩
 ·exact⟨fun i a e=>p.rg i a (k i a e).2,fun e=>p.z (iD zF l e).2,fun e=>p.c (iD d b e).2,p.bs,p.dt,p.nO,p.ob⟩
theorem Tw.jn(hF:Ri G F)(a:Ri G B)(h:Tw G F M N∨Tw G B M N):Tw G (jF F B) M N:=by
 rcases h with p|p
 ·exact⟨p.okM,p.okN,p.stM,p.stN,Ls.jn hF a (Or.inl p.aM),Ls.jn hF a (Or.inl p.aN),Low.jn hF a (Or.inl p.low)⟩
 ·exact⟨p.okM,p.okN,p.stM,p.stN,Ls.jn hF a (Or.inr p.aM),Ls.jn hF a (Or.inr p.aN),Low.jn hF a (Or.inr p.low)⟩
theorem Ym{body:FS->Int->CR}(z:VW G body)(cond b:Int):∀n F q C j,JD G F->Cq body cond b n F q=.ok C j->JD G C/\He C cond=0/\(∃D d E,body C d=.ok D E/\JD G D/\jF C D=C)/\∀M N,Tw G F M N->Tw G C M N:=by
 intro n;induction n with
 |zero=>intro F q C j _ e;simp[Cq]at e
 |succ n B=>
  intro F q C j hF e;unfold Cq at e;by_cases l:1000<=q
  ·rw[if_pos l]at e;cases e
  rw[if_neg l]at e;by_cases m:He F cond≠0
  ·rw[if_pos m]at e;cases e
  rw[if_neg m]at e;cases h3:body F (q+1)with
  |inl x=>obtain⟨k,I⟩:=x;rw[h3]at e;cases e
  |inr x=>
   obtain⟨D,d⟩:=x;rw[h3]at e;have c:=(z F (q+1) D d hF h3).1;dsimp only at e;by_cases h:Qh (jF F D) F=true
   ·rw[if_pos h]at e
    obtain⟨k,o⟩:=CR.okI e;subst k o;exact⟨hF,AB,⟨D,q+1,d,h3,c,(hF.join c).eq hF (IZ.1 h)⟩,fun _ _ p=>p⟩
   ·rw[if_neg h]at e
    obtain⟨r,s,u,y⟩:=B _ _ _ _ (hF.join c) e;exact⟨r,s,u,fun M N p=>y M N (Tw.jn hF.1 c.1 (Or.inl p))⟩
end
section
variable{P:List NV}{G:SG}{L:Nat->SV}{F B C D:FS}{M N:MV}{a b d:Nat}
def Rv(P:List NV)(J:Nat->MV->MV->Prop)(x:Nat)(M N:MV):Prop:=∃(y:Nat)(M' N':MV),uH P (M.at x)=M'.at y/\uH P (N.at x)=N'.at y/\J y M' N'
theorem Rv.mono{J K:Nat->MV->MV->Prop}{x:Nat}(h:Rv P J x M N)(k:∀y M N,J y M N->K y M N):Rv P K x M N:=by
 obtain⟨y,a,b,c,d,j⟩:=h;exact⟨y,a,b,c,d,k _ _ _ j⟩
def CW(P:List NV)(G:SG)(a b:Nat)(F B:FS):Prop:=∃J:Nat->MV->MV->Prop,(∀M N,Tw G F M N->J a M N)/\∀x M N,J x M N->(∃F,Tw G F M N)/\((x=b/\Tw G B M N)∨Rv P J x M N)
theorem CW.nil:CW P G a a F F:=⟨fun x M N=>x=a/\Tw G F M N,fun _ _ h=>⟨rfl,h⟩,fun _ _ _ h=>⟨⟨F,h.2⟩,Or.inl h⟩⟩
theorem CW.seq(h:CW P G a b F C)(k:CW P G b d C B):CW P G a d F B:=by
 obtain⟨J,j,l⟩:=h;obtain⟨K,m,n⟩:=k;refine⟨fun x M N=>J x M N∨K x M N,fun M N h=>Or.inl (j M N h),fun x M N h=>?_⟩;have c:∀x M N,K x M N->(∃F,Tw G F M N)/\((x=d/\Tw G B M N)∨Rv P (fun x M N=>J x M N∨K x M N) x M N):=fun x M N h=>by
  obtain⟨e,h|h⟩:=n x M N h
  ·exact⟨e,Or.inl h⟩
  ·exact⟨e,Or.inr (h.mono fun _ _ _=>Or.inr)⟩
 rcases h with h|h
 ·obtain⟨e,⟨rfl,t⟩|h⟩:=l x M N h
  ·exact c _ M N (m M N t)
  ·exact⟨e,Or.inr (h.mono fun _ _ _=>Or.inl)⟩
 ·exact c x M N h
theorem CW.weak(h:CW P G a b F B)(k:∀M N,Tw G B M N->Tw G C M N):CW P G a b F C:=by
 obtain⟨J,c,d⟩:=h;refine⟨J,c,fun x M N h=>?_⟩;obtain⟨e,h|h⟩:=d x M N h
 ·exact⟨e,Or.inl ⟨h.1,k _ _ h.2⟩⟩
 ·exact⟨e,Or.inr h⟩
theorem CW.pre(h:CW P G a b F B)(k:∀M N,Tw G D M N->Tw G F M N):CW P G a b D B:=by
 obtain⟨J,c,d⟩:=h;exact⟨J,fun M N h=>c M N (k M N h),d⟩
theorem CW.one(h:∀M N,Tw G F M N->∃c d,uH P (M.at a)=c.at b/\uH P (N.at a)=d.at b/\Tw G B c d):CW P G a b F B:=by
 refine⟨fun x M N=>(x=a/\Tw G F M N)∨(x=b/\Tw G B M N),fun _ _ h=>Or.inl ⟨rfl,h⟩,fun x M N h=>?_⟩;rcases h with⟨rfl,t⟩|h
 ·obtain⟨c,d,e,j,k⟩:=h M N t
  exact⟨⟨F,t⟩,Or.inr ⟨b,c,d,e,j,Or.inr ⟨rfl,k⟩⟩⟩
 ·exact⟨⟨B,h.2⟩,Or.inl h⟩
theorem CW.jmp(b:P[a]?=some (BP 29 (t:Int))):CW P G a t F F:=CW.one fun M N h=>⟨M,N,stepJ b,stepJ b,h⟩
theorem CW.ins{s:SV}(Q:P[a]?=some (IX s))(e:GU G s F=0):CW P G a (a+1) F (Km G s F):=by
 refine CW.one fun M N t=>?_
 unfold GU at e;obtain⟨B,C,x⟩:=Om e;obtain⟨o1,L,d7,J,a7,K,b7,q0,_⟩:=Gx C x;have n:((s.d.toNat:Nat):Int)=s.d:=Int.toNat_of_nonneg L;have o:((s.a.toNat:Nat):Int)=s.a:=Int.toNat_of_nonneg J;have q:((s.b.toNat:Nat):Int)=s.b:=Int.toNat_of_nonneg K;have r:((s.h.toNat:Nat):Int)=s.h:=Int.toNat_of_nonneg q0;have l:BF s.op ((s.d.toNat:Nat):Int) ((s.a.toNat:Nat):Int) ((s.b.toNat:Nat):Int) s.imm ((s.h.toNat:Nat):Int)=true:=by rw[n,o,q,r];exact C
 have y:TN G.nH G.S 8 G.V0 8 F.V F.z F.c s.op ((s.d.toNat:Nat):Int) ((s.a.toNat:Nat):Int) ((s.b.toNat:Nat):Int) s.imm ((s.h.toNat:Nat):Int)=0:=by rw[n,o,q,r];exact e
 have m:∀{M:MV},M.Ok->M.st=0->Ls G.nH G.S F.V F.z F.c M->∃j,exec s.op.toNat s.d.toNat s.a.toNat s.b.toNat s.h.toNat s.imm M ((a:Int)+1)=.done j ((a:Int)+1)/\uH P (M.at a)=j.at ((a+1:Nat):Int)/\j.Ok/\j.st=0/\Ls G.nH G.S (Km G s F).V (Km G s F).z (Km G s F).c j:=by
  intro M E st p;obtain⟨j,u,O,A⟩:=WT B l x AB AB E p y ((a:Int)+1);rw[n,o,q,r]at A;have k:=Xq E s.op.toNat s.d.toNat s.a.toNat s.b.toNat s.h.toNat s.imm ((a:Int)+1) AB AB;rw[u]at k;refine⟨j,u,?_,k,O.trans st,A⟩;rw[Sr Q];show Jb (exec s.op.toNat s.d.toNat s.a.toNat s.b.toNat s.h.toNat s.imm (M.at a) (a+1))=_;rw[pO _ _ _ _ _ _ _ _ _ AB AB,u];rfl
 obtain⟨j,R,U,X,Y,Z⟩:=m t.okM t.stM t.aM;obtain⟨I,n1,n2,n3,n4,n5⟩:=m t.okN t.stN t.aN;have D:=Yv B l x AB AB AB t.aM t.aN t.low y R n1;rw[n,o,q,r]at D;exact⟨j,I,U,n2,X,n3,Y,n4,Z,n5,D⟩
theorem OT(C:P[a]?=some (BP (CZ c) (t:Int)))(p:1<=c)(r:c<=4)(I:Ri G F)(b:He F c=0)(h:Tw G F M N):∃(y:Nat)(n o:MV),(y=a+1∨y=t)/\uH P (M.at a)=n.at y/\uH P (N.at a)=o.at y/\Tw G F n o:=by
 obtain⟨_,_,_,Q,O⟩:=Co.1 I;have m:VD c M=true/\VD c N=true/\TV c M=TV c N:=by
  unfold He at b;unfold VD TV;by_cases q:3<=c
  ·rw[if_pos q]at b
   rw[if_neg AB,if_neg AB,if_neg AB,if_neg AB];have d:F.c≠0:=fun e=>by rw[if_pos e]at b;cases b
   rw[if_neg d]at b;have J:F.c≠2:=fun e=>by rw[if_pos e]at b;cases b
   refine⟨?_,?_,by rw[h.low.c AB]⟩
   ·rcases h.aM.hc with e|e;exact absurd e d;exact e
   ·rcases h.aN.hc with e|e;exact absurd e d;exact e
  ·rw[if_neg q]at b
   rw[if_pos AB,if_pos AB,if_pos AB,if_pos AB];have d:F.z≠0:=fun e=>by rw[if_pos e]at b;cases b
   rw[if_neg d]at b;have J:F.z≠2:=fun e=>by rw[if_pos e]at b;cases b
   refine⟨?_,?_,by rw[h.low.z AB]⟩
   ·rcases h.aM.hz with e|e;exact absurd e d;exact e
   ·rcases h.aN.hz with e|e;exact absurd e d;exact e
 obtain⟨s,u,B⟩:=m;obtain⟨x,j,K⟩:=vZ (M:=M) C p r;obtain⟨y,k,L⟩:=vZ (M:=N) C p r;have D:Ig c M=M.see 2 (if TV c M then 0 else 1):=by unfold Ig;rw[if_pos s]
 have E:Ig c N=N.see 2 (if TV c N then 0 else 1):=by unfold Ig;rw[if_pos u]
 rw[D,K s]at j;rw[E,L u,<-B]at k;have l:Tw G F (M.see 2 (if TV c M then 0 else 1)) (N.see 2 (if TV c M then 0 else 1)):=⟨by rw[<-D];exact(kK h.okM c).1,by rw[B,<-E];exact(kK h.okN c).1,h.stM,h.stN,h.aM.see _ _,h.aN.see _ _,h.low.see 2 rfl⟩
 cases hd:TV c M with
 |true=>rw[hd]at j k l;exact⟨a+1,_,_,Or.inl rfl,j,k,l⟩
 |false=>rw[hd]at j k l;exact⟨t,_,_,Or.inr rfl,j,k,l⟩
theorem CW.look(u:P[a]?=some (BP (CZ c) (t:Int)))(m:1<=c)(n:c<=4)(r:Ri G F)(s:He F c=0)(h:CW P G (a+1) b F B)(k:CW P G t b F B):CW P G a b F B:=by
 obtain⟨J,z,A⟩:=h;obtain⟨K,C,D⟩:=k;refine⟨fun x M N=>(x=a/\Tw G F M N)∨J x M N∨K x M N,fun M N h=>Or.inl ⟨rfl,h⟩,fun x M N h=>?_⟩;rcases h with⟨rfl,h⟩|h|h
 ·obtain⟨y,j,l,e,o,p,d⟩:=OT u m n r s h
  refine⟨⟨F,h⟩,Or.inr ⟨y,j,l,o,p,Or.inr ?_⟩⟩;rcases e with rfl|rfl
  ·exact Or.inl (z _ _ d)
  ·exact Or.inr (C _ _ d)
 ·obtain⟨e,h|h⟩:=A x M N h
  ·exact⟨e,Or.inl h⟩
  ·exact⟨e,Or.inr (h.mono fun _ _ _ q=>Or.inr (Or.inl q))⟩
 ·obtain⟨e,h|h⟩:=D x M N h
  ·exact⟨e,Or.inl h⟩
  ·exact⟨e,Or.inr (h.mono fun _ _ _ q=>Or.inr (Or.inr q))⟩
theorem CW.loop(s:P[a]?=some (BP (CZ c) (t:Int)))(l:1<=c)(m:c<=4)(p:Ri G F)(r:He F c=0)(h:CW P G (a+1) a F F):CW P G a t F F:=by
 obtain⟨J,u,z⟩:=h;have b:∀M N,Tw G F M N->(∃F,Tw G F M N)/\((a=t/\Tw G F M N)∨Rv P (fun x M N=>(x=a/\Tw G F M N)∨J x M N∨(x=t/\Tw G F M N)) a M N):=fun M N h=>by
  obtain⟨y,j,k,e,n,o,d⟩:=OT s l m p r h;refine⟨⟨F,h⟩,Or.inr ⟨y,j,k,n,o,Or.inr ?_⟩⟩;rcases e with rfl|rfl
  ·exact Or.inl (u _ _ d)
  ·exact Or.inr ⟨rfl,d⟩
 refine⟨fun x M N=>(x=a/\Tw G F M N)∨J x M N∨(x=t/\Tw G F M N),fun M N h=>Or.inl ⟨rfl,h⟩,fun x M N h=>?_⟩;rcases h with⟨rfl,h⟩|h|h
 ·exact b M N h
 ·obtain⟨e,⟨rfl,h⟩|h⟩:=z x M N h
  ·exact b M N h
  ·exact⟨e,Or.inr (h.mono fun _ _ _ q=>Or.inr (Or.inl q))⟩
 ·exact⟨⟨F,h.2⟩,Or.inl h⟩
theorem kW:∀(m i d:Nat)(c:Int),d-i<=m->(DU L 0 0 321 i d c).1=0->∀F q B Z,JD G F->ET G (seg L i d) (i:Int) F q=.ok B Z->∀a,Loc P a (CF L a i d)->CW P G a (a+(CF L a i d).length) F B:=by
 intro m;induction m with
 |zero=>
  intro i d c hm _ F q B Z _ e a _;rw[J7 AB,Fx]at e;obtain⟨z,A⟩:=CR.okI e;subst z A;rw[IJ AB];exact CW.nil
 |succ m S=>
  intro i d c hm hc F q B Z hF e a l;by_cases h:i<d
  rotate_left
  ·rw[J7 h,Fx]at e
   obtain⟨z,A⟩:=CR.okI e;subst z A;rw[IJ h];exact CW.nil
  obtain⟨o,R,c1,c2,c3⟩:=FX hc h;obtain⟨p1,p2⟩:=Mk o;rw[WC G L h o R]at e;cases hst:Iw G L i F q with
  |inl x=>obtain⟨x1,x2⟩:=x;rw[hst]at e;cases e
  |inr x=>
  obtain⟨C,q1⟩:=x;rw[hst]at e;dsimp only at e;have n:JD G C->∀a,Loc P a (CF L a (FV L i) d)->CW P G a (a+(CF L a (FV L i) d).length) C B:=fun I=>S (FV L i) d c (by unfold FV;omega) c3 C q1 B Z I e
  unfold Iw at hst;rcases WM o with k|k|k
  ·rw[if_pos k]at hst
   by_cases K:GU G (L i) F≠0
   ·rw[if_pos K]at hst;cases hst
   rw[if_neg K]at hst;obtain⟨z,A⟩:=CR.okI hst;subst z A;have j:GU G (L i) F=0:=AB;rw[Rk h R k]at l⊢;have r:=n (hF.tr j) (a+1) l.tail;rw[show a+1+(CF L (a+1) (FV L i) d).length=a+(IX (L i)::CF L (a+1) (i+1+(L i).thn.toNat+(L i).els.toNat) d).length by simp[FV];omega]at r;exact(CW.ins l.head j).seq r
  ·obtain⟨s,u⟩:=lF o (Or.inl k)
   rw[if_neg AB]at hst;unfold cmpL at hst;rw[if_neg AB]at hst;by_cases K:He F (L i).cond≠0
   ·rw[if_pos K]at hst;cases hst
   rw[if_neg K]at hst;have j:He F (L i).cond=0:=AB;rw[show(i:Int)+1=((i+1:Nat):Int)by omega]at hst;cases hx:ET G (seg L (i+1) (i+1+(L i).thn.toNat)) ((i+1:Nat):Int) F q with
   |inl x=>obtain⟨x1,x2⟩:=x;rw[hx]at hst;cases hst
   |inr x=>
   obtain⟨X,Q⟩:=x;rw[hx]at hst;dsimp only at hst;rw[show((i+1:Nat):Int)+(L i).thn=((i+1+(L i).thn.toNat:Nat):Int)by omega]at hst;cases hy:ET G (seg L (i+1+(L i).thn.toNat) (FV L i)) ((i+1+(L i).thn.toNat:Nat):Int) F Q with
   |inl x=>obtain⟨x1,x2⟩:=x;rw[hy]at hst;cases hst
   |inr x=>
   obtain⟨Y,q3⟩:=x;rw[hy]at hst;dsimp only at hst;obtain⟨z,A⟩:=CR.okI hst;subst z A;have gX:=(Jv G _ _ _ BQ F q X Q hF hx).1;have gY:=(Jv G _ _ _ BQ F Q Y q3 hF hy).1;obtain⟨x,E⟩:=Au (CF L (a+1) (i+1) (i+1+(L i).thn.toNat));obtain⟨y,ey⟩:=Au (CF L (a+2+x.length) (i+1+(L i).thn.toNat) (i+1+(L i).thn.toNat+(L i).els.toNat));rw[OG h R k E ey]at l⊢;have l1:=l.tail.left;have J:=l.tail.right (b:=a+1+x.length) rfl;have l3:=J.tail.left;have U:=J.tail.right (b:=a+2+x.length+y.length) AB;rw[show a+1+x.length+1=a+2+x.length by omega]at l3;have O:=S (i+1) (i+1+(L i).thn.toNat) (c+1) AB c1 F q X Q hF hx (a+1) (by rw[E];exact l1);have iy:=S (i+1+(L i).thn.toNat) (FV L i) (c+1) (by unfold FV;omega) c2 F Q Y q3 hF hy (a+2+x.length) (by rw[show FV L i=i+1+(L i).thn.toNat+(L i).els.toNat from rfl,ey];exact l3);rw[E]at O;rw[show FV L i=i+1+(L i).thn.toNat+(L i).els.toNat from rfl,ey]at iy;have r:=n (gX.join gY) _ U;rw[show a+2+x.length+y.length+(CF L (a+2+x.length+y.length) (FV L i) d).length=a+(BP (CZ (L i).cond) ((a+2+x.length:Nat):Int)::(x++BP 29 ((a+2+x.length+y.length:Nat):Int)::(y++CF L (a+2+x.length+y.length) (i+1+(L i).thn.toNat+(L i).els.toNat) d))).length by simp[FV];omega]at r;exact(CW.look l.head s u hF.1 j ((O.seq (CW.jmp J.head)).weak (fun M N p=>Tw.jn gX.1 gY.1 (Or.inl p))) (iy.weak (fun M N p=>Tw.jn gX.1 gY.1 (Or.inr p)))).seq r
  ·obtain⟨s,u⟩:=lF o (Or.inr k)
   rw[if_neg AB]at hst;unfold cmpL at hst;rw[if_pos k,show(i:Int)+1=((i+1:Nat):Int)by omega]at hst;obtain⟨I,j,⟨D,qa,qb,hD,gD,eD⟩,aa⟩:=Ym (body:=fun B q=>ET G (seg L (i+1) (i+1+(L i).thn.toNat)) ((i+1:Nat):Int) B q) (Jv G _ _ _ BQ) _ _ _ _ _ _ _ hF hst;obtain⟨x,E⟩:=Au (CF L (a+1) (i+1) (i+1+(L i).thn.toNat));rw[PX h R k E]at l⊢;have l1:=l.tail.left;have J:=l.tail.right (b:=a+1+x.length) rfl;have U:=J.tail;rw[show a+1+x.length+1=a+2+x.length by omega]at U;have O:=S (i+1) (i+1+(L i).thn.toNat) (c+1) AB c1 C qa D qb I hD (a+1) (by rw[E];exact l1);rw[E]at O;have r:=n I _ U;rw[show a+2+x.length+(CF L (a+2+x.length) (FV L i) d).length=a+(BP (CZ (L i).cond) ((a+2+x.length:Nat):Int)::(x++BP 29 (a:Int)::CF L (a+2+x.length) (i+1+(L i).thn.toNat+(L i).els.toNat) d)).length by simp[FV];omega]at r;exact((CW.loop l.head s u I.1 j ((O.seq (CW.jmp J.head)).weak (fun M N p=>by have:=Tw.jn I.1 gD.1 (Or.inr p);rw[eD]at this;exact this))).seq r).pre aa
theorem fD{J:Nat->MV->MV->Prop}(p:P[b]?=some (BP 34 0))(j:∀x M N,J x M N->(∃F,Tw G F M N)/\((x=b/\Tw G B M N)∨Rv P J x M N)):∀(k x:Nat)(M N:MV),J x M N->∃(y:Nat)(a d:MV)(F:FS),Dw P k (M.at x)=a.at y/\Dw P k (N.at x)=d.at y/\a.st=d.st/\a.st≠2/\Low G.nH G.S F.V F.z F.c a d:=by
 intro k;induction k with
 |zero=>
  intro x M N h;obtain⟨⟨F,t⟩,_⟩:=j x M N h;exact⟨x,M,N,F,rfl,rfl,by rw[t.stM,t.stN],by rw[t.stM];decide,t.low⟩
 |succ k q=>
  intro x M N h;obtain⟨⟨F,t⟩,o⟩:=j x M N h;rw[I5 (by rw[Qi];exact t.stM),I5 (by rw[Qi];exact t.stN)];rcases o with⟨rfl,r⟩|⟨y,a,d,l,m,n⟩
  ·have e:∀M:MV,uH P (M.at x)=({M with st:=1}:MV).at x:=fun M=>by rw[Sr p];rfl
   rw[e,e,show Dw P k (({M with st:=1}:MV).at x)=({M with st:=1}:MV).at x from EJ _ _ _ (by show(1:Int)≠0;decide),show Dw P k (({N with st:=1}:MV).at x)=({N with st:=1}:MV).at x from EJ _ _ _ (by show(1:Int)≠0;decide)];exact⟨x,_,_,F,rfl,rfl,rfl,by show(1:Int)≠2;decide,⟨t.low.rg,t.low.z,t.low.c,t.low.bs,t.low.dt,t.low.nO,t.low.ob⟩⟩
  ·rw[l,m]
   exact q y a d n
end
theorem Rm{G:SG}{L:Nat->SV}{F B:FS}{M N:MV}{n:Nat}{q h:Int}(m:Hq L n)(hF:JD G F)(e:ET G (seg L 0 n) 0 F q=.ok B h)(t:Tw G F M N)(k:Nat):∃(y:Nat)(a d:MV)(F:FS),Dw (Bb L n) k (M.at 0)=a.at y/\Dw (Bb L n) k (N.at 0)=d.at y/\a.st=d.st/\a.st≠2/\Low G.nH G.S F.V F.z F.c a d:=by
 obtain⟨l,s⟩:=Ni m;obtain⟨J,p,r⟩:=kW (P:=Bb L n) n 0 n 0 AB m.2.1 F q B h hF e 0 (fun j o=>by rw[l,Nat.zero_add,List.getElem?_append_left o]);exact fD (b:=0+(CF L 0 0 n).length) (by rw[l,Nat.zero_add,List.getElem?_append_right BQ,Nat.sub_self];rfl) r k 0 M N (p M N t)
end Go.Proofs.YtcjnmdgomocpgaaGreatDoor
