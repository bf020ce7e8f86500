import Derived.Test.YtjoppncopoampaaGreatDoorOfCoreReg
import Derived.Test.YtjoppncopoampaaGreatDoorOfFtFit
import Derived.Test.YtjoppncopoampaaGreatDoorOfFtGv
import Derived.Test.YtjoppncopoampaaGreatDoorOfSpecDo
set_option maxHeartbeats 8000000
set_option maxRecDepth 20000
namespace Go.Proofs.YtjoppncopoampaaGreatDoor
open Go.RowKit
variable {Z:Int}{i:Nat}
structure Ls(nH:Nat)(S:Nat->HS)(V:Nat->VV)(z c:Int)(M:MV):Prop where
 nh:M.nH=nH
 sz:∀i,i<nH->((M.Hp i).len:Int)=(S i).size/\(M.Hp i).wr=(S i).w
 rg:∀i,i<8->CG (fun k=>(M.Hp k).base) (V i) (M.R i)
 hz:z=0∨M.hz=true
 hc:c=0∨M.hc=true
section
variable{nH:Nat}{S:Nat->HS}{V:Nat->VV}{z c z' c':Int}{M:MV}
theorem Ls.set(p:Ls nH S V z c M){d:Nat}{r:VV}{v:Int}(h:CG (fun k=>(M.Hp k).base) r v):Ls nH S (Df V d r) z c (M.setR d v):=by
 refine⟨p.nh,p.sz,fun i a=>?_,p.hz,p.hc⟩;show CG (fun k=>(M.Hp k).base) (if i=d then r else V i) (if i=d then v else M.R i);by_cases e:i=d
 ·rw[if_pos e,if_pos e];exact h
 ·rw[if_neg e,if_neg e];exact p.rg i a
theorem Ls.see(p:Ls nH S V z c M)(k v:Int):Ls nH S V z c (M.see k v):=⟨p.nh,p.sz,p.rg,p.hz,p.hc⟩
theorem Ls.flags(p:Ls nH S V z c M)(r:Int)(a:Bool):Ls nH S V z' c' (M.flags r a):=⟨p.nh,p.sz,p.rg,Or.inr rfl,Or.inr rfl⟩
theorem Mj(M:MV)(h j:Nat)(u:Int)(i:Nat):((M.poke h j u).Hp i).base=(M.Hp i).base/\((M.poke h j u).Hp i).len=(M.Hp i).len/\((M.poke h j u).Hp i).wr=(M.Hp i).wr:=by
 unfold MV.poke;dsimp only;split<;>exact⟨rfl,rfl,rfl⟩
theorem Ls.poke(p:Ls nH S V z c M)(h j:Nat)(u:Int):Ls nH S V z c (M.poke h j u):=by
 refine⟨p.nh,fun i a=>?_,fun i a=>?_,p.hz,p.hc⟩
 ·rw[(Mj M h j u i).2.1,(Mj M h j u i).2.2];exact p.sz i a
 ·rw[show(fun k=>((M.poke h j u).Hp k).base)=fun k=>(M.Hp k).base from funext fun k=>(Mj M h j u k).1];exact p.rg i a
theorem Ls.pokeN(p:Ls nH S V z c M)(h o:Nat)(v:Int):∀k,Ls nH S V z c (M.pokeN h o v k)/\(M.pokeN h o v k).st=M.st
 |0=>⟨p,rfl⟩
 |k+1=>⟨(Ls.pokeN p h o v k).1.poke _ _ _,(Ls.pokeN p h o v k).2⟩
end
theorem qC{B d t u A:Int}{X wd:Nat}(a:0<=B)(b:B+X<=18446744073709551615)(h:A=((B+d)%18446744073709551616+u)%18446744073709551616)(j:u=t%18446744073709551616)(c:0<=d+t)(e:d+t+wd<=X):A-B=d+t/\lies B A wd X=true:=by
 have:A=B+(d+t):=AB;refine⟨AB,?_⟩;unfold lies;rw[decide_eq_true AB,decide_eq_true AB,decide_eq_true AB];rfl
theorem Dv{c h:Int}{a b x:VV}{g:HS}(e:DK Z c h a b x g=0):a.k=1/\a.h=h/\0<=AZ b/\0<=a.lo+c/\a.hi+c+b.m+Vu Z<=g.size/\(oN Z=true->g.w=true):=by
 unfold DK at e;by_cases j:a.k≠1
 ·rw[if_pos j]at e;omega
 rw[if_neg j]at e;by_cases l:a.h≠h
 ·rw[if_pos l]at e;omega
 rw[if_neg l]at e;by_cases d:b.s=true∨AZ b<0
 ·rw[if_pos d]at e;omega
 rw[if_neg d]at e;by_cases n:a.lo+c<0∨g.size<a.hi+c+b.m+Vu Z
 ·rw[if_pos n]at e;omega
 rw[if_neg n]at e;refine⟨AB,AB,?_,AB,AB,fun o=>?_⟩
 ·by_cases q:0<=AZ b
  ·exact q
  ·exact absurd (Or.inr AB) d
 ·rw[if_neg (by rw[o];decide)]at e
  cases hw:g.w with
  |true=>rfl
  |false=>rw[if_pos hw]at e;omega
theorem rF{K r:Int}{N:Bool}(e:FL Z K N r=0):K≠0/\(21<=Z->Z<=28->r=0):=by
 unfold FL at e;by_cases c:K=0
 ·rw[if_pos c]at e;omega
 rw[if_neg c]at e;by_cases d:Z=9/\N=true
 ·rw[if_pos d]at e;omega
 rw[if_neg d]at e;refine⟨c,fun a b=>?_⟩;rw[if_pos ⟨a,b⟩]at e;exact e
section
variable{nH nR:Nat}{S:Nat->HS}{V V0:Nat->VV}{z c imm:Int}{M:MV}{di ia ib q:Nat}
theorem EQ(h:Ap Z 2=true):Gl V Z i=V i:=by unfold Gl;rw[if_pos h]
theorem Gm(h:Ap Z 4=true):Gb V Z i=V i:=by unfold Gb;rw[if_pos h]
theorem Xp(h:Ap Z 4=false):Gb V Z i=zV:=by unfold Gb;rw[if_neg (by rw[h];decide)]
theorem Er(h:Ik Z=true):Pj S V z c Z (di:Int) (ia:Int) (ib:Int) imm (q:Int)=Df V di (kS Z imm (Gl V Z ia) (Gb V Z ib) (Gi V Z z c ia ib) (Jw Z z c) (S q)):=by unfold Pj;rw[if_pos h];rfl
theorem Qf(h:Ik Z=false):Pj S V z c Z (di:Int) (ia:Int) (ib:Int) imm (q:Int)=V:=by unfold Pj;rw[if_neg (by rw[h];decide)]
theorem CK{x:Int}(h:Fj Z=false):Mc V z c Z (ia:Int) (ib:Int) x=x:=by unfold Mc;rw[if_neg (by rw[h];decide)]
theorem Jt{t u y:Int}{b:VV}{wd:Nat}(I:M.Ok)(p:Ls nH S V z c M)(x:ia<8)(B:q<nH)(e:DK Z imm (q:Int) (V ia) b (V di) (S q)=0)(E:Vu Z=(wd:Int))(X:t=imm+y)(y0:0<=y)(y1:y<=b.m)(D:u=t%18446744073709551616)(A:Int)(l:A=(M.R ia+u)%18446744073709551616):
 ¬M.nH<=q/\lies (M.Hp q).base A wd (M.Hp q).len=true/\0<=A-(M.Hp q).base/\A-(M.Hp q).base+wd<=(M.Hp q).len/\(oN Z=true->(M.Hp q).wr=true):=by
 obtain⟨k,r,_,l0,F,C⟩:=Dv e;have U:=p.nh;obtain⟨s1,J⟩:=p.sz q B;obtain⟨n,K,L,o⟩:=I.heap q AB;rcases p.rg ia x with⟨Y,_⟩|⟨_,d,N,O,j⟩
 ·omega
 rw[r]at j;have a:M.R ia=((M.Hp q).base+d)%18446744073709551616:=j;rw[a]at l;rw[E]at F;obtain⟨Q,s⟩:=qC (t:=t) (wd:=wd) n o l D AB AB;exact⟨AB,s,AB,AB,fun h=>J.trans (C h)⟩
theorem WT(L:BK nH S nR V0 8 V z c=true)(x:BF Z (di:Int) (ia:Int) (ib:Int) imm (q:Int)=true)(O:Z<=28)(j:ia<8)(K:ib<8)(A:M.Ok)(p:Ls nH S V z c M)(X:TN nH S nR V0 8 V z c Z (di:Int) (ia:Int) (ib:Int) imm (q:Int)=0)(F:Int):
 ∃Y,exec Z.toNat di ia ib q imm M F=.done Y F/\Y.st=M.st/\Ls nH S (Pj S V z c Z (di:Int) (ia:Int) (ib:Int) imm (q:Int)) (Mc V z c Z (ia:Int) (ib:Int) z) (Mc V z c Z (ia:Int) (ib:Int) c) Y:=by
 have hr:FL Z (Jw Z z c) (Gi V Z z c ia ib) (DK Z imm (q:Int) (Gl V Z ia) (Gb V Z ib) (V di) (S q))=0:=by
  unfold TN at X;rw[if_pos ⟨L,x,O⟩]at X;exact X
 obtain⟨E,a⟩:=rF hr;clear hr X;obtain⟨o1,_,_,_,_,_,_,_,_,n0,n1,n2⟩:=Gx x O;obtain⟨_,_,G⟩:=FR L;have kA:=(Ec (G ia j)).k;have kB:=(Ec (G ib K)).k;have b:(V ia).k=1->(V ia).h=(q:Int)->q<nH:=fun k e=>by have:=Iu (G ia j) k;omega
 have l:=p.rg ia j;have gb:=p.rg ib K;obtain⟨B,U⟩:=A.reg ia j;obtain⟨C,y1⟩:=A.reg ib K;clear G L;rcases UJ o1 O with rfl|rfl|rfl|rfl|rfl|rfl|rfl|rfl|rfl|rfl|rfl|rfl|rfl|rfl|rfl|rfl|rfl|rfl|rfl|rfl|rfl|rfl|rfl|rfl|rfl|rfl|rfl|rfl
 ·clear b a
  rw[Er (show Ik 1=true by kernel_rfl),CK (show Fj 1=false by kernel_rfl),CK (show Fj 1=false by kernel_rfl),EQ (show Ap 1 2=true by kernel_rfl)];refine⟨_,rfl,rfl,?_⟩;refine p.set ?_;exact l
 ·clear b a
  rw[Er (show Ik 2=true by kernel_rfl),CK (show Fj 2=false by kernel_rfl),CK (show Fj 2=false by kernel_rfl)];refine⟨_,rfl,rfl,?_⟩;refine p.set ?_;exact Yz
 ·clear b a
  rw[Er (show Ik 3=true by kernel_rfl),CK (show Fj 3=false by kernel_rfl),CK (show Fj 3=false by kernel_rfl),EQ (show Ap 3 2=true by kernel_rfl),Gm (show Ap 3 4=true by kernel_rfl)];refine⟨_,rfl,rfl,?_⟩;refine p.set ?_;exact Ty l gb B C
 ·clear b a
  rw[Er (show Ik 4=true by kernel_rfl),CK (show Fj 4=false by kernel_rfl),CK (show Fj 4=false by kernel_rfl),EQ (show Ap 4 2=true by kernel_rfl),Gm (show Ap 4 4=true by kernel_rfl)];refine⟨_,rfl,rfl,?_⟩;refine p.set ?_;exact Bj AB
 ·clear b a
  rw[Er (show Ik 5=true by kernel_rfl),CK (show Fj 5=false by kernel_rfl),CK (show Fj 5=false by kernel_rfl),EQ (show Ap 5 2=true by kernel_rfl),Gm (show Ap 5 4=true by kernel_rfl)];refine⟨_,rfl,rfl,?_⟩;refine p.set ?_;exact gZ l gb B C
 ·clear b a
  rw[Er (show Ik 6=true by kernel_rfl),CK (show Fj 6=false by kernel_rfl),CK (show Fj 6=false by kernel_rfl),EQ (show Ap 6 2=true by kernel_rfl),Gm (show Ap 6 4=true by kernel_rfl)];refine⟨_,rfl,rfl,?_⟩;refine p.set ?_;exact jT l gb B C U y1
 ·clear b a
  rw[Er (show Ik 7=true by kernel_rfl),CK (show Fj 7=false by kernel_rfl),CK (show Fj 7=false by kernel_rfl),EQ (show Ap 7 2=true by kernel_rfl),Gm (show Ap 7 4=true by kernel_rfl)];refine⟨_,rfl,rfl,?_⟩;refine p.set ?_;exact Qm .or (Or.inl rfl) l gb B C U y1
 ·clear b a
  rw[Er (show Ik 8=true by kernel_rfl),CK (show Fj 8=false by kernel_rfl),CK (show Fj 8=false by kernel_rfl),EQ (show Ap 8 2=true by kernel_rfl),Gm (show Ap 8 4=true by kernel_rfl)];refine⟨_,rfl,rfl,?_⟩;refine p.set ?_;exact Qm .xor (Or.inr rfl) l gb B C U y1
 ·clear b a
  rw[Er (show Ik 9=true by kernel_rfl),CK (show Fj 9=false by kernel_rfl),CK (show Fj 9=false by kernel_rfl),EQ (show Ap 9 2=true by kernel_rfl),Gm (show Ap 9 4=true by kernel_rfl)];refine⟨_,rfl,rfl,?_⟩;refine(p.see _ _).set ?_;exact jH l B C
 ·clear b a
  rw[Er (show Ik 10=true by kernel_rfl),CK (show Fj 10=false by kernel_rfl),CK (show Fj 10=false by kernel_rfl),EQ (show Ap 10 2=true by kernel_rfl)];refine⟨_,rfl,rfl,?_⟩;refine p.set ?_;exact Yf l B
 ·clear b a
  rw[Er (show Ik 11=true by kernel_rfl),CK (show Fj 11=false by kernel_rfl),CK (show Fj 11=false by kernel_rfl),EQ (show Ap 11 2=true by kernel_rfl)];refine⟨_,rfl,rfl,?_⟩;refine p.set ?_;exact ZK l B U n1
 ·clear b a
  rw[Er (show Ik 12=true by kernel_rfl),CK (show Fj 12=false by kernel_rfl),CK (show Fj 12=false by kernel_rfl),EQ (show Ap 12 2=true by kernel_rfl)];obtain⟨i0,i1⟩:=n2 Ad;obtain⟨n,rfl⟩:∃n:Nat,imm=(n:Int):=⟨imm.toNat,AB⟩
  refine⟨_,rfl,rfl,?_⟩;refine p.set ?_;rw[show IntKind.u64.wrap (n:Int)=(n:Int)from by rw[IntKind.wrap_u64];omega];exact iQ l B rfl
 ·clear b a
  rw[Er (show Ik 13=true by kernel_rfl),CK (show Fj 13=false by kernel_rfl),CK (show Fj 13=false by kernel_rfl),EQ (show Ap 13 2=true by kernel_rfl)];obtain⟨i0,i1⟩:=n2 Ad;obtain⟨n,rfl⟩:∃n:Nat,imm=(n:Int):=⟨imm.toNat,AB⟩
  refine⟨_,rfl,rfl,?_⟩;refine p.set ?_;rw[show IntKind.u64.wrap (n:Int)=(n:Int)from by rw[IntKind.wrap_u64];omega];exact jG l B U rfl AB
 ·clear b a
  rw[Er (show Ik 14=true by kernel_rfl),EQ (show Ap 14 2=true by kernel_rfl),Gm (show Ap 14 4=true by kernel_rfl)];refine⟨_,rfl,rfl,?_⟩;refine(p.set ?_).flags _ _;show CG _ (Mg (V ia) (V ib)) ((M.R ia+M.R ib+0)%18446744073709551616);rw[Int.add_zero];exact Ty l gb B C
 ·clear b a
  rw[Er (show Ik 15=true by kernel_rfl),EQ (show Ap 15 2=true by kernel_rfl),Gm (show Ap 15 4=true by kernel_rfl)];have Q:M.hc=true:=by rcases p.hc with h|h;exact absurd h E;exact h
  refine⟨?m15,?e15,?s15,?a15⟩
  case e15=>exact if_pos Q
  case s15=>rfl
  refine(p.set ?_).flags _ _;exact Zp l gb B C (by split<;>omega) (by split<;>omega)
 ·clear b a
  rw[Er (show Ik 16=true by kernel_rfl),EQ (show Ap 16 2=true by kernel_rfl),Gm (show Ap 16 4=true by kernel_rfl)];refine⟨_,rfl,rfl,?_⟩;refine(p.flags _ _).set ?_;exact Bj AB
 ·clear b a
  rw[Qf (show Ik 17=false by kernel_rfl)];exact⟨_,rfl,rfl,p.flags _ _⟩
 ·clear b a
  rw[Qf (show Ik 18=false by kernel_rfl)];exact⟨_,rfl,rfl,p.flags _ _⟩
 ·clear b a
  rw[Er (show Ik 19=true by kernel_rfl),CK (show Fj 19=false by kernel_rfl),CK (show Fj 19=false by kernel_rfl),EQ (show Ap 19 2=true by kernel_rfl),Gm (show Ap 19 4=true by kernel_rfl)];have Q:M.hz=true:=by rcases p.hz with h|h;exact absurd h E;exact h
  refine⟨?m19,?e19,?s19,?a19⟩
  case e19=>exact if_pos Q
  case s19=>rfl
  refine p.set ?_;refine QY kA kB ?_;split
  ·exact Or.inl l
  ·exact Or.inr gb
 ·clear b a
  rw[Er (show Ik 20=true by kernel_rfl),CK (show Fj 20=false by kernel_rfl),CK (show Fj 20=false by kernel_rfl),EQ (show Ap 20 2=true by kernel_rfl),Gm (show Ap 20 4=true by kernel_rfl)];have Q:M.hc=true:=by rcases p.hc with h|h;exact absurd h E;exact h
  refine⟨?m20,?e20,?s20,?a20⟩
  case e20=>exact if_pos Q
  case s20=>rfl
  refine p.set ?_;refine QY kA kB ?_;split
  ·exact Or.inl l
  ·exact Or.inr gb
 ·clear E
  rw[Er (show Ik 21=true by kernel_rfl),CK (show Fj 21=false by kernel_rfl),CK (show Fj 21=false by kernel_rfl)];have d:=a Ad Ad;rw[EQ (show Ap 21 2=true by kernel_rfl),Xp (show Ap 21 4=false by kernel_rfl)]at d;have s:=b (Dv d).1 (Dv d).2.1;obtain⟨m,o,I,J,D⟩:=Jt (t:=imm) (u:=imm%18446744073709551616) (y:=0) (wd:=1) A p j s d Ad AB AB Ad rfl (FK M ia imm) (by unfold FK;rw[IntKind.wrap_u64,IntKind.wrap_u64]);refine⟨(M.see 1 (FK M ia imm)).setR di (Hu (M.Hp q).dat ((FK M ia imm)-(M.Hp q).base).toNat 1),?_,?_,?_⟩
  ·show Cm false 1 (FK M ia imm) di q M F=_
   unfold Cm;rw[if_neg m,show(lies (M.Hp q).base (FK M ia imm) ((1:Nat):Int) (M.Hp q).len&&(!false||(M.Hp q).wr))=true from by rw[o];rfl,if_pos rfl,if_neg Ad]
  ·rfl
  ·refine(p.see 1 _).set ?_
   have hd:=A.dat q AB ((FK M ia imm)-(M.Hp q).base).toNat AB;refine Bj (Or.inr (Or.inr ?_));show 0+(M.Hp q).dat (((FK M ia imm)-(M.Hp q).base).toNat+0)*2^(8*0)<=255;simp only[Nat.add_zero,Nat.mul_zero,Int.pow_zero,Int.mul_one,Int.zero_add];exact hd.2
 ·clear E
  rw[Er (show Ik 22=true by kernel_rfl),CK (show Fj 22=false by kernel_rfl),CK (show Fj 22=false by kernel_rfl)];have d:=a Ad Ad;rw[EQ (show Ap 22 2=true by kernel_rfl),Xp (show Ap 22 4=false by kernel_rfl)]at d;have s:=b (Dv d).1 (Dv d).2.1;obtain⟨m,o,I,J,D⟩:=Jt (t:=imm) (u:=imm%18446744073709551616) (y:=0) (wd:=8) A p j s d Ad AB AB Ad rfl (FK M ia imm) (by unfold FK;rw[IntKind.wrap_u64,IntKind.wrap_u64]);refine⟨(M.see 1 (FK M ia imm)).setR di (Hu (M.Hp q).dat ((FK M ia imm)-(M.Hp q).base).toNat 8),?_,?_,?_⟩
  ·show Cm false 8 (FK M ia imm) di q M F=_
   unfold Cm;rw[if_neg m,show(lies (M.Hp q).base (FK M ia imm) ((8:Nat):Int) (M.Hp q).len&&(!false||(M.Hp q).wr))=true from by rw[o];rfl,if_pos rfl,if_neg Ad]
  ·rfl
  ·refine(p.see 1 _).set ?_
   exact Bj AB
 ·clear E
  rw[Qf (show Ik 23=false by kernel_rfl),CK (show Fj 23=false by kernel_rfl),CK (show Fj 23=false by kernel_rfl)];have d:=a Ad Ad;rw[EQ (show Ap 23 2=true by kernel_rfl),Xp (show Ap 23 4=false by kernel_rfl)]at d;have s:=b (Dv d).1 (Dv d).2.1;obtain⟨m,o,I,J,D⟩:=Jt (t:=imm) (u:=imm%18446744073709551616) (y:=0) (wd:=1) A p j s d Ad AB AB Ad rfl (FK M ia imm) (by unfold FK;rw[IntKind.wrap_u64,IntKind.wrap_u64]);refine⟨(M.see 1 (FK M ia imm)).pokeN q ((FK M ia imm)-(M.Hp q).base).toNat (M.R di) 1,?_,?_,?_⟩
  ·show Cm true 1 (FK M ia imm) di q M F=_
   unfold Cm;rw[if_neg m,show(lies (M.Hp q).base (FK M ia imm) ((1:Nat):Int) (M.Hp q).len&&(!true||(M.Hp q).wr))=true from by rw[o,D Ad];rfl,if_pos rfl,if_pos rfl]
  ·exact((p.see 1 _).pokeN q _ _ 1).2
  ·exact((p.see 1 _).pokeN q _ _ 1).1
 ·clear E
  rw[Qf (show Ik 24=false by kernel_rfl),CK (show Fj 24=false by kernel_rfl),CK (show Fj 24=false by kernel_rfl)];have d:=a Ad Ad;rw[EQ (show Ap 24 2=true by kernel_rfl),Xp (show Ap 24 4=false by kernel_rfl)]at d;have s:=b (Dv d).1 (Dv d).2.1;obtain⟨m,o,I,J,D⟩:=Jt (t:=imm) (u:=imm%18446744073709551616) (y:=0) (wd:=8) A p j s d Ad AB AB Ad rfl (FK M ia imm) (by unfold FK;rw[IntKind.wrap_u64,IntKind.wrap_u64]);refine⟨(M.see 1 (FK M ia imm)).pokeN q ((FK M ia imm)-(M.Hp q).base).toNat (M.R di) 8,?_,?_,?_⟩
  ·show Cm true 8 (FK M ia imm) di q M F=_
   unfold Cm;rw[if_neg m,show(lies (M.Hp q).base (FK M ia imm) ((8:Nat):Int) (M.Hp q).len&&(!true||(M.Hp q).wr))=true from by rw[o,D Ad];rfl,if_pos rfl,if_pos rfl]
  ·exact((p.see 1 _).pokeN q _ _ 8).2
  ·exact((p.see 1 _).pokeN q _ _ 8).1
 ·clear E
  rw[Er (show Ik 25=true by kernel_rfl),CK (show Fj 25=false by kernel_rfl),CK (show Fj 25=false by kernel_rfl)];have r:imm=0:=Jk x AV;subst r;have d:=a Ad Ad;rw[EQ (show Ap 25 2=true by kernel_rfl),Gm (show Ap 25 4=true by kernel_rfl)]at d;have s:=b (Dv d).1 (Dv d).2.1;obtain⟨_,N,_,_⟩:=Ce gb (Dv d).2.2.1;obtain⟨m,o,I,J,D⟩:=Jt (t:=M.R ib) (u:=M.R ib) (y:=M.R ib) (wd:=1) A p j s d Ad AB C N AB (FJ M ia ib) (by unfold FJ;rw[IntKind.wrap_u64]);refine⟨(M.see 1 (FJ M ia ib)).setR di (Hu (M.Hp q).dat ((FJ M ia ib)-(M.Hp q).base).toNat 1),?_,?_,?_⟩
  ·show Cm false 1 (FJ M ia ib) di q M F=_
   unfold Cm;rw[if_neg m,show(lies (M.Hp q).base (FJ M ia ib) ((1:Nat):Int) (M.Hp q).len&&(!false||(M.Hp q).wr))=true from by rw[o];rfl,if_pos rfl,if_neg Ad]
  ·rfl
  ·refine(p.see 1 _).set ?_
   have hd:=A.dat q AB ((FJ M ia ib)-(M.Hp q).base).toNat AB;refine Bj (Or.inr (Or.inr ?_));show 0+(M.Hp q).dat (((FJ M ia ib)-(M.Hp q).base).toNat+0)*2^(8*0)<=255;simp only[Nat.add_zero,Nat.mul_zero,Int.pow_zero,Int.mul_one,Int.zero_add];exact hd.2
 ·clear E
  rw[Er (show Ik 26=true by kernel_rfl),CK (show Fj 26=false by kernel_rfl),CK (show Fj 26=false by kernel_rfl)];have r:imm=0:=Jk x AV;subst r;have d:=a Ad Ad;rw[EQ (show Ap 26 2=true by kernel_rfl),Gm (show Ap 26 4=true by kernel_rfl)]at d;have s:=b (Dv d).1 (Dv d).2.1;obtain⟨_,N,_,_⟩:=Ce gb (Dv d).2.2.1;obtain⟨m,o,I,J,D⟩:=Jt (t:=M.R ib) (u:=M.R ib) (y:=M.R ib) (wd:=8) A p j s d Ad AB C N AB (FJ M ia ib) (by unfold FJ;rw[IntKind.wrap_u64]);refine⟨(M.see 1 (FJ M ia ib)).setR di (Hu (M.Hp q).dat ((FJ M ia ib)-(M.Hp q).base).toNat 8),?_,?_,?_⟩
  ·show Cm false 8 (FJ M ia ib) di q M F=_
   unfold Cm;rw[if_neg m,show(lies (M.Hp q).base (FJ M ia ib) ((8:Nat):Int) (M.Hp q).len&&(!false||(M.Hp q).wr))=true from by rw[o];rfl,if_pos rfl,if_neg Ad]
  ·rfl
  ·refine(p.see 1 _).set ?_
   exact Bj AB
 ·clear E
  rw[Qf (show Ik 27=false by kernel_rfl),CK (show Fj 27=false by kernel_rfl),CK (show Fj 27=false by kernel_rfl)];have r:imm=0:=Jk x AV;subst r;have d:=a Ad Ad;rw[EQ (show Ap 27 2=true by kernel_rfl),Gm (show Ap 27 4=true by kernel_rfl)]at d;have s:=b (Dv d).1 (Dv d).2.1;obtain⟨_,N,_,_⟩:=Ce gb (Dv d).2.2.1;obtain⟨m,o,I,J,D⟩:=Jt (t:=M.R ib) (u:=M.R ib) (y:=M.R ib) (wd:=1) A p j s d Ad AB C N AB (FJ M ia ib) (by unfold FJ;rw[IntKind.wrap_u64]);refine⟨(M.see 1 (FJ M ia ib)).pokeN q ((FJ M ia ib)-(M.Hp q).base).toNat (M.R di) 1,?_,?_,?_⟩
  ·show Cm true 1 (FJ M ia ib) di q M F=_
   unfold Cm;rw[if_neg m,show(lies (M.Hp q).base (FJ M ia ib) ((1:Nat):Int) (M.Hp q).len&&(!true||(M.Hp q).wr))=true from by rw[o,D Ad];rfl,if_pos rfl,if_pos rfl]
  ·exact((p.see 1 _).pokeN q _ _ 1).2
  ·exact((p.see 1 _).pokeN q _ _ 1).1
 ·clear E
  rw[Qf (show Ik 28=false by kernel_rfl),CK (show Fj 28=false by kernel_rfl),CK (show Fj 28=false by kernel_rfl)];have r:imm=0:=Jk x AV;subst r;have d:=a Ad Ad;rw[EQ (show Ap 28 2=true by kernel_rfl),Gm (show Ap 28 4=true by kernel_rfl)]at d;have s:=b (Dv d).1 (Dv d).2.1;obtain⟨_,N,_,_⟩:=Ce gb (Dv d).2.2.1;obtain⟨m,o,I,J,D⟩:=Jt (t:=M.R ib) (u:=M.R ib) (y:=M.R ib) (wd:=8) A p j s d Ad AB C N AB (FJ M ia ib) (by unfold FJ;rw[IntKind.wrap_u64]);refine⟨(M.see 1 (FJ M ia ib)).pokeN q ((FJ M ia ib)-(M.Hp q).base).toNat (M.R di) 8,?_,?_,?_⟩
  ·show Cm true 8 (FJ M ia ib) di q M F=_
   unfold Cm;rw[if_neg m,show(lies (M.Hp q).base (FJ M ia ib) ((8:Nat):Int) (M.Hp q).len&&(!true||(M.Hp q).wr))=true from by rw[o,D Ad];rfl,if_pos rfl,if_pos rfl]
  ·exact((p.see 1 _).pokeN q _ _ 8).2
  ·exact((p.see 1 _).pokeN q _ _ 8).1
end
end Go.Proofs.YtjoppncopoampaaGreatDoor
namespace Go.Proofs.YtjoppncopoampaaGreatDoor
open Go.RowKit Go.Deep
def ZQ(p:Pl)(M:MV):Array Value:=#[Vs p.bR 8 p.cR,.bool M.z,.bool M.c,.bool M.hz,.bool M.hc,.slice p.aH M.nH p.cH,Vi M.pc,Vi M.st,.slice p.aO M.nO p.cO]
theorem TJ(v:VV)(x:Int)(B:Nat)(p:Pl)(M:MV)(w:World)(R:GV v M.nH)(S:CG (fun k=>(M.Hp k).base) v x)(x0:0<=x)(x1:x<=18446744073709551615)(L:∀i,i<M.nH->0<=(M.Hp i).base/\(M.Hp i).base<=18446744073709551615)(O:Mem w B p M):
 Calls Tryz.prog 37 #[.agg #[Vi v.k,.bool v.s,Vi v.m,Vi v.h,Vi v.lo,Vi v.hi],.int .u64 x,.agg (ZQ p M)] w fun e w'=>e=.returned (.bool true)/\Below w.heap.size w w':=by
 have z:=hxy R;have A:=hxy S;have y:=hxy O;have I:=hxy L;clear R S O L;unfold ZQ;by_cases r:v.k=1
 rotate_left
 ·have N:v.k=0/\ -1<=v.m/\v.m<=1099511627776:=by rcases z.out with q|q;exact⟨q.1,q.2.1,q.2.2.1⟩;exact absurd q.1 r
  have n:v.m= -1∨x<=v.m:=by rcases A.out with q|q;exact q.2;exact absurd q.1 r
  have ek:(v.k==0)=true:=by simp[N.1]
  obtain⟨_,m1,m2⟩:=N;clear r;go_enter Tryz.func37,Tryz.ntmps37;by_cases C:v.m= -1
  ·have em:(v.m== -1)=true:=by simp[C]
   clear n;go_wp2;refine bodyPost_ret (v:=.bool true) (by simp[results,Tryz.results37,go_sem]) rfl ⟨rfl,?_⟩;exact(Ai).alloc AX _
  ·have em:(v.m== -1)=false:=by simp[C]
   have F:x<=v.m:=by rcases n with q|q;exact absurd q C;exact q
   have el:decide (x<=v.m)=true:=by simp[F]
   clear n;go_wp2;refine bodyPost_ret (v:=.bool true) (by simp[results,Tryz.results37,go_sem, *]) rfl ⟨rfl,?_⟩;exact(Ai).alloc AX _
 have hp:0<=v.h/\v.h<M.nH/\ -1099511627776<=v.lo/\v.lo<=v.hi/\v.hi<=1099511627776:=by rcases z.out with q|q;exact absurd q.1 AB;exact⟨q.2.2.2.1,q.2.2.2.2.1,q.2.2.2.2.2⟩
 obtain⟨U,p1,p2,p3,p4⟩:=hp;obtain⟨d,J,K,o⟩:∃d,v.lo<=d/\d<=v.hi/\x=((M.Hp v.h.toNat).base+d)%18446744073709551616:=by rcases A.out with q|q;exact absurd q.1 AB;exact q.2
 have ek:(v.k==0)=false:=by simp[r]
 clear r;obtain⟨b,a⟩:=Int.eq_ofNat_of_zero_le U;have E:b<M.nH:=AB;obtain⟨D,gc,l⟩:∃g c,Value.slice p.aH M.nH p.cH=Vs g M.nH c:=by
  obtain⟨g,c,h⟩:=Dy y.heaps AB;exact⟨g,c,h⟩
 have u:=y.heaps;rw[l]at u;have c0:w.cell? (Va D (b*3))=some (.int .u64 (M.Hp b).base):=by
  rw[u.cellAt (b*3) AB,G6 AB];unfold CO place;rw[show b*3%3=0 by omega,show b*3/3=b by omega];rfl
 have gl:D<w.heap.size:=(u.lt D rfl).2;obtain⟨bs,j⟩:=Au ((M.Hp b).base);obtain⟨Y,Z⟩:=I.out b E;rw[j]at c0 Y Z;rw[a,Int.toNat_natCast,j]at o;have Q:IntKind.i64.wrap (IntKind.u64.wrap (x-bs))=d:=by
  rw[IntKind.wrap_u64,IntKind.wrap_i64];omega
 have q1:decide (v.lo<=d)=true:=by simp[J]
 have q2:decide (d<=v.hi)=true:=by simp[K]
 rw[l,a];rw[a]at p1;have X:=hxy o;clear u l j a U z A y I o J K;go_enter Tryz.func37,Tryz.ntmps37;go_wp2;refine bodyPost_ret (v:=.bool true) (by simp[results,Tryz.results37,go_sem, *]) rfl ⟨rfl,?_⟩;exact(Ai).alloc AX _
theorem Wm(l J:Nat)(V:Nat->VV)(z c:Int)(B:Nat)(p:Pl)(M:MV)(nH:Nat)(S:Nat->HS)(w:World)(hA:Ak w l (8*6) (vF V))(hm:Mem w B p M)(N:∀i,i<8->GV (V i) M.nH)(ha:Ls nH S V z c M)(hr:∀i,i<8->0<=M.R i/\M.R i<=18446744073709551615)(hb:∀i,i<M.nH->0<=(M.Hp i).base/\(M.Hp i).base<=18446744073709551615):
 Calls Tryz.prog 12 #[.agg #[Vs l 8 J,Vi z,Vi c],.agg (ZQ p M)] w fun e a=>e=.returned (.bool true)/\Below w.heap.size w a:=by
 have HA:=hxy hA;have HM:=hxy hm;have HG:=hxy N;have HV:=hxy ha;have HR:=hxy hr;have HB:=hxy hb;clear hA hm N ha hr hb;unfold ZQ;go_enter Tryz.func12,Tryz.ntmps12;go_upto_region 1 with fail;obtain⟨u0,O,I,e1,e2⟩:∃y,(w.alloc (.cells #[Vs l 8 J,Vi z,Vi c] 36)).alloc (.cells #[Vs p.bR 8 p.cR,.bool M.z,.bool M.c,.bool M.hz,.bool M.hc,.slice p.aH M.nH p.cH,Vi M.pc,Vi M.st,.slice p.aO M.nO p.cO] 32)=y/\Bw w y/\y.heap[w.heap.size]?=some (.cells #[Vs l 8 J,Vi z,Vi c] 36)/\y.heap[w.heap.size+1]?=some (.cells #[Vs p.bR 8 p.cR,.bool M.z,.bool M.c,.bool M.hz,.bool M.hc,.slice p.aH M.nH p.cH,Vi M.pc,Vi M.st,.slice p.aO M.nO p.cO] 32):=by
  have s1:(w.alloc (.cells #[Vs l 8 J,Vi z,Vi c] 36)).heap.size=w.heap.size+1:=AX;exact⟨_,rfl,(Ai).alloc AX _,(Below.heap_alloc _ _ _ AX).trans (Az w _),by rw[<-s1];exact Az _ _⟩
 rw[O];have A0:=hxy (HA.below I HA.lt);have M0:=hxy (HM.below I);have B0:=hxy I;have F:=hxy e1;have j:=hxy e2;obtain⟨d,A⟩:=Au w.heap.size;have ac:=hxy A;have aa:=I.size;rw[A]at F j⊢;clear O I e1 e2 A HA HM;have Y:=AJ F 0;have m0:=AJ j 0;simp only[List.getElem?_toArray,List.getElem?_cons_zero]at Y m0;have Z:=(I8.1 F).1;have mz:=(I8.1 j).1;go_wp2_with fail;clear Y m0 Z mz;go_loopw [5](fun iv wr=>∃k:Nat,iv=Vi (k:Int)/\k<=8/\Bw u0 wr)(fun iv _=>(8-intOf iv).toNat)
 case atStart=>exact⟨0,rfl,AB,Below.refl _ _⟩
 case round=>
  obtain⟨k,rfl,hk,L⟩:=hrel;have E:=hxy L;clear L;have q:∀{i:Nat}{o:Obj}{a:World},u0.heap[i]?=some o->Bw u0 a->a.heap[i]?=some o:=fun hx hb=>(hb.block _ (I8.1 hx).1).trans hx
  by_cases b:k<8
  ·have ab:(k:Int)<8:=AB
   have Y:Cb u0 d 0 (Vs l 8 J):=fun a h=>(AJ (q F h) 0).trans rfl
   have Z:∀a,Bw u0 a->d<a.heap.size:=fun a h=>(I8.1 (q F h)).1
   have m0:∀a,Bw u0 a->a.cell? ⟨d+1,0,none⟩=some (Vs p.bR 8 p.cR):=fun a h=>(AJ (q j h) 0).trans rfl
   have m1:∀a,Bw u0 a->a.cell? ⟨d+1,1,none⟩=some (.bool M.z):=fun a h=>(AJ (q j h) 1).trans rfl
   have m2:∀a,Bw u0 a->a.cell? ⟨d+1,2,none⟩=some (.bool M.c):=fun a h=>(AJ (q j h) 2).trans rfl
   have m3:∀a,Bw u0 a->a.cell? ⟨d+1,3,none⟩=some (.bool M.hz):=fun a h=>(AJ (q j h) 3).trans rfl
   have m4:∀a,Bw u0 a->a.cell? ⟨d+1,4,none⟩=some (.bool M.hc):=fun a h=>(AJ (q j h) 4).trans rfl
   have m5:∀a,Bw u0 a->a.cell? ⟨d+1,5,none⟩=some (.slice p.aH M.nH p.cH):=fun a h=>(AJ (q j h) 5).trans rfl
   have m6:∀a,Bw u0 a->a.cell? ⟨d+1,6,none⟩=some (Vi M.pc):=fun a h=>(AJ (q j h) 6).trans rfl
   have m7:∀a,Bw u0 a->a.cell? ⟨d+1,7,none⟩=some (Vi M.st):=fun a h=>(AJ (q j h) 7).trans rfl
   have m8:∀a,Bw u0 a->a.cell? ⟨d+1,8,none⟩=some (.slice p.aO M.nO p.cO):=fun a h=>(AJ (q j h) 8).trans rfl
   have mz:∀a,Bw u0 a->d+1<a.heap.size:=fun a h=>(I8.1 (q j h)).1
   have x:∀a,Bw u0 a->Ak a l (8*6) (vF V):=fun a h=>A0.below h A0.lt
   have bl:∀a,Bw u0 a->l<a.heap.size:=fun a h=>(x a h).lt
   have v0:Cb u0 l (k*6) (Vi (V k).k):=fun a h=>(Bh (x a h) k b).1
   have v1:Cb u0 l (k*6+1) (.bool (V k).s):=fun a h=>(Bh (x a h) k b).2.1
   have v2:Cb u0 l (k*6+2) (Vi (V k).m):=fun a h=>(Bh (x a h) k b).2.2.1
   have v3:Cb u0 l (k*6+3) (Vi (V k).h):=fun a h=>(Bh (x a h) k b).2.2.2.1
   have v4:Cb u0 l (k*6+4) (Vi (V k).lo):=fun a h=>(Bh (x a h) k b).2.2.2.2.1
   have v5:Cb u0 l (k*6+5) (Vi (V k).hi):=fun a h=>(Bh (x a h) k b).2.2.2.2.2
   have rr:∀a,Bw u0 a->a.cell? ⟨p.bR,k,none⟩=some (.int .u64 (M.R k)):=fun a h=>by
    rw[(M0.below h).regs.cellAt k AB,G6 AB];rfl
   have rz:∀a,Bw u0 a->p.bR<a.heap.size:=fun a h=>((M0.below h).regs.lt p.bR rfl).2
   clear x;go_upto_region 6 with fail;refine wp_region_held_drew (S:=fun a=>Bw u0 a) AV E.drew (fun _=>?_);have U:=hxy E.drew;refine EX [0,1,2,3,4,5,6,7,8,9,10] ?_;refine AO 11 rfl (fun KK hK=>?_);go_simp;have u:=TJ (V k) (M.R k) B p M wr.drew (HG k b) (HV.rg k b) (HR k b).1 (HR k b).2 HB (M0.below U);unfold ZQ at u;refine u.mono ?_;rintro e u2⟨rfl,K⟩;have B2:=U.trans (K.mono U.size);clear u;go_wp2_with fail;refine hK.out _ _ B2 (fun _=>?_);clear hK KK K;try go_frame
   refine AU 12 ?_;refine wpAnyH_done AV ?_ _;have BB:=hxy B2;clear B2 Y Z m0 m1 m2 m3 m4 m5 m6 m7 m8 mz bl v0 v1 v2 v3 v4 v5 rr rz q E U;go_wp2_with fail;go_roundw
   case rel=>exact⟨k+1,AX,AB,BB⟩
   case measure=>simp[intOf];omega
  ·have ad:¬((k:Int)<8):=AB
   have h1:=q F E;have h2:=q j E;have a1:wr.cell? (Va d 1)=some (Vi z):=(AJ h1 1).trans rfl;have a2:wr.cell? (Va d 2)=some (Vi c):=(AJ h1 2).trans rfl;have Z:=(I8.1 h1).1;have m3:wr.cell? ⟨d+1,3,none⟩=some (.bool M.hz):=(AJ h2 3).trans rfl;have m4:wr.cell? ⟨d+1,4,none⟩=some (.bool M.hc):=(AJ h2 4).trans rfl;have mz:=(I8.1 h2).1;have X:=hxy (B0.trans (E.mono aa));have Q:=HV.hz;have u:=HV.hc;clear h1 h2 q;by_cases D:z=0
   ·have ez:(z==0)=true:=by simp[D]
    by_cases n:c=0
    ·have ec:(c==0)=true:=by simp[n]
     clear Q u D n;go_wp2;exact bodyPost_ret (v:=.bool true) (by simp[results,Tryz.results12,go_sem, *]) rfl ⟨rfl,X⟩
    ·have ec:(c==0)=false:=by simp[n]
     have r:M.hc=true:=by rcases u with h|h;exact absurd h n;exact h
     rw[r]at m4;clear Q u D n r;go_wp2;exact bodyPost_ret (v:=.bool true) (by simp[results,Tryz.results12,go_sem, *]) rfl ⟨rfl,X⟩
   ·have ez:(z==0)=false:=by simp[D]
    have C:M.hz=true:=by rcases Q with h|h;exact absurd h D;exact h
    rw[C]at m3;by_cases n:c=0
    ·have ec:(c==0)=true:=by simp[n]
     clear Q u D n C;go_wp2;exact bodyPost_ret (v:=.bool true) (by simp[results,Tryz.results12,go_sem, *]) rfl ⟨rfl,X⟩
    ·have ec:(c==0)=false:=by simp[n]
     have r:M.hc=true:=by rcases u with h|h;exact absurd h n;exact h
     rw[r]at m4;clear Q u D n C r;go_wp2;exact bodyPost_ret (v:=.bool true) (by simp[results,Tryz.results12,go_sem, *]) rfl ⟨rfl,X⟩
end Go.Proofs.YtjoppncopoampaaGreatDoor
