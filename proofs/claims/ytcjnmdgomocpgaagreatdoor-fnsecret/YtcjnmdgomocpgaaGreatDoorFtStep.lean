import Derived.Test.YtcjnmdgomocpgaaGreatDoorOfFtFit
set_option maxHeartbeats 2000000
namespace Go.Proofs.YtcjnmdgomocpgaaGreatDoor
open Go.RowKit
variable {Z:Int}{i:Nat}
structure Ls(nH:Nat)(S:Nat->HS)(V:Nat->VV)(z c:Int)(M:MV):Prop where
 nh:M.nH=nH
 sz:∀i,i<nH->((M.Hp i).len:Int)=(S i).size/\(M.Hp i).wr=(S i).w
 rg:∀i,i<8->CG (fun k=>(M.Hp k).base) (V i) (M.R i)
 hz:z=0∨M.hz=true
 hc:c=0∨M.hc=true
section
variable{nH:Nat}{S:Nat->HS}{V:Nat->VV}{z c z' c':Int}{M:MV}
theorem Ls.set(p:Ls nH S V z c M){d:Nat}{r:VV}{v:Int}(h:CG (fun k=>(M.Hp k).base) r v):Ls nH S (Df V d r) z c (M.setR d v):=by
 refine⟨p.nh,p.sz,fun i a=>?_,p.hz,p.hc⟩;show CG (fun k=>(M.Hp k).base) (if i=d then r else V i) (if i=d then v else M.R i);by_cases e:i=d
 ·rw[if_pos e,if_pos e];exact h
 ·rw[if_neg e,if_neg e];exact p.rg i a
theorem Ls.see(p:Ls nH S V z c M)(k v:Int):Ls nH S V z c (M.see k v):=⟨p.nh,p.sz,p.rg,p.hz,p.hc⟩
theorem Ls.flags(p:Ls nH S V z c M)(r:Int)(a:Bool):Ls nH S V z' c' (M.flags r a):=⟨p.nh,p.sz,p.rg,Or.inr rfl,Or.inr rfl⟩
theorem Mj(M:MV)(h j:Nat)(u:Int)(i:Nat):((M.poke h j u).Hp i).base=(M.Hp i).base/\((M.poke h j u).Hp i).len=(M.Hp i).len/\((M.poke h j u).Hp i).wr=(M.Hp i).wr:=by
 unfold MV.poke;dsimp only;split<;>exact⟨rfl,rfl,rfl⟩
theorem Ls.poke(p:Ls nH S V z c M)(h j:Nat)(u:Int):Ls nH S V z c (M.poke h j u):=by
 refine⟨p.nh,fun i a=>?_,fun i a=>?_,p.hz,p.hc⟩
 ·rw[(Mj M h j u i).2.1,(Mj M h j u i).2.2];exact p.sz i a
 ·rw[show(fun k=>((M.poke h j u).Hp k).base)=fun k=>(M.Hp k).base from funext fun k=>(Mj M h j u k).1];exact p.rg i a
theorem Ls.pokeN(p:Ls nH S V z c M)(h o:Nat)(v:Int):∀k,Ls nH S V z c (M.pokeN h o v k)/\(M.pokeN h o v k).st=M.st
 |0=>⟨p,rfl⟩
 |k+1=>⟨(Ls.pokeN p h o v k).1.poke _ _ _,(Ls.pokeN p h o v k).2⟩
end
theorem qC{B d t u A:Int}{X wd:Nat}(a:0<=B)(b:B+X<=18446744073709551615)(h:A=((B+d)%18446744073709551616+u)%18446744073709551616)(j:u=t%18446744073709551616)(c:0<=d+t)(e:d+t+wd<=X):A-B=d+t/\lies B A wd X=true:=by
 have:A=B+(d+t):=AB;refine⟨AB,?_⟩;unfold lies;rw[decide_eq_true AB,decide_eq_true AB,decide_eq_true AB];rfl
theorem Dv{c h:Int}{a b x:VV}{g:HS}(e:A8 Z c h a b x g=0):a.k=1/\a.h=h/\0<=AZ b/\0<=a.lo+c/\a.hi+c+b.m+Vu Z<=g.size/\(oN Z=true->g.w=true):=by
 unfold A8 at e;by_cases j:a.k≠1
 ·rw[if_pos j]at e;omega
 rw[if_neg j]at e;by_cases l:a.h≠h
 ·rw[if_pos l]at e;omega
 rw[if_neg l]at e;by_cases d:b.s=true∨AZ b<0
 ·rw[if_pos d]at e;omega
 rw[if_neg d]at e;by_cases n:a.lo+c<0∨g.size<a.hi+c+b.m+Vu Z
 ·rw[if_pos n]at e;omega
 rw[if_neg n]at e;refine⟨AB,AB,?_,AB,AB,fun o=>?_⟩
 ·by_cases q:0<=AZ b
  ·exact q
  ·exact absurd (Or.inr AB) d
 ·rw[if_neg (by rw[o];decide)]at e
  cases hw:g.w with
  |true=>rfl
  |false=>rw[if_pos hw]at e;omega
theorem XU{K r:Int}{N:Bool}(e:FL Z K N r=0):K≠0/\(21<=Z->Z<=28->r=0):=by
 unfold FL at e;by_cases c:K=0
 ·rw[if_pos c]at e;omega
 rw[if_neg c]at e;by_cases d:Z=9/\N=true
 ·rw[if_pos d]at e;omega
 rw[if_neg d]at e;refine⟨c,fun a b=>?_⟩;rw[if_pos ⟨a,b⟩]at e;exact e
section
variable{nH nR:Nat}{S:Nat->HS}{V V0:Nat->VV}{z c imm:Int}{M:MV}{di ia ib q:Nat}
theorem EQ(h:Ap Z 2=true):Gl V Z i=V i:=by unfold Gl;rw[if_pos h]
theorem Gm(h:Ap Z 4=true):Gb V Z i=V i:=by unfold Gb;rw[if_pos h]
theorem Xp(h:Ap Z 4=false):Gb V Z i=zV:=by unfold Gb;rw[if_neg (by rw[h];decide)]
theorem Er(h:Ik Z=true):Pj S V z c Z (di:Int) (ia:Int) (ib:Int) imm (q:Int)=Df V di (kS Z imm (Gl V Z ia) (Gb V Z ib) (Gi V Z z c ia ib) (Jw Z z c) (S q)):=by unfold Pj;rw[if_pos h];rfl
theorem Qf(h:Ik Z=false):Pj S V z c Z (di:Int) (ia:Int) (ib:Int) imm (q:Int)=V:=by unfold Pj;rw[if_neg (by rw[h];decide)]
theorem CK{x:Int}(h:Fj Z=false):Mc V z c Z (ia:Int) (ib:Int) x=x:=by unfold Mc;rw[if_neg (by rw[h];decide)]
theorem Jt{t u y:Int}{b:VV}{wd:Nat}(I:M.Ok)(p:Ls nH S V z c M)(x:ia<8)(B:q<nH)(e:A8 Z imm (q:Int) (V ia) b (V di) (S q)=0)(E:Vu Z=(wd:Int))(X:t=imm+y)(y0:0<=y)(y1:y<=b.m)(D:u=t%18446744073709551616)(A:Int)(l:A=(M.R ia+u)%18446744073709551616):
 ¬M.nH<=q/\lies (M.Hp q).base A wd (M.Hp q).len=true/\0<=A-(M.Hp q).base/\A-(M.Hp q).base+wd<=(M.Hp q).len/\(oN Z=true->(M.Hp q).wr=true):=by
 obtain⟨k,r,_,l0,F,C⟩:=Dv e;have U:=p.nh;obtain⟨s1,J⟩:=p.sz q B;obtain⟨n,K,L,o⟩:=I.heap q AB;rcases p.rg ia x with⟨Y,_⟩|⟨_,d,N,O,j⟩
 ·omega
 rw[r]at j;have a:M.R ia=((M.Hp q).base+d)%18446744073709551616:=j;rw[a]at l;rw[E]at F;obtain⟨Q,s⟩:=qC (t:=t) (wd:=wd) n o l D AB AB;exact⟨AB,s,AB,AB,fun h=>J.trans (C h)⟩
theorem WT(L:BK nH S nR V0 8 V z c=true)(x:BF Z (di:Int) (ia:Int) (ib:Int) imm (q:Int)=true)(O:Z<=28)(j:ia<8)(K:ib<8)(A:M.Ok)(p:Ls nH S V z c M)(X:TN nH S nR V0 8 V z c Z (di:Int) (ia:Int) (ib:Int) imm (q:Int)=0)(F:Int):
 ∃Y,exec Z.toNat di ia ib q imm M F=.done Y F/\Y.st=M.st/\Ls nH S (Pj S V z c Z (di:Int) (ia:Int) (ib:Int) imm (q:Int)) (Mc V z c Z (ia:Int) (ib:Int) z) (Mc V z c Z (ia:Int) (ib:Int) c) Y:=by
 have hr:FL Z (Jw Z z c) (Gi V Z z c ia ib) (A8 Z imm (q:Int) (Gl V Z ia) (Gb V Z ib) (V di) (S q))=0:=by
  unfold TN at X;rw[if_pos ⟨L,x,O⟩]at X;exact X
 obtain⟨E,a⟩:=XU hr;clear hr X;obtain⟨o1,_,_,_,_,_,_,_,_,n0,n1,n2⟩:=Gx x O;obtain⟨_,_,G⟩:=FR L;have kA:=(Ec (G ia j)).k;have kB:=(Ec (G ib K)).k;have b:(V ia).k=1->(V ia).h=(q:Int)->q<nH:=fun k e=>by have:=Iu (G ia j) k;omega
 have l:=p.rg ia j;have gb:=p.rg ib K;obtain⟨B,U⟩:=A.reg ia j;obtain⟨C,y1⟩:=A.reg ib K;clear G L;rcases UJ o1 O with rfl|rfl|rfl|rfl|rfl|rfl|rfl|rfl|rfl|rfl|rfl|rfl|rfl|rfl|rfl|rfl|rfl|rfl|rfl|rfl|rfl|rfl|rfl|rfl|rfl|rfl|rfl|rfl
 ·clear b a
  rw[Er (show Ik 1=true by kernel_rfl),CK (show Fj 1=false by kernel_rfl),CK (show Fj 1=false by kernel_rfl),EQ (show Ap 1 2=true by kernel_rfl)];refine⟨_,rfl,rfl,?_⟩;refine p.set ?_;exact l
 ·clear b a
  rw[Er (show Ik 2=true by kernel_rfl),CK (show Fj 2=false by kernel_rfl),CK (show Fj 2=false by kernel_rfl)];refine⟨_,rfl,rfl,?_⟩;refine p.set ?_;exact Yz
 ·clear b a
  rw[Er (show Ik 3=true by kernel_rfl),CK (show Fj 3=false by kernel_rfl),CK (show Fj 3=false by kernel_rfl),EQ (show Ap 3 2=true by kernel_rfl),Gm (show Ap 3 4=true by kernel_rfl)];refine⟨_,rfl,rfl,?_⟩;refine p.set ?_;exact Ty l gb B C
 ·clear b a
  rw[Er (show Ik 4=true by kernel_rfl),CK (show Fj 4=false by kernel_rfl),CK (show Fj 4=false by kernel_rfl),EQ (show Ap 4 2=true by kernel_rfl),Gm (show Ap 4 4=true by kernel_rfl)];refine⟨_,rfl,rfl,?_⟩;refine p.set ?_;exact Bj AB
 ·clear b a
  rw[Er (show Ik 5=true by kernel_rfl),CK (show Fj 5=false by kernel_rfl),CK (show Fj 5=false by kernel_rfl),EQ (show Ap 5 2=true by kernel_rfl),Gm (show Ap 5 4=true by kernel_rfl)];refine⟨_,rfl,rfl,?_⟩;refine p.set ?_;exact Xo l gb B C
 ·clear b a
  rw[Er (show Ik 6=true by kernel_rfl),CK (show Fj 6=false by kernel_rfl),CK (show Fj 6=false by kernel_rfl),EQ (show Ap 6 2=true by kernel_rfl),Gm (show Ap 6 4=true by kernel_rfl)];refine⟨_,rfl,rfl,?_⟩;refine p.set ?_;exact jT l gb B C U y1
 ·clear b a
  rw[Er (show Ik 7=true by kernel_rfl),CK (show Fj 7=false by kernel_rfl),CK (show Fj 7=false by kernel_rfl),EQ (show Ap 7 2=true by kernel_rfl),Gm (show Ap 7 4=true by kernel_rfl)];refine⟨_,rfl,rfl,?_⟩;refine p.set ?_;exact Qm .or (Or.inl rfl) l gb B C U y1
 ·clear b a
  rw[Er (show Ik 8=true by kernel_rfl),CK (show Fj 8=false by kernel_rfl),CK (show Fj 8=false by kernel_rfl),EQ (show Ap 8 2=true by kernel_rfl),Gm (show Ap 8 4=true by kernel_rfl)];refine⟨_,rfl,rfl,?_⟩;refine p.set ?_;exact Qm .xor (Or.inr rfl) l gb B C U y1
 ·clear b a
  rw[Er (show Ik 9=true by kernel_rfl),CK (show Fj 9=false by kernel_rfl),CK (show Fj 9=false by kernel_rfl),EQ (show Ap 9 2=true by kernel_rfl),Gm (show Ap 9 4=true by kernel_rfl)];refine⟨_,rfl,rfl,?_⟩;refine(p.see _ _).set ?_;exact jH l B C
 ·clear b a
  rw[Er (show Ik 10=true by kernel_rfl),CK (show Fj 10=false by kernel_rfl),CK (show Fj 10=false by kernel_rfl),EQ (show Ap 10 2=true by kernel_rfl)];refine⟨_,rfl,rfl,?_⟩;refine p.set ?_;exact Yf l B
 ·clear b a
  rw[Er (show Ik 11=true by kernel_rfl),CK (show Fj 11=false by kernel_rfl),CK (show Fj 11=false by kernel_rfl),EQ (show Ap 11 2=true by kernel_rfl)];refine⟨_,rfl,rfl,?_⟩;refine p.set ?_;exact ZK l B U n1
 ·clear b a
  rw[Er (show Ik 12=true by kernel_rfl),CK (show Fj 12=false by kernel_rfl),CK (show Fj 12=false by kernel_rfl),EQ (show Ap 12 2=true by kernel_rfl)];obtain⟨i0,i1⟩:=n2 Ad;obtain⟨n,rfl⟩:∃n:Nat,imm=(n:Int):=⟨imm.toNat,AB⟩
  refine⟨_,rfl,rfl,?_⟩;refine p.set ?_;rw[show IntKind.u64.wrap (n:Int)=(n:Int)from by rw[IntKind.wrap_u64];omega];exact iQ l B rfl
 ·clear b a
  rw[Er (show Ik 13=true by kernel_rfl),CK (show Fj 13=false by kernel_rfl),CK (show Fj 13=false by kernel_rfl),EQ (show Ap 13 2=true by kernel_rfl)];obtain⟨i0,i1⟩:=n2 Ad;obtain⟨n,rfl⟩:∃n:Nat,imm=(n:Int):=⟨imm.toNat,AB⟩
  refine⟨_,rfl,rfl,?_⟩;refine p.set ?_;rw[show IntKind.u64.wrap (n:Int)=(n:Int)from by rw[IntKind.wrap_u64];omega];exact jG l B U rfl AB
 ·clear b a
  rw[Er (show Ik 14=true by kernel_rfl),EQ (show Ap 14 2=true by kernel_rfl),Gm (show Ap 14 4=true by kernel_rfl)];refine⟨_,rfl,rfl,?_⟩;refine(p.set ?_).flags _ _;show CG _ (Mg (V ia) (V ib)) ((M.R ia+M.R ib+0)%18446744073709551616);rw[Int.add_zero];exact Ty l gb B C
 ·clear b a
  rw[Er (show Ik 15=true by kernel_rfl),EQ (show Ap 15 2=true by kernel_rfl),Gm (show Ap 15 4=true by kernel_rfl)];have Q:M.hc=true:=by rcases p.hc with h|h;exact absurd h E;exact h
  refine⟨?m15,?e15,?s15,?a15⟩
  case e15=>exact if_pos Q
  case s15=>rfl
  refine(p.set ?_).flags _ _;exact WO l gb B C (by split<;>omega) (by split<;>omega)
 ·clear b a
  rw[Er (show Ik 16=true by kernel_rfl),EQ (show Ap 16 2=true by kernel_rfl),Gm (show Ap 16 4=true by kernel_rfl)];refine⟨_,rfl,rfl,?_⟩;refine(p.flags _ _).set ?_;exact Bj AB
 ·clear b a
  rw[Qf (show Ik 17=false by kernel_rfl)];exact⟨_,rfl,rfl,p.flags _ _⟩
 ·clear b a
  rw[Qf (show Ik 18=false by kernel_rfl)];exact⟨_,rfl,rfl,p.flags _ _⟩
 ·clear b a
  rw[Er (show Ik 19=true by kernel_rfl),CK (show Fj 19=false by kernel_rfl),CK (show Fj 19=false by kernel_rfl),EQ (show Ap 19 2=true by kernel_rfl),Gm (show Ap 19 4=true by kernel_rfl)];have Q:M.hz=true:=by rcases p.hz with h|h;exact absurd h E;exact h
  refine⟨?m19,?e19,?s19,?a19⟩
  case e19=>exact if_pos Q
  case s19=>rfl
  refine p.set ?_;refine QY kA kB ?_;split
  ·exact Or.inl l
  ·exact Or.inr gb
 ·clear b a
  rw[Er (show Ik 20=true by kernel_rfl),CK (show Fj 20=false by kernel_rfl),CK (show Fj 20=false by kernel_rfl),EQ (show Ap 20 2=true by kernel_rfl),Gm (show Ap 20 4=true by kernel_rfl)];have Q:M.hc=true:=by rcases p.hc with h|h;exact absurd h E;exact h
  refine⟨?m20,?e20,?s20,?a20⟩
  case e20=>exact if_pos Q
  case s20=>rfl
  refine p.set ?_;refine QY kA kB ?_;split
  ·exact Or.inl l
  ·exact Or.inr gb
 ·clear E
  rw[Er (show Ik 21=true by kernel_rfl),CK (show Fj 21=false by kernel_rfl),CK (show Fj 21=false by kernel_rfl)];have d:=a Ad Ad;rw[EQ (show Ap 21 2=true by kernel_rfl),Xp (show Ap 21 4=false by kernel_rfl)]at d;have s:=b (Dv d).1 (Dv d).2.1;obtain⟨m,o,I,J,D⟩:=Jt (t:=imm) (u:=imm%18446744073709551616) (y:=0) (wd:=1) A p j s d Ad AB AB Ad rfl (FK M ia imm) (by unfold FK;rw[IntKind.wrap_u64,IntKind.wrap_u64]);refine⟨(M.see 1 (FK M ia imm)).setR di (Hu (M.Hp q).dat ((FK M ia imm)-(M.Hp q).base).toNat 1),?_,?_,?_⟩
  ·show Cm false 1 (FK M ia imm) di q M F=_
   unfold Cm;rw[if_neg m,show(lies (M.Hp q).base (FK M ia imm) ((1:Nat):Int) (M.Hp q).len&&(!false||(M.Hp q).wr))=true from by rw[o];rfl,if_pos rfl,if_neg Ad]
  ·rfl
  ·refine(p.see 1 _).set ?_
   have hd:=A.dat q AB ((FK M ia imm)-(M.Hp q).base).toNat AB;refine Bj (Or.inr (Or.inr ?_));show 0+(M.Hp q).dat (((FK M ia imm)-(M.Hp q).base).toNat+0)*2^(8*0)<=255;simp only[Nat.add_zero,Nat.mul_zero,Int.pow_zero,Int.mul_one,Int.zero_add];exact hd.2
 ·clear E
  rw[Er (show Ik 22=true by kernel_rfl),CK (show Fj 22=false by kernel_rfl),CK (show Fj 22=false by kernel_rfl)];have d:=a Ad Ad;rw[EQ (show Ap 22 2=true by kernel_rfl),Xp (show Ap 22 4=false by kernel_rfl)]at d;have s:=b (Dv d).1 (Dv d).2.1;obtain⟨m,o,I,J,D⟩:=Jt (t:=imm) (u:=imm%18446744073709551616) (y:=0) (wd:=8) A p j s d Ad AB AB Ad rfl (FK M ia imm) (by unfold FK;rw[IntKind.wrap_u64,IntKind.wrap_u64]);refine⟨(M.see 1 (FK M ia imm)).setR di (Hu (M.Hp q).dat ((FK M ia imm)-(M.Hp q).base).toNat 8),?_,?_,?_⟩
  ·show Cm false 8 (FK M ia imm) di q M F=_
   unfold Cm;rw[if_neg m,show(lies (M.Hp q).base (FK M ia imm) ((8:Nat):Int) (M.Hp q).len&&(!false||(M.Hp q).wr))=true from by rw[o];rfl,if_pos rfl,if_neg Ad]
  ·rfl
  ·refine(p.see 1 _).set ?_
   exact Bj AB
 ·clear E
  rw[Qf (show Ik 23=false by kernel_rfl),CK (show Fj 23=false by kernel_rfl),CK (show Fj 23=false by kernel_rfl)];have d:=a Ad Ad;rw[EQ (show Ap 23 2=true by kernel_rfl),Xp (show Ap 23 4=false by kernel_rfl)]at d;have s:=b (Dv d).1 (Dv d).2.1;obtain⟨m,o,I,J,D⟩:=Jt (t:=imm) (u:=imm%18446744073709551616) (y:=0) (wd:=1) A p j s d Ad AB AB Ad rfl (FK M ia imm) (by unfold FK;rw[IntKind.wrap_u64,IntKind.wrap_u64]);refine⟨(M.see 1 (FK M ia imm)).pokeN q ((FK M ia imm)-(M.Hp q).base).toNat (M.R di) 1,?_,?_,?_⟩
  ·show Cm true 1 (FK M ia imm) di q M F=_
   unfold Cm;rw[if_neg m,show(lies (M.Hp q).base (FK M ia imm) ((1:Nat):Int) (M.Hp q).len&&(!true||(M.Hp q).wr))=true from by rw[o,D Ad];rfl,if_pos rfl,if_pos rfl]
  ·exact((p.see 1 _).pokeN q _ _ 1).2
  ·exact((p.see 1 _).pokeN q _ _ 1).1
 ·clear E
  rw[Qf (show Ik 24=false by kernel_rfl),CK (show Fj 24=false by kernel_rfl),CK (show Fj 24=false by kernel_rfl)];have d:=a Ad Ad;rw[EQ (show Ap 24 2=true by kernel_rfl),Xp (show Ap 24 4=false by kernel_rfl)]at d;have s:=b (Dv d).1 (Dv d).2.1;obtain⟨m,o,I,J,D⟩:=Jt (t:=imm) (u:=imm%18446744073709551616) (y:=0) (wd:=8) A p j s d Ad AB AB Ad rfl (FK M ia imm) (by unfold FK;rw[IntKind.wrap_u64,IntKind.wrap_u64]);refine⟨(M.see 1 (FK M ia imm)).pokeN q ((FK M ia imm)-(M.Hp q).base).toNat (M.R di) 8,?_,?_,?_⟩
  ·show Cm true 8 (FK M ia imm) di q M F=_
   unfold Cm;rw[if_neg m,show(lies (M.Hp q).base (FK M ia imm) ((8:Nat):Int) (M.Hp q).len&&(!true||(M.Hp q).wr))=true from by rw[o,D Ad];rfl,if_pos rfl,if_pos rfl]
  ·exact((p.see 1 _).pokeN q _ _ 8).2
  ·exact((p.see 1 _).pokeN q _ _ 8).1
 ·clear E
  rw[Er (show Ik 25=true by kernel_rfl),CK (show Fj 25=false by kernel_rfl),CK (show Fj 25=false by kernel_rfl)];have r:imm=0:=Jk x AV;subst r;have d:=a Ad Ad;rw[EQ (show Ap 25 2=true by kernel_rfl),Gm (show Ap 25 4=true by kernel_rfl)]at d;have s:=b (Dv d).1 (Dv d).2.1;obtain⟨_,N,_,_⟩:=Ce gb (Dv d).2.2.1;obtain⟨m,o,I,J,D⟩:=Jt (t:=M.R ib) (u:=M.R ib) (y:=M.R ib) (wd:=1) A p j s d Ad AB C N AB (FJ M ia ib) (by unfold FJ;rw[IntKind.wrap_u64]);refine⟨(M.see 1 (FJ M ia ib)).setR di (Hu (M.Hp q).dat ((FJ M ia ib)-(M.Hp q).base).toNat 1),?_,?_,?_⟩
  ·show Cm false 1 (FJ M ia ib) di q M F=_
   unfold Cm;rw[if_neg m,show(lies (M.Hp q).base (FJ M ia ib) ((1:Nat):Int) (M.Hp q).len&&(!false||(M.Hp q).wr))=true from by rw[o];rfl,if_pos rfl,if_neg Ad]
  ·rfl
  ·refine(p.see 1 _).set ?_
   have hd:=A.dat q AB ((FJ M ia ib)-(M.Hp q).base).toNat AB;refine Bj (Or.inr (Or.inr ?_));show 0+(M.Hp q).dat (((FJ M ia ib)-(M.Hp q).base).toNat+0)*2^(8*0)<=255;simp only[Nat.add_zero,Nat.mul_zero,Int.pow_zero,Int.mul_one,Int.zero_add];exact hd.2
 ·clear E
  rw[Er (show Ik 26=true by kernel_rfl),CK (show Fj 26=false by kernel_rfl),CK (show Fj 26=false by kernel_rfl)];have r:imm=0:=Jk x AV;subst r;have d:=a Ad Ad;rw[EQ (show Ap 26 2=true by kernel_rfl),Gm (show Ap 26 4=true by kernel_rfl)]at d;have s:=b (Dv d).1 (Dv d).2.1;obtain⟨_,N,_,_⟩:=Ce gb (Dv d).2.2.1;obtain⟨m,o,I,J,D⟩:=Jt (t:=M.R ib) (u:=M.R ib) (y:=M.R ib) (wd:=8) A p j s d Ad AB C N AB (FJ M ia ib) (by unfold FJ;rw[IntKind.wrap_u64]);refine⟨(M.see 1 (FJ M ia ib)).setR di (Hu (M.Hp q).dat ((FJ M ia ib)-(M.Hp q).base).toNat 8),?_,?_,?_⟩
  ·show Cm false 8 (FJ M ia ib) di q M F=_
   unfold Cm;rw[if_neg m,show(lies (M.Hp q).base (FJ M ia ib) ((8:Nat):Int) (M.Hp q).len&&(!false||(M.Hp q).wr))=true from by rw[o];rfl,if_pos rfl,if_neg Ad]
  ·rfl
  ·refine(p.see 1 _).set ?_
   exact Bj AB
 ·clear E
  rw[Qf (show Ik 27=false by kernel_rfl),CK (show Fj 27=false by kernel_rfl),CK (show Fj 27=false by kernel_rfl)];have r:imm=0:=Jk x AV;subst r;have d:=a Ad Ad;rw[EQ (show Ap 27 2=true by kernel_rfl),Gm (show Ap 27 4=true by kernel_rfl)]at d;have s:=b (Dv d).1 (Dv d).2.1;obtain⟨_,N,_,_⟩:=Ce gb (Dv d).2.2.1;obtain⟨m,o,I,J,D⟩:=Jt (t:=M.R ib) (u:=M.R ib) (y:=M.R ib) (wd:=1) A p j s d Ad AB C N AB (FJ M ia ib) (by unfold FJ;rw[IntKind.wrap_u64]);refine⟨(M.see 1 (FJ M ia ib)).pokeN q ((FJ M ia ib)-(M.Hp q).base).toNat (M.R di) 1,?_,?_,?_⟩
  ·show Cm true 1 (FJ M ia ib) di q M F=_
   unfold Cm;rw[if_neg m,show(lies (M.Hp q).base (FJ M ia ib) ((1:Nat):Int) (M.Hp q).len&&(!true||(M.Hp q).wr))=true from by rw[o,D Ad];rfl,if_pos rfl,if_pos rfl]
  ·exact((p.see 1 _).pokeN q _ _ 1).2
  ·exact((p.see 1 _).pokeN q _ _ 1).1
 ·clear E
  rw[Qf (show Ik 28=false by kernel_rfl),CK (show Fj 28=false by kernel_rfl),CK (show Fj 28=false by kernel_rfl)];have r:imm=0:=Jk x AV;subst r;have d:=a Ad Ad;rw[EQ (show Ap 28 2=true by kernel_rfl),Gm (show Ap 28 4=true by kernel_rfl)]at d;have s:=b (Dv d).1 (Dv d).2.1;obtain⟨_,N,_,_⟩:=Ce gb (Dv d).2.2.1;obtain⟨m,o,I,J,D⟩:=Jt (t:=M.R ib) (u:=M.R ib) (y:=M.R ib) (wd:=8) A p j s d Ad AB C N AB (FJ M ia ib) (by unfold FJ;rw[IntKind.wrap_u64]);refine⟨(M.see 1 (FJ M ia ib)).pokeN q ((FJ M ia ib)-(M.Hp q).base).toNat (M.R di) 8,?_,?_,?_⟩
  ·show Cm true 8 (FJ M ia ib) di q M F=_
   unfold Cm;rw[if_neg m,show(lies (M.Hp q).base (FJ M ia ib) ((8:Nat):Int) (M.Hp q).len&&(!true||(M.Hp q).wr))=true from by rw[o,D Ad];rfl,if_pos rfl,if_pos rfl]
  ·exact((p.see 1 _).pokeN q _ _ 8).2
  ·exact((p.see 1 _).pokeN q _ _ 8).1
end
end Go.Proofs.YtcjnmdgomocpgaaGreatDoor
