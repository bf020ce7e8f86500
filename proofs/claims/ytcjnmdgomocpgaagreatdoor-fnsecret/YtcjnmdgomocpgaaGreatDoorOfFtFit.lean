import Derived.Test.YtcjnmdgomocpgaaGreatDoorOfSpecDo
import Derived.Test.YtcjnmdgomocpgaaGreatDoorOfFu6c
set_option maxHeartbeats 8000000
set_option maxRecDepth 20000
namespace Go.Proofs.YtcjnmdgomocpgaaGreatDoor
section
open Go.RowKit
variable {B n:Nat}{u:World}
theorem sZ(w:World)(p:Nat)(d:Option Addr)(n c:Nat)(j:CJ w p d n c):DX w p d n c (w.heap.size+1) w.heap.size GQ ((w.alloc (.cells GQ.a 39)).alloc (.cells GQ.a 39)):=by
 have b:Bw w ((w.alloc (.cells GQ.a 39)).alloc (.cells GQ.a 39)):=(Ai).alloc AX _;have e:(w.alloc (.cells GQ.a 39)).heap.size=w.heap.size+1:=AX;refine⟨⟨.of_below b,j.below b,⟨rfl,.inl ⟨rfl,rfl⟩⟩,⟨rfl,.inl ⟨rfl,rfl⟩⟩,⟨rfl,.inl ⟨rfl,rfl⟩⟩,fun _ h=>absurd h List.not_mem_nil,fun _ h=>absurd h List.not_mem_nil,fun _ h=>absurd h List.not_mem_nil,j.lt⟩,?_,?_,Nat.le_succ _,BQ,AB⟩
 ·rw[<-e];exact Az _ _
 ·exact(Below.heap_alloc _ _ _ (by rw[e];omega)).trans (Az w _)
theorem qw:∀(a:List HD)(k:Nat)(x:HD),a[k]?=some x->(a.flatMap ZU)[k*3]?=some (.int .u64 x.base)
 |[],k,x,h=>by simp at h
 |y::l,0,x,h=>by
  have e:y=x:=by simpa using h
  rw[e];rfl
 |y::l,k+1,x,h=>by
  rw[List.flatMap_cons,List.getElem?_append_right (by show 3<=_;omega)];have:=qw l k x (by simpa using h);rw[show(k+1)*3-(ZU y).length=k*3 by show(k+1)*3-3=k*3;omega];exact this
def CG(B:Nat->Int)(v:VV)(x:Int):Prop:=
 (v.k=0/\(v.m= -1∨x<=v.m))∨(v.k=1/\∃d,v.lo<=d/\d<=v.hi/\x=(B v.h.toNat+d)%18446744073709551616)
section
variable{B:Nat->Int}{a b v:VV}{x y m imm:Int}{s:Bool}
theorem Bj(h:m<0∨1099511627776<m∨x<=m):CG B (Al s m) x:=by
 refine Or.inl ⟨rfl,?_⟩;show(if m<0∨1099511627776<m then(-1:Int)else m)= -1∨x<=(if m<0∨1099511627776<m then(-1:Int)else m);by_cases e:m<0∨1099511627776<m
 ·rw[if_pos e];exact Or.inl rfl
 ·rw[if_neg e];exact Or.inr AB
theorem Ce(h:CG B v x)(a:0<=AZ v):v.k=0/\x<=v.m/\AZ v=v.m/\0<=v.m:=by
 unfold AZ at a⊢;rcases h with⟨k,h⟩|⟨k,_⟩
 ·rw[if_neg AB]at a⊢
  exact⟨k,AB,rfl,a⟩
 ·rw[if_pos k]at a;omega
theorem Qn(c:CG B a x)(j:CG B b y)(r:0<=y)(q:0<=x):CG B (Tv a b) ((x+y)%18446744073709551616):=by
 unfold Tv;split
 ·rename_i h
  obtain⟨_,l,_,_⟩:=Ce j h.2.1;rcases c with⟨k,_⟩|⟨k,d,n,o,e⟩
  ·omega
  ·exact Or.inr ⟨k,d+y,by show a.lo<=d+y;omega,by show d+y<=a.hi+b.m;omega,by show _=(B a.h.toNat+(d+y))%_;omega⟩
 ·split
  ·rename_i h
   obtain⟨_,l,_,_⟩:=Ce c h.1;obtain⟨_,p,_,_⟩:=Ce j h.2;exact Bj AB
  ·exact Bj AB
theorem Ty(c:CG B a x)(d:CG B b y)(e:0<=x)(h:0<=y):CG B (Mg a b) ((x+y)%18446744073709551616):=by
 unfold Mg;split
 ·rw[Int.add_comm];exact Qn d c e h
 ·exact Qn c d h e
theorem fP{p q:Int}(d:0<=x)(a:0<=y)(b:x<=p)(c:y<=q):x*y%18446744073709551616<=Dk p q∨1099511627776<Dk p q:=by
 have hxy:x*y<=p*q:=Int.mul_le_mul b c a AB;have e:0<=x*y:=Int.mul_nonneg d a;have j:x*y%18446744073709551616<=x*y:=AB;unfold Dk;split
 ·rename_i h
  left;have:x*y=0:=by
   rcases h with h|h
   ·have:x=0:=AB
    rw[this,Int.zero_mul]
   ·have:y=0:=AB
    rw[this,Int.mul_zero]
  omega
 ·split
  ·right;omega
  ·left;omega
theorem Xo(e:CG B a x)(j:CG B b y)(k:0<=x)(l:0<=y):CG B (if 0<=AZ a/\0<=AZ b then Al s (Dk a.m b.m)else Al s (-1)) (x*y%18446744073709551616):=by
 split
 ·rename_i h
  obtain⟨_,c,_,_⟩:=Ce e h.1;obtain⟨_,d,_,_⟩:=Ce j h.2;have:=fP k l c d;exact Bj AB
 ·exact Bj AB
theorem Zr(c:0<=x)(e:0<=y)(d:x<=18446744073709551615)(h:y<=18446744073709551615):bits BinOp.and IntKind.u64 x y<=x/\bits BinOp.and IntKind.u64 x y<=y:=by
 obtain⟨p,rfl⟩:∃p:Nat,x=(p:Int):=⟨x.toNat,AB⟩
 obtain⟨q,rfl⟩:∃q:Nat,y=(q:Int):=⟨y.toNat,AB⟩
 rw[bits_and_u64_nat p q AB AB];have a:p&&&q<=p:=Nat.and_le_left;have b:p&&&q<=q:=Nat.and_le_right;omega
theorem jT(e:CG B a x)(j:CG B b y)(k:0<=x)(m:0<=y)(l:x<=18446744073709551615)(n:y<=18446744073709551615):CG B (Al s (Dj (AZ a) (AZ b))) (bits BinOp.and IntKind.u64 x y):=by
 have o:=Zr k m l n;refine Bj ?_;unfold Dj;split
 ·by_cases h:0<=AZ b
  ·obtain⟨_,c,d,_⟩:=Ce j h;omega
  ·omega
 ·have h:0<=AZ a:=AB
  obtain⟨_,c,d,_⟩:=Ce e h;omega
theorem XJ{n:Int}(_h0:0<=x)(h:x<=n):x.toNat<2^DZ n.toNat:=by
 have:=(En n.toNat _).1 BQ;omega
theorem Qm(o:BinOp)(r:o=.or∨o=.xor)(e:CG B a x)(j:CG B b y)(u:0<=x)(z:0<=y)(D:x<=18446744073709551615)(E:y<=18446744073709551615):
 CG B (if 0<=AZ a/\0<=AZ b then Al s (IY (Ic a.m b.m))else Al s (-1)) (bits o IntKind.u64 x y):=by
 split
 ·rename_i h
  obtain⟨_,A,_,_⟩:=Ce e h.1;obtain⟨_,C,_,_⟩:=Ce j h.2;have l:a.m<=Ic a.m b.m/\b.m<=Ic a.m b.m:=by unfold Ic;split<;>omega
  have c:=XJ u (show x<=Ic a.m b.m by omega);have d:=XJ z (show y<=Ic a.m b.m by omega);refine Bj (Or.inr (Or.inr ?_));unfold IY;generalize DZ (Ic a.m b.m).toNat=k at *;obtain⟨p,rfl⟩:∃p:Nat,x=(p:Int):=⟨x.toNat,AB⟩
  obtain⟨q,rfl⟩:∃q:Nat,y=(q:Int):=⟨y.toNat,AB⟩
  rcases r with rfl|rfl
  ·rw[bits_or_u64_nat p q AB AB]
   have:=Nat.or_lt_two_pow (n:=k) (x:=p) (y:=q) (by simpa using c) (by simpa using d);omega
  ·rw[bits_xor_u64_nat p q AB AB]
   have:=Nat.xor_lt_two_pow (n:=k) (x:=p) (y:=q) (by simpa using c) (by simpa using d);omega
 ·exact Bj AB
theorem jH(c:CG B a x)(b:0<=x)(_y0:0<=y):CG B (Al s (AZ a)) (if y=0 then 0 else x/y):=by
 have j:(if y=0 then 0 else x/y)<=x:=by
  split
  ·exact b
  ·exact Int.ediv_le_self y b
 refine Bj ?_;by_cases h:0<=AZ a
 ·obtain⟨_,d,e,_⟩:=Ce c h;omega
 ·omega
theorem Yf(b:CG B a x)(n:0<=x):CG B (if a.k=1/\ -1099511627776<=a.lo+imm/\a.hi+imm<=1099511627776 then{a with lo:=a.lo+imm,hi:=a.hi+imm}else if 0<=AZ a/\0<=imm then Al s (a.m+imm)else Al s (-1)) ((x+imm%18446744073709551616)%18446744073709551616):=by
 split
 ·rename_i h
  rcases b with⟨k,_⟩|⟨k,d,c,j,e⟩
  ·omega
  ·exact Or.inr ⟨k,d+imm,by show a.lo+imm<=d+imm;omega,by show d+imm<=a.hi+imm;omega,by show _=(B a.h.toNat+(d+imm))%_;omega⟩
 ·split
  ·rename_i h
   obtain⟨_,l,_,_⟩:=Ce b h.1;exact Bj AB
  ·exact Bj AB
theorem ZK(b:CG B a x)(c:0<=x)(d:x<=18446744073709551615)(l:imm<=1000000):CG B (Al s (Dj imm (AZ a))) (bits BinOp.and IntKind.u64 x (imm%18446744073709551616)):=by
 have k:=Zr c (show 0<=imm%18446744073709551616 by omega) d AB;refine Bj ?_;unfold Dj;split
 ·by_cases h:0<=AZ a
  ·obtain⟨_,e,j,_⟩:=Ce b h;omega
  ·omega
 ·omega
theorem iQ(c:CG B a x)(k:0<=x)(d:imm=(n:Int)):CG B (if AZ a=0 then Al s 0 else if 0<AZ a/\imm<=40 then Al s (Dk a.m ((2^imm.toNat:Nat):Int))else Al s (-1)) (x*2^n%18446744073709551616):=by
 split
 ·rename_i h
  obtain⟨_,b,l,_⟩:=Ce c AB;have:x=0:=AB;rw[this,Int.zero_mul];exact Bj AB
 ·split
  ·rename_i h
   obtain⟨_,b,_,_⟩:=Ce c AB;have e:((2^imm.toNat:Nat):Int)=(2:Int)^n:=by rw[d];simp
   rw[e];have j:(0:Int)<=2^n:=Int.le_of_lt (Int.pow_pos Ad);have:=fP k j b (Int.le_refl ((2:Int)^n));exact Bj AB
  ·exact Bj AB
theorem jG(j:CG B a x)(p:0<=x)(q:x<=18446744073709551615)(k:imm=(n:Int))(o:n<=63):CG B (if 0<=AZ a then Al s (a.m/((2^imm.toNat:Nat):Int))else if 24<=imm then Al s (((2^(64-imm).toNat:Nat):Int)-1)else Al s (-1)) (x/2^n):=by
 have e:((2^imm.toNat:Nat):Int)=(2:Int)^n:=by rw[k];simp
 have d:(0:Int)<2^n:=Int.pow_pos Ad;split
 ·rename_i h
  obtain⟨_,c,_,_⟩:=Ce j h;rw[e];exact Bj (Or.inr (Or.inr (Int.ediv_le_ediv d c)))
 ·split
  ·refine Bj (Or.inr (Or.inr ?_))
   rw[show(64-imm).toNat=64-n by omega];have l:((2^(64-n):Nat):Int)*2^n=18446744073709551616:=by
    have:(2^(64-n):Nat)*2^n=2^64:=by rw[<-Nat.pow_add];congr 1;omega
    have c:((2^(64-n)*2^n:Nat):Int)=((2^64:Nat):Int):=by rw[this]
    simpa using c
   have:=(Int.ediv_lt_iff_lt_mul d (a:=x) (b:=((2^(64-n):Nat):Int))).2 (by rw[l];omega);omega
  ·exact Bj AB
theorem WO{k:Int}(c:CG B a x)(d:CG B b y)(o:0<=x)(p:0<=y)(l:0<=k)(n:k<=1):CG B (if 0<=AZ a/\0<=AZ b then Al s (a.m+b.m+1)else Al s (-1)) ((x+y+k)%18446744073709551616):=by
 split
 ·rename_i h
  obtain⟨_,e,_,_⟩:=Ce c h.1;obtain⟨_,j,_,_⟩:=Ce d h.2;exact Bj AB
 ·exact Bj AB
theorem Yz:CG B (Al s imm) (imm%18446744073709551616):=Bj AB
theorem MK(_k:a.k=0∨a.k=1)(_k':b.k=0∨b.k=1)(h:CG B a x∨CG B b x):CG B (Cg a b) x:=by
 unfold Cg;split
 ·rename_i e
  refine Or.inr ⟨rfl,?_⟩;rcases h with(⟨q,_⟩|⟨_,d,j,l,c⟩)|(⟨q,_⟩|⟨_,d,j,l,c⟩)
  ·omega
  ·exact⟨d,by show(if b.lo<a.lo then b.lo else a.lo)<=d;split<;>omega,by show d<=(if b.hi>a.hi then b.hi else a.hi);split<;>omega,c⟩
  ·omega
  ·exact⟨d,by show(if b.lo<a.lo then b.lo else a.lo)<=d;split<;>omega,by show d<=(if b.hi>a.hi then b.hi else a.hi);split<;>omega,by rw[c,e.2.2]⟩
 ·split
  ·refine Or.inl ⟨rfl,Or.inr ?_⟩
   show x<=(if b.m>a.m then b.m else a.m);rcases h with(⟨_,q⟩|⟨q,_⟩)|(⟨_,q⟩|⟨q,_⟩)<;>split<;>omega
  ·exact Or.inl ⟨rfl,Or.inl rfl⟩
theorem QY{f:Int}(k:a.k=0∨a.k=1)(c:b.k=0∨b.k=1)(h:CG B a x∨CG B b x):CG B (KW a b f) x:=by
 unfold KW;by_cases e:f=2/\(Cg a b).k=1
 ·rw[if_pos e]
  exact(Bj (s:=true) (B:=B) (x:=x) (m:= -1) AB)
 ·rw[if_neg e]
  exact MK k c h
end
theorem DW.down{w N:World}{p Y:Nat}{U:Option Addr}{m:Md}(h:DW N p U n Y m u)(f:Fw p w N)(o:p<w.heap.size):DW w p U n Y m u:=by
 have k:∀{e s c:Nat}{v:Value}{d:List Value},u.ownsRow N.heap.size e s v c d->u.ownsRow w.heap.size e s v c d:=fun h=>by
  refine⟨h.1,?_⟩;rcases h.2 with b|⟨g,Y,a,b,j,l⟩
  ·exact .inl b
  ·exact .inr ⟨g,Y,a,b,Nat.le_trans f.size j,l⟩
 exact⟨f.trans h.F,h.K,k h.R,k h.H,k h.O,fun x q=>k (h.D x q),h.rr,h.hr,o⟩
theorem q9{q:Nat}{k a M D C O v6 v7 U:Value}{t:TypeId}(h:u.heap[q]?=some (.cells #[k,a,M,D,C,O,v6,v7,U] t)):u.cell? (Va q 0)=some k/\u.cell? (Va q 1)=some a/\u.cell? (Va q 2)=some M/\u.cell? (Va q 3)=some D/\u.cell? (Va q 4)=some C/\u.cell? (Va q 5)=some O/\u.cell? (Va q 6)=some v6/\u.cell? (Va q 7)=some v7/\u.cell? (Va q 8)=some U:=
 ⟨AJ h 0,AJ h 1,AJ h 2,AJ h 3,AJ h 4,AJ h 5,AJ h 6,AJ h 7,AJ h 8⟩
structure ML(B:Nat)(m:Md)(u:World):Prop where
 R:u.ownsRow B 41 1 m.vR m.rs.length (m.rs.map (.int .u64 ·))
 H:u.ownsRow B 43 3 m.vH m.hs.length (m.hs.flatMap ZU)
 O:u.ownsRow B 167 2 m.vO m.os.length (m.os.flatMap xM)
 D:∀h∈m.hs,u.ownsRow B 5 1 h.v h.ds.length (h.ds.map (.int .u8 ·))
 rr:∀x∈m.rs,JL x
 hr:∀h∈m.hs,JL h.base/\h.ds.length<=4100/\∀x∈h.ds,0<=x/\x<=255
theorem DW.ml{w:World}{p Y:Nat}{U:Option Addr}{m:Md}(h:DW w p U n Y m u):ML w.heap.size m u:=⟨h.R,h.H,h.O,h.D,h.rr,h.hr⟩
theorem ML.below{m:Md}{Q:World}(h:ML B m u)(b:Below u.heap.size u Q):ML B m Q:=⟨BM h.R b,BM h.H b,BM h.O b,fun x a=>BM (h.D x a) b,h.rr,h.hr⟩
theorem RG{e s F k0 c:Nat}{a:Option Addr}{d:List Value}{f E:Nat->Value}(h:u.ownsRow B e s (.slice a n c) n d)(l:Ak u F k0 E)(r:∀i,i<n*s->d[i]?=some (f i)):∃b,Nl a c n b/\Ak u b (n*s) f/\n<=c:=by
 rcases h.2 with⟨k,p⟩|⟨g,m,o,k,x,y,q,z,A,C⟩
 ·obtain⟨rfl,_,rfl⟩:=Value.slice.inj k
  subst p;exact⟨F,.inl ⟨rfl,rfl,rfl⟩,⟨l.1,l.2.1,fun i j=>absurd j AB⟩,BQ⟩
 ·obtain⟨rfl,_,rfl⟩:=Value.slice.inj k
  exact⟨g,.inr rfl,⟨(h.lt g rfl).2,fun i=>h.frozenAt i,fun i j=>(h.cellAt i j).trans (r i j)⟩,q⟩
def hd0:HD:=⟨0,false,.slice none 0 0,[]⟩
def rL(rs:List Int)(i:Nat):Int:=rs.getD i 0
def hL(hs:List HD)(i:Nat):Bv:=⟨(hs.getD i hd0).base,(hs.getD i hd0).wr,none,(hs.getD i hd0).ds.length,0,fun j=>(hs.getD i hd0).ds.getD j 0⟩
def yB:Value->Option Addr
 |.slice a _ _=>a
 |_=>none
def yN:Value->Nat
 |.slice _ _ c=>c
 |_=>0
def aL(hs:List HD)(i:Nat):Option Addr:=yB (hs.getD i hd0).v
def cL(hs:List HD)(i:Nat):Nat:=yN (hs.getD i hd0).v
def kL(os:List (Int×Int))(i:Nat):Int:=(os.getD i (0,0)).1
def vL(os:List (Int×Int))(i:Nat):Int:=(os.getD i (0,0)).2
theorem iI(k:IntKind)(a:List Int)(i:Nat)(b:i<a.length):(a.map (.int k ·))[i]?=some (EU k (fun j=>a.getD j 0) i):=by
 rw[List.getElem?_map,List.getElem?_eq_getElem b];simp[EU,List.getElem?_eq_getElem b]
theorem kM:∀(b:List HD),(∀h∈b,∃a c,h.v=.slice a h.ds.length c)->∀i,i<b.length*3->(b.flatMap ZU)[i]?=some (CO (fun i=>(hL b i).put (aL b i) (cL b i)) i)
 |[],_,i,hi=>by simp at hi
 |x::l,hv,i,hi=>by
  have d:∀j,CO (fun i=>(hL (x::l) i).put (aL (x::l) i) (cL (x::l) i)) (j+3)=CO (fun i=>(hL l i).put (aL l i) (cL l i)) j:=fun j=>by
   unfold CO;rw[show(j+3)%3=j%3 by omega,show(j+3)/3=j/3+1 by omega];rfl
  obtain⟨a,c,e⟩:=hv x AX;rw[List.flatMap_cons];match i,hi with
  |0,_=>rfl
  |1,_=>rfl
  |2,_=>
   show some x.v=some (Value.slice (yB x.v) x.ds.length (yN x.v));rw[e];rfl
  |j+3,hi=>
   rw[List.getElem?_append_right (by show 3<=j+3;omega),show j+3-(ZU x).length=j by show j+3-3=j;omega,d j];exact kM l (fun h k=>hv h (by simp[k])) j (by simp at hi;omega)
theorem qz:∀(a:List (Int×Int))(i:Nat),i<a.length*2->(a.flatMap xM)[i]?=some (Dg (kL a) (vL a) i)
 |[],i,hi=>by simp at hi
 |x::l,i,hi=>by
  have b:∀j,Dg (kL (x::l)) (vL (x::l)) (j+2)=Dg (kL l) (vL l) j:=fun j=>by
   unfold Dg;rw[show(j+2)%2=j%2 by omega,show(j+2)/2=j/2+1 by omega];rfl
  rw[List.flatMap_cons];match i,hi with
  |0,_=>rfl
  |1,_=>rfl
  |j+2,hi=>
   rw[List.getElem?_append_right (by show 2<=j+2;omega),show j+2-(xM x).length=j by show j+2-2=j;omega,b j];exact qz l j (by simp at hi;omega)
theorem ML.g{F k0:Nat}{E:Nat->Value}{ra:Option Addr}{rc:Nat}{U fc fhz C:Bool}{p:Option Addr}{M N:Int}{S:Option Addr}{e:Nat}{rs:List Int}{hs:List HD}{os:List (Int×Int)}(h:ML B ⟨.slice ra rs.length rc,U,fc,fhz,C,.slice p hs.length n,M,N,.slice S os.length e,rs,hs,os⟩ u)(k:Ak u F k0 E):
 ∃o l m,Hf u ra rc o rs.length (rL rs) p n l hs.length (hL hs) (aL hs) (cL hs) S e m os.length (kL os) (vL os):=by
 obtain⟨o,Z,y,_⟩:=RG (f:=EU .u64 (rL rs)) h.R k (fun i d=>iI .u64 rs i (by simpa using d));obtain⟨l,X,I,Q⟩:=RG (f:=CO (fun i=>(hL hs i).put (aL hs i) (cL hs i))) h.H k (fun i d=>kM hs (fun x s=>Cf (h.D x s)) i d);obtain⟨m,Y,J,_⟩:=RG (f:=Dg (kL os) (vL os)) h.O k (fun i d=>qz os i d);rw[Nat.mul_one]at y;refine⟨o,l,m,y,I,fun i d L=>?_,J,Z,X,Y,Q⟩;have s:hs.getD i hd0∈hs:=by
  rw[KJ,List.getElem?_eq_getElem d];exact List.getElem_mem d
 have q:=h.D _ s;obtain⟨a,c,A⟩:=Cf q;have r:0<(hs.getD i hd0).ds.length:=L;rw[A]at q;obtain⟨b,nb,z,_⟩:=RG (f:=EU .u8 (fun j=>(hs.getD i hd0).ds.getD j 0)) q k (fun j K=>iI .u8 _ j (by simpa using K));rw[Nat.mul_one]at z;refine⟨b,?_,z⟩;show yB (hs.getD i hd0).v=_;rw[A];exact nb.some r
theorem ML.range{m:Md}(h:ML B m u):Lf (rL m.rs) m.hs.length (hL m.hs):=by
 refine⟨fun i _=>?_,fun i a=>?_,fun i a j d=>?_⟩
 ·show JL (m.rs.getD i 0)
  rw[KJ];cases hc:m.rs[i]? with
  |none=>exact⟨Int.le_refl _,Ad⟩
  |some x=>exact h.rr x (List.mem_of_getElem? hc)
 ·have c:m.hs.getD i hd0∈m.hs:=by
   rw[KJ,List.getElem?_eq_getElem a];exact List.getElem_mem a
  exact(h.hr _ c).1
 ·have c:m.hs.getD i hd0∈m.hs:=by
   rw[KJ,List.getElem?_eq_getElem a];exact List.getElem_mem a
  show 0<=(m.hs.getD i hd0).ds.getD j 0/\_;have b:j<(m.hs.getD i hd0).ds.length:=d;have e:(m.hs.getD i hd0).ds.getD j 0∈(m.hs.getD i hd0).ds:=by
   rw[KJ (l:=(m.hs.getD i hd0).ds),List.getElem?_eq_getElem b];exact List.getElem_mem b
  exact(h.hr _ c).2.2 _ e
theorem ML.small{m:Md}(h:ML B m u)(c:m.rs.length<=8)(d:m.hs.length<=8)(e:m.os.length<=2):Small m.rs.length m.hs.length (hL m.hs) m.os.length:=by
 refine⟨AB,AB,fun i a=>?_,AB⟩;have b:m.hs.getD i hd0∈m.hs:=by
  rw[KJ,List.getElem?_eq_getElem a];exact List.getElem_mem a
 have:=(h.hr _ b).2.1;show(m.hs.getD i hd0).ds.length<=_;omega
end
section
open Go.RowKit Go.Deep
variable {d:List Value}{B e n q s:Nat}{v:Value}{u w:World}
def Qg(hs:List HD)(k:Nat):Int:=(hs.getD k hd0).base
theorem KQ(p:Nat)(j:Option Addr)(n b:Nat)(v:VV)(K:Option Addr)(l B:Nat)(d:List HD)(w:World)(hv:GV v (d.length:Int))(hc:CJ w p j n b)(hH:w.ownsRow B 43 3 (.slice K d.length l) d.length (d.flatMap ZU))(hB:p<B)(hl:d.length<=8):
 Ks 69 #[Vq p,.agg #[Vi v.k,.bool v.s,Vi v.m,Vi v.h,Vi v.lo,Vi v.hi],.slice K d.length l] w fun e a=>∃x:Int,e=.returned (.int .u64 x)/\JL x/\CG (Qg d) v x/\Fw p w a/\CJ a p j n b:=by
 have HC:=hxy hc;have Z:=hxy hv;have Y:=hxy hH;have lp:=hc.lt;go_enter Tryz.func69,Tryz.ntmps69;go_upto_region 1 with fail;obtain⟨u,hu,bu,eu⟩:∃y,w.alloc (.cells #[Vi v.k,.bool v.s,Vi v.m,Vi v.h,Vi v.lo,Vi v.hi] 47)=y/\Bw w y/\Cl y w.heap.size [Vi v.k,.bool v.s,Vi v.m,Vi v.h,Vi v.lo,Vi v.hi]:=⟨_,rfl,Ai,Cl.new⟩
 rw[hu];have F0:Hid (Fw p w u):=.of_below bu;have C0:=hxy (HC.below bu);have E0:=hxy eu;go_wp2_with fail;refine(Wq p j n b _ C0).mono ?_;rintro e u1⟨x,rfl,U,f,c⟩;have I:=hxy (F0.trans f);have F:=hxy c;have z:Hid (Cl u1 w.heap.size [Vi v.k,.bool v.s,Vi v.m,Vi v.h,Vi v.lo,Vi v.hi]):=f.cl E0 AB;obtain⟨x0,x1⟩:=U;have c0:=KL z;have cz:=z.1;by_cases L:v.k=1
 rotate_left
 ·have O:v.k=0/\ -1<=v.m/\v.m<=1099511627776:=by rcases Z.out with q|q;exact⟨q.1,q.2.1,q.2.2.1⟩;exact absurd q.1 L
  have J:=hxy O.1;have m1:=O.2.1;have m2:=O.2.2;have ek:(v.k==1)=false:=by simp[L]
  by_cases m0:0<=v.m
  ·have em:decide (0<=v.m)=true:=by simp[m0]
   go_wp2_with fail;go_ret;have q1:=Int.emod_nonneg x (show v.m+1≠0 by omega);have q2:=Int.emod_lt_of_pos x (show 0<v.m+1 by omega);exact⟨_,rfl,⟨AB,AB⟩,Or.inl ⟨J,Or.inr AB⟩,I,F⟩
  ·have em:decide (0<=v.m)=false:=by simp;omega
   go_wp2_with fail;go_ret;exact⟨_,rfl,⟨AB,AB⟩,Or.inl ⟨J,Or.inl AB⟩,I,F⟩
 have hp:0<=v.h/\v.h<d.length/\ -1099511627776<=v.lo/\v.lo<=v.hi/\v.hi<=1099511627776:=by rcases Z.out with q|q;exact absurd q.1 AB;exact⟨q.2.2.2.1,q.2.2.2.2.1,q.2.2.2.2.2⟩
 obtain⟨p0,p1,p2,p3,p4⟩:=hp;have J:=hxy L;have ek:(v.k==1)=true:=by simp[L]
 go_upto_if 21 with fail;go_cut [8](fun s8 wx=>(∃r:Int,s8=Vi r/\1<=r/\r<=v.hi-v.lo+1/\r<=1000)/\wx=u1)
 case first=>
  by_cases g1:1000<v.hi-v.lo+1
  ·have e1:decide (1000<v.hi-v.lo+1)=true:=by simp;omega
   go_wp2_with fail;go_meet;exact⟨⟨1000,rfl,AB,AB,AB⟩,rfl⟩
  ·have e1:decide (1000<v.hi-v.lo+1)=false:=by simp;omega
   go_wp2_with fail;go_meet;exact⟨⟨_,rfl,AB,AB,AB⟩,rfl⟩
 case rest=>
 obtain⟨⟨r,rfl,aa,ab,ac⟩,hw⟩:=hcut;rw[hw];obtain⟨o,D⟩:=Int.eq_ofNat_of_zero_le p0;have Q:o<d.length:=AB;obtain⟨C,gc,R⟩:∃g c,Value.slice K d.length l=Vs g d.length c:=by
  obtain⟨g,c,h⟩:=G8 Y AB;exact⟨g,c,h⟩
 obtain⟨rfl,rfl⟩:K=some ⟨C,0,none⟩/\l=gc:=by
  have:=R;simp only[Value.slice.injEq]at this;exact⟨this.1,this.2.2⟩
 obtain⟨X,E⟩:∃y:HD,d[o]?=some y:=⟨_,List.getElem?_eq_getElem Q⟩
 have j3:∀a,Fw p u1 a/\CJ a p j n b->a.cell? ⟨w.heap.size,3,none⟩=some (Vi (o:Int)):=fun a h=>by rw[<-D];exact(h.1.cl z AB).2 3 AX
 have j4:∀a,Fw p u1 a/\CJ a p j n b->a.cell? ⟨w.heap.size,4,none⟩=some (Vi v.lo):=fun a h=>(h.1.cl z AB).2 4 AX
 have jz:∀a,Fw p u1 a/\CJ a p j n b->w.heap.size<a.heap.size:=fun a h=>(h.1.cl z AB).1
 have jr:∀a,Fw p u1 a/\CJ a p j n b->a.ownsRow B 43 3 (Vs C d.length l) d.length (d.flatMap ZU):=fun a h=>Eb Y (I.trans h.1) hB
 have j0:∀a,Fw p u1 a/\CJ a p j n b->a.cell? (Va C (o*3))=some (.int .u64 X.base):=fun a h=>by
  rw[(jr a h).cellAt (o*3) AB];exact qw d o X E
 have j1:∀a,Fw p u1 a/\CJ a p j n b->C<a.heap.size:=fun a h=>((jr a h).lt C rfl).2
 have M:Hid (Qg d o=X.base):=by
  unfold Qg;rw[KJ,E];rfl
 have N:=hxy D;go_upto_region 6 with fail;refine wp_region_held_drew (S:=fun a=>Fw p u1 a/\CJ a p j n b) AV ⟨.of_below BJ.drew,F.below BJ.drew⟩ (fun _=>?_);refine EX [0,1,2,3,4,5,6,7,8,9] ?_;refine AO 10 rfl (fun KK hK=>?_);go_simp;refine(Af p j n b r _ AB (F.below BJ.drew)).mono ?_;rintro e u2⟨y,rfl,y0,y1,f,c⟩;have S2:Fw p u1 u2/\CJ u2 p j n b:=⟨(Fw.of_below BJ.drew).trans f,c⟩
 go_wp2_with fail;refine hK.out _ _ S2 (fun _=>?_);refine EX [11,12,13,14] ?_;refine wpAnyH_done AV ?_ _;have A:=hxy S2;go_wp2_with fail;go_ret;refine⟨_,rfl,Qd _,Or.inr ⟨J,v.lo+y,AB,AB,?_⟩,I.trans A.1,A.2⟩;rw[N.out,Int.toNat_natCast,M.out];simp only[IntKind.wrap_u64,IntKind.wrap_i64];omega
theorem Xi(h:u.ownsRow B e s v n d)(a:v.ownBlock=some q):q<u.heap.size:=by
 rcases h.2 with⟨b,_⟩|⟨g,c,j,b,_,k,_⟩
 ·rw[b]at a;cases a
 ·rw[b]at a
  have l:g=q:=Option.some.inj a;have m:=(Array.getElem?_eq_some_iff.1 k).1;omega
theorem iJ(h:u.ownsRow B e s v n d)(a:v.ownBlock=some q):B<=q:=by
 rcases h.2 with⟨b,_⟩|⟨g,c,j,b,l,_⟩
 ·rw[b]at a;cases a
 ·rw[b]at a
  have k:g=q:=Option.some.inj a;omega
theorem Ke{J:Nat}(h:w.ownsRow B e s v n d)(l:J<=B):w.ownsRow J e s v n d:=by
 refine⟨h.1,?_⟩;rcases h.2 with c|⟨g,a,b,c,j,k⟩
 ·exact .inl c
 ·exact .inr ⟨g,a,b,c,Nat.le_trans l j,k⟩
structure rQ(m:Md)(q r hb:Nat):Prop where
 R:m.vR.ownBlock≠some hb
 H:m.vH.ownBlock≠some hb
 O:m.vO.ownBlock≠some hb
 D:∀x∈m.hs,x.v.ownBlock≠some hb
 q:hb≠q
 r:hb≠r
theorem DX.off{p Y r:Nat}{U:Option Addr}{m:Md}(h:DX w p U n Y q r m u){C:Nat}(b:u.heap.size<=C):rQ m q r C:=
 ⟨fun e=>by have:=Xi h.W.R e;omega,fun e=>by have:=Xi h.W.H e;omega,fun e=>by have:=Xi h.W.O e;omega,fun x a e=>by have:=Xi (h.W.D x a) e;omega,by have:=(I8.1 h.X).1;omega,by have:=(I8.1 h.Z).1;omega⟩
theorem DX.putO{p Y r:Nat}{U:Option Addr}{m:Md}(h:DX w p U n Y q r m u){C:Nat}(o:rQ m q r C)(b:w.heap.size<=C)(j:Nat)(v:Value):DX w p U n Y q r m (u.setCell (Va C j) v):=
 ⟨⟨h.W.F.put b _ _,h.W.K.put (by have:=h.W.pw;omega) _ _,CV h.W.R o.R _ _,CV h.W.H o.H _ _,CV h.W.O o.O _ _,fun x a=>CV (h.W.D x a) (o.D x a) _ _,h.W.rr,h.W.hr,h.W.pw⟩,Ao h.X (fun e=>o.q e.symm) _ _,Ao h.Z (fun e=>o.r e.symm) _ _,h.wq,h.wr,h.ne⟩
def yt(w:World)(p:Nat)(ao:Option Addr)(n cap q r:Nat)(m:Md)(bs:Int)(wb:Bool)(sz:Int)(hb:Nat)(va:Option Addr)(vc:Nat)(ds:List Int)(u:World):Prop:=
 DX w p ao n cap q r m u/\u.heap[hb]?=some (.cells #[.int .u64 bs,.bool wb,.slice va ds.length vc] 43)/\u.ownsRow w.heap.size 5 1 (.slice va ds.length vc) ds.length (ds.map (.int .u8 ·))/\(ds.length:Int)=sz/\(∀x∈ds,0<=x/\x<=255)/\w.heap.size<=hb
structure YM(m:Md)(S:Nat->HS):Prop where
 form:m={GQ with vR:=m.vR,vH:=m.vH,rs:=m.rs,hs:=m.hs}
 heap:∀i,i<m.hs.length->((m.hs.getD i hd0).ds.length:Int)=(S i).size/\(m.hs.getD i hd0).wr=(S i).w
 sp:∀i j,i<j->j<m.hs.length->(m.hs.getD i hd0).base+(m.hs.getD i hd0).ds.length<=(m.hs.getD j hd0).base
 tp:∀i,i<m.hs.length->(m.hs.getD i hd0).base+(m.hs.getD i hd0).ds.length<=18446744073709551615
def Nx(hs:List HD)(bs:Int):Prop:=(∀i,i<hs.length->(hs.getD i hd0).base+(hs.getD i hd0).ds.length<=bs)/\0<=bs/\bs<=18446744073709531615+4104*(hs.length:Int)
theorem Ie{α:Type}{l:List α}{x d:α}{i:Nat}(a:i<(l++[x]).length):(l++[x]).getD i d=if i<l.length then l.getD i d else x:=by
 rw[KJ];by_cases h:i<l.length
 ·rw[if_pos h,List.getElem?_append_left h,KJ]
 ·have:i=l.length:=by rw[List.length_append]at a;simp at a;omega
  subst this;rw[if_neg h];simp
theorem YM.grow{m:Md}{S:Nat->HS}(h:YM m S){vH:Value}{x:HD}(k:(x.ds.length:Int)=(S m.hs.length).size)(l:x.wr=(S m.hs.length).w)(n:Nx m.hs x.base)(o:x.base+x.ds.length<=18446744073709551615):YM {m with vH:=vH,hs:=m.hs++[x]} S:=by
 refine⟨?_,fun i b=>?_,fun i j c p=>?_,fun i b=>?_⟩
 ·have:=h.form
  rw[this]
 ·show(((m.hs++[x]).getD i hd0).ds.length:Int)=_/\((m.hs++[x]).getD i hd0).wr=_
  rw[Ie b];by_cases e:i<m.hs.length
  ·rw[if_pos e];exact h.heap i e
  ·have d:i=m.hs.length:=by have:=b;simp at this;omega
   subst d;rw[if_neg e];exact⟨k,l⟩
 ·show((m.hs++[x]).getD i hd0).base+((m.hs++[x]).getD i hd0).ds.length<=((m.hs++[x]).getD j hd0).base
  have a:j<(m.hs++[x]).length:=p;rw[Ie a,Ie (show i<(m.hs++[x]).length by omega)];simp only[List.length_append,List.length_cons,List.length_nil]at a;rw[if_pos (show i<m.hs.length by omega)];by_cases e:j<m.hs.length
  ·rw[if_pos e];exact h.sp i j c e
  ·rw[if_neg e];exact n.1 i AB
 ·show((m.hs++[x]).getD i hd0).base+((m.hs++[x]).getD i hd0).ds.length<=18446744073709551615
  rw[Ie b];by_cases e:i<m.hs.length
  ·rw[if_pos e];exact h.tp i e
  ·rw[if_neg e];exact o
theorem Nx.grow{a:List HD}{x:HD}{b:Int}(h:Nx a x.base)(c:x.base+x.ds.length<=b)(k:b<=x.base+4104):Nx (a++[x]) b:=by
 obtain⟨j,l,m⟩:=h;refine⟨fun i d=>?_,AB,by simp only[List.length_append,List.length_cons,List.length_nil];omega⟩;rw[Ie d];by_cases e:i<a.length
 ·rw[if_pos e];have:=j i e;omega
 ·rw[if_neg e];exact c
structure OH(m:Md)(nH:Nat)(S:Nat->HS)(V:Nat->VV):Prop where
 h:YM m S
 nh:m.hs.length=nH
 nr:m.rs.length=8
 rg:∀i,i<8->CG (Qg m.hs) (V i) (m.rs.getD i 0)
theorem ME(p:Nat)(B:Option Addr)(n b:Nat)(bH cH nH:Nat)(S:Nat->HS)(bR cR:Nat)(V:Nat->VV)(w:World)(hc:CJ w p B n b)(hS:Ak w bH (nH*3) (Ur S))(hV:Ak w bR (8*6) (vF V))(aU:bH≠p)(ag:bR≠p)(n8:nH<=4)(ak:∀i,i<nH->1<=(S i).size/\(S i).size<=4096)(a9:∀i,i<8->GV (V i) nH):
 Ks 32 #[Vq p,.agg #[Vs bH nH cH,Vs bR 8 cR]] w fun e d=>∃m:Md,e=.returned (.agg m.a)/\OH m nH S V/\DW w p B n b m d:=by
 have HS:=hxy hS;have HV:=hxy hV;have bq:=hxy ak;have bo:=hxy a9;obtain⟨iH,gH,a3,a4,a5⟩:=info_parts Sy;have aC:Hid (Tryz.prog.info? 43=some iH/\iH.zero=some (.agg #[.int .u64 0,.bool false,.slice none 0 0])/\iH.size=3/\iH.bytes=40):=⟨gH,a3,a4,a5⟩
 obtain⟨iR,gR,a6,a7,a8⟩:=info_parts Rf;have aD:Hid (Tryz.prog.info? 41=some iR/\iR.zero=some (.int .u64 0)/\iR.size=1/\iR.bytes=8):=⟨gR,a6,a7,a8⟩
 have bF:=hc.lt;have HC:=hxy hc;clear hc gH a3 a4 a5 gR a6 a7 a8 hS hV ak a9;go_enter Tryz.func32,Tryz.ntmps32;go_upto_region 2 with fail;obtain⟨A,aW,au,a2⟩:∃y,w.alloc (.cells #[Vs bH nH cH,Vs bR 8 cR] 26)=y/\Bw w y/\Cl y w.heap.size [Vs bH nH cH,Vs bR 8 cR]:=⟨_,rfl,Ai,Cl.new⟩
 have bk:A.heap.size=w.heap.size+1:=by rw[<-aW];simp
 rw[aW];have bl:Hid (Fw p w A):=.of_below au;have a0:=hxy (HC.below au);have aN:=hxy (HS.below au HS.lt);have ae:=hxy (HV.below au HV.lt);have E0:=hxy a2;obtain⟨u0,aV,x0⟩:∃y,(A.alloc (.cells GQ.a 39)).alloc (.cells GQ.a 39)=y/\DX A p B n b (A.heap.size+1) A.heap.size GQ y:=⟨_,rfl,sZ A p B n b a0⟩
 unfold Md.a GQ at aV;rw[aV];rw[bk]at x0;obtain⟨r,hr⟩:=Au (w.heap.size+1);obtain⟨q,hq⟩:=Au (w.heap.size+1+1);rw[hq,hr]at x0;rw[hq,hr];obtain⟨nb,bf⟩:=Au w.heap.size;have X0:=hxy x0;have lp:p<A.heap.size:=AB;have aH:nb≠p:=AB;rw[bf]at E0⊢;have HD:Hid (DW A p B n b GQ u0->True):=fun _=>trivial
 clear aV x0 aW au a2 HC HS HV a0 HD bk hr hq bf;go_wp2_with fail;refine(Af p B n b 6 _ AB X0.W.K).mono ?_;rintro e u1⟨x,rfl,xl,xh,f,c⟩;have X1:=hxy (X0.fw f c);clear f c X0;go_wp2_with fail;refine(Ed p B n b 6 _ AB X1.W.K).mono ?_;rintro e u2⟨z,rfl,f,c⟩;have X2:=hxy (X1.fw f c);clear f c X1;go_upto_if 17 with fail;go_cut [6](fun s6 wx=>(∃E,s6=.int .u64 E/\JL E/\Nx [] E)/\DX A p B n b q r GQ wx)
 case first=>
  cases z with
  |true=>
   go_wp2_with fail;go_meet;exact⟨⟨_,rfl,by unfold JL;omega,fun i hi=>absurd hi (Nat.not_lt_zero _),AB,by simp only[List.length_nil];omega⟩,X2⟩
  |false=>
   go_wp2_with fail;go_meet;exact⟨⟨_,rfl,by unfold JL;omega,fun i hi=>absurd hi (Nat.not_lt_zero _),AB,by simp only[List.length_nil];omega⟩,X2⟩
 case rest=>
 clear X2;obtain⟨⟨E,rfl,av,aA⟩,fx⟩:=hcut;have ad:=hxy aA;have X3:=hxy fx;have aj:=hxy av;clear fx av aA;generalize wc=u3 at X3⊢;go_wp2_with fail;go_loopw [6,7](fun bv iv wr=>∃(E:Int)(m:Md),bv=.int .u64 E/\JL E/\iv=Vi (m.hs.length:Int)/\m.hs.length<=nH/\m.rs=[]/\(YM m S/\Nx m.hs E)/\DX A p B n b q r m wr)(fun _ iv _=>((nH:Int)-intOf iv).toNat)
 case atStart=>exact⟨E,GQ,rfl,aj,rfl,Nat.zero_le _,rfl,⟨⟨rfl,fun i hi=>absurd hi (Nat.not_lt_zero _),fun i j _ hi=>absurd hi (Nat.not_lt_zero _),fun i hi=>absurd hi (Nat.not_lt_zero _)⟩,ad⟩,X3⟩
 case round=>
  clear X3 aj ad;obtain⟨E,m,rfl,av,rfl,aT,be,⟨ay,aA⟩,hx⟩:=hrel;have ad:=hxy aA;clear aA;have aj:=hxy av;have an:=hxy be;have J:=hxy ay;have I:=hxy hx;obtain⟨kn,hk⟩:∃k:Nat,m.hs.length=k:=⟨_,rfl⟩
  have HK:=hxy hk;rw[hk]at aT⊢;clear av be ay hx hk;have j0:∀d,DX A p B n b q r m d->d.cell? (Va nb 0)=some (Vs bH nH cH):=fun d h=>(h.W.F.cl E0 aH).2 0 AX
  have jz:∀d,DX A p B n b q r m d->nb<d.heap.size:=fun d h=>(h.W.F.cl E0 aH).1
  have c0:=j0 _ I;have cz:=jz _ I;by_cases aS:kn<nH
  ·have bL:(kn:Int)<(nH:Int):=AB
   obtain⟨bG,bI⟩:=bq.out kn aS;obtain⟨sz,ak⟩:∃x:Int,(S kn).size=x:=⟨_,rfl⟩
   obtain⟨wb,bi⟩:∃x:Bool,(S kn).w=x:=⟨_,rfl⟩
   have aE:Hid ((S kn).size=sz/\(S kn).w=wb):=⟨ak,bi⟩
   rw[ak]at bG bI;clear ak bi;have jb:∀d,DX A p B n b q r m d->bH<d.heap.size:=fun d h=>(h.W.F.arr aN aU).lt
   have js:∀d,DX A p B n b q r m d->d.cell? (Va bH (kn*3))=some (Vi sz):=fun d h=>by rw[<-aE.1];exact(Sw (h.W.F.arr aN aU) aS).1
   have jw:∀d,DX A p B n b q r m d->d.cell? (Va bH (kn*3+2))=some (.bool wb):=fun d h=>by rw[<-aE.2];exact(Sw (h.W.F.arr aN aU) aS).2.2
   go_upto_region 8 with fail;clear c0 cz;go_cut [8](fun s8 wx=>∃hb Y vc D,s8=Vq hb/\yt A p B n b q r m E wb sz hb Y vc D wx)
   case first=>as_aux_lemma=>
    refine wp_region_held_drew (S:=fun d=>DX A p B n b q r m d) AV (I.below BJ.drew) (fun _=>?_);refine EX [0,1,2,3,4,5,6,7,8,9,10,11,12,13] ?_;have X6:Hid (DX A p B n b q r m wr.drew):=I.below BJ.drew;generalize wr.drew=t0 at X6⊢;clear I;refine wpAnyH_ready (rs:=[14,16]) AV AX ?_;refine AllReadyH.cons rfl (fun KK Q=>?_) (AllReadyH.cons rfl (fun KK Q=>?_) AllReadyH.nil)
    ·skip
     go_simp;refine(Ki p B n b sz _ AB AB X6.W.K).mono ?_;rintro e u8⟨v,rfl,D,aw,ax,ab,f,c⟩;have X8:=hxy (X6.fw f c);obtain⟨Y,vc,rfl⟩:=Cf ab;have aJ:=hxy (Ke ab X6.W.F.size);have ac:Hid ((D.length:Int)=sz/\∀x∈D,0<=x/\x<=255):=⟨aw,ax⟩
     go_wp2_with fail;refine Q.out _ _ X8 (fun _=>?_);clear Q KK f c ab aw ax X6;try go_frame
     refine AU 15 ?_;refine AO 16 rfl (fun KK Q=>?_);go_simp;refine Q.out _ _ (X8.below Ai) (fun _=>?_);clear Q KK
     try go_frame
     refine AO 17 rfl (fun KK Q=>?_)
     go_simp
     refine Q.out _ _ (X8.below Ai) (fun _=>?_)
     clear Q KK
     try go_frame
     refine wpAnyH_done AV ?_ _
     clear j0 jz jb js jw
     go_wp2_with fail
     go_meet
     exact⟨u8.heap.size,Y,vc,D,rfl,X8.below Ai,Az _ _,BM aJ Ai,ac.1,ac.2,X8.W.F.size⟩
    ·skip
     go_simp
     refine Q.out _ _ (X6.below Ai) (fun _=>?_)
     clear Q KK
     try go_frame
     obtain⟨t1,bh,x7,h7,z7⟩:∃y,t0.alloc (.cells #[.int .u64 0,.bool false,.slice none 0 0] 43)=y/\DX A p B n b q r m y/\y.heap[t0.heap.size]?=some (.cells #[.int .u64 0,.bool false,.slice none 0 0] 43)/\t0.heap.size<y.heap.size:=⟨_,rfl,X6.below Ai,Az _ _,AX⟩
     rw[bh]
     have HO:Hid (rQ m q r t0.heap.size/\A.heap.size<=t0.heap.size):=⟨X6.off BQ,X6.W.F.size⟩
     obtain⟨hb,aR⟩:=Au t0.heap.size
     rw[aR]at h7 z7 HO
     rw[aR]
     have X7:=hxy x7
     have H7:=hxy h7
     have Z7:=hxy z7
     clear bh x7 h7 z7 aR X6
     refine AO 14 rfl (fun KK Q=>?_)
     go_simp
     refine(Ki p B n b sz _ AB AB X7.W.K).mono ?_
     rintro e u8⟨v,rfl,D,aw,ax,ab,f,c⟩
     have X8:=hxy (X7.fw f c)
     obtain⟨Y,vc,rfl⟩:=Cf ab
     have aJ:=hxy (Ke ab X7.W.F.size)
     have aK:Hid ((Value.slice Y D.length vc).ownBlock≠some hb):=fun e=>by have h1:=iJ ab e;have h2:=Z7.out;omega
     have ac:Hid ((D.length:Int)=sz/\∀x∈D,0<=x/\x<=255):=⟨aw,ax⟩
     have H8:Hid (u8.heap[hb]?=some (.cells #[.int .u64 0,.bool false,.slice none 0 0] 43)):=Hr H7 f (by have:=HO.2;omega)
     go_wp2_with fail
     refine Q.out _ _ X8 (fun _=>?_)
     clear Q KK f c ab aw ax X7 H7 Z7
     try go_frame
     refine AU 15 ?_
     have c0:=AJ H8 0
     have c1:=AJ H8 1
     have c2:=AJ H8 2
     simp only[List.getElem?_toArray,List.getElem?_cons_zero,List.getElem?_cons_succ]at c0 c1 c2
     have cf:=CP H8
     have cz:=(I8.1 H8).1
     refine AO 17 rfl (fun KK Q=>?_)
     go_simp
     have XE:DX A p B n b q r m (((u8.setCell (Va hb 0) (.int .u64 E)).setCell (Va hb 1) (.bool wb)).setCell (Va hb 2) (.slice Y D.length vc)):=((X8.putO HO.1 HO.2 _ _).putO HO.1 HO.2 _ _).putO HO.1 HO.2 _ _
     refine Q.out _ _ XE (fun _=>?_)
     clear Q KK c0 c1 c2 cf cz
     try go_frame
     refine wpAnyH_done AV ?_ _
     have bA:=hxy XE
     clear XE j0 jz jb js jw
     go_wp2_with fail
     go_meet
     exact⟨hb,Y,vc,D,rfl,bA,(BG (BG (BG H8 0 _) 1 _) 2 _).trans rfl,CV (CV (CV aJ aK _ _) aK _ _) aK _ _,ac.1,ac.2,HO.2⟩
   case rest=>
   clear I j0 jz jb js jw
   obtain⟨hb,Y,vc,D,rfl,h8⟩:=hcut
   generalize wc=u9 at *
   have X9:=hxy h8.1
   have H9:=hxy h8.2.1
   have D9:=hxy h8.2.2.1
   have a1:=hxy h8.2.2.2.1
   have ac:=hxy h8.2.2.2.2.1
   have bO:=h8.2.2.2.2.2
   have bJ:D.length<=4096:=by have:=a1.out;omega
   have c0:=AJ H9 0
   have c1:=AJ H9 1
   have c2:=AJ H9 2
   simp only[List.getElem?_toArray,List.getElem?_cons_zero,List.getElem?_cons_succ]at c0 c1 c2
   have cz:=(I8.1 H9).1
   clear h8
   go_wp2_with fail
   refine(Zy E wb Y D.length vc _ AB).mono ?_
   rintro e u10⟨rfl,ai⟩
   have af:=hxy (X9.below ai)
   have aZ:=hxy ((ai.block hb cz).trans H9)
   have aX:=hxy (BM D9 ai)
   clear ai X9 H9 D9 c0 c1 c2 cz
   go_wp2_with fail
   refine(Af p B n b 9 _ AB af.W.K).mono ?_
   rintro e u11⟨g,rfl,g0,g1,f,c⟩
   have C:=hxy (af.fw f c)
   have al:Hid (u11.heap[hb]?=some (.cells #[.int .u64 E,.bool wb,.slice Y D.length vc] 43)):=Hr aZ f AB
   have aY:=hxy (Eb aX f lp)
   clear f c af aZ aX
   have c0:=AJ al 0
   have c1:=AJ al 1
   have c2:=AJ al 2
   simp only[List.getElem?_toArray,List.getElem?_cons_zero,List.getElem?_cons_succ]at c0 c1 c2
   have cz:=(I8.1 al).1
   obtain⟨⟨_,_,_,_,_,x5,_,_,_⟩,xf,xz⟩:=C.cells
   obtain⟨ha,U,O⟩:=Cf C.W.H
   rw[O]at x5
   have aF:=hxy O
   clear O
   go_upto_region 10 with fail
   obtain⟨b2,aG⟩:=Au (IntKind.u64.wrap (IntKind.u64.wrap (E+(D.length:Int))+g))
   have bm:Hid (JL b2):=(by rw[<-aG];exact Qd _:JL b2)
   have aO:Hid (E+D.length<=18446744073709551615/\E+D.length<=b2/\b2<=E+4104):=by
    obtain⟨_,k2,k3⟩:=ad.out
    have k4:=HK.out
    have k5:=aj.out
    unfold JL at k5
    rw[<-aG,IntKind.wrap_u64,IntKind.wrap_u64]
    show _/\_/\_
    omega
   rw[aG]
   clear aG
   have bE:m.hs.length<=8:=by have:=HK.out;omega
   have aQ:∀o,A.heap.size<=(u11.alloc o).heap.size:=fun o=>(C.below (BJ.alloc BQ o)).W.F.size
   have aI:Hid (∀j u,[Value.int .u64 E,.bool wb,.slice Y D.length vc][j]?=some u->(u11.alloc (.cells #[.int .u64 E,.bool wb,.slice Y D.length vc] 43)).cell? ((⟨u11.heap.size,0,none⟩:Addr).add j)=some u):=Fq u11 _ _
   have OA:Hid (∀o,(u11.alloc o).ownsRow A.heap.size 43 3 (.slice ha m.hs.length U) m.hs.length (m.hs.flatMap ZU)):=fun o=>by
    have k:=(C.below (BJ.alloc BQ o)).W.H
    rw[aF.out]at k
    exact k
   go_wp2_with(first|(at_builtin;refine wpList_append_own_at _ rfl _ _ 36 rfl A.heap.size 43 iH _ 3 40 Tryz.underlying36 aC.1 aC.2.1 aC.2.2.1 aC.2.2.2 rfl Ad _ _ _ rfl (OA _) ⟨u11.heap.size,0,none⟩ 1 1 [Value.int .u64 E,.bool wb,.slice Y D.length vc] rfl rfl aI ?c2 ?c3 ?c4 (aQ _) ?_))
   case c2=>simp[Value.oneCell']
   case c3=>unfold maxLen;omega
   case c4=>omega
   intro v' u12 N l _ _
   obtain⟨vb,aa,rfl⟩:=Cf N
   obtain⟨ua,aB,ba⟩:∃y,u11.alloc (.cells #[.int .u64 E,.bool wb,.slice Y D.length vc] 43)=y/\Bw u11 y:=⟨_,rfl,Ai⟩
   rw[aB]at l
   rw[<-aF.out]at l
   have XA:=C.below ba
   have ap:DW A p B n b {m with vH:=.slice vb (m.hs.length+1) aa,hs:=m.hs++[⟨E,wb,.slice Y D.length vc,D⟩]} u12:=XA.W.growH _ ⟨E,wb,.slice Y D.length vc,D⟩ ⟨aj,by show D.length<=4100;omega,ac⟩ (BM aY ba) l N
   have L:=KG XA.X l (Lm XA.X XA.W.H Ad)
   have ar:=KG XA.Z l (Lm XA.Z XA.W.H Ad)
   have aP:Hid (DX A p B n b q r {m with vH:=.slice vb (m.hs.length+1) aa,hs:=m.hs++[⟨E,wb,.slice Y D.length vc,D⟩]} (u12.setCell (Va q 5) (.slice vb (m.hs.length+1) aa))):=DX.store ap L ar C.wq C.wr C.ne 5 _ rfl
   have y5:=AJ L 5
   have yf:=CP L
   have yz:=(I8.1 L).1
   clear N l ba aB XA ap L ar c0 c1 c2 cz x5 xf xz C al aY
   go_wp2_with fail
   go_roundw
   case rel=>exact⟨b2,{m with vH:=.slice vb (m.hs.length+1) aa,hs:=m.hs++[⟨E,wb,.slice Y D.length vc,D⟩]},rfl,bm,by have:=HK.out;simp;omega,by have:=HK.out;simp;omega,an,⟨J.grow (by rw[HK.out,aE.1];exact a1) (by rw[HK.out,aE.2]) ad aO.1,Nx.grow (x:=⟨E,wb,.slice Y D.length vc,D⟩) ad aO.2.1 aO.2.2⟩,aP⟩
   case measure=>simp[intOf];omega
  ·have bc:Hid (m.hs.length=nH):=(by have:=HK.out;omega:m.hs.length=nH)
   have bC:¬((kn:Int)<(nH:Int)):=AB
   clear aj HK ad
   go_wp2_with fail
   clear c0 cz j0 jz
   go_loopw [9](fun iv wr=>∃(m:Md),iv=Vi (m.rs.length:Int)/\m.rs.length<=8/\m.hs.length=nH/\YM m S/\(∀i,i<m.rs.length->CG (Qg m.hs) (V i) (m.rs.getD i 0))/\DX A p B n b q r m wr)(fun iv _=>(8-intOf iv).toNat)
   case atStart=>exact⟨m,by rw[an.out];rfl,by rw[an.out];exact Nat.zero_le _,bc.out,J,fun i hi=>by rw[an.out]at hi;exact absurd hi (Nat.not_lt_zero _),I⟩
   case round=>
    clear I an J bc bC
    obtain⟨m,rfl,aT,bd,ay,bg,hx⟩:=hrel
    have I:=hxy hx
    have am:=hxy bd
    have J:=hxy ay
    have aM:=hxy bg
    obtain⟨k,hk⟩:∃k:Nat,m.rs.length=k:=⟨_,rfl⟩
    have HK:=hxy hk
    rw[hk]at aT⊢
    clear bd ay bg hx hk
    by_cases M:k<8
    ·have bD:(k:Int)<8:=AB
     obtain⟨ha,U,O⟩:=Cf I.W.H
     have j1:∀d,DX A p B n b q r m d->d.cell? (Va nb 1)=some (Vs bR 8 cR):=fun d h=>(h.W.F.cl E0 aH).2 1 AX
     have jz:∀d,DX A p B n b q r m d->nb<d.heap.size:=fun d h=>(h.W.F.cl E0 aH).1
     have jb:∀d,DX A p B n b q r m d->bR<d.heap.size:=fun d h=>(h.W.F.arr ae ag).lt
     have v0:∀d,DX A p B n b q r m d->d.cell? (Va bR (k*6))=some (Vi (V k).k):=fun d h=>(Bh (h.W.F.arr ae ag) k M).1
     have v1:∀d,DX A p B n b q r m d->d.cell? (Va bR (k*6+1))=some (.bool (V k).s):=fun d h=>(Bh (h.W.F.arr ae ag) k M).2.1
     have v2:∀d,DX A p B n b q r m d->d.cell? (Va bR (k*6+2))=some (Vi (V k).m):=fun d h=>(Bh (h.W.F.arr ae ag) k M).2.2.1
     have v3:∀d,DX A p B n b q r m d->d.cell? (Va bR (k*6+3))=some (Vi (V k).h):=fun d h=>(Bh (h.W.F.arr ae ag) k M).2.2.2.1
     have v4:∀d,DX A p B n b q r m d->d.cell? (Va bR (k*6+4))=some (Vi (V k).lo):=fun d h=>(Bh (h.W.F.arr ae ag) k M).2.2.2.2.1
     have v5:∀d,DX A p B n b q r m d->d.cell? (Va bR (k*6+5))=some (Vi (V k).hi):=fun d h=>(Bh (h.W.F.arr ae ag) k M).2.2.2.2.2
     have j5:∀d,DX A p B n b q r m d->d.cell? (Va q 5)=some (.slice ha m.hs.length U):=fun d h=>by rw[<-O];exact h.cells.1.2.2.2.2.2.1
     have jq:∀d,DX A p B n b q r m d->q<d.heap.size:=fun d h=>h.cells.2.2
     have aF:=hxy O
     clear O
     go_upto_region 14 with fail
     refine wp_region_held_drew (S:=fun d=>DX A p B n b q r m d) AV (I.below BJ.drew) (fun _=>?_)
     refine EX [0,1,2,3,4,5,6,7] ?_
     refine AO 8 rfl (fun KK Q=>?_)
     go_simp
     refine(KQ p B n b (V k) ha U A.heap.size m.hs _ (by rw[am.out];exact bo k M) (I.below BJ.drew).W.K (by have h:=(I.below BJ.drew).W.H;rw[aF.out]at h;exact h) lp (by have:=am.out;omega)).mono ?_
     rintro e u10⟨x2,rfl,bj,az,f,c⟩
     have af:DX A p B n b q r m u10:=(I.below BJ.drew).fw f c
     have bu:=hxy bj
     have bp:=hxy az
     go_wp2_with fail
     refine Q.out _ _ af (fun _=>?_)
     clear Q KK f c bj az
     try go_frame
     refine AU 9 ?_
     refine wpAnyH_done AV ?_ _
     have C:=hxy af
     clear af I j1 jz jb v0 v1 v2 v3 v4 v5 j5 jq
     generalize u10=u11 at C⊢
     obtain⟨⟨x0,_,_,_,_,_,_,_,_⟩,xf,xz⟩:=C.cells
     obtain⟨ra,rc,ah⟩:=Cf C.W.R
     rw[ah]at x0
     have br:=hxy ah
     have bE:m.rs.length<=8:=by have:=HK.out;omega
     have aQ:∀o,A.heap.size<=(u11.alloc o).heap.size:=fun o=>(C.below (BJ.alloc BQ o)).W.F.size
     have aI:Hid (∀j u,[Value.int .u64 x2][j]?=some u->(u11.alloc (.cells #[.int .u64 x2] 41)).cell? ((⟨u11.heap.size,0,none⟩:Addr).add j)=some u):=Fq u11 _ _
     have OA:Hid (∀o,(u11.alloc o).ownsRow A.heap.size 41 1 (.slice ra m.rs.length rc) m.rs.length (m.rs.map (.int .u64 ·))):=fun o=>by
      have k:=(C.below (BJ.alloc BQ o)).W.R
      rw[ah]at k
      exact k
     clear ah
     go_wp2_with(first|(at_builtin;refine wpList_append_own_at _ rfl _ _ 35 rfl A.heap.size 41 iR _ 1 8 Tryz.underlying35 aD.1 aD.2.1 aD.2.2.1 aD.2.2.2 rfl Ad _ _ _ rfl (OA _) ⟨u11.heap.size,0,none⟩ 1 1 [Value.int .u64 x2] rfl rfl aI ?c2 ?c3 ?c4 (aQ _) ?_))
     case c2=>simp[Value.oneCell']
     case c3=>unfold maxLen;omega
     case c4=>omega
     intro v' u12 N l _ _
     obtain⟨vb,aa,rfl⟩:=Cf N
     obtain⟨ua,aB,ba⟩:∃y,u11.alloc (.cells #[.int .u64 x2] 41)=y/\Bw u11 y:=⟨_,rfl,Ai⟩
     rw[aB]at l
     rw[<-br.out]at l
     have XA:=C.below ba
     have ap:DW A p B n b {m with vR:=.slice vb (m.rs.length+1) aa,rs:=m.rs++[x2]} u12:=XA.W.growR _ x2 bu l N
     have L:=KG XA.X l (Lm XA.X XA.W.R Ad)
     have ar:=KG XA.Z l (Lm XA.Z XA.W.R Ad)
     have aP:Hid (DX A p B n b q r {m with vR:=.slice vb (m.rs.length+1) aa,rs:=m.rs++[x2]} (u12.setCell (Va q 0) (.slice vb (m.rs.length+1) aa))):=DX.store ap L ar C.wq C.wr C.ne 0 _ rfl
     have y0:=AJ L 0
     have yf:=CP L
     have yz:=(I8.1 L).1
     clear N l ba aB XA ap L ar x0 xf xz C
     go_wp2_with fail
     go_roundw
     case rel=>exact⟨{m with vR:=.slice vb (m.rs.length+1) aa,rs:=m.rs++[x2]},by have:=HK.out;simp;omega,by have:=HK.out;simp;omega,am,⟨by have h:=J.form;rw[h],J.heap,J.sp,J.tp⟩,fun i hi=>by
      show CG (Qg m.hs) (V i) ((m.rs++[x2]).getD i 0)
      rw[Ie hi]
      by_cases e:i<m.rs.length
      ·rw[if_pos e];exact aM i e
      ·have e2:i=k:=by have h:=hi;have h2:=HK.out;simp at h;omega
       rw[if_neg e,e2];exact bp,aP⟩
     case measure=>simp[intOf];omega
    ·have bb:Hid (m.rs.length=8):=(by have:=HK.out;omega:m.rs.length=8)
     have bK:¬((k:Int)<8):=AB
     obtain⟨ra,rc,ah⟩:=Cf I.W.R
     obtain⟨ha,U,O⟩:=Cf I.W.H
     have hf:=J.form
     have bn:Hid (OH m nH S V):=⟨J,am,bb.out,fun i hi=>aM.out i (by have:=bb.out;omega)⟩
     clear HK am J aM
     obtain⟨vR,fz,fc,bN,bM,vH,pc,st,vO,rs,hs,os⟩:=m
     unfold GQ at hf
     dsimp only at hf ah O
     injection hf with _ e1 e2 e3 e4 _ e6 e7 e8 _ _ bB
     subst ah O e1 e2 e3 e4 e6 e7 e8 bB
     obtain⟨⟨x0,x1,x2,x3,x4,x5,x6,x7,x8⟩,xf,xz⟩:=I.cells
     dsimp only at x0 x1 x2 x3 x4 x5 x6 x7 x8
     obtain⟨z0,z1,z2,z3,z4,z5,z6,z7,z8,zf,zz⟩:=z9 I.Z
     have bw:Hid (DW A p B n b ⟨.slice ra rs.length rc,false,false,false,false,.slice ha hs.length U,0,0,.slice none 0 0,rs,hs,[]⟩ _):=I.W.put9 I.wr I.Z (.slice ra rs.length rc) (.bool false) (.bool false) (.bool false) (.bool false) (.slice ha hs.length U) (Vi 0) (Vi 0) (.slice none 0 0)
     have bP:=I.ne
     clear I
     go_wp2
     refine mY (.agg #[.slice ra rs.length rc,.bool false,.bool false,.bool false,.bool false,.slice ha hs.length U,Vi 0,Vi 0,.slice none 0 0]) (by simp[results,Tryz.results32,go_sem,z0,z1,z2,z3,z4,z5,z6,z7,z8]) ⟨⟨.slice ra rs.length rc,false,false,false,false,.slice ha hs.length U,0,0,.slice none 0 0,rs,hs,[]⟩,rfl,bn,bw.down bl bF⟩
end
end Go.Proofs.YtcjnmdgomocpgaaGreatDoor
