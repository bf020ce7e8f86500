import Derived.Deep.RegionHeld3
import Derived.Deep.DeepCutAuto
import Derived.Test.YtcjnmdgomocpgaaGreatDoorOfFlatAny
import Derived.Deep.Onto
set_option maxHeartbeats 8000000
set_option maxRecDepth 20000
namespace Go.Proofs.YtcjnmdgomocpgaaGreatDoor
open Go.RowKit
variable {Es:Array Value}{d:List Value}{Y e l n p q r s:Nat}{U:Option Addr}{t:TypeId}{a b j v w:World}
structure Fw(p:Nat)(w w':World):Prop where
 os:w'.os=w.os
 tape:w'.tape=w.tape
 output:w'.output=w.output
 size:w.heap.size<=w'.heap.size
 block:∀k,k<w.heap.size->k≠p->w'.heap[k]?=w.heap[k]?
theorem Fw.refl(p:Nat)(w:World):Fw p w w:=⟨rfl,rfl,rfl,BQ,fun _ _ _=>rfl⟩
theorem Fw.trans{c:World}(h:Fw p a b)(k:Fw p b c):Fw p a c:=
 ⟨k.os.trans h.os,k.tape.trans h.tape,k.output.trans h.output,Nat.le_trans h.size k.size,fun i d e=>(k.block i (Ey d h.size) e).trans (h.block i d e)⟩
theorem Fw.of_below(h:Below w.heap.size w j):Fw p w j:=⟨h.os,h.tape,h.output,h.size,fun k a _=>h.block k a⟩
theorem Fw.below{B:Nat}{C:World}(h:Fw p w j)(a:Below B C w)(c:B<=p)(d:B<=w.heap.size):Below B C j:=
 ⟨h.os.trans a.os,h.tape.trans a.tape,h.output.trans a.output,Nat.le_trans a.size h.size,fun k b=>(h.block k AB AB).trans (a.block k b)⟩
theorem Fw.cell(h:Fw p w j){b o:Nat}(c:b<w.heap.size)(d:b≠p):j.cell? (Va b o)=w.cell? (Va b o):=World.cell?_of_block (a:=Va b o) (h.block b c d)
theorem Fw.frozen(h:Fw p w j){b o:Nat}(c:b<w.heap.size)(d:b≠p):j.frozen? (Va b o)=w.frozen? (Va b o):=World.frozen?_of_block (a:=Va b o) (h.block b c d)
theorem Fw.set(h:Fw p a b)(o:Nat)(v:Value):Fw p a (b.setCell (Va p o) v):=
 ⟨h.os,h.tape,h.output,by simpa using h.size,fun k d c=>(Below.heap_setCell b ⟨p,o,none⟩ v k c).trans (h.block k d c)⟩
theorem Fw.drewN(h:Fw p a b)(n:Nat):Fw p a (b.drewN n):=h.trans (.of_below (below_drewN BJ n))
theorem Fw.cl{b:Nat}{N:List Value}(h:Fw p w j)(a:Cl w b N)(d:b≠p):Cl j b N:=
 ⟨Ey a.1 h.size,fun i c=>(h.cell a.1 d).trans (a.2 i c)⟩
def I9(w:World)(p:Nat)(ao:Option Addr)(n:Nat):Prop:=n=0∨∃b off,ao=some ⟨b,off,none⟩/\b<p/\∀i,i<n->∃v:Int,0<=v/\v<=255/\w.cell? (Va b (off+i))=some (.int .u8 v)
structure CJ(w:World)(p:Nat)(ao:Option Addr)(n cap:Nat):Prop where
 lt:p<w.heap.size
 fz:∀i,w.frozen? (Va p i)=false
 cs:∃(i:Nat)(h:Int),i<=n/\w.cell? (Va p 0)=some (.slice ao n cap)/\w.cell? (Va p 1)=some (Vi i)/\w.cell? (Va p 2)=some (Vi h)
 row:I9 w p ao n
 ln:n<=1048600
theorem I9.fw(h:I9 w p U n)(q:p<w.heap.size)(f:Fw p w j):I9 j p U n:=by
 rcases h with h|⟨b,a,c,d,e⟩
 ·exact .inl h
 ·exact .inr ⟨b,a,c,d,fun i k=>by obtain⟨v,l,m,o⟩:=e i k;exact⟨v,l,m,(f.cell AB AB).trans o⟩⟩
theorem CJ.below(h:CJ w p U n Y)(a:Below w.heap.size w j):CJ j p U n Y:=by
 obtain⟨i,b,c,d,e,k⟩:=h.cs;exact⟨Ey h.lt a.size,fun i=>(a.frozen (p:=Va p i) h.lt).trans (h.fz i),⟨i,b,c,(a.cell (p:=Va p 0) h.lt).trans d,(a.cell (p:=Va p 1) h.lt).trans e,(a.cell (p:=Va p 2) h.lt).trans k⟩,h.row.fw h.lt (.of_below a),h.ln⟩
theorem CJ.step(h:CJ w p U n Y)(i:Nat)(c:i<=n){v:Int}(d:v=(i:Int)):CJ (w.setCell (Va p 1) (Vi v)) p U n Y:=by
 subst d;obtain⟨j,b,e,l,m,o⟩:=h.cs;have a:=h.lt;exact⟨by simpa using a,fun k=>by rw[World.frozen?_setCell];exact h.fz k,⟨i,b,c,by go_simp,by go_simp,by go_simp⟩,h.row.fw a ((Fw.refl _ _).set _ _),h.ln⟩
theorem Kg(n:Int):bits .and .i64 n 255=n%256:=by
 have a:(BitVec.ofInt 64 255).toNat=2^8-1:=Ad;have b:(BitVec.ofInt 64 n&&&BitVec.ofInt 64 255).toNat=(n%((2^64:Nat):Int)).toNat%2^8:=by
  rw[BitVec.toNat_and,BitVec.toNat_ofInt,a,Nat.and_two_pow_sub_one_eq_mod]
 show IntKind.i64.wrap ((BitVec.ofInt 64 n&&&BitVec.ofInt 64 255).toNat:Nat)=n%256;rw[b,IntKind.wrap_i64];omega
theorem Hg(p:Nat)(o:Option Addr)(n c:Nat)(w:World)(q:CJ w p o n c):
 Ks 50 #[Vq p] w fun e N=>∃x:Int,e=.returned (Vi x)/\0<=x/\x<=255/\Fw p w N/\CJ N p o n c:=by
 obtain⟨i,h,L,z,B,D⟩:=q.cs;have u:=q.lt;have s:=q.fz;have y:=hxy q;have M:=q.ln;go_enter Tryz.func50,Tryz.ntmps50;go_wp2;generalize wrap64 (wrap64 (h*6364136223846793005)+1442695040888963407)=k;obtain⟨O,J,R,A,C,E,F,d⟩:∃v,w.setCell (Va p 2) (Vi k)=v/\Fw p w v/\v.cell? (Va p 0)=some (.slice o n c)/\v.cell? (Va p 1)=some (Vi i)/\v.cell? (Va p 2)=some (Vi k)/\(∀i,v.frozen? (Va p i)=false)/\p<v.heap.size:=
  ⟨_,rfl,(Fw.refl _ _).set _ _,by go_simp,by go_simp,by go_simp,fun i=>by rw[World.frozen?_setCell];exact s i,by simpa using u⟩
 rw[J];have Q:=hxy R;go_quiet(fail);go_wp2;rw[Kg];obtain⟨x,Y,x0,x1⟩:∃x:Int,bits BinOp.xor IntKind.i64 (k/8589934592) (k/35184372088832)%256=x/\0<=x/\x<=255:=⟨_,rfl,AB,AB⟩
 rw[Y];obtain⟨m,K,l⟩:∃v,O.drewN nq=v/\Bw O v:=⟨_,rfl,below_drewN BJ _⟩
 rw[K];have a:Hid (Fw p w m):=Q.trans (.of_below l);have z:=(l.cell (p:=Va p 0) d).trans A;have B:=(l.cell (p:=Va p 1) d).trans C;have D:=(l.cell (p:=Va p 2) d).trans E;have s:∀i,m.frozen? (Va p i)=false:=fun i=>(l.frozen (p:=Va p i) d).trans (F i)
 have r:p<m.heap.size:=Ey d l.size;by_cases I:i<n
 ·have X:n≠0:=AB
  obtain⟨b,j,v,rfl,hb,v0,v1,hv⟩:∃b j v,o=some ⟨b,j,none⟩/\b<p/\0<=v/\v<=255/\m.cell? (Va b (j+i))=some (.int .u8 v):=by
   rcases y.row.fw u a with h|⟨b,j,S,k,U⟩
   ·exact absurd h X
   ·obtain⟨v,Z,q2,q3⟩:=U i I
    exact⟨b,j,v,S,k,Z,q2,q3⟩
  go_quiet(fail);go_wp2;go_quiet(fail);go_wp2;go_ret;refine⟨_,rfl,by rw[Kg];omega,by rw[Kg];omega,(a.drewN _).set _ _,?_⟩;exact((⟨r,s,⟨i,k,L,z,B,D⟩,y.row.fw u a,M⟩:CJ m p _ n c).below (below_drewN BJ _)).step (i+1) AB AB
 ·go_quiet(fail)
  go_wp2;go_ret;exact⟨_,rfl,x0,x1,a.drewN _,(⟨r,s,⟨i,k,L,z,B,D⟩,y.row.fw u a,M⟩:CJ m p o n c).below (below_drewN BJ _)⟩
theorem Af(p:Nat)(b:Option Addr)(n a:Nat)(m:Int)(w:World)(E:1<=m)(s:CJ w p b n a):
 Ks 18 #[Vq p,Vi m] w fun e k=>∃x:Int,e=.returned (Vi x)/\0<=x/\x<m/\Fw p w k/\CJ k p b n a:=by
 have j:=hxy s;by_cases h:m<=256
 ·go_enter Tryz.func18,Tryz.ntmps18
  go_wp2_with fail;refine(Hg p b n a _ j).mono ?_;rintro e B⟨x,rfl,C,D,c,d⟩;go_wp2;go_ret;exact⟨_,rfl,Int.emod_nonneg _ AB,Int.emod_lt_of_pos _ AB,c,d⟩
 ·go_enter Tryz.func18,Tryz.ntmps18
  go_wp2_with fail;refine(Hg p b n a _ j).mono ?_;rintro e B⟨x,rfl,C,D,c,d⟩;have l:=hxy c;go_wp2_with fail;refine(Hg p b n a _ d).mono ?_;rintro e F⟨y,rfl,J,K,q,u⟩;have o:=hxy (l.trans q);go_wp2_with fail;refine(Hg p b n a _ u).mono ?_;rintro e I⟨z,rfl,L,M,r,A⟩;have F3:=hxy (o.trans r);go_wp2;go_ret;exact⟨_,rfl,Int.emod_nonneg _ AB,Int.emod_lt_of_pos _ AB,F3,A⟩
theorem Ed(p:Nat)(b:Option Addr)(n a:Nat)(m:Int)(w:World)(k:1<=m)(j:CJ w p b n a):
 Ks 21 #[Vq p,Vi m] w fun e c=>∃x:Bool,e=.returned (.bool x)/\Fw p w c/\CJ c p b n a:=by
 have d:=hxy j;go_enter Tryz.func21,Tryz.ntmps21;go_wp2_with fail;refine(Af p b n a m _ k d).mono ?_;rintro e o⟨x,rfl,q,r,h,l⟩;go_wp2;go_ret;exact⟨_,rfl,h,l⟩
theorem YT(d:Option Addr)(n c:Nat)(w:World)(A:n<=1048600)(B:I9 w w.heap.size d n):
 Ks 15 #[.slice d n c] w fun e y=>∃p,e=.returned (Vq p)/\w.heap.size<=p/\Below w.heap.size w y/\CJ y p d n c:=by
 have u:=hxy B;go_enter Tryz.func15,Tryz.ntmps15;go_wp2;go_loopw [3,4](fun x i wr=>∃(k:Nat)(h:Int),k<=n/\i=Vi k/\x=Vi h/\wr=w)(fun _ i _=>n-(intOf i).toNat)
 case atStart=>exact⟨0,_,Nat.zero_le _,rfl,rfl,rfl⟩
 case round=>
  obtain⟨k,h,D,rfl,rfl,rfl⟩:=hrel;by_cases o:k<n
  ·obtain⟨b,a,v,rfl,C,E,F,x⟩:∃b a v,d=some ⟨b,a,none⟩/\b<wr.heap.size/\0<=v/\v<=255/\wr.cell? (Va b (a+k))=some (.int .u8 v):=by
    rcases u.out with h|⟨b,a,l,j,m⟩
    ·omega
    ·obtain⟨v,q,r,s⟩:=m k o
     exact⟨b,a,v,l,j,q,r,s⟩
   go_wp2;go_roundw
   case rel=>exact⟨k+1,_,AB,by go_num,rfl,trivial⟩
   case measure=>simp[intOf];omega
  ·go_wp2
   go_ret;refine⟨_,rfl,BQ,Ai,?_⟩;exact⟨AX,fun i=>by simp[go_sem],⟨0,h,Nat.zero_le _,by simp[go_sem],by simp[go_sem],by simp[go_sem]⟩,by
    rcases u.out with h|⟨b,a,l,j,m⟩
    ·exact .inl h
    ·exact .inr ⟨b,a,l,j,fun i z=>by obtain⟨v,q,r,s⟩:=m i z;exact⟨v,q,r,(World.cell?_alloc_lt _ _ _ j).trans s⟩⟩,A⟩
theorem AJ{a:Nat×Nat}(h:w.heap[p]?=some (.cells Es t a))(j:Nat):w.cell? (Va p j)=Es[j]?:=by
 unfold World.cell?;simp only[h];rfl
theorem CP(h:w.heap[p]?=some (.cells Es t))(j:Nat):w.frozen? (Va p j)=false:=by
 unfold World.frozen?;simp[h]
theorem BG(h:w.heap[p]?=some (.cells Es t))(j:Nat)(v:Value):(w.setCell (Va p j) v).heap[p]?=some (.cells (Es.setIfInBounds j v) t):=by
 unfold World.setCell;rw[Array.getElem?_modify,if_pos rfl,h];rfl
theorem Ao{o:Obj}(h:w.heap[p]?=some o)(a:p≠q)(j:Nat)(v:Value):(w.setCell (Va q j) v).heap[p]?=some o:=by
 rw[heap_setCell_other _ _ _ _ a];exact h
theorem Az(w:World)(o:Obj):(w.alloc o).heap[w.heap.size]?=some o:=by simp only[World.alloc];simp
structure IV where
 o:Int
 d:Int
 a:Int
 b:Int
 i:Int
 h:Int
def IV.c(x:IV):Array Value:=#[Vi x.o,Vi x.d,Vi x.a,Vi x.b,Vi x.i,Vi x.h]
def Ib(w:World)(q:Nat)(x:IV):Prop:=w.heap[q]?=some (.cells x.c 99)
theorem Ib.cells{x:IV}(h:Ib w q x):w.cell? (Va q 0)=some (Vi x.o)/\w.cell? (Va q 1)=some (Vi x.d)/\w.cell? (Va q 2)=some (Vi x.a)/\w.cell? (Va q 3)=some (Vi x.b)/\w.cell? (Va q 4)=some (Vi x.i)/\w.cell? (Va q 5)=some (Vi x.h)/\(∀j,w.frozen? (Va q j)=false)/\q<w.heap.size:=
 ⟨AJ h 0,AJ h 1,AJ h 2,AJ h 3,AJ h 4,AJ h 5,fun j=>CP h j,(I8.1 h).1⟩
theorem Ib.lt{x:IV}(h:Ib w q x):q<w.heap.size:=(I8.1 h).1
theorem Ib.fw{x:IV}(h:Ib w q x)(f:Fw p w j)(a:q≠p):Ib j q x:=(f.block q h.lt a).trans h
theorem Ib.below{x:IV}(h:Ib w q x)(f:Below w.heap.size w j):Ib j q x:=(f.block q h.lt).trans h
theorem Ib.other{x:IV}(h:Ib w q x)(a:q≠r)(j:Nat)(v:Value):Ib (w.setCell (Va r j) v) q x:=Ao h a j v
theorem CJ.put(h:CJ w p U n Y)(c:p<q)(o:Nat)(v:Value):CJ (w.setCell (Va q o) v) p U n Y:=by
 have a:Below q w (w.setCell (Va q o) v):=(Below.refl q w).setCell (p:=Va q o) (Nat.le_refl q) v;obtain⟨i,s,x,e,j,k⟩:=h.cs;refine⟨by simpa using h.lt,fun i=>(a.frozen (p:=Va p i) c).trans (h.fz i),⟨i,s,x,(a.cell (p:=Va p 0) c).trans e,(a.cell (p:=Va p 1) c).trans j,(a.cell (p:=Va p 2) c).trans k⟩,?_,h.ln⟩;rcases h.row with h|⟨b,d,m,l,r⟩
 ·exact .inl h
 ·exact .inr ⟨b,d,m,l,fun i u=>by obtain⟨v,e,j,k⟩:=r i u;exact⟨v,e,j,(a.cell (p:=Va b (d+i)) (Nat.lt_trans l c)).trans k⟩⟩
theorem Fw.put(h:Fw p a b)(e:a.heap.size<=q)(o:Nat)(v:Value):Fw p a (b.setCell (Va q o) v):=
 ⟨h.os,h.tape,h.output,by simpa using h.size,fun k c d=>(Below.heap_setCell b ⟨q,o,none⟩ v k (by simp;omega)).trans (h.block k c d)⟩
structure IW(w:World)(p:Nat)(ao:Option Addr)(n cap r q:Nat)(x:IV)(v:World):Prop where
 F:Fw p w v
 K:CJ v p ao n cap
 R:Ib v r ⟨0,0,0,0,0,0⟩
 X:Ib v q x
 pw:p<w.heap.size
 wr:w.heap.size<=r
 wq:w.heap.size<=q
 ne:r≠q
 rb:0<=x.b/\x.b<=7
theorem IW.fw{D:World}{x:IV}(h:IW w p U n Y r q x v)(f:Fw p v D)(c:CJ D p U n Y):IW w p U n Y r q x D:=
 ⟨h.F.trans f,c,h.R.fw f (by have:=h.pw;have:=h.wr;omega),h.X.fw f (by have:=h.pw;have:=h.wq;omega),h.pw,h.wr,h.wq,h.ne,h.rb⟩
theorem IW.set{x:IV}(h:IW w p U n Y r q x v)(y:IV)(j:Nat)(u:Value)(d:x.c.setIfInBounds j u=y.c)(a:0<=y.b/\y.b<=7):IW w p U n Y r q y (v.setCell (Va q j) u):=
 ⟨h.F.put h.wq _ _,h.K.put (by have:=h.pw;have:=h.wq;omega) _ _,h.R.other h.ne _ _,by unfold Ib;rw[<-d];exact BG h.X j u,h.pw,h.wr,h.wq,h.ne,a⟩
theorem IW.setO{x:IV}(h:IW w p U n Y r q x v)(y:Int):IW w p U n Y r q {x with o:=y} (v.setCell (Va q 0) (Vi y)):=h.set _ _ _ rfl h.rb
theorem IW.setD{x:IV}(h:IW w p U n Y r q x v)(y:Int):IW w p U n Y r q {x with d:=y} (v.setCell (Va q 1) (Vi y)):=h.set _ _ _ rfl h.rb
theorem IW.setA{x:IV}(h:IW w p U n Y r q x v)(y:Int):IW w p U n Y r q {x with a:=y} (v.setCell (Va q 2) (Vi y)):=h.set _ _ _ rfl h.rb
theorem IW.setB{x:IV}(h:IW w p U n Y r q x v)(y:Int)(a:0<=y/\y<=7):IW w p U n Y r q {x with b:=y} (v.setCell (Va q 3) (Vi y)):=h.set _ _ _ rfl a
theorem IW.setI{x:IV}(h:IW w p U n Y r q x v)(y:Int):IW w p U n Y r q {x with i:=y} (v.setCell (Va q 4) (Vi y)):=h.set _ _ _ rfl h.rb
theorem IW.setH{x:IV}(h:IW w p U n Y r q x v)(y:Int):IW w p U n Y r q {x with h:=y} (v.setCell (Va q 5) (Vi y)):=h.set _ _ _ rfl h.rb
theorem Jz(p:Nat)(b:Option Addr)(n a:Nat)(w:World)(c:CJ w p b n a):
 Ks 88 #[Vq p] w fun e d=>∃x:Int,e=.returned (Vi x)/\0<=x/\x<8/\Fw p w d/\CJ d p b n a:=by
 have h:=hxy c;clear c;go_enter Tryz.func88,Tryz.ntmps88;go_wp2_with fail;refine(Af p b n a 8 _ AB h).mono ?_;rintro e o⟨x,rfl,l,m,j,k⟩;go_wp2;go_ret;exact⟨_,rfl,l,m,j,k⟩
theorem KS(p:Nat)(j:Option Addr)(n d:Nat)(S hi:Int)(w:World)(h0:0<=S)(h1:S<=hi)(h2:hi<=100)(hc:CJ w p j n d):
 Ks 51 #[Vq p,Vi S,Vi hi] w fun e N=>∃x:IV,e=.returned (.agg x.c)/\(0<=x.b/\x.b<=7)/\Fw p w N/\CJ N p j n d:=by
 have lp:=hc.lt;have HC:=hxy hc;clear hc;go_enter Tryz.func51,Tryz.ntmps51;go_wp2_with fail;obtain⟨r,M⟩:=Au w.heap.size;obtain⟨u,hu,iu⟩:∃v,(w.alloc (.cells #[Vi 0,Vi 0,Vi 0,Vi 0,Vi 0,Vi 0] 99)).alloc (.cells #[Vi 0,Vi 0,Vi 0,Vi 0,Vi 0,Vi 0] 99)=v/\IW w p j n d r (r+1) ⟨0,0,0,0,0,0⟩ v:=by
  refine⟨_,rfl,.of_below ((Ai).alloc AX _),HC.below ((Ai).alloc AX _),?_,?_,lp,AB,AB,AB,⟨Int.le_refl _,Ad⟩⟩
  ·rw[<-M]
   exact Ib.below (w:=w.alloc _) (Az w _) Ai
  ·rw[<-M]
   have:=Az (w.alloc (.cells #[Vi 0,Vi 0,Vi 0,Vi 0,Vi 0,Vi 0] 99)) (.cells #[Vi 0,Vi 0,Vi 0,Vi 0,Vi 0,Vi 0] 99);have e:(w.alloc (.cells #[Vi 0,Vi 0,Vi 0,Vi 0,Vi 0,Vi 0] 99)).heap.size=w.heap.size+1:=AX;rw[e]at this;exact this
 rw[hu];rw[M];refine(Af p j n d (hi-S+1) _ AB iu.K).mono ?_;rintro e w1⟨k,rfl,k0,k1,f,c⟩;have I1:=hxy (iu.fw f c);clear hu iu f c;have wl:=I1.F.size;have E:=I1.X.cells;go_upto_region 3 with fail;obtain⟨J,aa,i2⟩:∃v,w1.setCell ⟨r+1,0,none⟩ (Vi (S+k))=v/\IW w p j n d r (r+1) ⟨S+k,0,0,0,0,0⟩ v:=⟨_,rfl,I1.setO _⟩
 rw[aa];have a:=hxy i2;clear aa i2 E I1 HC;obtain⟨x,hx⟩:∃y:IV,(⟨S+k,0,0,0,0,0⟩:IV)=y:=⟨_,rfl⟩
 rw[hx]at a;clear hx M;have E:=a.X.cells;go_wp2_with fail;refine(DT _ _).mono ?_;rintro e N⟨rfl,h⟩;rw[h];obtain⟨m,Q⟩:=Au (Ab x.o);have Z:m.size<=maxLen:=by rw[<-Q];exact Cu _
 rw[Q];have HS:=hxy Z;clear h Q Z E;go_wp2_with fail;refine(Dz m 68 _ HS AB AB).mono ?_;rintro e N⟨rfl,h⟩;rw[h];clear h;obtain⟨z,I⟩:=Au (BV m 68);rw[I];clear I;go_upto_if 24 with fail;go_cut [6,7,8](fun s A B C=>s=Vq r/\A=.pointer (some ⟨r+1,0,none⟩)/\B=.string m/\∃L,IW w p j n d r (r+1) L C)
 case first=>
  cases z with
  |true=>
   go_wp2_with fail;refine(Jz p j n d _ a.K).mono ?_;rintro e U⟨y,rfl,_,_,f,c⟩;have l:=hxy (a.fw f c);have E:=l.X.cells;clear f c;go_wp2_with fail;go_meet;exact⟨rfl,rfl,rfl,_,l.setD _⟩
  |false=>
   go_wp2_with fail;go_meet;exact⟨rfl,rfl,rfl,_,a⟩
 case rest=>
  clear a;obtain⟨rfl,rfl,rfl,x,q⟩:=hcut;have a:=hxy q;clear q;generalize wc=J at a⊢;go_wp2_with fail;refine(Dz m 65 _ HS AB AB).mono ?_;rintro e N⟨rfl,h⟩;rw[h];clear h;obtain⟨z,I⟩:=Au (BV m 65);rw[I];clear I;go_upto_if 29 with fail;go_cut [6,7,8](fun s A B C=>s=Vq r/\A=.pointer (some ⟨r+1,0,none⟩)/\B=.string m/\∃L,IW w p j n d r (r+1) L C)
  case first=>
   cases z with
   |true=>
    go_wp2_with fail;refine(Jz p j n d _ a.K).mono ?_;rintro e U⟨y,rfl,_,_,f,c⟩;have l:=hxy (a.fw f c);have E:=l.X.cells;clear f c;go_wp2_with fail;go_meet;exact⟨rfl,rfl,rfl,_,l.setA _⟩
   |false=>
    go_wp2_with fail;go_meet;exact⟨rfl,rfl,rfl,_,a⟩
  case rest=>
   clear a;obtain⟨rfl,rfl,rfl,x,q⟩:=hcut;have a:=hxy q;clear q;generalize wc=J at a⊢;go_wp2_with fail;refine(Dz m 66 _ HS AB AB).mono ?_;rintro e N⟨rfl,h⟩;rw[h];clear h;obtain⟨z,I⟩:=Au (BV m 66);rw[I];clear I;go_upto_if 34 with fail;go_cut [6,7,8](fun s A B C=>s=Vq r/\A=.pointer (some ⟨r+1,0,none⟩)/\B=.string m/\∃L,IW w p j n d r (r+1) L C)
   case first=>
    cases z with
    |true=>
     go_wp2_with fail;refine(Jz p j n d _ a.K).mono ?_;rintro e U⟨y,rfl,y0,y8,f,c⟩;have l:=hxy (a.fw f c);have E:=l.X.cells;clear f c;go_wp2_with fail;go_meet;exact⟨rfl,rfl,rfl,_,l.setB _ ⟨y0,AB⟩⟩
    |false=>
     go_wp2_with fail;go_meet;exact⟨rfl,rfl,rfl,_,a⟩
   case rest=>
    clear a;obtain⟨rfl,rfl,rfl,x,q⟩:=hcut;have a:=hxy q;clear q;generalize wc=J at a⊢;go_wp2_with fail;refine(Dz m 72 _ HS AB AB).mono ?_;rintro e N⟨rfl,h⟩;rw[h];clear h;obtain⟨z,I⟩:=Au (BV m 72);rw[I];clear I;go_upto_if 39 with fail;go_cut [6,7,8](fun s A B C=>s=Vq r/\A=.pointer (some ⟨r+1,0,none⟩)/\B=.string m/\∃L,IW w p j n d r (r+1) L C)
    case first=>
     cases z with
     |true=>
      go_wp2_with fail;refine(Af p j n d 3 _ AB a.K).mono ?_;rintro e U⟨y,rfl,_,_,f,c⟩;have l:=hxy (a.fw f c);have E:=l.X.cells;clear f c;go_wp2_with fail;go_meet;exact⟨rfl,rfl,rfl,_,l.setH _⟩
     |false=>
      go_wp2_with fail;go_meet;exact⟨rfl,rfl,rfl,_,a⟩
    case rest=>
     clear a;obtain⟨rfl,rfl,rfl,x,q⟩:=hcut;have a:=hxy q;clear q;generalize wc=J at a⊢;go_wp2_with fail;refine(Dz m 73 _ HS AB AB).mono ?_;rintro e N⟨rfl,h⟩;rw[h];clear h;obtain⟨z,I⟩:=Au (BV m 73);rw[I];clear I;go_upto_if 44 with fail;go_cut [6,7,8](fun s A B C=>s=Vq r/\A=.pointer (some ⟨r+1,0,none⟩)/\B=.string m/\∃L,IW w p j n d r (r+1) L C)
     case first=>
      cases z with
      |false=>
       go_wp2_with fail;go_meet;exact⟨rfl,rfl,rfl,_,a⟩
      |true=>
       go_wp2_with fail;refine(Af p j n d 20 _ AB a.K).mono ?_;rintro e U⟨y,rfl,_,_,f,c⟩;have l:=hxy (a.fw f c);have E:=l.X.cells;clear f c a;go_upto_region 14 with fail;obtain⟨w4,ab,i4⟩:∃v,U.setCell ⟨r+1,4,none⟩ (Vi y)=v/\IW w p j n d r (r+1) {x with i:=y} v:=⟨_,rfl,l.setI _⟩
       rw[ab];clear ab E l;go_wp2_with fail;refine(Af p j n d 12 _ AB i4.K).mono ?_;rintro e w5⟨kk,rfl,af,ag,f,c⟩;have a:=hxy (i4.fw f c);obtain⟨x,ac⟩:∃z:IV,({x with i:=y}:IV)=z:=⟨_,rfl⟩
       rw[ac]at a;clear ac f c i4;generalize w5=J at a⊢;go_upto_region 15 with fail;go_cut [6,7,8,9,72](fun s A B O t C=>s=Vq r/\A=.pointer (some ⟨r+1,0,none⟩)/\B=.string m/\O=Vi kk/\(∃b:Bool,t=.bool b)/\C=J)
       case first=>
        have E:=a.X.cells;go_wp2_with(first|(go_at_call 40;refine(DY _ _).mono ?_;rintro e N⟨rfl,h⟩;rw[h];clear h));all_goals
         go_meet;exact⟨rfl,rfl,rfl,(by first|rfl|exact congrArg (Value.int .i64) AB),⟨_,rfl⟩,rfl⟩
       case rest=>
        obtain⟨rfl,rfl,rfl,rfl,⟨z,rfl⟩,D⟩:=hcut;rw[D];clear D;go_upto_if 72 with fail;go_cut [6,7,8,9](fun s A B O C=>s=Vq r/\A=.pointer (some ⟨r+1,0,none⟩)/\B=.string m/\O=Vi kk/\∃L,IW w p j n d r (r+1) L C)
        case first=>
         cases z with
         |false=>
          go_wp2_with fail;go_meet;exact⟨rfl,rfl,rfl,rfl,_,a⟩
         |true=>
          go_wp2_with fail;refine(Af p j n d 12 _ AB a.K).mono ?_;rintro e U⟨y,rfl,_,_,f,c⟩;have l:=hxy (a.fw f c);have E:=l.X.cells;clear f c;go_wp2_with fail;go_meet;exact⟨rfl,rfl,rfl,rfl,_,l.setI _⟩
        case rest=>
         clear a;obtain⟨rfl,rfl,rfl,rfl,x,q⟩:=hcut;have a:=hxy q;clear q;generalize wc=J at a⊢;go_upto_region 17 with fail;go_cut [6,7,8,9,78](fun s A B O t C=>s=Vq r/\A=.pointer (some ⟨r+1,0,none⟩)/\B=.string m/\O=Vi kk/\(∃b:Bool,t=.bool b)/\C=J)
         case first=>
          go_wp2_with fail;all_goals
           go_meet;exact⟨rfl,rfl,rfl,rfl,⟨_,rfl⟩,rfl⟩
         case rest=>
          obtain⟨rfl,rfl,rfl,rfl,⟨z,rfl⟩,D⟩:=hcut;rw[D];clear D;go_upto_if 78 with fail;go_cut [6,7,8,9](fun s A B O C=>s=Vq r/\A=.pointer (some ⟨r+1,0,none⟩)/\B=.string m/\O=Vi kk/\∃L,IW w p j n d r (r+1) L C)
          case first=>
           cases z with
           |false=>
            go_wp2_with fail;go_meet;exact⟨rfl,rfl,rfl,rfl,_,a⟩
           |true=>
            go_wp2_with fail;refine(Af p j n d 44 _ AB a.K).mono ?_;rintro e U⟨y,rfl,y0,y1,f,c⟩;have l:=hxy (a.fw f c);have E:=l.X.cells;clear f c;go_wp2_with fail;go_meet;exact⟨rfl,rfl,rfl,rfl,_,l.setI _⟩
          case rest=>
           clear a;obtain⟨rfl,rfl,rfl,rfl,x,q⟩:=hcut;have a:=hxy q;clear q;generalize wc=J at a⊢;go_upto_region 19 with fail;go_cut [6,7,8,9,100](fun s A B O t C=>s=Vq r/\A=.pointer (some ⟨r+1,0,none⟩)/\B=.string m/\O=Vi kk/\(∃b:Bool,t=.bool b)/\C=J)
           case first=>
            have E:=a.X.cells;go_wp2_with(first|(go_at_call 40;refine(DY _ _).mono ?_;rintro e N⟨rfl,h⟩;rw[h];clear h));all_goals
             go_meet;exact⟨rfl,rfl,rfl,(by first|rfl|exact congrArg (Value.int .i64) AB),⟨_,rfl⟩,rfl⟩
           case rest=>
            obtain⟨rfl,rfl,rfl,rfl,⟨z,rfl⟩,D⟩:=hcut;rw[D];clear D;cases z with
            |false=>
             go_wp2_with fail;go_meet;exact⟨rfl,rfl,rfl,_,a⟩
            |true=>
             have E:=a.X.cells;go_wp2_with fail;go_meet;exact⟨rfl,rfl,rfl,_,a.setI _⟩
     case rest=>
      clear a;obtain⟨rfl,rfl,rfl,x,q⟩:=hcut;have a:=hxy q;clear q;generalize wc=J at a⊢;have E:=a.X.cells;have b0:=a.R.cells;have FF:Hid (∀v0 v1 v2 v3 v4 v5,Fw p w ((((((J.setCell (Va r 0) v0).setCell (Va r 1) v1).setCell (Va r 2) v2).setCell (Va r 3) v3).setCell (Va r 4) v4).setCell (Va r 5) v5)/\CJ ((((((J.setCell (Va r 0) v0).setCell (Va r 1) v1).setCell (Va r 2) v2).setCell (Va r 3) v3).setCell (Va r 4) v4).setCell (Va r 5) v5) p j n d):=fun v0 v1 v2 v3 v4 v5=>by
       have M:=a.wr;have Y:p<r:=AB;exact⟨(((((a.F.put M _ _).put M _ _).put M _ _).put M _ _).put M _ _).put M _ _,(((((a.K.put Y _ _).put Y _ _).put Y _ _).put Y _ _).put Y _ _).put Y _ _⟩
      have ae:=a.ne;have ad:=hxy a.rb;clear a;go_wp2_with fail;exact mY (.agg x.c) (by simp[results,Tryz.results51,go_sem,IV.c, *]) ⟨x,rfl,ad,(FF _ _ _ _ _ _).1,(FF _ _ _ _ _ _).2⟩
theorem BM{v:Value}(h:w.ownsRow l e s v n d)(o:Below w.heap.size w j):j.ownsRow l e s v n d:=by
 refine⟨h.1,?_⟩;rcases h.2 with h|⟨g,a,b,rfl,k,c,m⟩
 ·exact .inl h
 ·have p:g<w.heap.size:=(I8.1 c).1
  exact .inr ⟨g,a,b,rfl,k,(o.block g p).trans c,m⟩
theorem Eb{v:Value}(h:w.ownsRow l e s v n d)(f:Fw p w j)(q:p<l):j.ownsRow l e s v n d:=by
 refine⟨h.1,?_⟩;rcases h.2 with h|⟨g,a,b,rfl,k,c,m⟩
 ·exact .inl h
 ·have o:g<w.heap.size:=(I8.1 c).1
  exact .inr ⟨g,a,b,rfl,k,(f.block g o AB).trans c,m⟩
theorem CV{v:Value}(h:w.ownsRow l e s v n d)(o:v.ownBlock≠some q)(j:Nat)(u:Value):(w.setCell (Va q j) u).ownsRow l e s v n d:=by
 refine⟨h.1,?_⟩;rcases h.2 with h|⟨g,a,b,rfl,c,k,m⟩
 ·exact .inl h
 ·exact .inr ⟨g,a,b,rfl,c,Ao k (fun e=>o (by rw[e];rfl)) j u,m⟩
theorem Fw.grown{c:World}{E:Option Nat}(h:Fw p a b)(d:b.grownBy c E)(m:∀k,E=some k->a.heap.size<=k):Fw p a c:=
 ⟨d.os.trans h.os,d.tape.trans h.tape,d.output.trans h.output,Nat.le_trans h.size d.size,fun k j l=>(d.block k (by have:=h.size;omega) (fun e=>by have:=m k e.symm;omega)).trans (h.block k j l)⟩
theorem CJ.grown{c:World}{E:Option Nat}(h:CJ b p U n Y)(m:b.grownBy c E)(y:∀k,E=some k->p<k):CJ c p U n Y:=by
 have a:Below (p+1) b c:=BJ.grown m h.lt (fun k x=>y k x);obtain⟨i,s,z,e,j,l⟩:=h.cs;refine⟨Ey h.lt m.size,fun i=>(a.frozen (p:=Va p i) AX).trans (h.fz i),⟨i,s,z,(a.cell (p:=Va p 0) AX).trans e,(a.cell (p:=Va p 1) AX).trans j,(a.cell (p:=Va p 2) AX).trans l⟩,?_,h.ln⟩;rcases h.row with h|⟨b,d,o,q,r⟩
 ·exact .inl h
 ·exact .inr ⟨b,d,o,q,fun i u=>by obtain⟨v,e,j,l⟩:=r i u;exact⟨v,e,j,(a.cell (p:=Va b (d+i)) (by simp;omega)).trans l⟩⟩
theorem Fq(w:World)(Es:Array Value)(t:TypeId):∀(j:Nat)u,Es.toList[j]?=some u->(w.alloc (.cells Es t)).cell? ((⟨w.heap.size,0,none⟩:Addr).add j)=some u:=fun j u h=>by
 have e:(⟨w.heap.size,0,none⟩:Addr).add j=⟨w.heap.size,j,none⟩:=by unfold Addr.add;split<;>simp_all
 rw[e,AJ (Az w (.cells Es t)) j];simpa using h
theorem Cf{B:Nat}{v:Value}(h:w.ownsRow B e s v n d):∃b a,v=.slice b n a:=by
 rcases h.2 with⟨h,j⟩|⟨g,a,c,h,_⟩
 ·exact⟨none,0,by rw[h,j]⟩
 ·exact⟨_,_,h⟩
end Go.Proofs.YtcjnmdgomocpgaaGreatDoor
