import Derived.Test.YtfpeecaaleijcaaGreatDoorOfCl
import Derived.WalkLawsBesides
import Derived.Deep.QuietTactic
import Derived.BigQuiet
import Derived.Test.YtfpeecaaleijcaaGreatDoorRows
import Derived.Deep.RegionHeld3
import Derived.Deep.Cut
import Derived.Deep.DeepCutAuto
import Derived.Test.YtfpeecaaleijcaaGreatDoorOfInsSame
import Derived.Maps.AppendAt
import Derived.OwnWalk
import Derived.Deep.Onto
set_option maxHeartbeats 8000000
set_option maxRecDepth 20000
namespace Go.Proofs.YtfpeecaaleijcaaGreatDoor
open Go.RowKit
variable {BZ:Array Value}{xs:List Value}{base cap e n p q r size:Nat}{ao:Option Addr}{t:TypeId}{a b v w w':World}
structure Fw(p:Nat)(w w':World):Prop where
 os:w'.os=w.os
 tape:w'.tape=w.tape
 output:w'.output=w.output
 size:w.heap.size<=w'.heap.size
 block:∀k,k<w.heap.size->k≠p->w'.heap[k]?=w.heap[k]?
theorem Fw.refl(p:Nat)(w:World):Fw p w w:=⟨rfl,rfl,rfl,jG,fun _ _ _=>rfl⟩
theorem Fw.trans{c:World}(h:Fw p a b)(k:Fw p b c):Fw p a c:=
 ⟨k.os.trans h.os,k.tape.trans h.tape,k.output.trans h.output,Nat.le_trans h.size k.size,fun i hi hn=>(k.block i (jI hi h.size) hn).trans (h.block i hi hn)⟩
theorem Fw.of_below(h:Below w.heap.size w w'):Fw p w w':=⟨h.os,h.tape,h.output,h.size,fun k hk _=>h.block k hk⟩
theorem Fw.below{B:Nat}{w0:World}(h:Fw p w w')(hb:Below B w0 w)(hp:B<=p)(hs:B<=w.heap.size):Below B w0 w':=
 ⟨h.os.trans hb.os,h.tape.trans hb.tape,h.output.trans hb.output,Nat.le_trans hb.size h.size,fun k hk=>(h.block k (by omega) (by omega)).trans (hb.block k hk)⟩
theorem Fw.cell(h:Fw p w w'){b o:Nat}(hb:b<w.heap.size)(hn:b≠p):w'.cell? (Va b o)=w.cell? (Va b o):=World.cell?_of_block (a:=Va b o) (h.block b hb hn)
theorem Fw.frozen(h:Fw p w w'){b o:Nat}(hb:b<w.heap.size)(hn:b≠p):w'.frozen? (Va b o)=w.frozen? (Va b o):=World.frozen?_of_block (a:=Va b o) (h.block b hb hn)
theorem Fw.set(h:Fw p a b)(o:Nat)(v:Value):Fw p a (b.setCell (Va p o) v):=
 ⟨h.os,h.tape,h.output,by simpa using h.size,fun k hk hn=>(Below.heap_setCell b ⟨p,o,none⟩ v k hn).trans (h.block k hk hn)⟩
theorem Fw.drewN(h:Fw p a b)(n:Nat):Fw p a (b.drewN n):=h.trans (.of_below (below_drewN (Below.refl _ _) n))
def Fp(w:World)(p:Nat)(ao:Option Addr)(n:Nat):Prop:=n=0∨∃b off,ao=some ⟨b,off,none⟩/\b<p/\∀i,i<n->∃v:Int,0<=v/\v<=255/\w.cell? (Va b (off+i))=some (.int .u8 v)
structure Bj(w:World)(p:Nat)(ao:Option Addr)(n cap:Nat):Prop where
 lt:p<w.heap.size
 fz:∀i,w.frozen? (Va p i)=false
 cs:∃(i:Nat)(h:Int),i<=n/\w.cell? (Va p 0)=some (.slice ao n cap)/\w.cell? (Va p 1)=some (Vi i)/\w.cell? (Va p 2)=some (Vi h)
 row:Fp w p ao n
 ln:n<=1048576
theorem Fp.fw(h:Fp w p ao n)(hp:p<w.heap.size)(f:Fw p w w'):Fp w' p ao n:=by
 rcases h with h|⟨b,off,h1,h2,h3⟩
 ·exact .inl h
 ·exact .inr ⟨b,off,h1,h2,fun i hi=>by obtain⟨v,q1,q2,q3⟩:=h3 i hi;exact⟨v,q1,q2,(f.cell (by omega) (by omega)).trans q3⟩⟩
theorem Bj.below(h:Bj w p ao n cap)(hb:Below w.heap.size w w'):Bj w' p ao n cap:=by
 obtain⟨i,hh,q0,q1,q2,q3⟩:=h.cs;exact⟨jI h.lt hb.size,fun i=>(hb.frozen (p:=Va p i) h.lt).trans (h.fz i),⟨i,hh,q0,(hb.cell (p:=Va p 0) h.lt).trans q1,(hb.cell (p:=Va p 1) h.lt).trans q2,(hb.cell (p:=Va p 2) h.lt).trans q3⟩,h.row.fw h.lt (.of_below hb),h.ln⟩
theorem Bj.step(h:Bj w p ao n cap)(i:Nat)(hi:i<=n){v:Int}(hv:v=(i:Int)):Bj (w.setCell (Va p 1) (Vi v)) p ao n cap:=by
 subst hv;obtain⟨j,hh,q0,q1,q2,q3⟩:=h.cs;have lt:=h.lt;exact⟨by simpa using lt,fun k=>by rw[World.frozen?_setCell];exact h.fz k,⟨i,hh,hi,by go_simp,by go_simp,by go_simp⟩,h.row.fw lt ((Fw.refl _ _).set _ _),h.ln⟩
theorem I6(n:Int):bits .and .i64 n 255=n%256:=by
 have h255:(BitVec.ofInt 64 255).toNat=2^8-1:=by decide
 have key:(BitVec.ofInt 64 n&&&BitVec.ofInt 64 255).toNat=(n%((2^64:Nat):Int)).toNat%2^8:=by
  rw[BitVec.toNat_and,BitVec.toNat_ofInt,h255,Nat.and_two_pow_sub_one_eq_mod]
 show IntKind.i64.wrap ((BitVec.ofInt 64 n&&&BitVec.ofInt 64 255).toNat:Nat)=n%256;rw[key,IntKind.wrap_i64];omega
theorem GQ(p:Nat)(ao:Option Addr)(n cap:Nat)(w:World)(hc:Bj w p ao n cap):
 Calls Tryz.prog 37 #[Vq p] w fun e w'=>∃x:Int,e=.returned (Vi x)/\0<=x/\x<=255/\Fw p w w'/\Bj w' p ao n cap:=by
 obtain⟨i,h,hi,c0,c1,c2⟩:=hc.cs;have lp:=hc.lt;have fz:=hc.fz;have HC:=hxy hc;have ln:=hc.ln;clear hc;go_enter Tryz.func37,Tryz.ntmps37;go_wp2;generalize wrap64 (wrap64 (h*6364136223846793005)+1442695040888963407)=h2;obtain⟨w1,hw1,f1,c0',c1',c2',fz',lp'⟩:∃v,w.setCell (Va p 2) (Vi h2)=v/\Fw p w v/\v.cell? (Va p 0)=some (.slice ao n cap)/\v.cell? (Va p 1)=some (Vi i)/\v.cell? (Va p 2)=some (Vi h2)/\(∀i,v.frozen? (Va p i)=false)/\p<v.heap.size:=
  ⟨_,rfl,(Fw.refl _ _).set _ _,by go_simp,by go_simp,by go_simp,fun i=>by rw[World.frozen?_setCell];exact fz i,by simpa using lp⟩
 rw[hw1];have HF:=hxy f1;clear hw1 f1 c0 c1 c2 fz;go_quiet(fail);go_wp2;rw[I6];obtain⟨x,hx,x0,x1⟩:∃x:Int,bits BinOp.xor IntKind.i64 (h2/8589934592) (h2/35184372088832)%256=x/\0<=x/\x<=255:=⟨_,rfl,by omega,by omega⟩
 rw[hx];clear hx;obtain⟨w2,hw2,f2⟩:∃v,w1.drewN nq=v/\Below w1.heap.size w1 v:=⟨_,rfl,below_drewN (Below.refl _ _) _⟩
 rw[hw2];have HF2:Hid (Fw p w w2):=HF.out.trans (.of_below f2);have c0:=(f2.cell (p:=Va p 0) lp').trans c0';have c1:=(f2.cell (p:=Va p 1) lp').trans c1';have c2:=(f2.cell (p:=Va p 2) lp').trans c2';have fz:∀i,w2.frozen? (Va p i)=false:=fun i=>(f2.frozen (p:=Va p i) lp').trans (fz' i)
 have lp2:p<w2.heap.size:=jI lp' f2.size;clear hw2 f2 c0' c1' c2' fz' lp' HF;by_cases hlt:i<n
 ·have hn:n≠0:=by omega
  obtain⟨b,off,v,rfl,hb,v0,v1,hv⟩:∃b off v,ao=some ⟨b,off,none⟩/\b<p/\0<=v/\v<=255/\w2.cell? (Va b (off+i))=some (.int .u8 v):=by
   rcases HC.out.row.fw lp HF2.out with h|⟨b,off,h1,h2,h3⟩
   ·exact absurd h hn
   ·obtain⟨v,q1,q2,q3⟩:=h3 i hlt
    exact⟨b,off,v,h1,h2,q1,q2,q3⟩
  go_quiet(fail);go_wp2;go_quiet(fail);go_wp2;go_ret;refine⟨_,rfl,by rw[I6];omega,by rw[I6];omega,(HF2.out.drewN _).set _ _,?_⟩;exact((⟨lp2,fz,⟨i,h2,hi,c0,c1,c2⟩,HC.out.row.fw lp HF2.out,ln⟩:Bj w2 p _ n cap).below (below_drewN (Below.refl _ _) _)).step (i+1) (by omega) (by omega)
 ·go_quiet(fail)
  go_wp2;go_ret;exact⟨_,rfl,x0,x1,HF2.out.drewN _,(⟨lp2,fz,⟨i,h2,hi,c0,c1,c2⟩,HC.out.row.fw lp HF2.out,ln⟩:Bj w2 p ao n cap).below (below_drewN (Below.refl _ _) _)⟩
theorem Aa(p:Nat)(ao:Option Addr)(n cap:Nat)(m:Int)(w:World)(hm:1<=m)(hc:Bj w p ao n cap):
 Calls Tryz.prog 11 #[Vq p,Vi m] w fun e w'=>∃x:Int,e=.returned (Vi x)/\0<=x/\x<m/\Fw p w w'/\Bj w' p ao n cap:=by
 have HC:=hxy hc;clear hc;by_cases h:m<=256
 ·go_enter Tryz.func11,Tryz.ntmps11
  go_wp2_with fail;refine(GQ p ao n cap _ HC.out).mono ?_;rintro e w1⟨x,rfl,x0,x1,f1,k1⟩;go_wp2;go_ret;exact⟨_,rfl,Int.emod_nonneg _ (by omega),Int.emod_lt_of_pos _ (by omega),f1,k1⟩
 ·go_enter Tryz.func11,Tryz.ntmps11
  go_wp2_with fail;refine(GQ p ao n cap _ HC.out).mono ?_;rintro e w1⟨x,rfl,x0,x1,f1,k1⟩;have F1:=hxy f1;clear f1;go_wp2_with fail;refine(GQ p ao n cap _ k1).mono ?_;rintro e w2⟨y,rfl,y0,y1,f2,k2⟩;have F2:=hxy (F1.out.trans f2);clear f2 k1;go_wp2_with fail;refine(GQ p ao n cap _ k2).mono ?_;rintro e w3⟨z,rfl,z0,z1,f3,k3⟩;have F3:=hxy (F2.out.trans f3);clear f3 k2;go_wp2;go_ret;exact⟨_,rfl,Int.emod_nonneg _ (by omega),Int.emod_lt_of_pos _ (by omega),F3.out,k3⟩
theorem Dh(p:Nat)(ao:Option Addr)(n cap:Nat)(m:Int)(w:World)(hm:1<=m)(hc:Bj w p ao n cap):
 Calls Tryz.prog 35 #[Vq p,Vi m] w fun e w'=>∃x:Bool,e=.returned (.bool x)/\Fw p w w'/\Bj w' p ao n cap:=by
 have HC:=hxy hc;clear hc;go_enter Tryz.func35,Tryz.ntmps35;go_wp2_with fail;refine(Aa p ao n cap m _ hm HC.out).mono ?_;rintro e w1⟨x,rfl,x0,x1,f1,k1⟩;go_wp2;go_ret;exact⟨_,rfl,f1,k1⟩
theorem WB(ao:Option Addr)(n cap:Nat)(w:World)(hn:n<=1048576)(hr:Fp w w.heap.size ao n):
 Calls Tryz.prog 9 #[.slice ao n cap] w fun e w'=>∃p,e=.returned (Vq p)/\w.heap.size<=p/\Below w.heap.size w w'/\Bj w' p ao n cap:=by
 have HR:=hxy hr;clear hr;go_enter Tryz.func9,Tryz.ntmps9;go_wp2;go_loopw [3,4](fun hv i wr=>∃(k:Nat)(h:Int),k<=n/\i=Vi k/\hv=Vi h/\wr=w)(fun _ i _=>n-(intOf i).toNat)
 case atStart=>exact⟨0,_,Nat.zero_le _,rfl,rfl,rfl⟩
 case round=>
  obtain⟨k,h,hk,rfl,rfl,rfl⟩:=hrel;by_cases hlt:k<n
  ·obtain⟨b,off,v,rfl,hb,v0,v1,hv⟩:∃b off v,ao=some ⟨b,off,none⟩/\b<wr.heap.size/\0<=v/\v<=255/\wr.cell? (Va b (off+k))=some (.int .u8 v):=by
    rcases HR.out with h|⟨b,off,h1,h2,h3⟩
    ·omega
    ·obtain⟨v,q1,q2,q3⟩:=h3 k hlt
     exact⟨b,off,v,h1,h2,q1,q2,q3⟩
   go_wp2;go_roundw
   case rel=>exact⟨k+1,_,by omega,by go_num,rfl,trivial⟩
   case measure=>simp[intOf];omega
  ·go_wp2
   go_ret;refine⟨_,rfl,jG,Ak,?_⟩;exact⟨by simp,fun i=>by simp[go_sem],⟨0,h,Nat.zero_le _,by simp[go_sem],by simp[go_sem],by simp[go_sem]⟩,by
    rcases HR.out with h|⟨b,off,h1,h2,h3⟩
    ·exact .inl h
    ·exact .inr ⟨b,off,h1,h2,fun i hi=>by obtain⟨v,q1,q2,q3⟩:=h3 i hi;exact⟨v,q1,q2,(World.cell?_alloc_lt _ _ _ h2).trans q3⟩⟩,hn⟩
theorem AY{fz:Nat×Nat}(h:w.heap[p]?=some (.cells BZ t fz))(j:Nat):w.cell? (Va p j)=BZ[j]?:=by
 unfold World.cell?;simp only[h];rfl
theorem Cr(h:w.heap[p]?=some (.cells BZ t))(j:Nat):w.frozen? (Va p j)=false:=by
 unfold World.frozen?;simp[h]
theorem Ci(h:w.heap[p]?=some (.cells BZ t))(j:Nat)(v:Value):(w.setCell (Va p j) v).heap[p]?=some (.cells (BZ.setIfInBounds j v) t):=by
 unfold World.setCell;rw[Array.getElem?_modify,if_pos rfl,h];rfl
theorem Av{o:Obj}(h:w.heap[p]?=some o)(hne:p≠q)(j:Nat)(v:Value):(w.setCell (Va q j) v).heap[p]?=some o:=by
 rw[heap_setCell_other _ _ _ _ hne];exact h
theorem Bh(w:World)(o:Obj):(w.alloc o).heap[w.heap.size]?=some o:=by simp only[World.alloc];simp
structure IV where
 o:Int
 d:Int
 a:Int
 b:Int
 i:Int
 h:Int
def IV.c(x:IV):Array Value:=#[Vi x.o,Vi x.d,Vi x.a,Vi x.b,Vi x.i,Vi x.h]
def Ib(w:World)(q:Nat)(x:IV):Prop:=w.heap[q]?=some (.cells x.c 87)
theorem Ib.cells{x:IV}(h:Ib w q x):w.cell? (Va q 0)=some (Vi x.o)/\w.cell? (Va q 1)=some (Vi x.d)/\w.cell? (Va q 2)=some (Vi x.a)/\w.cell? (Va q 3)=some (Vi x.b)/\w.cell? (Va q 4)=some (Vi x.i)/\w.cell? (Va q 5)=some (Vi x.h)/\(∀j,w.frozen? (Va q j)=false)/\q<w.heap.size:=
 ⟨AY h 0,AY h 1,AY h 2,AY h 3,AY h 4,AY h 5,fun j=>Cr h j,(jH.1 h).1⟩
theorem Ib.lt{x:IV}(h:Ib w q x):q<w.heap.size:=(jH.1 h).1
theorem Ib.fw{x:IV}(h:Ib w q x)(f:Fw p w w')(hn:q≠p):Ib w' q x:=(f.block q h.lt hn).trans h
theorem Ib.below{x:IV}(h:Ib w q x)(f:Below w.heap.size w w'):Ib w' q x:=(f.block q h.lt).trans h
theorem Ib.other{x:IV}(h:Ib w q x)(hn:q≠r)(j:Nat)(v:Value):Ib (w.setCell (Va r j) v) q x:=Av h hn j v
theorem Bj.put(h:Bj w p ao n cap)(hq:p<q)(o:Nat)(v:Value):Bj (w.setCell (Va q o) v) p ao n cap:=by
 have hb:Below q w (w.setCell (Va q o) v):=(Below.refl q w).setCell (p:=Va q o) (Nat.le_refl q) v;obtain⟨i,hh,q0,q1,q2,q3⟩:=h.cs;refine⟨by simpa using h.lt,fun i=>(hb.frozen (p:=Va p i) hq).trans (h.fz i),⟨i,hh,q0,(hb.cell (p:=Va p 0) hq).trans q1,(hb.cell (p:=Va p 1) hq).trans q2,(hb.cell (p:=Va p 2) hq).trans q3⟩,?_,h.ln⟩;rcases h.row with h|⟨b,off,h1,h2,h3⟩
 ·exact .inl h
 ·exact .inr ⟨b,off,h1,h2,fun i hi=>by obtain⟨v,q1,q2,q3⟩:=h3 i hi;exact⟨v,q1,q2,(hb.cell (p:=Va b (off+i)) (Nat.lt_trans h2 hq)).trans q3⟩⟩
theorem Fw.put(h:Fw p a b)(hq:a.heap.size<=q)(o:Nat)(v:Value):Fw p a (b.setCell (Va q o) v):=
 ⟨h.os,h.tape,h.output,by simpa using h.size,fun k hk hn=>(Below.heap_setCell b ⟨q,o,none⟩ v k (by simp;omega)).trans (h.block k hk hn)⟩
structure IW(w:World)(p:Nat)(ao:Option Addr)(n cap r q:Nat)(x:IV)(v:World):Prop where
 F:Fw p w v
 K:Bj v p ao n cap
 R:Ib v r ⟨0,0,0,0,0,0⟩
 X:Ib v q x
 pw:p<w.heap.size
 wr:w.heap.size<=r
 wq:w.heap.size<=q
 ne:r≠q
 rb:0<=x.b/\x.b<=7
theorem IW.fw{v':World}{x:IV}(h:IW w p ao n cap r q x v)(f:Fw p v v')(c:Bj v' p ao n cap):IW w p ao n cap r q x v':=
 ⟨h.F.trans f,c,h.R.fw f (by have:=h.pw;have:=h.wr;omega),h.X.fw f (by have:=h.pw;have:=h.wq;omega),h.pw,h.wr,h.wq,h.ne,h.rb⟩
theorem IW.set{x:IV}(h:IW w p ao n cap r q x v)(y:IV)(j:Nat)(u:Value)(hy:x.c.setIfInBounds j u=y.c)(hb:0<=y.b/\y.b<=7):IW w p ao n cap r q y (v.setCell (Va q j) u):=
 ⟨h.F.put h.wq _ _,h.K.put (by have:=h.pw;have:=h.wq;omega) _ _,h.R.other h.ne _ _,by unfold Ib;rw[<-hy];exact Ci h.X j u,h.pw,h.wr,h.wq,h.ne,hb⟩
theorem IW.setO{x:IV}(h:IW w p ao n cap r q x v)(y:Int):IW w p ao n cap r q {x with o:=y} (v.setCell (Va q 0) (Vi y)):=h.set _ _ _ rfl h.rb
theorem IW.setD{x:IV}(h:IW w p ao n cap r q x v)(y:Int):IW w p ao n cap r q {x with d:=y} (v.setCell (Va q 1) (Vi y)):=h.set _ _ _ rfl h.rb
theorem IW.setA{x:IV}(h:IW w p ao n cap r q x v)(y:Int):IW w p ao n cap r q {x with a:=y} (v.setCell (Va q 2) (Vi y)):=h.set _ _ _ rfl h.rb
theorem IW.setB{x:IV}(h:IW w p ao n cap r q x v)(y:Int)(hb:0<=y/\y<=7):IW w p ao n cap r q {x with b:=y} (v.setCell (Va q 3) (Vi y)):=h.set _ _ _ rfl hb
theorem IW.setI{x:IV}(h:IW w p ao n cap r q x v)(y:Int):IW w p ao n cap r q {x with i:=y} (v.setCell (Va q 4) (Vi y)):=h.set _ _ _ rfl h.rb
theorem IW.setH{x:IV}(h:IW w p ao n cap r q x v)(y:Int):IW w p ao n cap r q {x with h:=y} (v.setCell (Va q 5) (Vi y)):=h.set _ _ _ rfl h.rb
theorem IG(p:Nat)(ao:Option Addr)(n cap:Nat)(w:World)(hc:Bj w p ao n cap):
 Calls Tryz.prog 168 #[Vq p] w fun e w'=>∃x:Int,e=.returned (Vi x)/\0<=x/\x<8/\Fw p w w'/\Bj w' p ao n cap:=by
 have HC:=hxy hc;clear hc;go_enter Tryz.func168,Tryz.ntmps168;go_wp2_with fail;refine(Aa p ao n cap 8 _ (by omega) HC.out).mono ?_;rintro e w1⟨x,rfl,x0,x1,f1,k1⟩;go_wp2;go_ret;exact⟨_,rfl,x0,x1,f1,k1⟩
theorem Iu(p:Nat)(ao:Option Addr)(n cap:Nat)(lo hi:Int)(w:World)(h0:0<=lo)(h1:lo<=hi)(h2:hi<=100)(hc:Bj w p ao n cap):
 Calls Tryz.prog 139 #[Vq p,Vi lo,Vi hi] w fun e w'=>∃x:IV,e=.returned (.agg x.c)/\(0<=x.b/\x.b<=7)/\Fw p w w'/\Bj w' p ao n cap:=by
 have lp:=hc.lt;have HC:=hxy hc;clear hc;go_enter Tryz.func139,Tryz.ntmps139;go_wp2_with fail;obtain⟨r,hr⟩:=Ae w.heap.size;obtain⟨u,hu,iu⟩:∃v,(w.alloc (.cells #[Vi 0,Vi 0,Vi 0,Vi 0,Vi 0,Vi 0] 87)).alloc (.cells #[Vi 0,Vi 0,Vi 0,Vi 0,Vi 0,Vi 0] 87)=v/\IW w p ao n cap r (r+1) ⟨0,0,0,0,0,0⟩ v:=by
  refine⟨_,rfl,.of_below ((Ak).alloc (by simp) _),HC.out.below ((Ak).alloc (by simp) _),?_,?_,lp,by omega,by omega,by omega,⟨Int.le_refl _,by decide⟩⟩
  ·rw[<-hr]
   exact Ib.below (w:=w.alloc _) (Bh w _) Ak
  ·rw[<-hr]
   have:=Bh (w.alloc (.cells #[Vi 0,Vi 0,Vi 0,Vi 0,Vi 0,Vi 0] 87)) (.cells #[Vi 0,Vi 0,Vi 0,Vi 0,Vi 0,Vi 0] 87);have e:(w.alloc (.cells #[Vi 0,Vi 0,Vi 0,Vi 0,Vi 0,Vi 0] 87)).heap.size=w.heap.size+1:=by simp
   rw[e]at this;exact this
 rw[hu];rw[hr];refine(Aa p ao n cap (hi-lo+1) _ (by omega) iu.K).mono ?_;rintro e w1⟨k,rfl,k0,k1,f,c⟩;have I1:=hxy (iu.fw f c);clear hu iu f c;have wl:=I1.out.F.size;obtain⟨c0,c1,c2,c3,c4,c5,cf,cl⟩:=I1.out.X.cells;go_upto_region 3 with fail;obtain⟨w2,hw2,i2⟩:∃v,w1.setCell ⟨r+1,0,none⟩ (Vi (lo+k))=v/\IW w p ao n cap r (r+1) ⟨lo+k,0,0,0,0,0⟩ v:=⟨_,rfl,I1.out.setO _⟩
 rw[hw2];have I2:=hxy i2;clear hw2 i2 c0 c1 c2 c3 c4 c5 cf cl I1 HC;obtain⟨x,hx⟩:∃y:IV,(⟨lo+k,0,0,0,0,0⟩:IV)=y:=⟨_,rfl⟩
 rw[hx]at I2;clear hx hr;obtain⟨c0,c1,c2,c3,c4,c5,cf,cl⟩:=I2.out.X.cells;go_wp2_with fail;refine(CK _ _).mono ?_;rintro e w'⟨rfl,hw⟩;rw[hw];obtain⟨us,hus⟩:=Ae (Af x.o);have hsz:us.size<=maxLen:=by rw[<-hus];exact Bu _
 rw[hus];have HS:=hxy hsz;clear hw hus hsz c0 c1 c2 c3 c4 c5 cf cl;go_wp2_with fail;refine(Ct us 68 _ HS.out (by omega) (by omega)).mono ?_;rintro e w'⟨rfl,hw⟩;rw[hw];clear hw;obtain⟨z,hz⟩:=Ae (A8 us 68);rw[hz];clear hz;go_upto_if 24 with fail;go_cut [6,7,8](fun s6 s7 s8 wx=>s6=Vq r/\s7=.pointer (some ⟨r+1,0,none⟩)/\s8=.string us/\∃x',IW w p ao n cap r (r+1) x' wx)
 case first=>
  cases z with
  |true=>
   go_wp2_with fail;refine(IG p ao n cap _ I2.out.K).mono ?_;rintro e w3⟨y,rfl,_,_,f,c⟩;have I3:=hxy (I2.out.fw f c);obtain⟨c0,c1,c2,c3,c4,c5,cf,cl⟩:=I3.out.X.cells;clear f c;go_wp2_with fail;go_meet;exact⟨rfl,rfl,rfl,_,I3.out.setD _⟩
  |false=>
   go_wp2_with fail;go_meet;exact⟨rfl,rfl,rfl,_,I2.out⟩
 case rest=>
  clear I2;obtain⟨rfl,rfl,rfl,x,i'⟩:=hcut;have I2:=hxy i';clear i';generalize wc=w2 at I2⊢;go_wp2_with fail;refine(Ct us 65 _ HS.out (by omega) (by omega)).mono ?_;rintro e w'⟨rfl,hw⟩;rw[hw];clear hw;obtain⟨z,hz⟩:=Ae (A8 us 65);rw[hz];clear hz;go_upto_if 29 with fail;go_cut [6,7,8](fun s6 s7 s8 wx=>s6=Vq r/\s7=.pointer (some ⟨r+1,0,none⟩)/\s8=.string us/\∃x',IW w p ao n cap r (r+1) x' wx)
  case first=>
   cases z with
   |true=>
    go_wp2_with fail;refine(IG p ao n cap _ I2.out.K).mono ?_;rintro e w3⟨y,rfl,_,_,f,c⟩;have I3:=hxy (I2.out.fw f c);obtain⟨c0,c1,c2,c3,c4,c5,cf,cl⟩:=I3.out.X.cells;clear f c;go_wp2_with fail;go_meet;exact⟨rfl,rfl,rfl,_,I3.out.setA _⟩
   |false=>
    go_wp2_with fail;go_meet;exact⟨rfl,rfl,rfl,_,I2.out⟩
  case rest=>
   clear I2;obtain⟨rfl,rfl,rfl,x,i'⟩:=hcut;have I2:=hxy i';clear i';generalize wc=w2 at I2⊢;go_wp2_with fail;refine(Ct us 66 _ HS.out (by omega) (by omega)).mono ?_;rintro e w'⟨rfl,hw⟩;rw[hw];clear hw;obtain⟨z,hz⟩:=Ae (A8 us 66);rw[hz];clear hz;go_upto_if 34 with fail;go_cut [6,7,8](fun s6 s7 s8 wx=>s6=Vq r/\s7=.pointer (some ⟨r+1,0,none⟩)/\s8=.string us/\∃x',IW w p ao n cap r (r+1) x' wx)
   case first=>
    cases z with
    |true=>
     go_wp2_with fail;refine(IG p ao n cap _ I2.out.K).mono ?_;rintro e w3⟨y,rfl,y0,y8,f,c⟩;have I3:=hxy (I2.out.fw f c);obtain⟨c0,c1,c2,c3,c4,c5,cf,cl⟩:=I3.out.X.cells;clear f c;go_wp2_with fail;go_meet;exact⟨rfl,rfl,rfl,_,I3.out.setB _ ⟨y0,by omega⟩⟩
    |false=>
     go_wp2_with fail;go_meet;exact⟨rfl,rfl,rfl,_,I2.out⟩
   case rest=>
    clear I2;obtain⟨rfl,rfl,rfl,x,i'⟩:=hcut;have I2:=hxy i';clear i';generalize wc=w2 at I2⊢;go_wp2_with fail;refine(Ct us 72 _ HS.out (by omega) (by omega)).mono ?_;rintro e w'⟨rfl,hw⟩;rw[hw];clear hw;obtain⟨z,hz⟩:=Ae (A8 us 72);rw[hz];clear hz;go_upto_if 39 with fail;go_cut [6,7,8](fun s6 s7 s8 wx=>s6=Vq r/\s7=.pointer (some ⟨r+1,0,none⟩)/\s8=.string us/\∃x',IW w p ao n cap r (r+1) x' wx)
    case first=>
     cases z with
     |true=>
      go_wp2_with fail;refine(Aa p ao n cap 3 _ (by omega) I2.out.K).mono ?_;rintro e w3⟨y,rfl,_,_,f,c⟩;have I3:=hxy (I2.out.fw f c);obtain⟨c0,c1,c2,c3,c4,c5,cf,cl⟩:=I3.out.X.cells;clear f c;go_wp2_with fail;go_meet;exact⟨rfl,rfl,rfl,_,I3.out.setH _⟩
     |false=>
      go_wp2_with fail;go_meet;exact⟨rfl,rfl,rfl,_,I2.out⟩
    case rest=>
     clear I2;obtain⟨rfl,rfl,rfl,x,i'⟩:=hcut;have I2:=hxy i';clear i';generalize wc=w2 at I2⊢;go_wp2_with fail;refine(Ct us 73 _ HS.out (by omega) (by omega)).mono ?_;rintro e w'⟨rfl,hw⟩;rw[hw];clear hw;obtain⟨z,hz⟩:=Ae (A8 us 73);rw[hz];clear hz;go_upto_if 44 with fail;go_cut [6,7,8](fun s6 s7 s8 wx=>s6=Vq r/\s7=.pointer (some ⟨r+1,0,none⟩)/\s8=.string us/\∃x',IW w p ao n cap r (r+1) x' wx)
     case first=>
      cases z with
      |false=>
       go_wp2_with fail;go_meet;exact⟨rfl,rfl,rfl,_,I2.out⟩
      |true=>
       go_wp2_with fail;refine(Aa p ao n cap 20 _ (by omega) I2.out.K).mono ?_;rintro e w3⟨y,rfl,_,_,f,c⟩;have I3:=hxy (I2.out.fw f c);obtain⟨c0,c1,c2,c3,c4,c5,cf,cl⟩:=I3.out.X.cells;clear f c I2;go_upto_region 14 with fail;obtain⟨w4,hw4,i4⟩:∃v,w3.setCell ⟨r+1,4,none⟩ (Vi y)=v/\IW w p ao n cap r (r+1) {x with i:=y} v:=⟨_,rfl,I3.out.setI _⟩
       rw[hw4];clear hw4 c0 c1 c2 c3 c4 c5 cf cl I3;go_wp2_with fail;refine(Aa p ao n cap 12 _ (by omega) i4.K).mono ?_;rintro e w5⟨kk,rfl,kk0,kk1,f,c⟩;have I2:=hxy (i4.fw f c);obtain⟨x,hx2⟩:∃z:IV,({x with i:=y}:IV)=z:=⟨_,rfl⟩
       rw[hx2]at I2;clear hx2 f c i4;generalize w5=w2 at I2⊢;go_upto_region 15 with fail;go_cut [6,7,8,9,72](fun s6 s7 s8 s9 t wx=>s6=Vq r/\s7=.pointer (some ⟨r+1,0,none⟩)/\s8=.string us/\s9=Vi kk/\(∃b:Bool,t=.bool b)/\wx=w2)
       case first=>
        obtain⟨c0,c1,c2,c3,c4,c5,cf,cl⟩:=I2.out.X.cells;go_wp2_with(first|(go_at_call 115;refine(CW _ _).mono ?_;rintro e w'⟨rfl,hw⟩;rw[hw];clear hw));all_goals
         go_meet;exact⟨rfl,rfl,rfl,(by first|rfl|exact congrArg (Value.int .i64) (by omega)),⟨_,rfl⟩,rfl⟩
       case rest=>
        obtain⟨rfl,rfl,rfl,rfl,⟨z,rfl⟩,hwc⟩:=hcut;rw[hwc];clear hwc;go_upto_if 72 with fail;go_cut [6,7,8,9](fun s6 s7 s8 s9 wx=>s6=Vq r/\s7=.pointer (some ⟨r+1,0,none⟩)/\s8=.string us/\s9=Vi kk/\∃x',IW w p ao n cap r (r+1) x' wx)
        case first=>
         cases z with
         |false=>
          go_wp2_with fail;go_meet;exact⟨rfl,rfl,rfl,rfl,_,I2.out⟩
         |true=>
          go_wp2_with fail;refine(Aa p ao n cap 12 _ (by omega) I2.out.K).mono ?_;rintro e w3⟨y,rfl,_,_,f,c⟩;have I3:=hxy (I2.out.fw f c);obtain⟨c0,c1,c2,c3,c4,c5,cf,cl⟩:=I3.out.X.cells;clear f c;go_wp2_with fail;go_meet;exact⟨rfl,rfl,rfl,rfl,_,I3.out.setI _⟩
        case rest=>
         clear I2;obtain⟨rfl,rfl,rfl,rfl,x,i'⟩:=hcut;have I2:=hxy i';clear i';generalize wc=w2 at I2⊢;go_upto_region 17 with fail;go_cut [6,7,8,9,78](fun s6 s7 s8 s9 t wx=>s6=Vq r/\s7=.pointer (some ⟨r+1,0,none⟩)/\s8=.string us/\s9=Vi kk/\(∃b:Bool,t=.bool b)/\wx=w2)
         case first=>
          go_wp2_with fail;all_goals
           go_meet;exact⟨rfl,rfl,rfl,rfl,⟨_,rfl⟩,rfl⟩
         case rest=>
          obtain⟨rfl,rfl,rfl,rfl,⟨z,rfl⟩,hwc⟩:=hcut;rw[hwc];clear hwc;go_upto_if 78 with fail;go_cut [6,7,8,9](fun s6 s7 s8 s9 wx=>s6=Vq r/\s7=.pointer (some ⟨r+1,0,none⟩)/\s8=.string us/\s9=Vi kk/\∃x',IW w p ao n cap r (r+1) x' wx)
          case first=>
           cases z with
           |false=>
            go_wp2_with fail;go_meet;exact⟨rfl,rfl,rfl,rfl,_,I2.out⟩
           |true=>
            go_wp2_with fail;refine(Aa p ao n cap 44 _ (by omega) I2.out.K).mono ?_;rintro e w3⟨y,rfl,y0,y1,f,c⟩;have I3:=hxy (I2.out.fw f c);obtain⟨c0,c1,c2,c3,c4,c5,cf,cl⟩:=I3.out.X.cells;clear f c;go_wp2_with fail;go_meet;exact⟨rfl,rfl,rfl,rfl,_,I3.out.setI _⟩
          case rest=>
           clear I2;obtain⟨rfl,rfl,rfl,rfl,x,i'⟩:=hcut;have I2:=hxy i';clear i';generalize wc=w2 at I2⊢;go_upto_region 19 with fail;go_cut [6,7,8,9,100](fun s6 s7 s8 s9 t wx=>s6=Vq r/\s7=.pointer (some ⟨r+1,0,none⟩)/\s8=.string us/\s9=Vi kk/\(∃b:Bool,t=.bool b)/\wx=w2)
           case first=>
            obtain⟨c0,c1,c2,c3,c4,c5,cf,cl⟩:=I2.out.X.cells;go_wp2_with(first|(go_at_call 115;refine(CW _ _).mono ?_;rintro e w'⟨rfl,hw⟩;rw[hw];clear hw));all_goals
             go_meet;exact⟨rfl,rfl,rfl,(by first|rfl|exact congrArg (Value.int .i64) (by omega)),⟨_,rfl⟩,rfl⟩
           case rest=>
            obtain⟨rfl,rfl,rfl,rfl,⟨z,rfl⟩,hwc⟩:=hcut;rw[hwc];clear hwc;cases z with
            |false=>
             go_wp2_with fail;go_meet;exact⟨rfl,rfl,rfl,_,I2.out⟩
            |true=>
             obtain⟨c0,c1,c2,c3,c4,c5,cf,cl⟩:=I2.out.X.cells;go_wp2_with fail;go_meet;exact⟨rfl,rfl,rfl,_,I2.out.setI _⟩
     case rest=>
      clear I2;obtain⟨rfl,rfl,rfl,x,i'⟩:=hcut;have I2:=hxy i';clear i';generalize wc=w2 at I2⊢;obtain⟨c0,c1,c2,c3,c4,c5,cf,cl⟩:=I2.out.X.cells;obtain⟨b0,b1,b2,b3,b4,b5,bf,bl⟩:=I2.out.R.cells;have FF:Hid (∀v0 v1 v2 v3 v4 v5,Fw p w ((((((w2.setCell (Va r 0) v0).setCell (Va r 1) v1).setCell (Va r 2) v2).setCell (Va r 3) v3).setCell (Va r 4) v4).setCell (Va r 5) v5)/\Bj ((((((w2.setCell (Va r 0) v0).setCell (Va r 1) v1).setCell (Va r 2) v2).setCell (Va r 3) v3).setCell (Va r 4) v4).setCell (Va r 5) v5) p ao n cap):=fun v0 v1 v2 v3 v4 v5=>by
       have hr:=I2.out.wr;have hp:p<r:=by omega
       exact⟨(((((I2.out.F.put hr _ _).put hr _ _).put hr _ _).put hr _ _).put hr _ _).put hr _ _,(((((I2.out.K.put hp _ _).put hp _ _).put hp _ _).put hp _ _).put hp _ _).put hp _ _⟩
      have hne:=I2.out.ne;have HRB:=hxy I2.out.rb;clear I2;go_wp2_with fail;exact bodyPost_ret (v:=.agg x.c) (by simp[results,Tryz.results139,go_sem,IV.c, *]) rfl ⟨x,rfl,HRB.out,(FF.out _ _ _ _ _ _).1,(FF.out _ _ _ _ _ _).2⟩
theorem Ah{v:Value}(h:w.ownsRow base e size v n xs)(hb:Below w.heap.size w w'):w'.ownsRow base e size v n xs:=by
 refine⟨h.1,?_⟩;rcases h.2 with h|⟨g,cap,cur,rfl,h1,h2,h3⟩
 ·exact .inl h
 ·have hg:g<w.heap.size:=(jH.1 h2).1
  exact .inr ⟨g,cap,cur,rfl,h1,(hb.block g hg).trans h2,h3⟩
theorem DX{v:Value}(h:w.ownsRow base e size v n xs)(f:Fw p w w')(hp:p<base):w'.ownsRow base e size v n xs:=by
 refine⟨h.1,?_⟩;rcases h.2 with h|⟨g,cap,cur,rfl,h1,h2,h3⟩
 ·exact .inl h
 ·have hg:g<w.heap.size:=(jH.1 h2).1
  exact .inr ⟨g,cap,cur,rfl,h1,(f.block g hg (by omega)).trans h2,h3⟩
theorem Cs{v:Value}(h:w.ownsRow base e size v n xs)(hn:v.ownBlock≠some q)(j:Nat)(u:Value):(w.setCell (Va q j) u).ownsRow base e size v n xs:=by
 refine⟨h.1,?_⟩;rcases h.2 with h|⟨g,cap,cur,rfl,h1,h2,h3⟩
 ·exact .inl h
 ·exact .inr ⟨g,cap,cur,rfl,h1,Av h2 (fun e=>hn (by rw[e];rfl)) j u,h3⟩
theorem Fw.grown{c:World}{row:Option Nat}(h:Fw p a b)(hg:b.grownBy c row)(hr:∀k,row=some k->a.heap.size<=k):Fw p a c:=
 ⟨hg.os.trans h.os,hg.tape.trans h.tape,hg.output.trans h.output,Nat.le_trans h.size hg.size,fun k hk hn=>(hg.block k (by have:=h.size;omega) (fun e=>by have:=hr k e.symm;omega)).trans (h.block k hk hn)⟩
theorem Bj.grown{c:World}{row:Option Nat}(h:Bj b p ao n cap)(hg:b.grownBy c row)(hr:∀k,row=some k->p<k):Bj c p ao n cap:=by
 have hb:Below (p+1) b c:=(Below.refl _ _).grown hg h.lt (fun k hk=>hr k hk);obtain⟨i,hh,q0,q1,q2,q3⟩:=h.cs;refine⟨jI h.lt hg.size,fun i=>(hb.frozen (p:=Va p i) (by simp)).trans (h.fz i),⟨i,hh,q0,(hb.cell (p:=Va p 0) (by simp)).trans q1,(hb.cell (p:=Va p 1) (by simp)).trans q2,(hb.cell (p:=Va p 2) (by simp)).trans q3⟩,?_,h.ln⟩;rcases h.row with h|⟨b,off,h1,h2,h3⟩
 ·exact .inl h
 ·exact .inr ⟨b,off,h1,h2,fun i hi=>by obtain⟨v,q1,q2,q3⟩:=h3 i hi;exact⟨v,q1,q2,(hb.cell (p:=Va b (off+i)) (by simp;omega)).trans q3⟩⟩
theorem FN(w:World)(BZ:Array Value)(t:TypeId):∀(j:Nat)u,BZ.toList[j]?=some u->(w.alloc (.cells BZ t)).cell? ((⟨w.heap.size,0,none⟩:Addr).add j)=some u:=fun j u h=>by
 have e:(⟨w.heap.size,0,none⟩:Addr).add j=⟨w.heap.size,j,none⟩:=by unfold Addr.add;split<;>simp_all
 rw[e,AY (Bh w (.cells BZ t)) j];simpa using h
theorem II{B s:Nat}{v:Value}(h:w.ownsRow B e s v n xs):∃ao cap,v=.slice ao n cap:=by
 rcases h.2 with⟨h,h0⟩|⟨g,cap,cur,h,_⟩
 ·exact⟨none,0,by rw[h,h0]⟩
 ·exact⟨_,_,h⟩
end Go.Proofs.YtfpeecaaleijcaaGreatDoor
