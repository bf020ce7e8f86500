import Derived.Test.YtdbhgaegblclaaaDoorOfRegT
import Derived.WalkLawsBesides
import Derived.Deep.QuietTactic
import Derived.BigQuiet
import Derived.Test.YtdbhgaegblclaaaDoorRows
import Derived.Deep.RegionHeld3
import Derived.Deep.Cut
import Derived.Deep.DeepCutAuto
import Derived.Test.YtdbhgaegblclaaaDoorInsValid
import Derived.Test.YtdbhgaegblclaaaDoorFlatWalks
import Derived.Maps.AppendAt
import Derived.OwnWalk
import Derived.Deep.Onto
set_option maxHeartbeats 8000000
set_option maxRecDepth 20000
namespace Go.Proofs.YtdbhgaegblclaaaDoor
open Go.RowKit
structure Fw(p:Nat)(w w':World):Prop where
 os:w'.os=w.os
 tape:w'.tape=w.tape
 output:w'.output=w.output
 size:w.heap.size<=w'.heap.size
 block:∀k,k<w.heap.size->k≠p->w'.heap[k]?=w.heap[k]?
theorem Fw.refl(p:Nat)(w:World):Fw p w w:=⟨rfl,rfl,rfl,Nat.le_refl _,fun _ _ _=>rfl⟩
theorem Fw.trans{p:Nat}{a b c:World}(h:Fw p a b)(k:Fw p b c):Fw p a c:=
 ⟨k.os.trans h.os,k.tape.trans h.tape,k.output.trans h.output,Nat.le_trans h.size k.size,fun i hi hn=>(k.block i (Nat.lt_of_lt_of_le hi h.size) hn).trans (h.block i hi hn)⟩
theorem Fw.of_below{p:Nat}{w w':World}(h:Below w.heap.size w w'):Fw p w w':=⟨h.os,h.tape,h.output,h.size,fun k hk _=>h.block k hk⟩
theorem Fw.below{p B:Nat}{w0 w w':World}(h:Fw p w w')(hb:Below B w0 w)(hp:B<=p)(hs:B<=w.heap.size):Below B w0 w':=
 ⟨h.os.trans hb.os,h.tape.trans hb.tape,h.output.trans hb.output,Nat.le_trans hb.size h.size,fun k hk=>(h.block k (by omega) (by omega)).trans (hb.block k hk)⟩
theorem Fw.cell{p:Nat}{w w':World}(h:Fw p w w'){b o:Nat}(hb:b<w.heap.size)(hn:b≠p):w'.cell? ⟨b,o,none⟩=w.cell? ⟨b,o,none⟩:=World.cell?_of_block (a:=⟨b,o,none⟩) (h.block b hb hn)
theorem Fw.frozen{p:Nat}{w w':World}(h:Fw p w w'){b o:Nat}(hb:b<w.heap.size)(hn:b≠p):w'.frozen? ⟨b,o,none⟩=w.frozen? ⟨b,o,none⟩:=World.frozen?_of_block (a:=⟨b,o,none⟩) (h.block b hb hn)
theorem Fw.set{p:Nat}{a b:World}(h:Fw p a b)(o:Nat)(v:Value):Fw p a (b.setCell ⟨p,o,none⟩ v):=
 ⟨h.os,h.tape,h.output,by simpa using h.size,fun k hk hn=>(Below.heap_setCell b ⟨p,o,none⟩ v k hn).trans (h.block k hk hn)⟩
theorem Fw.drewN{p:Nat}{a b:World}(h:Fw p a b)(n:Nat):Fw p a (b.drewN n):=h.trans (.of_below (below_drewN (Below.refl _ _) n))
theorem Fw.cl{p:Nat}{w w':World}{b:Nat}{vs:List Value}(h:Fw p w w')(hc:Cl w b vs)(hn:b≠p):Cl w' b vs:=
 ⟨Nat.lt_of_lt_of_le hc.1 h.size,fun i hi=>(h.cell hc.1 hn).trans (hc.2 i hi)⟩
def Bytes0(w:World)(p:Nat)(ao:Option Addr)(n:Nat):Prop:=n=0∨∃b off,ao=some ⟨b,off,none⟩/\b<p/\∀i,i<n->∃v:Int,0<=v/\v<=255/\w.cell? ⟨b,off+i,none⟩=some (.int .u8 v)
structure Cur(w:World)(p:Nat)(ao:Option Addr)(n cap:Nat):Prop where
 lt:p<w.heap.size
 fz:∀i,w.frozen? ⟨p,i,none⟩=false
 cs:∃(i:Nat)(h:Int),i<=n/\w.cell? ⟨p,0,none⟩=some (.slice ao n cap)/\w.cell? ⟨p,1,none⟩=some (.int .i64 i)/\w.cell? ⟨p,2,none⟩=some (.int .i64 h)
 row:Bytes0 w p ao n
 ln:n<=1048576
theorem Bytes0.fw{w w':World}{p n:Nat}{ao:Option Addr}(h:Bytes0 w p ao n)(hp:p<w.heap.size)(f:Fw p w w'):Bytes0 w' p ao n:=by
 rcases h with h|⟨b,off,h1,h2,h3⟩
 ·exact .inl h
 ·exact .inr ⟨b,off,h1,h2,fun i hi=>by obtain⟨v,q1,q2,q3⟩:=h3 i hi;exact⟨v,q1,q2,(f.cell (by omega) (by omega)).trans q3⟩⟩
theorem Cur.below{w w':World}{p n cap:Nat}{ao:Option Addr}(h:Cur w p ao n cap)(hb:Below w.heap.size w w'):Cur w' p ao n cap:=by
 obtain⟨i,hh,q0,q1,q2,q3⟩:=h.cs;exact⟨Nat.lt_of_lt_of_le h.lt hb.size,fun i=>(hb.frozen (p:=⟨p,i,none⟩) h.lt).trans (h.fz i),⟨i,hh,q0,(hb.cell (p:=⟨p,0,none⟩) h.lt).trans q1,(hb.cell (p:=⟨p,1,none⟩) h.lt).trans q2,(hb.cell (p:=⟨p,2,none⟩) h.lt).trans q3⟩,h.row.fw h.lt (.of_below hb),h.ln⟩
theorem Cur.step{w:World}{p n cap:Nat}{ao:Option Addr}(h:Cur w p ao n cap)(i:Nat)(hi:i<=n){v:Int}(hv:v=(i:Int)):Cur (w.setCell ⟨p,1,none⟩ (.int .i64 v)) p ao n cap:=by
 subst hv;obtain⟨j,hh,q0,q1,q2,q3⟩:=h.cs;have lt:=h.lt;exact⟨by simpa using lt,fun k=>by rw[World.frozen?_setCell];exact h.fz k,⟨i,hh,hi,by go_simp,by go_simp,by go_simp⟩,h.row.fw lt ((Fw.refl _ _).set _ _),h.ln⟩
theorem i64_and255(n:Int):bits .and .i64 n 255=n%256:=by
 have h255:(BitVec.ofInt 64 255).toNat=2^8-1:=by decide
 have key:(BitVec.ofInt 64 n&&&BitVec.ofInt 64 255).toNat=(n%((2^64:Nat):Int)).toNat%2^8:=by
  rw[BitVec.toNat_and,BitVec.toNat_ofInt,h255,Nat.and_two_pow_sub_one_eq_mod]
 show IntKind.i64.wrap ((BitVec.ofInt 64 n&&&BitVec.ofInt 64 255).toNat:Nat)=n%256;rw[key,IntKind.wrap_i64];omega
theorem l1Byte_any(p:Nat)(ao:Option Addr)(n cap:Nat)(w:World)(hc:Cur w p ao n cap):
 Calls Tryd.prog 74 #[.pointer (some ⟨p,0,none⟩)] w fun e w'=>∃x:Int,e=.returned (.int .i64 x)/\0<=x/\x<=255/\Fw p w w'/\Cur w' p ao n cap:=by
 obtain⟨i,h,hi,c0,c1,c2⟩:=hc.cs;have lp:=hc.lt;have fz:=hc.fz;have HC:Hid (Cur w p ao n cap):=hc;have ln:=hc.ln;clear hc;go_enter Tryd.func74,Tryd.ntmps74;go_wp2;generalize wrap64 (wrap64 (h*6364136223846793005)+1442695040888963407)=h2;obtain⟨w1,hw1,f1,c0',c1',c2',fz',lp'⟩:∃v,w.setCell ⟨p,2,none⟩ (.int .i64 h2)=v/\Fw p w v/\v.cell? ⟨p,0,none⟩=some (.slice ao n cap)/\v.cell? ⟨p,1,none⟩=some (.int .i64 i)/\v.cell? ⟨p,2,none⟩=some (.int .i64 h2)/\(∀i,v.frozen? ⟨p,i,none⟩=false)/\p<v.heap.size:=
  ⟨_,rfl,(Fw.refl _ _).set _ _,by go_simp,by go_simp,by go_simp,fun i=>by rw[World.frozen?_setCell];exact fz i,by simpa using lp⟩
 rw[hw1];have HF:Hid (Fw p w w1):=f1;clear hw1 f1 c0 c1 c2 fz;go_quiet(fail);go_wp2;rw[i64_and255];obtain⟨x,hx,x0,x1⟩:∃x:Int,bits BinOp.xor IntKind.i64 (h2/8589934592) (h2/35184372088832)%256=x/\0<=x/\x<=255:=⟨_,rfl,by omega,by omega⟩
 rw[hx];clear hx;obtain⟨w2,hw2,f2⟩:∃v,w1.drewN nq=v/\Below w1.heap.size w1 v:=⟨_,rfl,below_drewN (Below.refl _ _) _⟩
 rw[hw2];have HF2:Hid (Fw p w w2):=HF.out.trans (.of_below f2);have c0:=(f2.cell (p:=⟨p,0,none⟩) lp').trans c0';have c1:=(f2.cell (p:=⟨p,1,none⟩) lp').trans c1';have c2:=(f2.cell (p:=⟨p,2,none⟩) lp').trans c2';have fz:∀i,w2.frozen? ⟨p,i,none⟩=false:=fun i=>(f2.frozen (p:=⟨p,i,none⟩) lp').trans (fz' i)
 have lp2:p<w2.heap.size:=Nat.lt_of_lt_of_le lp' f2.size;clear hw2 f2 c0' c1' c2' fz' lp' HF;by_cases hlt:i<n
 ·have hn:n≠0:=by omega
  obtain⟨b,off,v,rfl,hb,v0,v1,hv⟩:∃b off v,ao=some ⟨b,off,none⟩/\b<p/\0<=v/\v<=255/\w2.cell? ⟨b,off+i,none⟩=some (.int .u8 v):=by
   rcases HC.out.row.fw lp HF2.out with h|⟨b,off,h1,h2,h3⟩
   ·exact absurd h hn
   ·obtain⟨v,q1,q2,q3⟩:=h3 i hlt
    exact⟨b,off,v,h1,h2,q1,q2,q3⟩
  go_quiet(fail);go_wp2;go_quiet(fail);go_wp2;go_ret;refine⟨_,rfl,by rw[i64_and255];omega,by rw[i64_and255];omega,(HF2.out.drewN _).set _ _,?_⟩;exact((⟨lp2,fz,⟨i,h2,hi,c0,c1,c2⟩,HC.out.row.fw lp HF2.out,ln⟩:Cur w2 p _ n cap).below (below_drewN (Below.refl _ _) _)).step (i+1) (by omega) (by omega)
 ·go_quiet(fail)
  go_wp2;go_ret;exact⟨_,rfl,x0,x1,HF2.out.drewN _,(⟨lp2,fz,⟨i,h2,hi,c0,c1,c2⟩,HC.out.row.fw lp HF2.out,ln⟩:Cur w2 p ao n cap).below (below_drewN (Below.refl _ _) _)⟩
theorem l1Below_any(p:Nat)(ao:Option Addr)(n cap:Nat)(m:Int)(w:World)(hm:1<=m)(hc:Cur w p ao n cap):
 Calls Tryd.prog 46 #[.pointer (some ⟨p,0,none⟩),.int .i64 m] w fun e w'=>∃x:Int,e=.returned (.int .i64 x)/\0<=x/\x<m/\Fw p w w'/\Cur w' p ao n cap:=by
 have HC:Hid (Cur w p ao n cap):=hc;clear hc;by_cases h:m<=256
 ·go_enter Tryd.func46,Tryd.ntmps46
  go_wp2_with fail;refine(l1Byte_any p ao n cap _ HC.out).mono ?_;rintro e w1⟨x,rfl,x0,x1,f1,k1⟩;go_wp2;go_ret;exact⟨_,rfl,Int.emod_nonneg _ (by omega),Int.emod_lt_of_pos _ (by omega),f1,k1⟩
 ·go_enter Tryd.func46,Tryd.ntmps46
  go_wp2_with fail;refine(l1Byte_any p ao n cap _ HC.out).mono ?_;rintro e w1⟨x,rfl,x0,x1,f1,k1⟩;have F1:Hid (Fw p w w1):=f1;clear f1;go_wp2_with fail;refine(l1Byte_any p ao n cap _ k1).mono ?_;rintro e w2⟨y,rfl,y0,y1,f2,k2⟩;have F2:Hid (Fw p w w2):=F1.out.trans f2;clear f2 k1;go_wp2_with fail;refine(l1Byte_any p ao n cap _ k2).mono ?_;rintro e w3⟨z,rfl,z0,z1,f3,k3⟩;have F3:Hid (Fw p w w3):=F2.out.trans f3;clear f3 k2;go_wp2;go_ret;exact⟨_,rfl,Int.emod_nonneg _ (by omega),Int.emod_lt_of_pos _ (by omega),F3.out,k3⟩
theorem l1Once_any(p:Nat)(ao:Option Addr)(n cap:Nat)(m:Int)(w:World)(hm:1<=m)(hc:Cur w p ao n cap):
 Calls Tryd.prog 47 #[.pointer (some ⟨p,0,none⟩),.int .i64 m] w fun e w'=>∃x:Bool,e=.returned (.bool x)/\Fw p w w'/\Cur w' p ao n cap:=by
 have HC:Hid (Cur w p ao n cap):=hc;clear hc;go_enter Tryd.func47,Tryd.ntmps47;go_wp2_with fail;refine(l1Below_any p ao n cap m _ hm HC.out).mono ?_;rintro e w1⟨x,rfl,x0,x1,f1,k1⟩;go_wp2;go_ret;exact⟨_,rfl,f1,k1⟩
theorem l1New_any(ao:Option Addr)(n cap:Nat)(w:World)(hn:n<=1048576)(hr:Bytes0 w w.heap.size ao n):
 Calls Tryd.prog 27 #[.slice ao n cap] w fun e w'=>∃p,e=.returned (.pointer (some ⟨p,0,none⟩))/\w.heap.size<=p/\Below w.heap.size w w'/\Cur w' p ao n cap:=by
 have HR:Hid (Bytes0 w w.heap.size ao n):=hr;clear hr;go_enter Tryd.func27,Tryd.ntmps27;go_wp2;go_loopw [3,4](fun hv i wr=>∃(k:Nat)(h:Int),k<=n/\i=.int .i64 k/\hv=.int .i64 h/\wr=w)(fun _ i _=>n-(intOf i).toNat)
 case atStart=>exact⟨0,_,Nat.zero_le _,rfl,rfl,rfl⟩
 case round=>
  obtain⟨k,h,hk,rfl,rfl,rfl⟩:=hrel;by_cases hlt:k<n
  ·obtain⟨b,off,v,rfl,hb,v0,v1,hv⟩:∃b off v,ao=some ⟨b,off,none⟩/\b<wr.heap.size/\0<=v/\v<=255/\wr.cell? ⟨b,off+k,none⟩=some (.int .u8 v):=by
    rcases HR.out with h|⟨b,off,h1,h2,h3⟩
    ·omega
    ·obtain⟨v,q1,q2,q3⟩:=h3 k hlt
     exact⟨b,off,v,h1,h2,q1,q2,q3⟩
   go_wp2;go_roundw
   case rel=>exact⟨k+1,_,by omega,by go_num,rfl,trivial⟩
   case measure=>simp[intOf];omega
  ·go_wp2
   go_ret;refine⟨_,rfl,Nat.le_refl _,(Below.refl _ _).alloc (Nat.le_refl _) _,?_⟩;exact⟨by simp,fun i=>by simp[go_sem],⟨0,h,Nat.zero_le _,by simp[go_sem],by simp[go_sem],by simp[go_sem]⟩,by
    rcases HR.out with h|⟨b,off,h1,h2,h3⟩
    ·exact .inl h
    ·exact .inr ⟨b,off,h1,h2,fun i hi=>by obtain⟨v,q1,q2,q3⟩:=h3 i hi;exact⟨v,q1,q2,(World.cell?_alloc_lt _ _ _ h2).trans q3⟩⟩,hn⟩
theorem hq_cell{w:World}{p:Nat}{cs:Array Value}{t:TypeId}{fz:Nat×Nat}(h:w.heap[p]?=some (.cells cs t fz))(j:Nat):w.cell? ⟨p,j,none⟩=cs[j]?:=by
 unfold World.cell?;simp only[h];rfl
theorem hq_free{w:World}{p:Nat}{cs:Array Value}{t:TypeId}(h:w.heap[p]?=some (.cells cs t))(j:Nat):w.frozen? ⟨p,j,none⟩=false:=by
 unfold World.frozen?;simp[h]
theorem hq_set{w:World}{p:Nat}{cs:Array Value}{t:TypeId}(h:w.heap[p]?=some (.cells cs t))(j:Nat)(v:Value):(w.setCell ⟨p,j,none⟩ v).heap[p]?=some (.cells (cs.setIfInBounds j v) t):=by
 unfold World.setCell;rw[Array.getElem?_modify,if_pos rfl,h];rfl
theorem hq_other{w:World}{p q:Nat}{o:Obj}(h:w.heap[p]?=some o)(hne:p≠q)(j:Nat)(v:Value):(w.setCell ⟨q,j,none⟩ v).heap[p]?=some o:=by
 rw[heap_setCell_other _ _ _ _ hne];exact h
theorem hq_new(w:World)(o:Obj):(w.alloc o).heap[w.heap.size]?=some o:=by simp only[World.alloc];simp
structure IV where
 o:Int
 d:Int
 a:Int
 b:Int
 i:Int
 h:Int
def IV.c(x:IV):Array Value:=#[.int .i64 x.o,.int .i64 x.d,.int .i64 x.a,.int .i64 x.b,.int .i64 x.i,.int .i64 x.h]
def Ib(w:World)(q:Nat)(x:IV):Prop:=w.heap[q]?=some (.cells x.c 56)
theorem Ib.cells{w:World}{q:Nat}{x:IV}(h:Ib w q x):w.cell? ⟨q,0,none⟩=some (.int .i64 x.o)/\w.cell? ⟨q,1,none⟩=some (.int .i64 x.d)/\w.cell? ⟨q,2,none⟩=some (.int .i64 x.a)/\w.cell? ⟨q,3,none⟩=some (.int .i64 x.b)/\w.cell? ⟨q,4,none⟩=some (.int .i64 x.i)/\w.cell? ⟨q,5,none⟩=some (.int .i64 x.h)/\(∀j,w.frozen? ⟨q,j,none⟩=false)/\q<w.heap.size:=
 ⟨hq_cell h 0,hq_cell h 1,hq_cell h 2,hq_cell h 3,hq_cell h 4,hq_cell h 5,fun j=>hq_free h j,(Array.getElem?_eq_some_iff.1 h).1⟩
theorem Ib.lt{w:World}{q:Nat}{x:IV}(h:Ib w q x):q<w.heap.size:=(Array.getElem?_eq_some_iff.1 h).1
theorem Ib.fw{p:Nat}{w w':World}{q:Nat}{x:IV}(h:Ib w q x)(f:Fw p w w')(hn:q≠p):Ib w' q x:=(f.block q h.lt hn).trans h
theorem Ib.below{w w':World}{q:Nat}{x:IV}(h:Ib w q x)(f:Below w.heap.size w w'):Ib w' q x:=(f.block q h.lt).trans h
theorem Ib.other{w:World}{q r:Nat}{x:IV}(h:Ib w q x)(hn:q≠r)(j:Nat)(v:Value):Ib (w.setCell ⟨r,j,none⟩ v) q x:=hq_other h hn j v
theorem Cur.put{w:World}{p n cap q:Nat}{ao:Option Addr}(h:Cur w p ao n cap)(hq:p<q)(o:Nat)(v:Value):Cur (w.setCell ⟨q,o,none⟩ v) p ao n cap:=by
 have hb:Below q w (w.setCell ⟨q,o,none⟩ v):=(Below.refl q w).setCell (p:=⟨q,o,none⟩) (Nat.le_refl q) v;obtain⟨i,hh,q0,q1,q2,q3⟩:=h.cs;refine⟨by simpa using h.lt,fun i=>(hb.frozen (p:=⟨p,i,none⟩) hq).trans (h.fz i),⟨i,hh,q0,(hb.cell (p:=⟨p,0,none⟩) hq).trans q1,(hb.cell (p:=⟨p,1,none⟩) hq).trans q2,(hb.cell (p:=⟨p,2,none⟩) hq).trans q3⟩,?_,h.ln⟩;rcases h.row with h|⟨b,off,h1,h2,h3⟩
 ·exact .inl h
 ·exact .inr ⟨b,off,h1,h2,fun i hi=>by obtain⟨v,q1,q2,q3⟩:=h3 i hi;exact⟨v,q1,q2,(hb.cell (p:=⟨b,off+i,none⟩) (Nat.lt_trans h2 hq)).trans q3⟩⟩
theorem Fw.put{p:Nat}{a b:World}(h:Fw p a b){q:Nat}(hq:a.heap.size<=q)(o:Nat)(v:Value):Fw p a (b.setCell ⟨q,o,none⟩ v):=
 ⟨h.os,h.tape,h.output,by simpa using h.size,fun k hk hn=>(Below.heap_setCell b ⟨q,o,none⟩ v k (by simp;omega)).trans (h.block k hk hn)⟩
structure IW(w:World)(p:Nat)(ao:Option Addr)(n cap r q:Nat)(x:IV)(v:World):Prop where
 F:Fw p w v
 K:Cur v p ao n cap
 R:Ib v r ⟨0,0,0,0,0,0⟩
 X:Ib v q x
 pw:p<w.heap.size
 wr:w.heap.size<=r
 wq:w.heap.size<=q
 ne:r≠q
theorem IW.fw{w v v':World}{p n cap r q:Nat}{ao:Option Addr}{x:IV}(h:IW w p ao n cap r q x v)(f:Fw p v v')(c:Cur v' p ao n cap):IW w p ao n cap r q x v':=
 ⟨h.F.trans f,c,h.R.fw f (by have:=h.pw;have:=h.wr;omega),h.X.fw f (by have:=h.pw;have:=h.wq;omega),h.pw,h.wr,h.wq,h.ne⟩
theorem IW.set{w v:World}{p n cap r q:Nat}{ao:Option Addr}{x:IV}(h:IW w p ao n cap r q x v)(y:IV)(j:Nat)(u:Value)(hy:x.c.setIfInBounds j u=y.c):IW w p ao n cap r q y (v.setCell ⟨q,j,none⟩ u):=
 ⟨h.F.put h.wq _ _,h.K.put (by have:=h.pw;have:=h.wq;omega) _ _,h.R.other h.ne _ _,by unfold Ib;rw[<-hy];exact hq_set h.X j u,h.pw,h.wr,h.wq,h.ne⟩
theorem IW.setO{w v:World}{p n cap r q:Nat}{ao:Option Addr}{x:IV}(h:IW w p ao n cap r q x v)(y:Int):IW w p ao n cap r q {x with o:=y} (v.setCell ⟨q,0,none⟩ (.int .i64 y)):=h.set _ _ _ rfl
theorem IW.setD{w v:World}{p n cap r q:Nat}{ao:Option Addr}{x:IV}(h:IW w p ao n cap r q x v)(y:Int):IW w p ao n cap r q {x with d:=y} (v.setCell ⟨q,1,none⟩ (.int .i64 y)):=h.set _ _ _ rfl
theorem IW.setA{w v:World}{p n cap r q:Nat}{ao:Option Addr}{x:IV}(h:IW w p ao n cap r q x v)(y:Int):IW w p ao n cap r q {x with a:=y} (v.setCell ⟨q,2,none⟩ (.int .i64 y)):=h.set _ _ _ rfl
theorem IW.setB{w v:World}{p n cap r q:Nat}{ao:Option Addr}{x:IV}(h:IW w p ao n cap r q x v)(y:Int):IW w p ao n cap r q {x with b:=y} (v.setCell ⟨q,3,none⟩ (.int .i64 y)):=h.set _ _ _ rfl
theorem IW.setI{w v:World}{p n cap r q:Nat}{ao:Option Addr}{x:IV}(h:IW w p ao n cap r q x v)(y:Int):IW w p ao n cap r q {x with i:=y} (v.setCell ⟨q,4,none⟩ (.int .i64 y)):=h.set _ _ _ rfl
theorem IW.setH{w v:World}{p n cap r q:Nat}{ao:Option Addr}{x:IV}(h:IW w p ao n cap r q x v)(y:Int):IW w p ao n cap r q {x with h:=y} (v.setCell ⟨q,5,none⟩ (.int .i64 y)):=h.set _ _ _ rfl
theorem l1Reg_any(p:Nat)(ao:Option Addr)(n cap:Nat)(w:World)(hc:Cur w p ao n cap):
 Calls Tryd.prog 85 #[.pointer (some ⟨p,0,none⟩)] w fun e w'=>∃x:Int,e=.returned (.int .i64 x)/\0<=x/\x<8/\Fw p w w'/\Cur w' p ao n cap:=by
 have HC:Hid (Cur w p ao n cap):=hc;clear hc;go_enter Tryd.func85,Tryd.ntmps85;go_wp2_with fail;refine(l1Below_any p ao n cap 8 _ (by omega) HC.out).mono ?_;rintro e w1⟨x,rfl,x0,x1,f1,k1⟩;go_wp2;go_ret;exact⟨_,rfl,x0,x1,f1,k1⟩
theorem l1DrawIns_any(p:Nat)(ao:Option Addr)(n cap:Nat)(lo hi:Int)(w:World)(h0:0<=lo)(h1:lo<=hi)(h2:hi<=100)(hc:Cur w p ao n cap):
 Calls Tryd.prog 73 #[.pointer (some ⟨p,0,none⟩),.int .i64 lo,.int .i64 hi] w fun e w'=>∃x:IV,e=.returned (.agg x.c)/\Fw p w w'/\Cur w' p ao n cap:=by
 have lp:=hc.lt;have HC:Hid (Cur w p ao n cap):=hc;clear hc;go_enter Tryd.func73,Tryd.ntmps73;go_wp2_with fail;obtain⟨r,hr⟩:∃r,w.heap.size=r:=⟨_,rfl⟩
 obtain⟨u,hu,iu⟩:∃v,(w.alloc (.cells #[.int .i64 0,.int .i64 0,.int .i64 0,.int .i64 0,.int .i64 0,.int .i64 0] 56)).alloc (.cells #[.int .i64 0,.int .i64 0,.int .i64 0,.int .i64 0,.int .i64 0,.int .i64 0] 56)=v/\IW w p ao n cap r (r+1) ⟨0,0,0,0,0,0⟩ v:=by
  refine⟨_,rfl,.of_below (((Below.refl _ _).alloc (Nat.le_refl _) _).alloc (by simp) _),HC.out.below (((Below.refl _ _).alloc (Nat.le_refl _) _).alloc (by simp) _),?_,?_,lp,by omega,by omega,by omega⟩
  ·rw[<-hr]
   exact Ib.below (w:=w.alloc _) (hq_new w _) ((Below.refl _ _).alloc (Nat.le_refl _) _)
  ·rw[<-hr]
   have:=hq_new (w.alloc (.cells #[.int .i64 0,.int .i64 0,.int .i64 0,.int .i64 0,.int .i64 0,.int .i64 0] 56)) (.cells #[.int .i64 0,.int .i64 0,.int .i64 0,.int .i64 0,.int .i64 0,.int .i64 0] 56);have e:(w.alloc (.cells #[.int .i64 0,.int .i64 0,.int .i64 0,.int .i64 0,.int .i64 0,.int .i64 0] 56)).heap.size=w.heap.size+1:=by simp
   rw[e]at this;exact this
 rw[hu];rw[hr];refine(l1Below_any p ao n cap (hi-lo+1) _ (by omega) iu.K).mono ?_;rintro e w1⟨k,rfl,k0,k1,f,c⟩;have I1:Hid (IW w p ao n cap r (r+1) ⟨0,0,0,0,0,0⟩ w1):=iu.fw f c;clear hu iu f c;have wl:=I1.out.F.size;obtain⟨c0,c1,c2,c3,c4,c5,cf,cl⟩:=I1.out.X.cells;go_upto_region 3 with fail;obtain⟨w2,hw2,i2⟩:∃v,w1.setCell ⟨r+1,0,none⟩ (.int .i64 (lo+k))=v/\IW w p ao n cap r (r+1) ⟨lo+k,0,0,0,0,0⟩ v:=⟨_,rfl,I1.out.setO _⟩
 rw[hw2];have I2:Hid (IW w p ao n cap r (r+1) ⟨lo+k,0,0,0,0,0⟩ w2):=i2;clear hw2 i2 c0 c1 c2 c3 c4 c5 cf cl I1 HC;obtain⟨x,hx⟩:∃y:IV,(⟨lo+k,0,0,0,0,0⟩:IV)=y:=⟨_,rfl⟩
 rw[hx]at I2;clear hx hr;obtain⟨c0,c1,c2,c3,c4,c5,cf,cl⟩:=I2.out.X.cells;go_wp2_with fail;refine(uses_any _ _).mono ?_;rintro e w'⟨rfl,hw⟩;rw[hw];obtain⟨us,hus⟩:∃s,usesS x.o=s:=⟨_,rfl⟩
 have hsz:us.size<=maxLen:=by rw[<-hus];exact uses_le _
 rw[hus];have HS:Hid (us.size<=maxLen):=hsz;clear hw hus hsz c0 c1 c2 c3 c4 c5 cf cl;go_wp2_with fail;refine(has_n us 68 _ HS.out (by omega) (by omega)).mono ?_;rintro e w'⟨rfl,hw⟩;rw[hw];clear hw;obtain⟨z,hz⟩:∃z,hasN us 68=z:=⟨_,rfl⟩
 rw[hz];clear hz;go_upto_if 24 with fail;go_cut [6,7,8](fun s6 s7 s8 wx=>s6=.pointer (some ⟨r,0,none⟩)/\s7=.pointer (some ⟨r+1,0,none⟩)/\s8=.string us/\∃x',IW w p ao n cap r (r+1) x' wx)
 case first=>
  cases z with
  |true=>
   go_wp2_with fail;refine(l1Reg_any p ao n cap _ I2.out.K).mono ?_;rintro e w3⟨y,rfl,_,_,f,c⟩;have I3:Hid (IW w p ao n cap r (r+1) x w3):=I2.out.fw f c;obtain⟨c0,c1,c2,c3,c4,c5,cf,cl⟩:=I3.out.X.cells;clear f c;go_wp2_with fail;go_meet;exact⟨rfl,rfl,rfl,_,I3.out.setD _⟩
  |false=>
   go_wp2_with fail;go_meet;exact⟨rfl,rfl,rfl,_,I2.out⟩
 case rest=>
  clear I2;obtain⟨rfl,rfl,rfl,x,i'⟩:=hcut;have I2:Hid (IW w p ao n cap r (r+1) x wc):=i';clear i';generalize wc=w2 at I2⊢;go_wp2_with fail;refine(has_n us 65 _ HS.out (by omega) (by omega)).mono ?_;rintro e w'⟨rfl,hw⟩;rw[hw];clear hw;obtain⟨z,hz⟩:∃z,hasN us 65=z:=⟨_,rfl⟩
  rw[hz];clear hz;go_upto_if 29 with fail;go_cut [6,7,8](fun s6 s7 s8 wx=>s6=.pointer (some ⟨r,0,none⟩)/\s7=.pointer (some ⟨r+1,0,none⟩)/\s8=.string us/\∃x',IW w p ao n cap r (r+1) x' wx)
  case first=>
   cases z with
   |true=>
    go_wp2_with fail;refine(l1Reg_any p ao n cap _ I2.out.K).mono ?_;rintro e w3⟨y,rfl,_,_,f,c⟩;have I3:Hid (IW w p ao n cap r (r+1) x w3):=I2.out.fw f c;obtain⟨c0,c1,c2,c3,c4,c5,cf,cl⟩:=I3.out.X.cells;clear f c;go_wp2_with fail;go_meet;exact⟨rfl,rfl,rfl,_,I3.out.setA _⟩
   |false=>
    go_wp2_with fail;go_meet;exact⟨rfl,rfl,rfl,_,I2.out⟩
  case rest=>
   clear I2;obtain⟨rfl,rfl,rfl,x,i'⟩:=hcut;have I2:Hid (IW w p ao n cap r (r+1) x wc):=i';clear i';generalize wc=w2 at I2⊢;go_wp2_with fail;refine(has_n us 66 _ HS.out (by omega) (by omega)).mono ?_;rintro e w'⟨rfl,hw⟩;rw[hw];clear hw;obtain⟨z,hz⟩:∃z,hasN us 66=z:=⟨_,rfl⟩
   rw[hz];clear hz;go_upto_if 34 with fail;go_cut [6,7,8](fun s6 s7 s8 wx=>s6=.pointer (some ⟨r,0,none⟩)/\s7=.pointer (some ⟨r+1,0,none⟩)/\s8=.string us/\∃x',IW w p ao n cap r (r+1) x' wx)
   case first=>
    cases z with
    |true=>
     go_wp2_with fail;refine(l1Reg_any p ao n cap _ I2.out.K).mono ?_;rintro e w3⟨y,rfl,_,_,f,c⟩;have I3:Hid (IW w p ao n cap r (r+1) x w3):=I2.out.fw f c;obtain⟨c0,c1,c2,c3,c4,c5,cf,cl⟩:=I3.out.X.cells;clear f c;go_wp2_with fail;go_meet;exact⟨rfl,rfl,rfl,_,I3.out.setB _⟩
    |false=>
     go_wp2_with fail;go_meet;exact⟨rfl,rfl,rfl,_,I2.out⟩
   case rest=>
    clear I2;obtain⟨rfl,rfl,rfl,x,i'⟩:=hcut;have I2:Hid (IW w p ao n cap r (r+1) x wc):=i';clear i';generalize wc=w2 at I2⊢;go_wp2_with fail;refine(has_n us 72 _ HS.out (by omega) (by omega)).mono ?_;rintro e w'⟨rfl,hw⟩;rw[hw];clear hw;obtain⟨z,hz⟩:∃z,hasN us 72=z:=⟨_,rfl⟩
    rw[hz];clear hz;go_upto_if 39 with fail;go_cut [6,7,8](fun s6 s7 s8 wx=>s6=.pointer (some ⟨r,0,none⟩)/\s7=.pointer (some ⟨r+1,0,none⟩)/\s8=.string us/\∃x',IW w p ao n cap r (r+1) x' wx)
    case first=>
     cases z with
     |true=>
      go_wp2_with fail;refine(l1Below_any p ao n cap 3 _ (by omega) I2.out.K).mono ?_;rintro e w3⟨y,rfl,_,_,f,c⟩;have I3:Hid (IW w p ao n cap r (r+1) x w3):=I2.out.fw f c;obtain⟨c0,c1,c2,c3,c4,c5,cf,cl⟩:=I3.out.X.cells;clear f c;go_wp2_with fail;go_meet;exact⟨rfl,rfl,rfl,_,I3.out.setH _⟩
     |false=>
      go_wp2_with fail;go_meet;exact⟨rfl,rfl,rfl,_,I2.out⟩
    case rest=>
     clear I2;obtain⟨rfl,rfl,rfl,x,i'⟩:=hcut;have I2:Hid (IW w p ao n cap r (r+1) x wc):=i';clear i';generalize wc=w2 at I2⊢;go_wp2_with fail;refine(has_n us 73 _ HS.out (by omega) (by omega)).mono ?_;rintro e w'⟨rfl,hw⟩;rw[hw];clear hw;obtain⟨z,hz⟩:∃z,hasN us 73=z:=⟨_,rfl⟩
     rw[hz];clear hz;go_upto_if 44 with fail;go_cut [6,7,8](fun s6 s7 s8 wx=>s6=.pointer (some ⟨r,0,none⟩)/\s7=.pointer (some ⟨r+1,0,none⟩)/\s8=.string us/\∃x',IW w p ao n cap r (r+1) x' wx)
     case first=>
      cases z with
      |false=>
       go_wp2_with fail;go_meet;exact⟨rfl,rfl,rfl,_,I2.out⟩
      |true=>
       go_wp2_with fail;refine(l1Below_any p ao n cap 20 _ (by omega) I2.out.K).mono ?_;rintro e w3⟨y,rfl,_,_,f,c⟩;have I3:Hid (IW w p ao n cap r (r+1) x w3):=I2.out.fw f c;obtain⟨c0,c1,c2,c3,c4,c5,cf,cl⟩:=I3.out.X.cells;clear f c I2;go_upto_region 14 with fail;obtain⟨w4,hw4,i4⟩:∃v,w3.setCell ⟨r+1,4,none⟩ (.int .i64 y)=v/\IW w p ao n cap r (r+1) {x with i:=y} v:=⟨_,rfl,I3.out.setI _⟩
       rw[hw4];clear hw4 c0 c1 c2 c3 c4 c5 cf cl I3;go_wp2_with fail;refine(l1Below_any p ao n cap 12 _ (by omega) i4.K).mono ?_;rintro e w5⟨kk,rfl,kk0,kk1,f,c⟩;have I2:Hid (IW w p ao n cap r (r+1) {x with i:=y} w5):=i4.fw f c;obtain⟨x,hx2⟩:∃z:IV,({x with i:=y}:IV)=z:=⟨_,rfl⟩
       rw[hx2]at I2;clear hx2 f c i4;generalize w5=w2 at I2⊢;go_upto_region 15 with fail;go_cut [6,7,8,9,72](fun s6 s7 s8 s9 t wx=>s6=.pointer (some ⟨r,0,none⟩)/\s7=.pointer (some ⟨r+1,0,none⟩)/\s8=.string us/\s9=.int .i64 kk/\(∃b:Bool,t=.bool b)/\wx=w2)
       case first=>
        obtain⟨c0,c1,c2,c3,c4,c5,cf,cl⟩:=I2.out.X.cells;go_wp2_with(first|(go_at_call 36;refine(jump_any _ _).mono ?_;rintro e w'⟨rfl,hw⟩;rw[hw];clear hw));all_goals
         go_meet;exact⟨rfl,rfl,rfl,(by first|rfl|exact congrArg (Value.int .i64) (by omega)),⟨_,rfl⟩,rfl⟩
       case rest=>
        obtain⟨rfl,rfl,rfl,rfl,⟨z,rfl⟩,hwc⟩:=hcut;rw[hwc];clear hwc;go_upto_if 72 with fail;go_cut [6,7,8,9](fun s6 s7 s8 s9 wx=>s6=.pointer (some ⟨r,0,none⟩)/\s7=.pointer (some ⟨r+1,0,none⟩)/\s8=.string us/\s9=.int .i64 kk/\∃x',IW w p ao n cap r (r+1) x' wx)
        case first=>
         cases z with
         |false=>
          go_wp2_with fail;go_meet;exact⟨rfl,rfl,rfl,rfl,_,I2.out⟩
         |true=>
          go_wp2_with fail;refine(l1Below_any p ao n cap 12 _ (by omega) I2.out.K).mono ?_;rintro e w3⟨y,rfl,_,_,f,c⟩;have I3:Hid (IW w p ao n cap r (r+1) x w3):=I2.out.fw f c;obtain⟨c0,c1,c2,c3,c4,c5,cf,cl⟩:=I3.out.X.cells;clear f c;go_wp2_with fail;go_meet;exact⟨rfl,rfl,rfl,rfl,_,I3.out.setI _⟩
        case rest=>
         clear I2;obtain⟨rfl,rfl,rfl,rfl,x,i'⟩:=hcut;have I2:Hid (IW w p ao n cap r (r+1) x wc):=i';clear i';generalize wc=w2 at I2⊢;go_upto_region 17 with fail;go_cut [6,7,8,9,78](fun s6 s7 s8 s9 t wx=>s6=.pointer (some ⟨r,0,none⟩)/\s7=.pointer (some ⟨r+1,0,none⟩)/\s8=.string us/\s9=.int .i64 kk/\(∃b:Bool,t=.bool b)/\wx=w2)
         case first=>
          go_wp2_with fail;all_goals
           go_meet;exact⟨rfl,rfl,rfl,rfl,⟨_,rfl⟩,rfl⟩
         case rest=>
          obtain⟨rfl,rfl,rfl,rfl,⟨z,rfl⟩,hwc⟩:=hcut;rw[hwc];clear hwc;go_upto_if 78 with fail;go_cut [6,7,8,9](fun s6 s7 s8 s9 wx=>s6=.pointer (some ⟨r,0,none⟩)/\s7=.pointer (some ⟨r+1,0,none⟩)/\s8=.string us/\s9=.int .i64 kk/\∃x',IW w p ao n cap r (r+1) x' wx)
          case first=>
           cases z with
           |false=>
            go_wp2_with fail;go_meet;exact⟨rfl,rfl,rfl,rfl,_,I2.out⟩
           |true=>
            go_wp2_with fail;refine(l1Below_any p ao n cap 44 _ (by omega) I2.out.K).mono ?_;rintro e w3⟨y,rfl,y0,y1,f,c⟩;have I3:Hid (IW w p ao n cap r (r+1) x w3):=I2.out.fw f c;obtain⟨c0,c1,c2,c3,c4,c5,cf,cl⟩:=I3.out.X.cells;clear f c;go_wp2_with fail;go_meet;exact⟨rfl,rfl,rfl,rfl,_,I3.out.setI _⟩
          case rest=>
           clear I2;obtain⟨rfl,rfl,rfl,rfl,x,i'⟩:=hcut;have I2:Hid (IW w p ao n cap r (r+1) x wc):=i';clear i';generalize wc=w2 at I2⊢;go_upto_region 19 with fail;go_cut [6,7,8,9,100](fun s6 s7 s8 s9 t wx=>s6=.pointer (some ⟨r,0,none⟩)/\s7=.pointer (some ⟨r+1,0,none⟩)/\s8=.string us/\s9=.int .i64 kk/\(∃b:Bool,t=.bool b)/\wx=w2)
           case first=>
            obtain⟨c0,c1,c2,c3,c4,c5,cf,cl⟩:=I2.out.X.cells;go_wp2_with(first|(go_at_call 36;refine(jump_any _ _).mono ?_;rintro e w'⟨rfl,hw⟩;rw[hw];clear hw));all_goals
             go_meet;exact⟨rfl,rfl,rfl,(by first|rfl|exact congrArg (Value.int .i64) (by omega)),⟨_,rfl⟩,rfl⟩
           case rest=>
            obtain⟨rfl,rfl,rfl,rfl,⟨z,rfl⟩,hwc⟩:=hcut;rw[hwc];clear hwc;cases z with
            |false=>
             go_wp2_with fail;go_meet;exact⟨rfl,rfl,rfl,_,I2.out⟩
            |true=>
             obtain⟨c0,c1,c2,c3,c4,c5,cf,cl⟩:=I2.out.X.cells;go_wp2_with fail;go_meet;exact⟨rfl,rfl,rfl,_,I2.out.setI _⟩
     case rest=>
      clear I2;obtain⟨rfl,rfl,rfl,x,i'⟩:=hcut;have I2:Hid (IW w p ao n cap r (r+1) x wc):=i';clear i';generalize wc=w2 at I2⊢;obtain⟨c0,c1,c2,c3,c4,c5,cf,cl⟩:=I2.out.X.cells;obtain⟨b0,b1,b2,b3,b4,b5,bf,bl⟩:=I2.out.R.cells;have FF:Hid (∀v0 v1 v2 v3 v4 v5,Fw p w ((((((w2.setCell ⟨r,0,none⟩ v0).setCell ⟨r,1,none⟩ v1).setCell ⟨r,2,none⟩ v2).setCell ⟨r,3,none⟩ v3).setCell ⟨r,4,none⟩ v4).setCell ⟨r,5,none⟩ v5)/\Cur ((((((w2.setCell ⟨r,0,none⟩ v0).setCell ⟨r,1,none⟩ v1).setCell ⟨r,2,none⟩ v2).setCell ⟨r,3,none⟩ v3).setCell ⟨r,4,none⟩ v4).setCell ⟨r,5,none⟩ v5) p ao n cap):=fun v0 v1 v2 v3 v4 v5=>by
       have hr:=I2.out.wr;have hp:p<r:=by omega
       exact⟨(((((I2.out.F.put hr _ _).put hr _ _).put hr _ _).put hr _ _).put hr _ _).put hr _ _,(((((I2.out.K.put hp _ _).put hp _ _).put hp _ _).put hp _ _).put hp _ _).put hp _ _⟩
      have hne:=I2.out.ne;clear I2;go_wp2_with fail;exact bodyPost_ret (v:=.agg x.c) (by simp[results,Tryd.results73,go_sem,IV.c, *]) rfl ⟨⟨x,rfl⟩,(FF.out _ _ _ _ _ _).1,(FF.out _ _ _ _ _ _).2⟩
def ic(ys:List IV):List Value:=ys.flatMap fun y=>y.c.toList
theorem ic_len(ys:List IV):(ic ys).length=ys.length*6:=by
 induction ys with
 |nil=>rfl
 |cons a l ih=>show(a.c.toList++ic l).length=(l.length+1)*6;rw[List.length_append,ih];show 6+_=_;omega
theorem ic_app(a b:List IV):ic (a++b)=ic a++ic b:=by simp[ic]
theorem ic_one(y:IV):ic [y]=y.c.toList:=by simp[ic]
def iv0:IV:=⟨0,0,0,0,0,0⟩
def ivF(y:IV):Nat->Int
 |0=>y.o
 |1=>y.d
 |2=>y.a
 |3=>y.b
 |4=>y.i
 |_=>y.h
def icF(ys:List IV)(i j:Nat):Int:=ivF (ys.getD i iv0) j
theorem ic_get:∀(ys:List IV)(p:Nat),p<ys.length*6->(ic ys)[p]?=some (insF (icF ys) p)
 |[],p,h=>by simp at h
 |y::l,p,h=>by
  show(y.c.toList++ic l)[p]?=_;by_cases hp:p<6
  ·rw[List.getElem?_append_left (by show p<6;exact hp)]
   unfold insF icF;rw[show p/6=0 by omega,show p%6=p by omega];match p,hp with
   |0,_=>rfl
   |1,_=>rfl
   |2,_=>rfl
   |3,_=>rfl
   |4,_=>rfl
   |5,_=>rfl
  ·rw[List.getElem?_append_right (by show 6<=p;omega)]
   show(ic l)[p-6]?=_;rw[ic_get l (p-6) (by simp at h;omega)];unfold insF icF;rw[show(p-6)/6=p/6-1 by omega,show(p-6)%6=p%6 by omega];obtain⟨k,hk⟩:∃k,p/6=k+1:=⟨p/6-1,by omega⟩
   rw[hk];rfl
theorem row_at{w:World}{B e g cap:Nat}{ys:List IV}(h:w.ownsRow B e 6 (.slice (some ⟨g,0,none⟩) ys.length cap) ys.length (ic ys)):At w g 0 (ys.length*6) (insF (icF ys)):=
 ⟨(h.lt g rfl).2,fun i hi=>by rw[Nat.zero_add,h.cellAt i hi,ic_get ys i hi]⟩
theorem row_belowD{w w':World}{base e size n:Nat}{v:Value}{xs:List Value}(h:w.ownsRow base e size v n xs)(hb:Below w.heap.size w w'):w'.ownsRow base e size v n xs:=by
 refine⟨h.1,?_⟩;rcases h.2 with h|⟨g,cap,cur,rfl,h1,h2,h3⟩
 ·exact .inl h
 ·have hg:g<w.heap.size:=(Array.getElem?_eq_some_iff.1 h2).1
  exact .inr ⟨g,cap,cur,rfl,h1,(hb.block g hg).trans h2,h3⟩
theorem row_fw{p:Nat}{w w':World}{base e size n:Nat}{v:Value}{xs:List Value}(h:w.ownsRow base e size v n xs)(f:Fw p w w')(hp:p<base):w'.ownsRow base e size v n xs:=by
 refine⟨h.1,?_⟩;rcases h.2 with h|⟨g,cap,cur,rfl,h1,h2,h3⟩
 ·exact .inl h
 ·have hg:g<w.heap.size:=(Array.getElem?_eq_some_iff.1 h2).1
  exact .inr ⟨g,cap,cur,rfl,h1,(f.block g hg (by omega)).trans h2,h3⟩
theorem row_put{w:World}{base e size n q:Nat}{v:Value}{xs:List Value}(h:w.ownsRow base e size v n xs)(hn:v.ownBlock≠some q)(j:Nat)(u:Value):(w.setCell ⟨q,j,none⟩ u).ownsRow base e size v n xs:=by
 refine⟨h.1,?_⟩;rcases h.2 with h|⟨g,cap,cur,rfl,h1,h2,h3⟩
 ·exact .inl h
 ·exact .inr ⟨g,cap,cur,rfl,h1,hq_other h2 (fun e=>hn (by rw[e];rfl)) j u,h3⟩
theorem Fw.grown{p:Nat}{a b c:World}{row:Option Nat}(h:Fw p a b)(hg:b.grownBy c row)(hr:∀k,row=some k->a.heap.size<=k):Fw p a c:=
 ⟨hg.os.trans h.os,hg.tape.trans h.tape,hg.output.trans h.output,Nat.le_trans h.size hg.size,fun k hk hn=>(hg.block k (by have:=h.size;omega) (fun e=>by have:=hr k e.symm;omega)).trans (h.block k hk hn)⟩
theorem Cur.grown{p n cap:Nat}{ao:Option Addr}{b c:World}{row:Option Nat}(h:Cur b p ao n cap)(hg:b.grownBy c row)(hr:∀k,row=some k->p<k):Cur c p ao n cap:=by
 have hb:Below (p+1) b c:=(Below.refl _ _).grown hg h.lt (fun k hk=>hr k hk);obtain⟨i,hh,q0,q1,q2,q3⟩:=h.cs;refine⟨Nat.lt_of_lt_of_le h.lt hg.size,fun i=>(hb.frozen (p:=⟨p,i,none⟩) (by simp)).trans (h.fz i),⟨i,hh,q0,(hb.cell (p:=⟨p,0,none⟩) (by simp)).trans q1,(hb.cell (p:=⟨p,1,none⟩) (by simp)).trans q2,(hb.cell (p:=⟨p,2,none⟩) (by simp)).trans q3⟩,?_,h.ln⟩;rcases h.row with h|⟨b,off,h1,h2,h3⟩
 ·exact .inl h
 ·exact .inr ⟨b,off,h1,h2,fun i hi=>by obtain⟨v,q1,q2,q3⟩:=h3 i hi;exact⟨v,q1,q2,(hb.cell (p:=⟨b,off+i,none⟩) (by simp;omega)).trans q3⟩⟩
structure FW(w:World)(p:Nat)(ao:Option Addr)(n cap:Nat)(v:Value)(ys:List IV)(u:World):Prop where
 F:Fw p w u
 K:Cur u p ao n cap
 O:u.ownsRow w.heap.size 56 6 v ys.length (ic ys)
 pw:p<w.heap.size
theorem FW.fw{w u u':World}{p n cap:Nat}{ao:Option Addr}{v:Value}{ys:List IV}(h:FW w p ao n cap v ys u)(f:Fw p u u')(c:Cur u' p ao n cap):FW w p ao n cap v ys u':=
 ⟨h.F.trans f,c,row_fw h.O f h.pw,h.pw⟩
theorem FW.below{w u u':World}{p n cap:Nat}{ao:Option Addr}{v:Value}{ys:List IV}(h:FW w p ao n cap v ys u)(f:Below u.heap.size u u'):FW w p ao n cap v ys u':=
 h.fw (.of_below f) (h.K.below f)
theorem FW.put{w u:World}{p n cap q:Nat}{ao:Option Addr}{v:Value}{ys:List IV}(h:FW w p ao n cap v ys u)(hq:w.heap.size<=q)(hn:v.ownBlock≠some q)(j:Nat)(z:Value):FW w p ao n cap v ys (u.setCell ⟨q,j,none⟩ z):=
 ⟨h.F.put hq _ _,h.K.put (by have:=h.pw;omega) _ _,row_put h.O hn _ _,h.pw⟩
theorem FW.grown{w u u':World}{p n cap:Nat}{ao:Option Addr}{v v':Value}{ys zs:List IV}(h:FW w p ao n cap v ys u)(hg:u.grownBy u' v.ownBlock)(ho:u'.ownsRow w.heap.size 56 6 v' zs.length (ic zs)):FW w p ao n cap v' zs u':=
 ⟨h.F.grown hg (fun k hk=>(h.O.lt k hk).1),h.K.grown hg (fun k hk=>by have:=(h.O.lt k hk).1;have:=h.pw;omega),ho,h.pw⟩
theorem cells_newD(w:World)(cs:Array Value)(t:TypeId):∀(j:Nat)u,cs.toList[j]?=some u->(w.alloc (.cells cs t)).cell? ((⟨w.heap.size,0,none⟩:Addr).add j)=some u:=fun j u h=>by
 have e:(⟨w.heap.size,0,none⟩:Addr).add j=⟨w.heap.size,j,none⟩:=by unfold Addr.add;split<;>simp_all
 rw[e,hq_cell (hq_new w (.cells cs t)) j];simpa using h
structure FQ(w:World)(p:Nat)(ao:Option Addr)(n cap:Nat)(v:Value)(ys:List IV)(q:Nat)(x:IV)(u:World):Prop where
 W:FW w p ao n cap v ys u
 X:Ib u q x
 wq:w.heap.size<=q
 ne:v.ownBlock≠some q
theorem FQ.fw{w u u':World}{p n cap q:Nat}{ao:Option Addr}{v:Value}{ys:List IV}{x:IV}(h:FQ w p ao n cap v ys q x u)(f:Fw p u u')(c:Cur u' p ao n cap):FQ w p ao n cap v ys q x u':=
 ⟨h.W.fw f c,h.X.fw f (by have:=h.W.pw;have:=h.wq;omega),h.wq,h.ne⟩
theorem FQ.set{w u:World}{p n cap q:Nat}{ao:Option Addr}{v:Value}{ys:List IV}{x:IV}(h:FQ w p ao n cap v ys q x u)(y:IV)(j:Nat)(z:Value)(hy:x.c.setIfInBounds j z=y.c):FQ w p ao n cap v ys q y (u.setCell ⟨q,j,none⟩ z):=
 ⟨h.W.put h.wq h.ne _ _,by unfold Ib;rw[<-hy];exact hq_set h.X j z,h.wq,h.ne⟩
theorem FQ.all{w u:World}{p n cap q:Nat}{ao:Option Addr}{v:Value}{ys:List IV}{x:IV}(h:FQ w p ao n cap v ys q x u)(y:IV):FQ w p ao n cap v ys q y ((((((u.setCell ⟨q,0,none⟩ (.int .i64 y.o)).setCell ⟨q,1,none⟩ (.int .i64 y.d)).setCell ⟨q,2,none⟩ (.int .i64 y.a)).setCell ⟨q,3,none⟩ (.int .i64 y.b)).setCell ⟨q,4,none⟩ (.int .i64 y.i)).setCell ⟨q,5,none⟩ (.int .i64 y.h)):=
 ((((((h.set {x with o:=y.o} 0 _ rfl).set {x with o:=y.o,d:=y.d} 1 _ rfl).set {x with o:=y.o,d:=y.d,a:=y.a} 2 _ rfl).set {x with o:=y.o,d:=y.d,a:=y.a,b:=y.b} 3 _ rfl).set {x with o:=y.o,d:=y.d,a:=y.a,b:=y.b,i:=y.i} 4 _ rfl).set y 5 _ rfl)
theorem row_slD{w:World}{B e s n:Nat}{v:Value}{xs:List Value}(h:w.ownsRow B e s v n xs):∃ao cap,v=.slice ao n cap:=by
 rcases h.2 with⟨h,h0⟩|⟨g,cap,cur,h,_⟩
 ·exact⟨none,0,by rw[h,h0]⟩
 ·exact⟨_,_,h⟩
theorem l1DrawFlat_any(p:Nat)(ao:Option Addr)(n cap:Nat)(m:Int)(w:World)(h1:1<=m)(h2:m<=100)(hc:Cur w p ao n cap):
 Calls Tryd.prog 45 #[.pointer (some ⟨p,0,none⟩),.int .i64 m] w fun e w'=>∃v ys,e=.returned v/\(ys.length:Int)=m/\FW w p ao n cap v ys w':=by
 have lp:=hc.lt;have HC:Hid (Cur w p ao n cap):=hc;obtain⟨iS,hi,hz0,hz1,hz2⟩:=info_parts info_iIns;have HIS:Hid (Tryd.prog.info? 56=some iS/\iS.zero=some (.agg #[.int .i64 0,.int .i64 0,.int .i64 0,.int .i64 0,.int .i64 0,.int .i64 0])/\iS.size=6/\iS.bytes=48):=⟨hi,hz0,hz1,hz2⟩
 clear hc hi hz0 hz1 hz2;go_enter Tryd.func45,Tryd.ntmps45;go_wp2_with fail;obtain⟨u0,hu0,fw0⟩:∃v,w.alloc (.cells #[] 56)=v/\FW w p ao n cap (.slice (some ⟨w.heap.size,0,none⟩) 0 0) [] v:=
  ⟨_,rfl,.of_below ((Below.refl _ _).alloc (Nat.le_refl _) _),HC.out.below ((Below.refl _ _).alloc (Nat.le_refl _) _),World.ownsRow_lit w #[] 0 (Nat.le_refl _) (by unfold maxLen;omega) rfl,lp⟩
 rw[hu0];clear hu0;go_loopw [5,6](fun ov iv wr=>∃(ys:List IV),iv=.int .i64 (ys.length:Int)/\(ys.length:Int)+1<=m/\FW w p ao n cap ov ys wr)(fun _ iv _=>(m-intOf iv).toNat)
 case atStart=>exact⟨[],rfl,by simpa using h1,fw0⟩
 case round=>
  clear fw0 HC;obtain⟨ys,hiv,hyl,hfw⟩:=hrel;subst hiv;obtain⟨k,hk⟩:∃k:Int,(ys.length:Int)=k:=⟨_,rfl⟩
  have HK:Hid ((ys.length:Int)=k):=hk;have k0:0<=k:=by omega
  rw[hk]at hyl⊢;obtain⟨oa,oc,hov⟩:=row_slD hfw.O;subst hov;have W0:Hid (FW w p ao n cap (.slice oa ys.length oc) ys wr):=hfw;clear hk hfw;by_cases hlt:k+1<m
  rotate_left
  ·have hlt':¬(k+1<m):=hlt
   have OA:Hid (∀o,(wr.alloc o).ownsRow w.heap.size 56 6 (.slice oa ys.length oc) ys.length (ic ys)):=fun o=>row_belowD W0.out.O ((Below.refl _ _).alloc (Nat.le_refl _) _)
   have WA:Hid (∀o,FW w p ao n cap (.slice oa ys.length oc) ys (wr.alloc o)):=fun o=>W0.out.below ((Below.refl _ _).alloc (Nat.le_refl _) _)
   have hBa:∀o,w.heap.size<=(wr.alloc o).heap.size:=fun o=>(WA.out o).F.size
   have HCN:Hid (∀j u,[Value.int .i64 34,.int .i64 0,.int .i64 0,.int .i64 0,.int .i64 0,.int .i64 0][j]?=some u->(wr.alloc (.cells #[.int .i64 34,.int .i64 0,.int .i64 0,.int .i64 0,.int .i64 0,.int .i64 0] 56)).cell? ((⟨wr.heap.size,0,none⟩:Addr).add j)=some u):=cells_newD wr _ _;have hyn:ys.length<=100:=by have:=HK.out;omega
   go_wp2_with(first|(at_builtin;refine wpList_append_own_at _ rfl _ _ 23 rfl w.heap.size 56 iS _ 6 48 Tryd.underlying23 HIS.out.1 HIS.out.2.1 HIS.out.2.2.1 HIS.out.2.2.2 rfl (by decide) _ _ _ rfl (OA.out _) ⟨wr.heap.size,0,none⟩ 1 1 [Value.int .i64 34,.int .i64 0,.int .i64 0,.int .i64 0,.int .i64 0,.int .i64 0] rfl rfl HCN.out ?c2 ?c3 ?c4 (hBa _) ?_))
   case c2=>simp[Value.oneCell']
   case c3=>unfold maxLen;omega
   case c4=>omega
   intro v' w12 hown hgrow _ _;have W12:Hid (FW w p ao n cap v' (ys++[⟨34,0,0,0,0,0⟩]) w12):=(WA.out _).grown hgrow (by rw[List.length_append,ic_app,ic_one];exact hown);clear hown hgrow;go_wp2_with fail;go_ret;exact⟨v',_,rfl,by have:=HK.out;simp;omega,W12.out⟩
  go_upto_region 6 with fail;obtain⟨u1,hu1,fx1⟩:∃v,wr.alloc (.cells #[.int .i64 0,.int .i64 0,.int .i64 0,.int .i64 0,.int .i64 0,.int .i64 0] 56)=v/\FQ w p ao n cap (.slice oa ys.length oc) ys wr.heap.size iv0 v:=
   ⟨_,rfl,W0.out.below ((Below.refl _ _).alloc (Nat.le_refl _) _),hq_new _ _,W0.out.F.size,fun e=>by have:=(W0.out.O.lt _ e).2;omega⟩
  rw[hu1];have X1:Hid (FQ w p ao n cap (.slice oa ys.length oc) ys wr.heap.size iv0 u1):=fx1;clear hu1 fx1 W0;obtain⟨q,hq⟩:∃q,wr.heap.size=q:=⟨_,rfl⟩
  rw[hq]at X1⊢;clear hq;go_wp2_with fail;refine(l1Once_any p ao n cap 4 _ (by omega) X1.out.W.K).mono ?_;rintro e w2⟨z,rfl,f,c⟩;have X2:Hid (FQ w p ao n cap (.slice oa ys.length oc) ys q iv0 w2):=X1.out.fw f c;clear f c X1;go_upto_if 17 with fail;go_cut [5,6,7](fun s5 s6 s7 wx=>s5=.slice oa ys.length oc/\s6=.int .i64 k/\s7=.pointer (some ⟨q,0,none⟩)/\∃x,FQ w p ao n cap (.slice oa ys.length oc) ys q x wx)
  case first=>
   cases z with
   |true=>
    go_wp2_with fail;refine(l1DrawIns_any p ao n cap 29 34 _ (by omega) (by omega) (by omega) X2.out.W.K).mono ?_;rintro e w3⟨x,rfl,f,c⟩;have X3:Hid (FQ w p ao n cap (.slice oa ys.length oc) ys q iv0 w3):=X2.out.fw f c;obtain⟨c0,c1,c2,c3,c4,c5,cf,cl⟩:=X3.out.X.cells;clear f c;unfold IV.c;go_wp2_with fail;go_meet;exact⟨rfl,rfl,rfl,x,X3.out.all x⟩
   |false=>
    go_wp2_with fail;refine(l1DrawIns_any p ao n cap 1 28 _ (by omega) (by omega) (by omega) X2.out.W.K).mono ?_;rintro e w3⟨x,rfl,f,c⟩;have X3:Hid (FQ w p ao n cap (.slice oa ys.length oc) ys q iv0 w3):=X2.out.fw f c;obtain⟨c0,c1,c2,c3,c4,c5,cf,cl⟩:=X3.out.X.cells;clear f c;unfold IV.c;go_wp2_with fail;go_meet;exact⟨rfl,rfl,rfl,x,X3.out.all x⟩
  case rest=>
   clear X2;obtain⟨rfl,rfl,rfl,x,fx3⟩:=hcut;have X3:Hid (FQ w p ao n cap (.slice oa ys.length oc) ys q x wc):=fx3;clear fx3;generalize wc=w3 at X3⊢;obtain⟨c0,c1,c2,c3,c4,c5,cf,cl⟩:=X3.out.X.cells;go_wp2_with fail;refine(jump_any _ _).mono ?_;rintro e w'⟨rfl,hw⟩;rw[hw];clear hw c0 c1 c2 c3 c4 c5 cf cl;obtain⟨z,hz⟩:∃z,jumpB x.o=z:=⟨_,rfl⟩
   rw[hz];clear hz;go_upto_if 24 with fail;go_cut [5,6,7](fun s5 s6 s7 wx=>s5=.slice oa ys.length oc/\s6=.int .i64 k/\s7=.pointer (some ⟨q,0,none⟩)/\∃x,FQ w p ao n cap (.slice oa ys.length oc) ys q x wx)
   case first=>
    cases z with
    |true=>
     go_wp2_with fail;refine(l1Below_any p ao n cap m _ (by omega) X3.out.W.K).mono ?_;rintro e w4⟨y,rfl,_,_,f,c⟩;have X4:Hid (FQ w p ao n cap (.slice oa ys.length oc) ys q x w4):=X3.out.fw f c;obtain⟨c0,c1,c2,c3,c4,c5,cf,cl⟩:=X4.out.X.cells;clear f c;go_wp2_with fail;go_meet;exact⟨rfl,rfl,rfl,{x with i:=y},X4.out.set _ 4 _ rfl⟩
    |false=>
     go_wp2_with fail;go_meet;exact⟨rfl,rfl,rfl,x,X3.out⟩
   case rest=>
    clear X3;obtain⟨rfl,rfl,rfl,x,fx4⟩:=hcut;have X4:Hid (FQ w p ao n cap (.slice oa ys.length oc) ys q x wc):=fx4;clear fx4;generalize wc=w4 at X4⊢;obtain⟨c0,c1,c2,c3,c4,c5,cf,cl⟩:=X4.out.X.cells;have WA:Hid (∀o,FW w p ao n cap (.slice oa ys.length oc) ys (w4.alloc o)):=fun o=>X4.out.W.below ((Below.refl _ _).alloc (Nat.le_refl _) _)
    have hBa:∀o,w.heap.size<=(w4.alloc o).heap.size:=fun o=>(WA.out o).F.size
    have HCN:Hid (∀j u,[Value.int .i64 x.o,.int .i64 x.d,.int .i64 x.a,.int .i64 x.b,.int .i64 x.i,.int .i64 x.h][j]?=some u->(w4.alloc (.cells #[.int .i64 x.o,.int .i64 x.d,.int .i64 x.a,.int .i64 x.b,.int .i64 x.i,.int .i64 x.h] 56)).cell? ((⟨w4.heap.size,0,none⟩:Addr).add j)=some u):=cells_newD w4 _ _;have hyn:ys.length<=100:=by have:=HK.out;omega
    go_wp2_with(first|(at_builtin;refine wpList_append_own_at _ rfl _ _ 23 rfl w.heap.size 56 iS _ 6 48 Tryd.underlying23 HIS.out.1 HIS.out.2.1 HIS.out.2.2.1 HIS.out.2.2.2 rfl (by decide) _ _ _ rfl (WA.out _).O ⟨w4.heap.size,0,none⟩ 1 1 [Value.int .i64 x.o,.int .i64 x.d,.int .i64 x.a,.int .i64 x.b,.int .i64 x.i,.int .i64 x.h] rfl rfl HCN.out ?c2 ?c3 ?c4 (hBa _) ?_))
    case c2=>simp[Value.oneCell']
    case c3=>unfold maxLen;omega
    case c4=>omega
    intro v' w12 hown hgrow _ _;have W12:Hid (FW w p ao n cap v' (ys++[x]) w12):=(WA.out _).grown hgrow (by rw[List.length_append,ic_app,ic_one];exact hown);clear hown hgrow c0 c1 c2 c3 c4 c5 cf cl;go_wp2_with fail;go_roundw
    case rel=>exact⟨ys++[x],by have:=HK.out;simp;omega,by have:=HK.out;simp;omega,W12.out⟩
    case measure=>simp[intOf];omega
theorem IW.below{w v v':World}{p n cap r q:Nat}{ao:Option Addr}{x:IV}(h:IW w p ao n cap r q x v)(f:Below v.heap.size v v'):IW w p ao n cap r q x v':=h.fw (.of_below f) (h.K.below f)
theorem l1SpoilIns_any(p:Nat)(ao:Option Addr)(n cap:Nat)(x:IV)(w:World)(hc:Cur w p ao n cap):
 Calls Tryd.prog 56 #[.pointer (some ⟨p,0,none⟩),.agg x.c] w fun e w'=>∃x:IV,e=.returned (.agg x.c)/\Fw p w w'/\Cur w' p ao n cap:=by
 have lp:=hc.lt;have HC:Hid (Cur w p ao n cap):=hc;clear hc;unfold IV.c;go_enter Tryd.func56,Tryd.ntmps56;go_wp2_with fail;obtain⟨q,hq⟩:∃r,w.heap.size=r:=⟨_,rfl⟩
 obtain⟨u,hu,iu⟩:∃v,(w.alloc (.cells #[.int .i64 x.o,.int .i64 x.d,.int .i64 x.a,.int .i64 x.b,.int .i64 x.i,.int .i64 x.h] 56)).alloc (.cells #[.int .i64 0,.int .i64 0,.int .i64 0,.int .i64 0,.int .i64 0,.int .i64 0] 56)=v/\IW w p ao n cap (q+1) q x v:=by
  refine⟨_,rfl,.of_below (((Below.refl _ _).alloc (Nat.le_refl _) _).alloc (by simp) _),HC.out.below (((Below.refl _ _).alloc (Nat.le_refl _) _).alloc (by simp) _),?_,?_,lp,by omega,by omega,by omega⟩
  ·rw[<-hq]
   have:=hq_new (w.alloc (.cells #[.int .i64 x.o,.int .i64 x.d,.int .i64 x.a,.int .i64 x.b,.int .i64 x.i,.int .i64 x.h] 56)) (.cells #[.int .i64 0,.int .i64 0,.int .i64 0,.int .i64 0,.int .i64 0,.int .i64 0] 56);have e:(w.alloc (.cells #[.int .i64 x.o,.int .i64 x.d,.int .i64 x.a,.int .i64 x.b,.int .i64 x.i,.int .i64 x.h] 56)).heap.size=w.heap.size+1:=by simp
   rw[e]at this;exact this
  ·rw[<-hq]
   exact Ib.below (w:=w.alloc _) (hq_new w _) ((Below.refl _ _).alloc (Nat.le_refl _) _)
 rw[hu];rw[hq];clear hu hq HC;refine(l1Below_any p ao n cap 8 _ (by omega) iu.K).mono ?_;rintro e w1⟨k,rfl,k0,k1,f,c⟩;have I1:Hid (IW w p ao n cap (q+1) q x w1):=iu.fw f c;clear iu f c;have fin:∀{x:IV}{v:World},IW w p ao n cap (q+1) q x v->∀v0 v1 v2 v3 v4 v5,Fw p w ((((((v.setCell ⟨q+1,0,none⟩ v0).setCell ⟨q+1,1,none⟩ v1).setCell ⟨q+1,2,none⟩ v2).setCell ⟨q+1,3,none⟩ v3).setCell ⟨q+1,4,none⟩ v4).setCell ⟨q+1,5,none⟩ v5)/\Cur ((((((v.setCell ⟨q+1,0,none⟩ v0).setCell ⟨q+1,1,none⟩ v1).setCell ⟨q+1,2,none⟩ v2).setCell ⟨q+1,3,none⟩ v3).setCell ⟨q+1,4,none⟩ v4).setCell ⟨q+1,5,none⟩ v5) p ao n cap:=fun h v0 v1 v2 v3 v4 v5=>by
  have hr:=h.wr;have hp:p<q+1:=by omega
  exact⟨(((((h.F.put hr _ _).put hr _ _).put hr _ _).put hr _ _).put hr _ _).put hr _ _,(((((h.K.put hp _ _).put hp _ _).put hp _ _).put hp _ _).put hp _ _).put hp _ _⟩
 have FIN:Hid (∀{x:IV}{v:World},IW w p ao n cap (q+1) q x v->∀v0 v1 v2 v3 v4 v5,Fw p w ((((((v.setCell ⟨q+1,0,none⟩ v0).setCell ⟨q+1,1,none⟩ v1).setCell ⟨q+1,2,none⟩ v2).setCell ⟨q+1,3,none⟩ v3).setCell ⟨q+1,4,none⟩ v4).setCell ⟨q+1,5,none⟩ v5)/\Cur ((((((v.setCell ⟨q+1,0,none⟩ v0).setCell ⟨q+1,1,none⟩ v1).setCell ⟨q+1,2,none⟩ v2).setCell ⟨q+1,3,none⟩ v3).setCell ⟨q+1,4,none⟩ v4).setCell ⟨q+1,5,none⟩ v5) p ao n cap):=fin;clear fin;obtain rfl|rfl|rfl|rfl|rfl|rfl|rfl|rfl:k=0∨k=1∨k=2∨k=3∨k=4∨k=5∨k=6∨k=7:=by omega
 ·go_wp2_with fail
  refine(l1Below_any p ao n cap 2 _ (by omega) I1.out.K).mono ?_;rintro e w2⟨z,rfl,z0,z1,f,c⟩;have I2:Hid (IW w p ao n cap (q+1) q x w2):=I1.out.fw f c;clear f c;obtain⟨c0,c1,c2,c3,c4,c5,cf,cl⟩:=I2.out.X.cells;go_upto_region 19 with fail;obtain⟨w3,y,hw3,i3⟩:∃v y,w2.setCell ⟨q,0,none⟩ (.int .i64 (35*z))=v/\IW w p ao n cap (q+1) q y v:=⟨_,_,rfl,I2.out.setO _⟩
  rw[hw3];have FF:=FIN.out i3;have hne:=i3.ne;obtain⟨c0,c1,c2,c3,c4,c5,cf,cl⟩:=i3.X.cells;obtain⟨b0,b1,b2,b3,b4,b5,bf,bl⟩:=i3.R.cells;have FH:Hid (∀v0 v1 v2 v3 v4 v5,Fw p w ((((((w3.setCell ⟨q+1,0,none⟩ v0).setCell ⟨q+1,1,none⟩ v1).setCell ⟨q+1,2,none⟩ v2).setCell ⟨q+1,3,none⟩ v3).setCell ⟨q+1,4,none⟩ v4).setCell ⟨q+1,5,none⟩ v5)/\Cur ((((((w3.setCell ⟨q+1,0,none⟩ v0).setCell ⟨q+1,1,none⟩ v1).setCell ⟨q+1,2,none⟩ v2).setCell ⟨q+1,3,none⟩ v3).setCell ⟨q+1,4,none⟩ v4).setCell ⟨q+1,5,none⟩ v5) p ao n cap):=FF;clear FF hw3 i3 I1 I2;go_wp2_with fail;exact bodyPost_ret (v:=.agg y.c) (by simp[results,Tryd.results56,go_sem,IV.c, *]) rfl ⟨⟨y,rfl⟩,(FH.out _ _ _ _ _ _).1,(FH.out _ _ _ _ _ _).2⟩
 ·obtain⟨c0,c1,c2,c3,c4,c5,cf,cl⟩:=I1.out.X.cells
  go_upto_region 19 with fail;obtain⟨w3,y,hw3,i3⟩:∃v y,w1.setCell ⟨q,1,none⟩ (.int .i64 8)=v/\IW w p ao n cap (q+1) q y v:=⟨_,_,rfl,I1.out.setD _⟩
  rw[hw3];have FF:=FIN.out i3;have hne:=i3.ne;obtain⟨c0,c1,c2,c3,c4,c5,cf,cl⟩:=i3.X.cells;obtain⟨b0,b1,b2,b3,b4,b5,bf,bl⟩:=i3.R.cells;have FH:Hid (∀v0 v1 v2 v3 v4 v5,Fw p w ((((((w3.setCell ⟨q+1,0,none⟩ v0).setCell ⟨q+1,1,none⟩ v1).setCell ⟨q+1,2,none⟩ v2).setCell ⟨q+1,3,none⟩ v3).setCell ⟨q+1,4,none⟩ v4).setCell ⟨q+1,5,none⟩ v5)/\Cur ((((((w3.setCell ⟨q+1,0,none⟩ v0).setCell ⟨q+1,1,none⟩ v1).setCell ⟨q+1,2,none⟩ v2).setCell ⟨q+1,3,none⟩ v3).setCell ⟨q+1,4,none⟩ v4).setCell ⟨q+1,5,none⟩ v5) p ao n cap):=FF;clear FF hw3 i3 I1;go_wp2_with fail;exact bodyPost_ret (v:=.agg y.c) (by simp[results,Tryd.results56,go_sem,IV.c, *]) rfl ⟨⟨y,rfl⟩,(FH.out _ _ _ _ _ _).1,(FH.out _ _ _ _ _ _).2⟩
 ·obtain⟨c0,c1,c2,c3,c4,c5,cf,cl⟩:=I1.out.X.cells
  go_upto_region 19 with fail;obtain⟨w3,y,hw3,i3⟩:∃v y,w1.setCell ⟨q,2,none⟩ (.int .i64 (-1))=v/\IW w p ao n cap (q+1) q y v:=⟨_,_,rfl,I1.out.setA _⟩
  rw[hw3];have FF:=FIN.out i3;have hne:=i3.ne;obtain⟨c0,c1,c2,c3,c4,c5,cf,cl⟩:=i3.X.cells;obtain⟨b0,b1,b2,b3,b4,b5,bf,bl⟩:=i3.R.cells;have FH:Hid (∀v0 v1 v2 v3 v4 v5,Fw p w ((((((w3.setCell ⟨q+1,0,none⟩ v0).setCell ⟨q+1,1,none⟩ v1).setCell ⟨q+1,2,none⟩ v2).setCell ⟨q+1,3,none⟩ v3).setCell ⟨q+1,4,none⟩ v4).setCell ⟨q+1,5,none⟩ v5)/\Cur ((((((w3.setCell ⟨q+1,0,none⟩ v0).setCell ⟨q+1,1,none⟩ v1).setCell ⟨q+1,2,none⟩ v2).setCell ⟨q+1,3,none⟩ v3).setCell ⟨q+1,4,none⟩ v4).setCell ⟨q+1,5,none⟩ v5) p ao n cap):=FF;clear FF hw3 i3 I1;go_wp2_with fail;exact bodyPost_ret (v:=.agg y.c) (by simp[results,Tryd.results56,go_sem,IV.c, *]) rfl ⟨⟨y,rfl⟩,(FH.out _ _ _ _ _ _).1,(FH.out _ _ _ _ _ _).2⟩
 ·obtain⟨c0,c1,c2,c3,c4,c5,cf,cl⟩:=I1.out.X.cells
  go_upto_region 19 with fail;obtain⟨w3,y,hw3,i3⟩:∃v y,w1.setCell ⟨q,3,none⟩ (.int .i64 (wrap64 (x.b+1)))=v/\IW w p ao n cap (q+1) q y v:=⟨_,_,rfl,I1.out.setB _⟩
  rw[hw3];have FF:=FIN.out i3;have hne:=i3.ne;obtain⟨c0,c1,c2,c3,c4,c5,cf,cl⟩:=i3.X.cells;obtain⟨b0,b1,b2,b3,b4,b5,bf,bl⟩:=i3.R.cells;have FH:Hid (∀v0 v1 v2 v3 v4 v5,Fw p w ((((((w3.setCell ⟨q+1,0,none⟩ v0).setCell ⟨q+1,1,none⟩ v1).setCell ⟨q+1,2,none⟩ v2).setCell ⟨q+1,3,none⟩ v3).setCell ⟨q+1,4,none⟩ v4).setCell ⟨q+1,5,none⟩ v5)/\Cur ((((((w3.setCell ⟨q+1,0,none⟩ v0).setCell ⟨q+1,1,none⟩ v1).setCell ⟨q+1,2,none⟩ v2).setCell ⟨q+1,3,none⟩ v3).setCell ⟨q+1,4,none⟩ v4).setCell ⟨q+1,5,none⟩ v5) p ao n cap):=FF;clear FF hw3 i3 I1;go_wp2_with fail;exact bodyPost_ret (v:=.agg y.c) (by simp[results,Tryd.results56,go_sem,IV.c, *]) rfl ⟨⟨y,rfl⟩,(FH.out _ _ _ _ _ _).1,(FH.out _ _ _ _ _ _).2⟩
 ·go_upto_region 12 with fail
  have I0:Hid (IW w p ao n cap (q+1) q x w1.drew):=I1.out.below (Below.refl _ _).drew;obtain⟨c0,c1,c2,c3,c4,c5,cf,cl⟩:=I0.out.X.cells;go_region_with(go_at_call 46;refine(l1Below_any p ao n cap 2 _ (by omega) I0.out.K).mono ?_;rintro e w2⟨z,rfl,z0,z1,f,c⟩;have I2:Hid (IW w p ao n cap (q+1) q x w2):=I0.out.fw f c;obtain⟨d0,d1,d2,d3,d4,d5,df,dl⟩:=I2.out.X.cells);all_goals
   go_upto_region 19 with fail;obtain⟨w3,y,hw3,i3⟩:∃v y,w2.setCell ⟨q,5,none⟩ (.int .i64 (IntKind.i64.wrap (x.h+IntKind.i64.wrap (8*z))))=v/\IW w p ao n cap (q+1) q y v:=⟨_,_,rfl,I2.out.setH _⟩
   rw[hw3];have FF:=FIN.out i3;have hne:=i3.ne;obtain⟨c0,c1,c2,c3,c4,c5,cf,cl⟩:=i3.X.cells;obtain⟨b0,b1,b2,b3,b4,b5,bf,bl⟩:=i3.R.cells;have FH:Hid (∀v0 v1 v2 v3 v4 v5,Fw p w ((((((w3.setCell ⟨q+1,0,none⟩ v0).setCell ⟨q+1,1,none⟩ v1).setCell ⟨q+1,2,none⟩ v2).setCell ⟨q+1,3,none⟩ v3).setCell ⟨q+1,4,none⟩ v4).setCell ⟨q+1,5,none⟩ v5)/\Cur ((((((w3.setCell ⟨q+1,0,none⟩ v0).setCell ⟨q+1,1,none⟩ v1).setCell ⟨q+1,2,none⟩ v2).setCell ⟨q+1,3,none⟩ v3).setCell ⟨q+1,4,none⟩ v4).setCell ⟨q+1,5,none⟩ v5) p ao n cap):=FF;clear FF hw3 i3 I1 I2;go_wp2_with fail;exact bodyPost_ret (v:=.agg y.c) (by simp[results,Tryd.results56,go_sem,IV.c, *]) rfl ⟨⟨y,rfl⟩,(FH.out _ _ _ _ _ _).1,(FH.out _ _ _ _ _ _).2⟩
 ·obtain⟨c0,c1,c2,c3,c4,c5,cf,cl⟩:=I1.out.X.cells
  go_upto_region 19 with fail;obtain⟨w3,y,hw3,i3⟩:∃v y,w1.setCell ⟨q,4,none⟩ (.int .i64 1000001)=v/\IW w p ao n cap (q+1) q y v:=⟨_,_,rfl,I1.out.setI _⟩
  rw[hw3];have FF:=FIN.out i3;have hne:=i3.ne;obtain⟨c0,c1,c2,c3,c4,c5,cf,cl⟩:=i3.X.cells;obtain⟨b0,b1,b2,b3,b4,b5,bf,bl⟩:=i3.R.cells;have FH:Hid (∀v0 v1 v2 v3 v4 v5,Fw p w ((((((w3.setCell ⟨q+1,0,none⟩ v0).setCell ⟨q+1,1,none⟩ v1).setCell ⟨q+1,2,none⟩ v2).setCell ⟨q+1,3,none⟩ v3).setCell ⟨q+1,4,none⟩ v4).setCell ⟨q+1,5,none⟩ v5)/\Cur ((((((w3.setCell ⟨q+1,0,none⟩ v0).setCell ⟨q+1,1,none⟩ v1).setCell ⟨q+1,2,none⟩ v2).setCell ⟨q+1,3,none⟩ v3).setCell ⟨q+1,4,none⟩ v4).setCell ⟨q+1,5,none⟩ v5) p ao n cap):=FF;clear FF hw3 i3 I1;go_wp2_with fail;exact bodyPost_ret (v:=.agg y.c) (by simp[results,Tryd.results56,go_sem,IV.c, *]) rfl ⟨⟨y,rfl⟩,(FH.out _ _ _ _ _ _).1,(FH.out _ _ _ _ _ _).2⟩
 ·obtain⟨c0,c1,c2,c3,c4,c5,cf,cl⟩:=I1.out.X.cells
  go_upto_region 19 with fail;obtain⟨w3,y,hw3,i3⟩:∃v y,w1.setCell ⟨q,4,none⟩ (.int .i64 (wrap64 (wrap64 (-x.i)-1)))=v/\IW w p ao n cap (q+1) q y v:=⟨_,_,rfl,I1.out.setI _⟩
  rw[hw3];have FF:=FIN.out i3;have hne:=i3.ne;obtain⟨c0,c1,c2,c3,c4,c5,cf,cl⟩:=i3.X.cells;obtain⟨b0,b1,b2,b3,b4,b5,bf,bl⟩:=i3.R.cells;have FH:Hid (∀v0 v1 v2 v3 v4 v5,Fw p w ((((((w3.setCell ⟨q+1,0,none⟩ v0).setCell ⟨q+1,1,none⟩ v1).setCell ⟨q+1,2,none⟩ v2).setCell ⟨q+1,3,none⟩ v3).setCell ⟨q+1,4,none⟩ v4).setCell ⟨q+1,5,none⟩ v5)/\Cur ((((((w3.setCell ⟨q+1,0,none⟩ v0).setCell ⟨q+1,1,none⟩ v1).setCell ⟨q+1,2,none⟩ v2).setCell ⟨q+1,3,none⟩ v3).setCell ⟨q+1,4,none⟩ v4).setCell ⟨q+1,5,none⟩ v5) p ao n cap):=FF;clear FF hw3 i3 I1;go_wp2_with fail;exact bodyPost_ret (v:=.agg y.c) (by simp[results,Tryd.results56,go_sem,IV.c, *]) rfl ⟨⟨y,rfl⟩,(FH.out _ _ _ _ _ _).1,(FH.out _ _ _ _ _ _).2⟩
 ·go_wp2_with fail
  refine(l1Below_any p ao n cap 2 _ (by omega) I1.out.K).mono ?_;rintro e w2⟨z,rfl,z0,z1,f,c⟩;have I2:Hid (IW w p ao n cap (q+1) q x w2):=I1.out.fw f c;clear f c;obtain⟨c0,c1,c2,c3,c4,c5,cf,cl⟩:=I2.out.X.cells;go_upto_region 19 with fail;obtain⟨w3,y,hw3,i3⟩:∃v y,w2.setCell ⟨q,4,none⟩ (.int .i64 (1999+z))=v/\IW w p ao n cap (q+1) q y v:=⟨_,_,rfl,I2.out.setI _⟩
  rw[hw3];have FF:=FIN.out i3;have hne:=i3.ne;obtain⟨c0,c1,c2,c3,c4,c5,cf,cl⟩:=i3.X.cells;obtain⟨b0,b1,b2,b3,b4,b5,bf,bl⟩:=i3.R.cells;have FH:Hid (∀v0 v1 v2 v3 v4 v5,Fw p w ((((((w3.setCell ⟨q+1,0,none⟩ v0).setCell ⟨q+1,1,none⟩ v1).setCell ⟨q+1,2,none⟩ v2).setCell ⟨q+1,3,none⟩ v3).setCell ⟨q+1,4,none⟩ v4).setCell ⟨q+1,5,none⟩ v5)/\Cur ((((((w3.setCell ⟨q+1,0,none⟩ v0).setCell ⟨q+1,1,none⟩ v1).setCell ⟨q+1,2,none⟩ v2).setCell ⟨q+1,3,none⟩ v3).setCell ⟨q+1,4,none⟩ v4).setCell ⟨q+1,5,none⟩ v5) p ao n cap):=FF;clear FF hw3 i3 I1 I2;go_wp2_with fail;exact bodyPost_ret (v:=.agg y.c) (by simp[results,Tryd.results56,go_sem,IV.c, *]) rfl ⟨⟨y,rfl⟩,(FH.out _ _ _ _ _ _).1,(FH.out _ _ _ _ _ _).2⟩
def put6(xs:List Value)(k:Nat)(y:IV):List Value:=(((((xs.set (k*6) (.int .i64 y.o)).set (k*6+1) (.int .i64 y.d)).set (k*6+2) (.int .i64 y.a)).set (k*6+3) (.int .i64 y.b)).set (k*6+4) (.int .i64 y.i)).set (k*6+5) (.int .i64 y.h)
theorem ic_set:∀(ys:List IV)(k:Nat)(y:IV),k<ys.length->put6 (ic ys) k y=ic (ys.set k y)
 |[],k,y,h=>by simp at h
 |z::l,0,y,h=>rfl
 |z::l,k+1,y,h=>by
  have ih:=ic_set l k y (by simpa using h);show put6 (z.c.toList++ic l) (k+1) y=z.c.toList++ic (l.set k y);rw[<-ih];unfold put6;have e:∀(j:Nat)(xs:List Value)(v:Value),(z.c.toList++xs).set ((k+1)*6+j) v=z.c.toList++xs.set (k*6+j) v:=fun j xs v=>by
   rw[List.set_append_right _ _ (by show 6<=_;omega)];congr 2
   show(k+1)*6+j-6=k*6+j;omega
  have e0:=e 0;simp only[Nat.add_zero]at e0;rw[e0,e 1,e 2,e 3,e 4,e 5]
theorem FW.stored{w u:World}{p n cap g c:Nat}{ao:Option Addr}{ys:List IV}(h:FW w p ao n cap (.slice (some ⟨g,0,none⟩) ys.length c) ys u)(k:Nat)(y:IV)(hk:k<ys.length):
 FW w p ao n cap (.slice (some ⟨g,0,none⟩) (ys.set k y).length c) (ys.set k y) ((((((u.setCell ⟨g,k*6,none⟩ (.int .i64 y.o)).setCell ⟨g,k*6+1,none⟩ (.int .i64 y.d)).setCell ⟨g,k*6+2,none⟩ (.int .i64 y.a)).setCell ⟨g,k*6+3,none⟩ (.int .i64 y.b)).setCell ⟨g,k*6+4,none⟩ (.int .i64 y.i)).setCell ⟨g,k*6+5,none⟩ (.int .i64 y.h)):=by
 have hg:=(h.O.lt g rfl).1;have hp:p<g:=by have:=h.pw;omega
 refine⟨(((((h.F.put hg _ _).put hg _ _).put hg _ _).put hg _ _).put hg _ _).put hg _ _,(((((h.K.put hp _ _).put hp _ _).put hp _ _).put hp _ _).put hp _ _).put hp _ _,?_,h.pw⟩;rw[<-ic_set ys k y hk,List.length_set];exact((((((h.O.stored (k*6) (.int .i64 y.o)).1.stored (k*6+1) (.int .i64 y.d)).1.stored (k*6+2) (.int .i64 y.a)).1.stored (k*6+3) (.int .i64 y.b)).1.stored (k*6+4) (.int .i64 y.i)).1.stored (k*6+5) (.int .i64 y.h)).1
theorem FW.down{w w1 u:World}{p n cap:Nat}{ao:Option Addr}{v:Value}{ys:List IV}(h:FW w1 p ao n cap v ys u)(f:Fw p w w1)(hp:p<w.heap.size):FW w p ao n cap v ys u:=by
 refine⟨f.trans h.F,h.K,⟨h.O.1,?_⟩,hp⟩;rcases h.O.2 with h'|⟨g,cap,cur,h',h1,h2⟩
 ·exact .inl h'
 ·exact .inr ⟨g,cap,cur,h',Nat.le_trans f.size h1,h2⟩
theorem FW.nn{w u:World}{p n cap:Nat}{ao:Option Addr}{v:Value}{ys:List IV}(h:FW w p ao n cap v ys u)(hy:1<=ys.length):∃g c,v=.slice (some ⟨g,0,none⟩) ys.length c:=by
 rcases h.O.2 with⟨_,h0⟩|⟨g,cap,cur,h',_⟩
 ·omega
 ·exact⟨g,cap,h'⟩
theorem FW.cells{w u:World}{p n cap g c:Nat}{ao:Option Addr}{ys:List IV}(h:FW w p ao n cap (.slice (some ⟨g,0,none⟩) ys.length c) ys u)(k:Nat)(hk:k<ys.length):
 u.cell? ⟨g,k*6,none⟩=some (.int .i64 (ys.getD k iv0).o)/\u.cell? ⟨g,k*6+1,none⟩=some (.int .i64 (ys.getD k iv0).d)/\u.cell? ⟨g,k*6+2,none⟩=some (.int .i64 (ys.getD k iv0).a)/\u.cell? ⟨g,k*6+3,none⟩=some (.int .i64 (ys.getD k iv0).b)/\u.cell? ⟨g,k*6+4,none⟩=some (.int .i64 (ys.getD k iv0).i)/\u.cell? ⟨g,k*6+5,none⟩=some (.int .i64 (ys.getD k iv0).h)/\(∀j,u.frozen? ⟨g,j,none⟩=false)/\g<u.heap.size:=by
 have e:∀j,j<6->u.cell? ⟨g,k*6+j,none⟩=some (.int .i64 (icF ys k j)):=fun j hj=>by
  rw[h.O.cellAt (k*6+j) (by omega),ic_get ys _ (by omega),insF_at _ k j hj]
 exact⟨e 0 (by omega),e 1 (by omega),e 2 (by omega),e 3 (by omega),e 4 (by omega),e 5 (by omega),fun j=>h.O.frozenAt j,(h.O.lt g rfl).2⟩
def lenV:Value->Nat
 |.slice _ n _=>n
 |_=>0
theorem ic_one1(ys:List IV):∀u∈ic ys,u.oneCell'=true:=by
 intro u hu;obtain⟨y,_,h⟩:=List.mem_flatMap.1 hu;have h':u=.int .i64 y.o∨u=.int .i64 y.d∨u=.int .i64 y.a∨u=.int .i64 y.b∨u=.int .i64 y.i∨u=.int .i64 y.h:=by simpa[IV.c]using h
 rcases h' with rfl|rfl|rfl|rfl|rfl|rfl<;>rfl
theorem l1AnyFlat_any(p:Nat)(ao:Option Addr)(n cap:Nat)(w:World)(hc:Cur w p ao n cap):
 Calls Tryd.prog 28 #[.pointer (some ⟨p,0,none⟩)] w fun e w'=>∃v ys,e=.returned v/\1<=ys.length/\ys.length<=2100/\FW w p ao n cap v ys w':=by
 have lp:=hc.lt;have HC:Hid (Cur w p ao n cap):=hc;obtain⟨iS,hi,hz0,hz1,hz2⟩:=info_parts info_iIns;have HIS:Hid (Tryd.prog.info? 56=some iS/\iS.zero=some (.agg #[.int .i64 0,.int .i64 0,.int .i64 0,.int .i64 0,.int .i64 0,.int .i64 0])/\iS.size=6/\iS.bytes=48):=⟨hi,hz0,hz1,hz2⟩
 clear hc hi hz0 hz1 hz2;go_enter Tryd.func28,Tryd.ntmps28;go_wp2_with fail;refine(l1Below_any p ao n cap 16 _ (by omega) HC.out).mono ?_;rintro e w1⟨m,rfl,m0,m1,f,c⟩;have F1:Hid (Fw p w w1):=f;have C1:Hid (Cur w1 p ao n cap):=c;clear f c HC;go_wp2_with fail;refine(l1DrawFlat_any p ao n cap (1+m) _ (by omega) (by omega) C1.out).mono ?_;rintro e w2⟨v,ys,rfl,hyl,fw2⟩;obtain⟨g,gc,rfl⟩:=fw2.nn (by omega);have W2:Hid (FW w p ao n cap (.slice (some ⟨g,0,none⟩) ys.length gc) ys w2):=fw2.down F1.out lp;obtain⟨ln,hln⟩:∃l,ys.length=l+1:=⟨ys.length-1,by omega⟩
 have HL:Hid (ys.length=ln+1):=hln;have l2:ln<=17:=by omega
 rw[hln];clear fw2 F1 C1 hyl hln;go_wp2_with fail;refine(l1Below_any p ao n cap 24 _ (by omega) W2.out.K).mono ?_;rintro e w3⟨k,rfl,k0,k1,f,c⟩;have W3:Hid (FW w p ao n cap (.slice (some ⟨g,0,none⟩) ys.length gc) ys w3):=W2.out.fw f c;clear f c W2;go_wp2_with fail;refine(l1Below_any p ao n cap ((ln+1:Nat):Int) _ (by omega) W3.out.K).mono ?_;rintro e w4⟨i,rfl,i0,i1,f,c⟩;have W4:Hid (FW w p ao n cap (.slice (some ⟨g,0,none⟩) ys.length gc) ys w4):=W3.out.fw f c;clear f c W3;obtain⟨j,rfl⟩:∃j:Nat,i=(j:Int):=⟨i.toNat,by omega⟩
 have hj:j<ln+1:=by omega
 go_upto_if 18 with fail;go_cut [3,4,5](fun s3 s4 s5 wx=>s3=.slice (some ⟨g,0,none⟩) (ln+1) gc/\s4=.int .i64 k/\s5=.int .i64 (j:Int)/\∃ys:List IV,ys.length=ln+1/\FW w p ao n cap (.slice (some ⟨g,0,none⟩) ys.length gc) ys wx)
 case first=>
  by_cases hk:k=0
  ·subst hk
   obtain⟨c0,c1,c2,c3,c4,c5,cf,cl⟩:=W4.out.cells j (by have:=HL.out;omega);have hj':(j:Int)<((ln+1:Nat):Int):=by omega
   go_wp2_with fail;refine(l1SpoilIns_any p ao n cap (ys.getD j iv0) _ W4.out.K).mono ?_;rintro e w5⟨y,rfl,f,c⟩;have W5:Hid (FW w p ao n cap (.slice (some ⟨g,0,none⟩) ys.length gc) ys w5):=W4.out.fw f c;clear f c c0 c1 c2 c3 c4 c5 cf cl;obtain⟨c0,c1,c2,c3,c4,c5,cf,cl⟩:=W5.out.cells j (by have:=HL.out;omega);unfold IV.c;go_wp2_with fail;go_meet;exact⟨rfl,rfl,rfl,ys.set j y,by rw[List.length_set];exact HL.out,W5.out.stored j y (by have:=HL.out;omega)⟩
  ·have hk':(k==0)=false:=by rw[beq_eq_false_iff_ne];exact hk
   go_wp2_with fail;go_meet;exact⟨rfl,rfl,rfl,ys,HL.out,W4.out⟩
 case rest=>
  clear W4 HL;obtain⟨rfl,rfl,rfl,ys,hln,fw⟩:=hcut;have W4:Hid (FW w p ao n cap (.slice (some ⟨g,0,none⟩) ys.length gc) ys wc):=fw;have HL:Hid (ys.length=ln+1):=hln;clear fw hln;generalize wc=w4 at W4⊢;go_upto_if 29 with fail;go_cut [3,4,5](fun s3 s4 s5 wx=>s3=.slice (some ⟨g,0,none⟩) (ln+1) gc/\s4=.int .i64 k/\s5=.int .i64 (j:Int)/\∃ys:List IV,ys.length=ln+1/\FW w p ao n cap (.slice (some ⟨g,0,none⟩) ys.length gc) ys wx)
  case first=>
   by_cases hk:k=1
   ·subst hk
    obtain⟨c0,c1,c2,c3,c4,c5,cf,cl⟩:=W4.out.cells ln (by have:=HL.out;omega);have hj':(ln:Int)<((ln+1:Nat):Int):=by omega
    go_wp2_with fail;go_meet;exact⟨rfl,rfl,rfl,ys.set ln ⟨1,0,0,0,0,0⟩,by rw[List.length_set];exact HL.out,W4.out.stored ln ⟨1,0,0,0,0,0⟩ (by have:=HL.out;omega)⟩
   ·have hk':(k==1)=false:=by rw[beq_eq_false_iff_ne];exact hk
    go_wp2_with fail;go_meet;exact⟨rfl,rfl,rfl,ys,HL.out,W4.out⟩
  case rest=>
   clear W4 HL;obtain⟨rfl,rfl,rfl,ys,hln,fw⟩:=hcut;have W4:Hid (FW w p ao n cap (.slice (some ⟨g,0,none⟩) ys.length gc) ys wc):=fw;have HL:Hid (ys.length=ln+1):=hln;clear fw hln;generalize wc=w4 at W4⊢;go_upto_if 37 with fail;go_cut [3,4,5](fun s3 s4 s5 wx=>s3=.slice (some ⟨g,0,none⟩) (ln+1) gc/\s4=.int .i64 k/\s5=.int .i64 (j:Int)/\∃ys:List IV,ys.length=ln+1/\FW w p ao n cap (.slice (some ⟨g,0,none⟩) ys.length gc) ys wx)
   case first=>
    by_cases hk:k=2
    ·subst hk
     obtain⟨c0,c1,c2,c3,c4,c5,cf,cl⟩:=W4.out.cells j (by have:=HL.out;omega);have hj':(j:Int)<((ln+1:Nat):Int):=by omega
     go_wp2_with fail;go_meet;exact⟨rfl,rfl,rfl,ys.set j ⟨30,0,0,0,((ln+1:Nat):Int),0⟩,by rw[List.length_set];exact HL.out,W4.out.stored j ⟨30,0,0,0,((ln+1:Nat):Int),0⟩ (by have:=HL.out;omega)⟩
    ·have hk':(k==2)=false:=by rw[beq_eq_false_iff_ne];exact hk
     go_wp2_with fail;go_meet;exact⟨rfl,rfl,rfl,ys,HL.out,W4.out⟩
   case rest=>
    clear W4 HL;obtain⟨rfl,rfl,rfl,ys,hln,fw⟩:=hcut;have W4:Hid (FW w p ao n cap (.slice (some ⟨g,0,none⟩) ys.length gc) ys wc):=fw;have HL:Hid (ys.length=ln+1):=hln;clear fw hln;generalize wc=w4 at W4⊢;go_wp2_with fail;refine(l1Once_any p ao n cap 60 _ (by omega) W4.out.K).mono ?_;rintro e w5⟨z,rfl,f,c⟩;have W5:Hid (FW w p ao n cap (.slice (some ⟨g,0,none⟩) ys.length gc) ys w5):=W4.out.fw f c;clear f c W4;cases z with
    |false=>
     go_wp2_with fail;go_ret;exact⟨_,ys,rfl,by have:=HL.out;omega,by have:=HL.out;omega,by have:=W5.out;rw[HL.out]at this;exact this⟩
    |true=>
     go_wp2_with fail;go_loopw [3](fun pv wr=>∃(ys:List IV),1<=ys.length/\ys.length<=2001/\FW w p ao n cap pv ys wr)(fun pv _=>2100-lenV pv)
     case atStart=>exact⟨ys,by have:=HL.out;omega,by have:=HL.out;omega,by have:=W5.out;rw[HL.out]at this;exact this⟩
     case round=>
      clear W5 HL l2 hj k0 k1 i0 i1 m0 m1;obtain⟨ys,y1,y2,fwr⟩:=hrel;obtain⟨g,gc,rfl⟩:=fwr.nn y1;have WR:Hid (FW w p ao n cap (.slice (some ⟨g,0,none⟩) ys.length gc) ys wr):=fwr;clear fwr;obtain⟨l,hl⟩:∃l,ys.length=l:=⟨_,rfl⟩
      have HL:Hid (ys.length=l):=hl;rw[hl]at y1 y2⊢;clear hl;go_wp2_with fail;refine(l1Below_any p ao n cap 2 _ (by omega) WR.out.K).mono ?_;rintro e w6⟨y,rfl,z0,z1,f,c⟩;have W6:Hid (FW w p ao n cap (.slice (some ⟨g,0,none⟩) ys.length gc) ys w6):=WR.out.fw f c;clear f c WR;by_cases hlt:(l:Int)<2000+y
      rotate_left
      ·go_wp2_with fail
       go_ret;exact⟨_,ys,rfl,by have:=HL.out;omega,by have:=HL.out;omega,by have:=W6.out;rw[HL.out]at this;exact this⟩
      ·have WA:Hid (∀o,FW w p ao n cap (.slice (some ⟨g,0,none⟩) ys.length gc) ys (w6.alloc o)):=fun o=>W6.out.below ((Below.refl _ _).alloc (Nat.le_refl _) _)
       have hBa:∀o,w.heap.size<=(w6.alloc o).heap.size:=fun o=>(WA.out o).F.size
       have OL:Hid ((w6.alloc (.cells #[.int .i64 1,.int .i64 0,.int .i64 0,.int .i64 0,.int .i64 0,.int .i64 0] 56)).ownsRow w.heap.size 56 6 (.slice (some ⟨w6.heap.size,0,none⟩) 1 1) 1 [.int .i64 1,.int .i64 0,.int .i64 0,.int .i64 0,.int .i64 0,.int .i64 0]):=World.ownsRow_lit w6 #[.int .i64 1,.int .i64 0,.int .i64 0,.int .i64 0,.int .i64 0,.int .i64 0] 1 W6.out.F.size (by unfold maxLen;omega) rfl;have HCN:Hid (∀j u,(ic ys)[j]?=some u->(w6.alloc (.cells #[.int .i64 1,.int .i64 0,.int .i64 0,.int .i64 0,.int .i64 0,.int .i64 0] 56)).cell? ((⟨g,0,none⟩:Addr).add j)=some u):=(WA.out _).O.cells rfl;have H1C:Hid (∀u∈ic ys,u.oneCell'=true):=ic_one1 ys;have HLN:Hid ((ic ys).length=l*6):=(by rw[ic_len,HL.out]:(ic ys).length=l*6)
       go_wp2_with(first|(at_builtin;refine wpList_append_own_at _ rfl _ _ 23 rfl w.heap.size 56 iS _ 6 48 Tryd.underlying23 HIS.out.1 HIS.out.2.1 HIS.out.2.2.1 HIS.out.2.2.2 rfl (by decide) _ _ _ rfl OL.out ⟨g,0,none⟩ l gc (ic ys) rfl HLN.out HCN.out H1C.out ?c3 ?c4 (hBa _) ?_))
       case c3=>unfold maxLen;omega
       case c4=>omega
       intro v' w12 hown hgrow _ _;have hown':w12.ownsRow w.heap.size 56 6 v' (⟨1,0,0,0,0,0⟩::ys:List IV).length (ic (⟨1,0,0,0,0,0⟩::ys)):=by
        have e:(⟨1,0,0,0,0,0⟩::ys:List IV).length=1+l:=by
         simp[HL.out];omega
        rw[e];exact hown
       have W12:Hid (FW w p ao n cap v' (⟨1,0,0,0,0,0⟩::ys) w12):=
        ⟨(WA.out _).F.grown hgrow (fun k hk=>by simp[Value.ownBlock]at hk;rw[<-hk];exact W6.out.F.size),(WA.out _).K.grown hgrow (fun k hk=>by simp[Value.ownBlock]at hk;rw[<-hk];exact W6.out.K.lt),hown',lp⟩
       obtain⟨g',gc',hv'⟩:=W12.out.nn (by simp);subst hv';have hlen:(⟨1,0,0,0,0,0⟩::ys).length=l+1:=by simp[HL.out]
       have W13:Hid (FW w p ao n cap (.slice (some ⟨g',0,none⟩) (l+1) gc') (⟨1,0,0,0,0,0⟩::ys) w12):=(by have:=W12.out;rw[hlen]at this;exact this:FW w p ao n cap (.slice (some ⟨g',0,none⟩) (l+1) gc') (⟨1,0,0,0,0,0⟩::ys) w12)
       have HLE:Hid ((⟨1,0,0,0,0,0⟩::ys:List IV).length=l+1):=hlen;rw[hlen];clear hown hown' hgrow W12 hlen;go_wp2_with fail;go_roundw
       case rel=>exact⟨_,by rw[HLE.out];omega,by rw[HLE.out];omega,W13.out⟩
       case measure=>simp[lenV];omega
theorem l2Dialect_any(p:Nat)(ao:Option Addr)(n cap:Nat)(w:World)(hc:Cur w p ao n cap):
 Calls Tryd.prog 29 #[.pointer (some ⟨p,0,none⟩)] w fun e w'=>∃x:Int,e=.returned (.int .i64 x)/\ -1<=x/\x<=2/\Fw p w w'/\Cur w' p ao n cap:=by
 have HC:Hid (Cur w p ao n cap):=hc;clear hc;go_enter Tryd.func29,Tryd.ntmps29;go_wp2_with fail;refine(l1Below_any p ao n cap 2 _ (by omega) HC.out).mono ?_;rintro e w1⟨x,rfl,x0,x1,f1,k1⟩;have F1:Hid (Fw p w w1):=f1;have K1:Hid (Cur w1 p ao n cap):=k1;clear f1 k1 HC;go_wp2_with fail;refine(l1Once_any p ao n cap 30 _ (by omega) K1.out).mono ?_;rintro e w2⟨z,rfl,f2,k2⟩;have F2:Hid (Fw p w w2):=F1.out.trans f2;have K2:Hid (Cur w2 p ao n cap):=k2;clear f2 k2 F1 K1;cases z with
 |true=>
  go_wp2;go_ret;exact⟨_,rfl,by omega,by omega,F2.out,K2.out⟩
 |false=>
  go_wp2;go_ret;exact⟨_,rfl,by omega,by omega,F2.out,K2.out⟩
theorem drawPrint_any(ao:Option Addr)(n cap:Nat)(w:World)(hn:n<=1048576)(hr:Bytes0 w w.heap.size ao n):
 Calls Tryd.prog 7 #[.slice ao n cap] w fun e w'=>∃g gc ys d,e=.returned (.tuple #[.slice (some ⟨g,0,none⟩) ys.length gc,.int .i64 d])/\ys.length<=2100/\w'.ownsRow w.heap.size 56 6 (.slice (some ⟨g,0,none⟩) ys.length gc) ys.length (ic ys)/\Below w.heap.size w w':=by
 have HR:Hid (Bytes0 w w.heap.size ao n):=hr;clear hr;go_enter Tryd.func7,Tryd.ntmps7;go_wp2_with fail;refine(l1New_any ao n cap w hn HR.out).mono ?_;rintro e w1⟨p,rfl,lp,hb1,c1⟩;have B1:Hid (Below w.heap.size w w1):=hb1;have K1:Hid (Cur w1 p ao n cap):=c1;clear hb1 c1;go_wp2_with fail;refine(l1AnyFlat_any p ao n cap _ K1.out).mono ?_;rintro e w2⟨v,ys,rfl,y1,y2,fw⟩;obtain⟨g,gc,rfl⟩:=fw.nn y1;have W2:Hid (FW w1 p ao n cap (.slice (some ⟨g,0,none⟩) ys.length gc) ys w2):=fw;clear fw;go_wp2_with fail;refine(l2Dialect_any p ao n cap _ W2.out.K).mono ?_;rintro e w3⟨d,rfl,_,_,f,c⟩;have W3:Hid (FW w1 p ao n cap (.slice (some ⟨g,0,none⟩) ys.length gc) ys w3):=W2.out.fw f c;clear f c W2;go_wp2;refine bodyPost_ret (v:=.tuple #[.slice (some ⟨g,0,none⟩) ys.length gc,.int .i64 d]) (by simp[results,Tryd.results7,go_sem]) rfl ?_;refine⟨_,_,_,_,rfl,y2,⟨W3.out.O.1,?_⟩,W3.out.F.below B1.out lp B1.out.size⟩;rcases W3.out.O.2 with h'|⟨g,cap,cur,h',h1,h2⟩
 ·exact .inl h'
 ·exact .inr ⟨g,cap,cur,h',Nat.le_trans B1.out.size h1,h2⟩
end Go.Proofs.YtdbhgaegblclaaaDoor
