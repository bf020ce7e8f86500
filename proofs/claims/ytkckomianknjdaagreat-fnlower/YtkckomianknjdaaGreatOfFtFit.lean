import Derived.Test.YtkckomianknjdaaGreatOfCoreF
import Derived.Test.YtkckomianknjdaaGreatDrawM2
import Derived.Test.YtkckomianknjdaaGreatOfSpecDo
import Derived.Test.YtkckomianknjdaaGreatOfBytes
import Derived.Test.YtkckomianknjdaaGreatOfLen64
import Derived.Test.YtkckomianknjdaaGreatOfTransSpS
import Derived.Deep.DeepCutAuto
import Derived.Test.YtkckomianknjdaaGreatOfFu6c
import Derived.Test.YtkckomianknjdaaGreatOfTransAcc
set_option maxHeartbeats 8000000
set_option maxRecDepth 20000
namespace Go.Proofs.YtkckomianknjdaaGreat
open Go.RowKit
variable {B Y n p:Nat}{U:Option Addr}{u:World}
theorem Md.form{F:World}{m:Md}(h:DW F p U n Y m u):∃(o:Option Addr)(q:Nat)(b:Option Addr)(a:Nat)(k:Option Addr)(l:Nat),m=⟨.slice o m.rs.length q,m.z,m.c,m.hz,m.hc,.slice b m.hs.length a,m.pc,m.st,.slice k m.os.length l,m.rs,m.hs,m.os⟩:=by
 obtain⟨o,q,j⟩:=BA h.R;obtain⟨b,a,d⟩:=BA h.H;obtain⟨k,l,e⟩:=BA h.O;refine⟨o,q,b,a,k,l,?_⟩;rw[<-j,<-d,<-e]
theorem DW.down{w w1:World}{m:Md}(h:DW w1 p U n Y m u)(f:Fw p w w1)(o:p<w.heap.size):DW w p U n Y m u:=by
 have k:∀{e s c:Nat}{v:Value}{d:List Value},u.ownsRow w1.heap.size e s v c d->u.ownsRow w.heap.size e s v c d:=fun h=>by
  refine⟨h.1,?_⟩;rcases h.2 with b|⟨g,Y,a,b,j,l⟩
  ·exact .inl b
  ·exact .inr ⟨g,Y,a,b,Nat.le_trans f.size j,l⟩
 exact⟨f.trans h.F,h.K,k h.R,k h.H,k h.O,fun x q=>k (h.D x q),h.rr,h.hr,o⟩
theorem q9{q:Nat}{S a I k E D v6 v7 v8:Value}{t:TypeId}(h:u.heap[q]?=some (.cells #[S,a,I,k,E,D,v6,v7,v8] t)):u.cell? (Va q 0)=some S/\u.cell? (Va q 1)=some a/\u.cell? (Va q 2)=some I/\u.cell? (Va q 3)=some k/\u.cell? (Va q 4)=some E/\u.cell? (Va q 5)=some D/\u.cell? (Va q 6)=some v6/\u.cell? (Va q 7)=some v7/\u.cell? (Va q 8)=some v8:=
 ⟨AJ h 0,AJ h 1,AJ h 2,AJ h 3,AJ h 4,AJ h 5,AJ h 6,AJ h 7,AJ h 8⟩
theorem Od(p:Nat)(N:Option Addr)(n s:Nat)(w:World)(hc:CG w p N n s):
 Calls Tryz.prog 16 #[Vq p] w fun e w'=>∃m:Md,e=.returned (.agg m.a)/\m.rs.length<=8/\m.hs.length<=4/\m.os.length<=2/\DW w p N n s m w':=by
 have HC:=hxy hc;have lp:=hc.lt;clear hc;go_enter Tryz.func16,Tryz.ntmps16;go_wp2_with fail;obtain⟨u0,ab,O,Z⟩:∃y,w.alloc (.cells #[.slice none 0 0,.bool false,.bool false,.bool false,.bool false,.slice none 0 0,Vi 0,Vi 0,.slice none 0 0] 28)=y/\Bw w y/\y.heap[w.heap.size]?=some (.cells G8.a 28):=⟨_,rfl,Ah,Bh _ _⟩
 rw[ab];obtain⟨r,hr⟩:=BG w.heap.size;have aa:w.heap.size<=r:=AB;have ae:p<r:=AB;rw[hr]at Z⊢;have Z0:=hxy Z;have C0:=hxy (HC.below O);have F0:Hid (Fw p w u0):=.of_below O;clear ab O Z hr HC;refine(MW p N n s u0 C0).mono ?_;rintro e u1⟨m,rfl,R,h2,h3,d1⟩;have zr:r<u0.heap.size:=(Cj.1 Z0).1;have D1:=d1;have Z1:Hid (u1.heap[r]?=some (.cells G8.a 28)):=Gf Z0 d1.F AB;obtain⟨B,C,u,b,x,A,X⟩:=Md.form D1;obtain⟨vR,E,D,h,d,vH,I,J,vO,l,j,k⟩:=m;dsimp only at X R h2 h3;obtain⟨rfl,rfl,rfl⟩:vR=.slice B l.length C/\vH=.slice u j.length b/\vO=.slice x k.length A:=by
  injection X with e1 _ _ _ _ e2 _ _ e3;exact⟨e1,e2,e3⟩
 have W1:=hxy D1;have HL:=hxy R;clear D1 d1 C0 X R zr;unfold Md.a;dsimp only;go_upto_region 2 with fail;obtain⟨u2,ac,Q,Y⟩:∃y,u1.alloc (.cells #[.slice B l.length C,.bool E,.bool D,.bool h,.bool d,.slice u j.length b,Vi I,Vi J,.slice x k.length A] 28)=y/\Bw u1 y/\y.heap[u1.heap.size]?=some (.cells #[.slice B l.length C,.bool E,.bool D,.bool h,.bool d,.slice u j.length b,Vi I,Vi J,.slice x k.length A] 28):=⟨_,rfl,Ah,Bh _ _⟩
 rw[ac];obtain⟨q,hq⟩:=BG u1.heap.size;have ad:r<q:=by have:=(Cj.1 Z1).1;omega
 rw[hq]at Y⊢;have W2:=hxy (W1.below Q);have Z2:Hid (u2.heap[r]?=some (.cells G8.a 28)):=(Q.block r (Cj.1 Z1).1).trans Z1;have Q2:=hxy Y;clear ac Q Y hq W1 Z1;go_wp2_with fail;refine(Bv p N n s 14 _ AB W2.K).mono ?_;rintro e u3⟨z,rfl,f,c⟩;have W3:=hxy (W2.fw f c);have Z3:Hid (u3.heap[r]?=some (.cells G8.a 28)):=Gf Z2 f AB;have Q3:Hid (u3.heap[q]?=some (.cells #[.slice B l.length C,.bool E,.bool D,.bool h,.bool d,.slice u j.length b,Vi I,Vi J,.slice x k.length A] 28)):=Gf Q2 f AB;clear f c W2 Z2 Q2;have x0:=q9 Q3;have xz:=(Cj.1 Q3).1;cases z with
 |true=>
  go_wp2_with fail;refine(Li u0 p N n s B C E D h d u b I J x A l j k u3 W3 HL h2 h3).mono ?_;rintro e u4⟨m,rfl,R,S,U,d4⟩;have M:Hid (u4.heap[r]?=some (.cells G8.a 28)):=Gf Z0 d4.F AB;have D4:=d4.down F0 lp;obtain⟨B,C,u,b,x,A,X⟩:=Md.form D4;obtain⟨vR,E,D,h,d,vH,I,J,vO,l,j,k⟩:=m;dsimp only at X R S U;obtain⟨rfl,rfl,rfl⟩:vR=.slice B l.length C/\vH=.slice u j.length b/\vO=.slice x k.length A:=by
   injection X with e1 _ _ _ _ e2 _ _ e3;exact⟨e1,e2,e3⟩
  have W9:=hxy D4;have o:Hid (l.length<=8/\j.length<=4/\k.length<=2):=⟨R,S,U⟩
  clear D4 d4 X R S U W3 Z3 Q3 x0 xz;unfold Md.a;dsimp only;obtain⟨z0,z1,z2,z3,z4,z5,z6,z7,z8,zf,zz⟩:=z9 M;have L:Hid (DW w p N n s ⟨.slice B l.length C,E,D,h,d,.slice u j.length b,I,J,.slice x k.length A,l,j,k⟩ _):=W9.put9 aa M.out (.slice B l.length C) (.bool E) (.bool D) (.bool h) (.bool d) (.slice u j.length b) (Vi I) (Vi J) (.slice x k.length A);clear W9 M;go_wp2;refine bodyPost_ret (v:=.agg #[.slice B l.length C,.bool E,.bool D,.bool h,.bool d,.slice u j.length b,Vi I,Vi J,.slice x k.length A]) (by simp[results,Tryz.results16,go_sem,z0,z1,z2,z3,z4,z5,z6,z7,z8]) rfl ⟨⟨.slice B l.length C,E,D,h,d,.slice u j.length b,I,J,.slice x k.length A,l,j,k⟩,rfl,o.1,o.2.1,o.2.2,L⟩
 |false=>
  have o:Hid (l.length<=8/\j.length<=4/\k.length<=2):=⟨by rw[HL.out];decide,AB,AB⟩
  have W9:=hxy (W3.down F0 lp);have M:=Z3;clear W3 Z3 Q3;obtain⟨z0,z1,z2,z3,z4,z5,z6,z7,z8,zf,zz⟩:=z9 M;have L:Hid (DW w p N n s ⟨.slice B l.length C,E,D,h,d,.slice u j.length b,I,J,.slice x k.length A,l,j,k⟩ _):=W9.put9 aa M.out (.slice B l.length C) (.bool E) (.bool D) (.bool h) (.bool d) (.slice u j.length b) (Vi I) (Vi J) (.slice x k.length A);clear W9 M;go_wp2;refine bodyPost_ret (v:=.agg #[.slice B l.length C,.bool E,.bool D,.bool h,.bool d,.slice u j.length b,Vi I,Vi J,.slice x k.length A]) (by simp[results,Tryz.results16,go_sem,z0,z1,z2,z3,z4,z5,z6,z7,z8]) rfl ⟨⟨.slice B l.length C,E,D,h,d,.slice u j.length b,I,J,.slice x k.length A,l,j,k⟩,rfl,o.1,o.2.1,o.2.2,L⟩
structure ML(B:Nat)(m:Md)(u:World):Prop where
 R:u.ownsRow B 74 1 m.vR m.rs.length (m.rs.map (.int .u64 ·))
 H:u.ownsRow B 76 3 m.vH m.hs.length (m.hs.flatMap Sw)
 O:u.ownsRow B 109 2 m.vO m.os.length (m.os.flatMap Xv)
 D:∀h∈m.hs,u.ownsRow B 5 1 h.v h.ds.length (h.ds.map (.int .u8 ·))
 rr:∀x∈m.rs,FV x
 hr:∀h∈m.hs,FV h.base/\h.ds.length<=4100/\∀x∈h.ds,0<=x/\x<=255
theorem DW.ml{w:World}{m:Md}(h:DW w p U n Y m u):ML w.heap.size m u:=⟨h.R,h.H,h.O,h.D,h.rr,h.hr⟩
theorem Ie{e s X F c:Nat}{a:Option Addr}{d:List Value}{f I:Nat->Value}(h:u.ownsRow B e s (.slice a n c) n d)(l:BZ u X F I)(r:∀i,i<n*s->d[i]?=some (f i)):∃b,Nl a c n b/\BZ u b (n*s) f/\n<=c:=by
 rcases h.2 with⟨k,p⟩|⟨g,m,o,k,x,y,q,z,A,C⟩
 ·obtain⟨rfl,_,rfl⟩:=Value.slice.inj k
  subst p;exact⟨X,.inl ⟨rfl,rfl,rfl⟩,⟨l.1,l.2.1,fun i j=>absurd j AB⟩,BP⟩
 ·obtain⟨rfl,_,rfl⟩:=Value.slice.inj k
  exact⟨g,.inr rfl,⟨(h.lt g rfl).2,fun i=>h.frozenAt i,fun i j=>(h.cellAt i j).trans (r i j)⟩,q⟩
def hd0:HD:=⟨0,false,.slice none 0 0,[]⟩
def rL(rs:List Int)(i:Nat):Int:=rs.getD i 0
def hL(hs:List HD)(i:Nat):Bj:=⟨(hs.getD i hd0).base,(hs.getD i hd0).wr,none,(hs.getD i hd0).ds.length,0,fun j=>(hs.getD i hd0).ds.getD j 0⟩
def kH:Value->Option Addr
 |.slice a _ _=>a
 |_=>none
def ko:Value->Nat
 |.slice _ _ c=>c
 |_=>0
def aL(hs:List HD)(i:Nat):Option Addr:=kH (hs.getD i hd0).v
def cL(hs:List HD)(i:Nat):Nat:=ko (hs.getD i hd0).v
def kL(os:List (Int×Int))(i:Nat):Int:=(os.getD i (0,0)).1
def vL(os:List (Int×Int))(i:Nat):Int:=(os.getD i (0,0)).2
theorem Xa(k:IntKind)(a:List Int)(i:Nat)(b:i<a.length):(a.map (.int k ·))[i]?=some (EH k (fun j=>a.getD j 0) i):=by
 rw[List.getElem?_map,List.getElem?_eq_getElem b];simp[EH,List.getElem?_eq_getElem b]
theorem WN:∀(b:List HD),(∀h∈b,∃a c,h.v=.slice a h.ds.length c)->∀i,i<b.length*3->(b.flatMap Sw)[i]?=some (CO (fun i=>(hL b i).put (aL b i) (cL b i)) i)
 |[],_,i,hi=>by simp at hi
 |x::l,hv,i,hi=>by
  have d:∀j,CO (fun i=>(hL (x::l) i).put (aL (x::l) i) (cL (x::l) i)) (j+3)=CO (fun i=>(hL l i).put (aL l i) (cL l i)) j:=fun j=>by
   unfold CO;rw[show(j+3)%3=j%3 by omega,show(j+3)/3=j/3+1 by omega];rfl
  obtain⟨a,c,e⟩:=hv x AY;rw[List.flatMap_cons];match i,hi with
  |0,_=>rfl
  |1,_=>rfl
  |2,_=>
   show some x.v=some (Value.slice (kH x.v) x.ds.length (ko x.v));rw[e];rfl
  |j+3,hi=>
   rw[List.getElem?_append_right (by show 3<=j+3;omega),show j+3-(Sw x).length=j by show j+3-3=j;omega,d j];exact WN l (fun h k=>hv h (by simp[k])) j (by simp at hi;omega)
theorem Z9:∀(a:List (Int×Int))(i:Nat),i<a.length*2->(a.flatMap Xv)[i]?=some (CR (kL a) (vL a) i)
 |[],i,hi=>by simp at hi
 |x::l,i,hi=>by
  have b:∀j,CR (kL (x::l)) (vL (x::l)) (j+2)=CR (kL l) (vL l) j:=fun j=>by
   unfold CR;rw[show(j+2)%2=j%2 by omega,show(j+2)/2=j/2+1 by omega];rfl
  rw[List.flatMap_cons];match i,hi with
  |0,_=>rfl
  |1,_=>rfl
  |j+2,hi=>
   rw[List.getElem?_append_right (by show 2<=j+2;omega),show j+2-(Xv x).length=j by show j+2-2=j;omega,b j];exact Z9 l j (by simp at hi;omega)
theorem ML.g{X F:Nat}{I:Nat->Value}{ra:Option Addr}{rc:Nat}{fz C A p:Bool}{o:Option Addr}{U:Nat}{pc L:Int}{m:Option Addr}{Z:Nat}{rs:List Int}{d:List HD}{k:List (Int×Int)}(h:ML B ⟨.slice ra rs.length rc,fz,C,A,p,.slice o d.length U,pc,L,.slice m k.length Z,rs,d,k⟩ u)(l:BZ u X F I):
 ∃r n q,FN u ra rc r rs.length (rL rs) o U n d.length (hL d) (aL d) (cL d) m Z q k.length (kL k) (vL k):=by
 obtain⟨r,nR,E,_⟩:=Ie (f:=EH .u64 (rL rs)) h.R l (fun i e=>Xa .u64 rs i (by simpa using e));obtain⟨n,nH,M,Y⟩:=Ie (f:=CO (fun i=>(hL d i).put (aL d i) (cL d i))) h.H l (fun i e=>WN d (fun x z=>BA (h.D x z)) i e);obtain⟨q,nO,N,_⟩:=Ie (f:=CR (kL k) (vL k)) h.O l (fun i e=>Z9 k i e);rw[Nat.mul_one]at E;refine⟨r,n,q,E,M,fun i e S=>?_,N,nR,nH,nO,Y⟩;have z:d.getD i hd0∈d:=by
  rw[Jw,List.getElem?_eq_getElem e];exact List.getElem_mem e
 have s:=h.D _ z;obtain⟨a,c,K⟩:=BA s;have y:0<(d.getD i hd0).ds.length:=S;rw[K]at s;obtain⟨b,nb,J,_⟩:=Ie (f:=EH .u8 (fun j=>(d.getD i hd0).ds.getD j 0)) s l (fun j Q=>Xa .u8 _ j (by simpa using Q));rw[Nat.mul_one]at J;refine⟨b,?_,J⟩;show kH (d.getD i hd0).v=_;rw[K];exact nb.some y
theorem ML.range{m:Md}(h:ML B m u):IQ (rL m.rs) m.hs.length (hL m.hs):=by
 refine⟨fun i _=>?_,fun i a=>?_,fun i a j d=>?_⟩
 ·show FV (m.rs.getD i 0)
  rw[Jw];cases hc:m.rs[i]? with
  |none=>exact⟨Int.le_refl _,Aa⟩
  |some x=>exact h.rr x (List.mem_of_getElem? hc)
 ·have c:m.hs.getD i hd0∈m.hs:=by
   rw[Jw,List.getElem?_eq_getElem a];exact List.getElem_mem a
  exact(h.hr _ c).1
 ·have c:m.hs.getD i hd0∈m.hs:=by
   rw[Jw,List.getElem?_eq_getElem a];exact List.getElem_mem a
  show 0<=(m.hs.getD i hd0).ds.getD j 0/\_;have b:j<(m.hs.getD i hd0).ds.length:=d;have e:(m.hs.getD i hd0).ds.getD j 0∈(m.hs.getD i hd0).ds:=by
   rw[Jw (l:=(m.hs.getD i hd0).ds),List.getElem?_eq_getElem b];exact List.getElem_mem b
  exact(h.hr _ c).2.2 _ e
theorem ML.small{m:Md}(h:ML B m u)(c:m.rs.length<=8)(d:m.hs.length<=8)(e:m.os.length<=2):Small m.rs.length m.hs.length (hL m.hs) m.os.length:=by
 refine⟨AB,AB,fun i a=>?_,AB⟩;have b:m.hs.getD i hd0∈m.hs:=by
  rw[Jw,List.getElem?_eq_getElem a];exact List.getElem_mem a
 have:=(h.hr _ b).2.1;show(m.hs.getD i hd0).ds.length<=_;omega
def UU(B:Nat->Int)(v:VV)(x:Int):Prop:=
 (v.k=0/\(v.m= -1∨x<=v.m))∨(v.k=1/\∃d,v.lo<=d/\d<=v.hi/\x=(B v.h.toNat+d)%18446744073709551616)
end Go.Proofs.YtkckomianknjdaaGreat
namespace Go.Proofs.YtkckomianknjdaaGreat
open Go.RowKit Go.Deep
variable {d:List Value}{B c e n q s:Nat}{v:Value}{u w:World}
def Oz(hs:List HD)(k:Nat):Int:=(hs.getD k hd0).base
theorem OV(p:Nat)(j:Option Addr)(n b:Nat)(v:VV)(K:Option Addr)(l B:Nat)(d:List HD)(w:World)(hv:GV v (d.length:Int))(hc:CG w p j n b)(hH:w.ownsRow B 76 3 (.slice K d.length l) d.length (d.flatMap Sw))(hB:p<B)(hl:d.length<=8):
 Calls Tryz.prog 42 #[Vq p,.agg #[Vi v.k,.bool v.s,Vi v.m,Vi v.h,Vi v.lo,Vi v.hi],.slice K d.length l] w fun e a=>∃x:Int,e=.returned (.int .u64 x)/\FV x/\UU (Oz d) v x/\Fw p w a/\CG a p j n b:=by
 have HC:=hxy hc;have Z:=hxy hv;have Y:=hxy hH;have lp:=hc.lt;go_enter Tryz.func42,Tryz.ntmps42;go_upto_region 1 with fail;obtain⟨u,hu,bu,eu⟩:∃y,w.alloc (.cells #[Vi v.k,.bool v.s,Vi v.m,Vi v.h,Vi v.lo,Vi v.hi] 95)=y/\Bw w y/\Cl y w.heap.size [Vi v.k,.bool v.s,Vi v.m,Vi v.h,Vi v.lo,Vi v.hi]:=⟨_,rfl,Ah,Cl.new⟩
 rw[hu];have F0:Hid (Fw p w u):=.of_below bu;have C0:=hxy (HC.below bu);have E0:=hxy eu;go_wp2_with fail;refine(Jg p j n b _ C0).mono ?_;rintro e u1⟨x,rfl,U,f,c⟩;have I:=hxy (F0.trans f);have F:=hxy c;have z:Hid (Cl u1 w.heap.size [Vi v.k,.bool v.s,Vi v.m,Vi v.h,Vi v.lo,Vi v.hi]):=f.cl E0 AB;obtain⟨x0,x1⟩:=U;have c0:=JN z;have cz:=z.1;by_cases L:v.k=1
 rotate_left
 ·have O:v.k=0/\ -1<=v.m/\v.m<=1099511627776:=by rcases Z.out with q|q;exact⟨q.1,q.2.1,q.2.2.1⟩;exact absurd q.1 L
  have J:=hxy O.1;have m1:=O.2.1;have m2:=O.2.2;have ek:(v.k==1)=false:=by simp[L]
  by_cases m0:0<=v.m
  ·have em:decide (0<=v.m)=true:=by simp[m0]
   go_wp2_with fail;go_ret;have q1:=Int.emod_nonneg x (show v.m+1≠0 by omega);have q2:=Int.emod_lt_of_pos x (show 0<v.m+1 by omega);exact⟨_,rfl,⟨AB,AB⟩,Or.inl ⟨J,Or.inr AB⟩,I,F⟩
  ·have em:decide (0<=v.m)=false:=by simp;omega
   go_wp2_with fail;go_ret;exact⟨_,rfl,⟨AB,AB⟩,Or.inl ⟨J,Or.inl AB⟩,I,F⟩
 have hp:0<=v.h/\v.h<d.length/\ -1099511627776<=v.lo/\v.lo<=v.hi/\v.hi<=1099511627776:=by rcases Z.out with q|q;exact absurd q.1 AB;exact⟨q.2.2.2.1,q.2.2.2.2.1,q.2.2.2.2.2⟩
 obtain⟨p0,p1,p2,p3,p4⟩:=hp;have J:=hxy L;have ek:(v.k==1)=true:=by simp[L]
 go_upto_if 21 with fail;go_cut [8](fun s8 wx=>(∃r:Int,s8=Vi r/\1<=r/\r<=v.hi-v.lo+1/\r<=1000)/\wx=u1)
 case first=>
  by_cases g1:1000<v.hi-v.lo+1
  ·have e1:decide (1000<v.hi-v.lo+1)=true:=by simp;omega
   go_wp2_with fail;go_meet;exact⟨⟨1000,rfl,AB,AB,AB⟩,rfl⟩
  ·have e1:decide (1000<v.hi-v.lo+1)=false:=by simp;omega
   go_wp2_with fail;go_meet;exact⟨⟨_,rfl,AB,AB,AB⟩,rfl⟩
 case rest=>
 obtain⟨⟨r,rfl,aa,ab,ac⟩,hw⟩:=hcut;rw[hw];obtain⟨o,D⟩:=Int.eq_ofNat_of_zero_le p0;have Q:o<d.length:=AB;obtain⟨C,gc,R⟩:∃g c,Value.slice K d.length l=Vs g d.length c:=by
  obtain⟨g,c,h⟩:=FP Y AB;exact⟨g,c,h⟩
 obtain⟨rfl,rfl⟩:K=some ⟨C,0,none⟩/\l=gc:=by
  have:=R;simp only[Value.slice.injEq]at this;exact⟨this.1,this.2.2⟩
 obtain⟨X,E⟩:∃y:HD,d[o]?=some y:=⟨_,List.getElem?_eq_getElem Q⟩
 have j3:∀a,Fw p u1 a/\CG a p j n b->a.cell? ⟨w.heap.size,3,none⟩=some (Vi (o:Int)):=fun a h=>by rw[<-D];exact(h.1.cl z AB).2 3 AY
 have j4:∀a,Fw p u1 a/\CG a p j n b->a.cell? ⟨w.heap.size,4,none⟩=some (Vi v.lo):=fun a h=>(h.1.cl z AB).2 4 AY
 have jz:∀a,Fw p u1 a/\CG a p j n b->w.heap.size<a.heap.size:=fun a h=>(h.1.cl z AB).1
 have jr:∀a,Fw p u1 a/\CG a p j n b->a.ownsRow B 76 3 (Vs C d.length l) d.length (d.flatMap Sw):=fun a h=>EA Y (I.trans h.1) hB
 have j0:∀a,Fw p u1 a/\CG a p j n b->a.cell? (Va C (o*3))=some (.int .u64 X.base):=fun a h=>by
  rw[(jr a h).cellAt (o*3) AB];exact WQ d o X E
 have j1:∀a,Fw p u1 a/\CG a p j n b->C<a.heap.size:=fun a h=>((jr a h).lt C rfl).2
 have M:Hid (Oz d o=X.base):=by
  unfold Oz;rw[Jw,E];rfl
 have N:=hxy D;go_upto_region 6 with fail;refine wp_region_held_drew (S:=fun a=>Fw p u1 a/\CG a p j n b) Ab ⟨.of_below Al.drew,F.below Al.drew⟩ (fun _=>?_);refine lM [0,1,2,3,4,5,6,7,8,9] ?_;refine AO 10 rfl (fun KK hK=>?_);go_simp;refine(AX p j n b r _ AB (F.below Al.drew)).mono ?_;rintro e u2⟨y,rfl,y0,y1,f,c⟩;have S2:Fw p u1 u2/\CG u2 p j n b:=⟨(Fw.of_below Al.drew).trans f,c⟩
 go_wp2_with fail;refine hK.out _ _ S2 (fun _=>?_);refine lM [11,12,13,14] ?_;refine wpAnyH_done Ab ?_ _;have A:=hxy S2;go_wp2_with fail;go_ret;refine⟨_,rfl,JD _,Or.inr ⟨J,v.lo+y,AB,AB,?_⟩,I.trans A.1,A.2⟩;rw[N.out,Int.toNat_natCast,M.out];simp only[IntKind.wrap_u64,IntKind.wrap_i64];omega
theorem Un(h:u.ownsRow B e s v n d)(a:v.ownBlock=some q):q<u.heap.size:=by
 rcases h.2 with⟨b,_⟩|⟨g,c,j,b,_,k,_⟩
 ·rw[b]at a;cases a
 ·rw[b]at a
  have l:g=q:=Option.some.inj a;have m:=(Array.getElem?_eq_some_iff.1 k).1;omega
theorem Zy(h:u.ownsRow B e s v n d)(a:v.ownBlock=some q):B<=q:=by
 rcases h.2 with⟨b,_⟩|⟨g,c,j,b,l,_⟩
 ·rw[b]at a;cases a
 ·rw[b]at a
  have k:g=q:=Option.some.inj a;omega
theorem Kt(h:w.ownsRow B e s v n d)(m:c<=B):w.ownsRow c e s v n d:=by
 refine⟨h.1,?_⟩;rcases h.2 with j|⟨g,a,b,j,k,l⟩
 ·exact .inl j
 ·exact .inr ⟨g,a,b,j,Nat.le_trans m k,l⟩
structure gU(m:Md)(q r hb:Nat):Prop where
 R:m.vR.ownBlock≠some hb
 H:m.vH.ownBlock≠some hb
 O:m.vO.ownBlock≠some hb
 D:∀x∈m.hs,x.v.ownBlock≠some hb
 q:hb≠q
 r:hb≠r
theorem DX.off{p Y r:Nat}{U:Option Addr}{m:Md}(h:DX w p U n Y q r m u)(b:u.heap.size<=c):gU m q r c:=
 ⟨fun e=>by have:=Un h.W.R e;omega,fun e=>by have:=Un h.W.H e;omega,fun e=>by have:=Un h.W.O e;omega,fun x a e=>by have:=Un (h.W.D x a) e;omega,by have:=(Cj.1 h.X).1;omega,by have:=(Cj.1 h.Z).1;omega⟩
theorem DX.putO{p Y r:Nat}{U:Option Addr}{m:Md}(h:DX w p U n Y q r m u)(o:gU m q r c)(b:w.heap.size<=c)(j:Nat)(v:Value):DX w p U n Y q r m (u.setCell (Va c j) v):=
 ⟨⟨h.W.F.put b _ _,h.W.K.put (by have:=h.W.pw;omega) _ _,CK h.W.R o.R _ _,CK h.W.H o.H _ _,CK h.W.O o.O _ _,fun x a=>CK (h.W.D x a) (o.D x a) _ _,h.W.rr,h.W.hr,h.W.pw⟩,BJ h.X (fun e=>o.q e.symm) _ _,BJ h.Z (fun e=>o.r e.symm) _ _,h.wq,h.wr,h.ne⟩
def ku(w:World)(p:Nat)(ao:Option Addr)(n cap q r:Nat)(m:Md)(bs:Int)(wb:Bool)(sz:Int)(hb:Nat)(va:Option Addr)(vc:Nat)(ds:List Int)(u:World):Prop:=
 DX w p ao n cap q r m u/\u.heap[hb]?=some (.cells #[.int .u64 bs,.bool wb,.slice va ds.length vc] 76)/\u.ownsRow w.heap.size 5 1 (.slice va ds.length vc) ds.length (ds.map (.int .u8 ·))/\(ds.length:Int)=sz/\(∀x∈ds,0<=x/\x<=255)/\w.heap.size<=hb
structure Vd(m:Md)(S:Nat->HS):Prop where
 form:m={G8 with vR:=m.vR,vH:=m.vH,rs:=m.rs,hs:=m.hs}
 heap:∀i,i<m.hs.length->((m.hs.getD i hd0).ds.length:Int)=(S i).size/\(m.hs.getD i hd0).wr=(S i).w
theorem Qj{α:Type}{l:List α}{x d:α}{i:Nat}(a:i<(l++[x]).length):(l++[x]).getD i d=if i<l.length then l.getD i d else x:=by
 rw[Jw];by_cases h:i<l.length
 ·rw[if_pos h,List.getElem?_append_left h,Jw]
 ·have:i=l.length:=by rw[List.length_append]at a;simp at a;omega
  subst this;rw[if_neg h];simp
theorem Vd.grow{m:Md}{S:Nat->HS}(h:Vd m S){vH:Value}{x:HD}(c:(x.ds.length:Int)=(S m.hs.length).size)(d:x.wr=(S m.hs.length).w):Vd {m with vH:=vH,hs:=m.hs++[x]} S:=by
 refine⟨?_,fun i a=>?_⟩
 ·have:=h.form
  rw[this]
 ·show(((m.hs++[x]).getD i hd0).ds.length:Int)=_/\((m.hs++[x]).getD i hd0).wr=_
  rw[Qj a];by_cases e:i<m.hs.length
  ·rw[if_pos e];exact h.heap i e
  ·have b:i=m.hs.length:=by have:=a;simp at this;omega
   subst b;rw[if_neg e];exact⟨c,d⟩
structure jB(m:Md)(nH:Nat)(S:Nat->HS)(V:Nat->VV):Prop where
 h:Vd m S
 nh:m.hs.length=nH
 nr:m.rs.length=8
 rg:∀i,i<8->UU (Oz m.hs) (V i) (m.rs.getD i 0)
theorem OZ(p:Nat)(B:Option Addr)(n b:Nat)(bH cH nH:Nat)(S:Nat->HS)(bR cR:Nat)(V:Nat->VV)(w:World)(hc:CG w p B n b)(hS:BZ w bH (nH*3) (Xt S))(hV:BZ w bR (8*6) (vF V))(aQ:bH≠p)(ae:bR≠p)(n8:nH<=8)(ah:∀i,i<nH->1<=(S i).size/\(S i).size<=4096)(a5:∀i,i<8->GV (V i) nH):
 Calls Tryz.prog 14 #[Vq p,.agg #[Vs bH nH cH,Vs bR 8 cR]] w fun e d=>∃m:Md,e=.returned (.agg m.a)/\jB m nH S V/\DW w p B n b m d:=by
 have HS:=hxy hS;have HV:=hxy hV;have bm:=hxy ah;have bk:=hxy a5;obtain⟨iH,gH,aZ,a0,a1⟩:=info_parts KQ;have az:Hid (Tryz.prog.info? 76=some iH/\iH.zero=some (.agg #[.int .u64 0,.bool false,.slice none 0 0])/\iH.size=3/\iH.bytes=40):=⟨gH,aZ,a0,a1⟩
 obtain⟨iR,gR,a2,a3,a4⟩:=info_parts MG;have aA:Hid (Tryz.prog.info? 74=some iR/\iR.zero=some (.int .u64 0)/\iR.size=1/\iR.bytes=8):=⟨gR,a2,a3,a4⟩
 have bB:=hc.lt;have HC:=hxy hc;clear hc gH aZ a0 a1 gR a2 a3 a4 hS hV ah a5;go_enter Tryz.func14,Tryz.ntmps14;go_upto_region 2 with fail;obtain⟨A,aS,ap,aY⟩:∃y,w.alloc (.cells #[Vs bH nH cH,Vs bR 8 cR] 45)=y/\Bw w y/\Cl y w.heap.size [Vs bH nH cH,Vs bR 8 cR]:=⟨_,rfl,Ah,Cl.new⟩
 have bg:A.heap.size=w.heap.size+1:=by rw[<-aS];simp
 rw[aS];have bh:Hid (Fw p w A):=.of_below ap;have aW:=hxy (HC.below ap);have aI:=hxy (HS.below ap HS.lt);have ac:=hxy (HV.below ap HV.lt);have E0:=hxy aY;obtain⟨u0,aR,x0⟩:∃y,(A.alloc (.cells G8.a 28)).alloc (.cells G8.a 28)=y/\DX A p B n b (A.heap.size+1) A.heap.size G8 y:=⟨_,rfl,WL A p B n b aW⟩
 unfold Md.a G8 at aR;rw[aR];rw[bg]at x0;obtain⟨r,hr⟩:=BG (w.heap.size+1);obtain⟨q,hq⟩:=BG (w.heap.size+1+1);rw[hq,hr]at x0;rw[hq,hr];obtain⟨nb,bb⟩:=BG w.heap.size;have X0:=hxy x0;have lp:p<A.heap.size:=AB;have aD:nb≠p:=AB;rw[bb]at E0⊢;have HD:Hid (DW A p B n b G8 u0->True):=fun _=>trivial
 clear aR x0 aS ap aY HC HS HV aW HD bg hr hq bb;go_wp2_with fail;refine(AX p B n b 6 _ AB X0.W.K).mono ?_;rintro e u1⟨x,rfl,xl,xh,f,c⟩;have X1:=hxy (X0.fw f c);clear f c X0;go_wp2_with fail;refine(Bv p B n b 6 _ AB X1.W.K).mono ?_;rintro e u2⟨z,rfl,f,c⟩;have X2:=hxy (X1.fw f c);clear f c X1;go_upto_if 17 with fail;go_cut [6](fun s6 wx=>(∃M,s6=.int .u64 M/\FV M)/\DX A p B n b q r G8 wx)
 case first=>
  cases z with
  |true=>
   go_wp2_with fail;go_meet;exact⟨⟨_,rfl,by unfold FV;omega⟩,X2⟩
  |false=>
   go_wp2_with fail;go_meet;exact⟨⟨_,rfl,by unfold FV;omega⟩,X2⟩
 case rest=>
 clear X2;obtain⟨⟨M,rfl,ar⟩,fx⟩:=hcut;have X3:=hxy fx;have aj:=hxy ar;clear fx ar;generalize wc=u3 at X3⊢;go_wp2_with fail;go_loopw [6,7](fun bv iv wr=>∃(M:Int)(m:Md),bv=.int .u64 M/\FV M/\iv=Vi (m.hs.length:Int)/\m.hs.length<=nH/\m.rs=[]/\Vd m S/\DX A p B n b q r m wr)(fun _ iv _=>((nH:Int)-intOf iv).toNat)
 case atStart=>exact⟨M,G8,rfl,aj,rfl,Nat.zero_le _,rfl,⟨rfl,fun i hi=>absurd hi (Nat.not_lt_zero _)⟩,X3⟩
 case round=>
  clear X3 aj;obtain⟨M,m,rfl,ar,rfl,aP,a9,aw,hx⟩:=hrel;have aj:=hxy ar;have al:=hxy a9;have Q:=hxy aw;have E:=hxy hx;obtain⟨kn,hk⟩:∃k:Nat,m.hs.length=k:=⟨_,rfl⟩
  have HK:=hxy hk;rw[hk]at aP⊢;clear ar a9 aw hx hk;have j0:∀d,DX A p B n b q r m d->d.cell? (Va nb 0)=some (Vs bH nH cH):=fun d h=>(h.W.F.cl E0 aD).2 0 AY
  have jz:∀d,DX A p B n b q r m d->nb<d.heap.size:=fun d h=>(h.W.F.cl E0 aD).1
  have c0:=j0 _ E;have cz:=jz _ E;by_cases aO:kn<nH
  ·have bG:(kn:Int)<(nH:Int):=AB
   obtain⟨bC,bD⟩:=bm.out kn aO;obtain⟨sz,ah⟩:∃x:Int,(S kn).size=x:=⟨_,rfl⟩
   obtain⟨wb,be⟩:∃x:Bool,(S kn).w=x:=⟨_,rfl⟩
   have aB:Hid ((S kn).size=sz/\(S kn).w=wb):=⟨ah,be⟩
   rw[ah]at bC bD;clear ah be;have jb:∀d,DX A p B n b q r m d->bH<d.heap.size:=fun d h=>(h.W.F.arr aI aQ).lt
   have js:∀d,DX A p B n b q r m d->d.cell? (Va bH (kn*3))=some (Vi sz):=fun d h=>by rw[<-aB.1];exact(TH (h.W.F.arr aI aQ) aO).1
   have jw:∀d,DX A p B n b q r m d->d.cell? (Va bH (kn*3+2))=some (.bool wb):=fun d h=>by rw[<-aB.2];exact(TH (h.W.F.arr aI aQ) aO).2.2
   go_upto_region 8 with fail;clear c0 cz;go_cut [8](fun s8 wx=>∃hb va vc D,s8=Vq hb/\ku A p B n b q r m M wb sz hb va vc D wx)
   case first=>as_aux_lemma=>
    refine wp_region_held_drew (S:=fun d=>DX A p B n b q r m d) Ab (E.below Al.drew) (fun _=>?_);refine lM [0,1,2,3,4,5,6,7,8,9,10,11,12,13] ?_;have X6:Hid (DX A p B n b q r m wr.drew):=E.below Al.drew;generalize wr.drew=t0 at X6⊢;clear E;refine wpAnyH_ready (rs:=[14,16]) Ab AY ?_;refine AllReadyH.cons rfl (fun KK O=>?_) (AllReadyH.cons rfl (fun KK O=>?_) AllReadyH.nil)
    ·skip
     go_simp;refine(Ji p B n b sz _ AB AB X6.W.K).mono ?_;rintro e u8⟨v,rfl,D,au,av,aa,f,c⟩;have X8:=hxy (X6.fw f c);obtain⟨va,vc,rfl⟩:=BA aa;have aF:=hxy (Kt aa X6.W.F.size);have ab:Hid ((D.length:Int)=sz/\∀x∈D,0<=x/\x<=255):=⟨au,av⟩
     go_wp2_with fail;refine O.out _ _ X8 (fun _=>?_);clear O KK f c aa au av X6;try go_frame
     refine Ao 15 ?_;refine AO 16 rfl (fun KK O=>?_);go_simp;refine O.out _ _ (X8.below Ah) (fun _=>?_);clear O KK
     try go_frame
     refine AO 17 rfl (fun KK O=>?_)
     go_simp
     refine O.out _ _ (X8.below Ah) (fun _=>?_)
     clear O KK
     try go_frame
     refine wpAnyH_done Ab ?_ _
     clear j0 jz jb js jw
     go_wp2_with fail
     go_meet
     exact⟨u8.heap.size,va,vc,D,rfl,X8.below Ah,Bh _ _,Aw aF Ah,ab.1,ab.2,X8.W.F.size⟩
    ·skip
     go_simp
     refine O.out _ _ (X6.below Ah) (fun _=>?_)
     clear O KK
     try go_frame
     obtain⟨t1,bd,x7,h7,z7⟩:∃y,t0.alloc (.cells #[.int .u64 0,.bool false,.slice none 0 0] 76)=y/\DX A p B n b q r m y/\y.heap[t0.heap.size]?=some (.cells #[.int .u64 0,.bool false,.slice none 0 0] 76)/\t0.heap.size<y.heap.size:=⟨_,rfl,X6.below Ah,Bh _ _,AY⟩
     rw[bd]
     have HO:Hid (gU m q r t0.heap.size/\A.heap.size<=t0.heap.size):=⟨X6.off BP,X6.W.F.size⟩
     obtain⟨hb,aN⟩:=BG t0.heap.size
     rw[aN]at h7 z7 HO
     rw[aN]
     have X7:=hxy x7
     have H7:=hxy h7
     have Z7:=hxy z7
     clear bd x7 h7 z7 aN X6
     refine AO 14 rfl (fun KK O=>?_)
     go_simp
     refine(Ji p B n b sz _ AB AB X7.W.K).mono ?_
     rintro e u8⟨v,rfl,D,au,av,aa,f,c⟩
     have X8:=hxy (X7.fw f c)
     obtain⟨va,vc,rfl⟩:=BA aa
     have aF:=hxy (Kt aa X7.W.F.size)
     have aG:Hid ((Value.slice va D.length vc).ownBlock≠some hb):=fun e=>by have h1:=Zy aa e;have h2:=Z7.out;omega
     have ab:Hid ((D.length:Int)=sz/\∀x∈D,0<=x/\x<=255):=⟨au,av⟩
     have H8:Hid (u8.heap[hb]?=some (.cells #[.int .u64 0,.bool false,.slice none 0 0] 76)):=Gf H7 f (by have:=HO.2;omega)
     go_wp2_with fail
     refine O.out _ _ X8 (fun _=>?_)
     clear O KK f c aa au av X7 H7 Z7
     try go_frame
     refine Ao 15 ?_
     have c0:=AJ H8 0
     have c1:=AJ H8 1
     have c2:=AJ H8 2
     simp only[List.getElem?_toArray,List.getElem?_cons_zero,List.getElem?_cons_succ]at c0 c1 c2
     have cf:=CS H8
     have cz:=(Cj.1 H8).1
     refine AO 17 rfl (fun KK O=>?_)
     go_simp
     have XE:DX A p B n b q r m (((u8.setCell (Va hb 0) (.int .u64 M)).setCell (Va hb 1) (.bool wb)).setCell (Va hb 2) (.slice va D.length vc)):=((X8.putO HO.1 HO.2 _ _).putO HO.1 HO.2 _ _).putO HO.1 HO.2 _ _
     refine O.out _ _ XE (fun _=>?_)
     clear O KK c0 c1 c2 cf cz
     try go_frame
     refine wpAnyH_done Ab ?_ _
     have bq:=hxy XE
     clear XE j0 jz jb js jw
     go_wp2_with fail
     go_meet
     exact⟨hb,va,vc,D,rfl,bq,(BK (BK (BK H8 0 _) 1 _) 2 _).trans rfl,CK (CK (CK aF aG _ _) aG _ _) aG _ _,ab.1,ab.2,HO.2⟩
   case rest=>
   clear E j0 jz jb js jw
   obtain⟨hb,va,vc,D,rfl,h8⟩:=hcut
   generalize wc=u9 at *
   have X9:=hxy h8.1
   have H9:=hxy h8.2.1
   have D9:=hxy h8.2.2.1
   have aX:=hxy h8.2.2.2.1
   have ab:=hxy h8.2.2.2.2.1
   have bK:=h8.2.2.2.2.2
   have bE:D.length<=4096:=by have:=aX.out;omega
   have c0:=AJ H9 0
   have c1:=AJ H9 1
   have c2:=AJ H9 2
   simp only[List.getElem?_toArray,List.getElem?_cons_zero,List.getElem?_cons_succ]at c0 c1 c2
   have cz:=(Cj.1 H9).1
   clear h8
   go_wp2_with fail
   refine(Cx M wb va D.length vc _ AB).mono ?_
   rintro e u10⟨rfl,ag⟩
   have ad:=hxy (X9.below ag)
   have aV:=hxy ((ag.block hb cz).trans H9)
   have aT:=hxy (Aw D9 ag)
   clear ag X9 H9 D9 c0 c1 c2 cz
   go_wp2_with fail
   refine(AX p B n b 9 _ AB ad.W.K).mono ?_
   rintro e u11⟨g,rfl,g0,g1,f,c⟩
   have C:=hxy (ad.fw f c)
   have ai:Hid (u11.heap[hb]?=some (.cells #[.int .u64 M,.bool wb,.slice va D.length vc] 76)):=Gf aV f AB
   have aU:=hxy (EA aT f lp)
   clear f c ad aV aT
   have c0:=AJ ai 0
   have c1:=AJ ai 1
   have c2:=AJ ai 2
   simp only[List.getElem?_toArray,List.getElem?_cons_zero,List.getElem?_cons_succ]at c0 c1 c2
   have cz:=(Cj.1 ai).1
   obtain⟨⟨_,_,_,_,_,x5,_,_,_⟩,xf,xz⟩:=C.cells
   obtain⟨ha,U,N⟩:=BA C.W.H
   rw[N]at x5
   have aC:=hxy N
   clear N
   go_upto_region 10 with fail
   obtain⟨b2,aM⟩:=BG (IntKind.u64.wrap (IntKind.u64.wrap (M+(D.length:Int))+g))
   have bi:Hid (FV b2):=(by rw[<-aM];exact JD _:FV b2)
   rw[aM]
   clear aM
   have bA:m.hs.length<=8:=by have:=HK.out;omega
   have aK:∀o,A.heap.size<=(u11.alloc o).heap.size:=fun o=>(C.below (Al.alloc BP o)).W.F.size
   have aE:Hid (∀j u,[Value.int .u64 M,.bool wb,.slice va D.length vc][j]?=some u->(u11.alloc (.cells #[.int .u64 M,.bool wb,.slice va D.length vc] 76)).cell? ((⟨u11.heap.size,0,none⟩:Addr).add j)=some u):=Ch u11 _ _
   have OA:Hid (∀o,(u11.alloc o).ownsRow A.heap.size 76 3 (.slice ha m.hs.length U) m.hs.length (m.hs.flatMap Sw)):=fun o=>by
    have k:=(C.below (Al.alloc BP o)).W.H
    rw[aC.out]at k
    exact k
   go_wp2_with(first|(at_builtin;refine wpList_append_own_at _ rfl _ _ 25 rfl A.heap.size 76 iH _ 3 40 Tryz.underlying25 az.1 az.2.1 az.2.2.1 az.2.2.2 rfl Aa _ _ _ rfl (OA _) ⟨u11.heap.size,0,none⟩ 1 1 [Value.int .u64 M,.bool wb,.slice va D.length vc] rfl rfl aE ?c2 ?c3 ?c4 (aK _) ?_))
   case c2=>simp[Value.oneCell']
   case c3=>unfold maxLen;omega
   case c4=>omega
   intro v' u12 L l _ _
   obtain⟨vb,Y,rfl⟩:=BA L
   obtain⟨ua,ay,ba⟩:∃y,u11.alloc (.cells #[.int .u64 M,.bool wb,.slice va D.length vc] 76)=y/\Bw u11 y:=⟨_,rfl,Ah⟩
   rw[ay]at l
   rw[<-aC.out]at l
   have XA:=C.below ba
   have am:DW A p B n b {m with vH:=.slice vb (m.hs.length+1) Y,hs:=m.hs++[⟨M,wb,.slice va D.length vc,D⟩]} u12:=XA.W.growH _ ⟨M,wb,.slice va D.length vc,D⟩ ⟨aj,by show D.length<=4100;omega,ab⟩ (Aw aU ba) l L
   have I:=Br XA.X l (CF XA.X XA.W.H Aa)
   have an:=Br XA.Z l (CF XA.Z XA.W.H Aa)
   have aJ:Hid (DX A p B n b q r {m with vH:=.slice vb (m.hs.length+1) Y,hs:=m.hs++[⟨M,wb,.slice va D.length vc,D⟩]} (u12.setCell (Va q 5) (.slice vb (m.hs.length+1) Y))):=DX.store am I an C.wq C.wr C.ne 5 _ rfl
   have y5:=AJ I 5
   have yf:=CS I
   have yz:=(Cj.1 I).1
   clear L l ba ay XA am I an c0 c1 c2 cz x5 xf xz C ai aU
   go_wp2_with fail
   go_roundw
   case rel=>exact⟨b2,{m with vH:=.slice vb (m.hs.length+1) Y,hs:=m.hs++[⟨M,wb,.slice va D.length vc,D⟩]},rfl,bi,by have:=HK.out;simp;omega,by have:=HK.out;simp;omega,al,Q.grow (by rw[HK.out,aB.1];exact aX) (by rw[HK.out,aB.2]),aJ⟩
   case measure=>simp[intOf];omega
  ·have a7:Hid (m.hs.length=nH):=(by have:=HK.out;omega:m.hs.length=nH)
   have bu:¬((kn:Int)<(nH:Int)):=AB
   clear aj HK
   go_wp2_with fail
   clear c0 cz j0 jz
   go_loopw [9](fun iv wr=>∃(m:Md),iv=Vi (m.rs.length:Int)/\m.rs.length<=8/\m.hs.length=nH/\Vd m S/\(∀i,i<m.rs.length->UU (Oz m.hs) (V i) (m.rs.getD i 0))/\DX A p B n b q r m wr)(fun iv _=>(8-intOf iv).toNat)
   case atStart=>exact⟨m,by rw[al.out];rfl,by rw[al.out];exact Nat.zero_le _,a7.out,Q,fun i hi=>by rw[al.out]at hi;exact absurd hi (Nat.not_lt_zero _),E⟩
   case round=>
    clear E al Q a7 bu
    obtain⟨m,rfl,aP,a8,aw,bc,hx⟩:=hrel
    have E:=hxy hx
    have ak:=hxy a8
    have Q:=hxy aw
    have aH:=hxy bc
    obtain⟨k,hk⟩:∃k:Nat,m.rs.length=k:=⟨_,rfl⟩
    have HK:=hxy hk
    rw[hk]at aP⊢
    clear a8 aw bc hx hk
    by_cases J:k<8
    ·have bw:(k:Int)<8:=AB
     obtain⟨ha,U,N⟩:=BA E.W.H
     have j1:∀d,DX A p B n b q r m d->d.cell? (Va nb 1)=some (Vs bR 8 cR):=fun d h=>(h.W.F.cl E0 aD).2 1 AY
     have jz:∀d,DX A p B n b q r m d->nb<d.heap.size:=fun d h=>(h.W.F.cl E0 aD).1
     have jb:∀d,DX A p B n b q r m d->bR<d.heap.size:=fun d h=>(h.W.F.arr ac ae).lt
     have v0:∀d,DX A p B n b q r m d->d.cell? (Va bR (k*6))=some (Vi (V k).k):=fun d h=>(CY (h.W.F.arr ac ae) k J).1
     have v1:∀d,DX A p B n b q r m d->d.cell? (Va bR (k*6+1))=some (.bool (V k).s):=fun d h=>(CY (h.W.F.arr ac ae) k J).2.1
     have v2:∀d,DX A p B n b q r m d->d.cell? (Va bR (k*6+2))=some (Vi (V k).m):=fun d h=>(CY (h.W.F.arr ac ae) k J).2.2.1
     have v3:∀d,DX A p B n b q r m d->d.cell? (Va bR (k*6+3))=some (Vi (V k).h):=fun d h=>(CY (h.W.F.arr ac ae) k J).2.2.2.1
     have v4:∀d,DX A p B n b q r m d->d.cell? (Va bR (k*6+4))=some (Vi (V k).lo):=fun d h=>(CY (h.W.F.arr ac ae) k J).2.2.2.2.1
     have v5:∀d,DX A p B n b q r m d->d.cell? (Va bR (k*6+5))=some (Vi (V k).hi):=fun d h=>(CY (h.W.F.arr ac ae) k J).2.2.2.2.2
     have j5:∀d,DX A p B n b q r m d->d.cell? (Va q 5)=some (.slice ha m.hs.length U):=fun d h=>by rw[<-N];exact h.cells.1.2.2.2.2.2.1
     have jq:∀d,DX A p B n b q r m d->q<d.heap.size:=fun d h=>h.cells.2.2
     have aC:=hxy N
     clear N
     go_upto_region 14 with fail
     refine wp_region_held_drew (S:=fun d=>DX A p B n b q r m d) Ab (E.below Al.drew) (fun _=>?_)
     refine lM [0,1,2,3,4,5,6,7] ?_
     refine AO 8 rfl (fun KK O=>?_)
     go_simp
     refine(OV p B n b (V k) ha U A.heap.size m.hs _ (by rw[ak.out];exact bk k J) (E.below Al.drew).W.K (by have h:=(E.below Al.drew).W.H;rw[aC.out]at h;exact h) lp (by have:=ak.out;omega)).mono ?_
     rintro e u10⟨x2,rfl,bf,ax,f,c⟩
     have ad:DX A p B n b q r m u10:=(E.below Al.drew).fw f c
     have bo:=hxy bf
     have bl:=hxy ax
     go_wp2_with fail
     refine O.out _ _ ad (fun _=>?_)
     clear O KK f c bf ax
     try go_frame
     refine Ao 9 ?_
     refine wpAnyH_done Ab ?_ _
     have C:=hxy ad
     clear ad E j1 jz jb v0 v1 v2 v3 v4 v5 j5 jq
     generalize u10=u11 at C⊢
     obtain⟨⟨x0,_,_,_,_,_,_,_,_⟩,xf,xz⟩:=C.cells
     obtain⟨ra,rc,af⟩:=BA C.W.R
     rw[af]at x0
     have bn:=hxy af
     have bA:m.rs.length<=8:=by have:=HK.out;omega
     have aK:∀o,A.heap.size<=(u11.alloc o).heap.size:=fun o=>(C.below (Al.alloc BP o)).W.F.size
     have aE:Hid (∀j u,[Value.int .u64 x2][j]?=some u->(u11.alloc (.cells #[.int .u64 x2] 74)).cell? ((⟨u11.heap.size,0,none⟩:Addr).add j)=some u):=Ch u11 _ _
     have OA:Hid (∀o,(u11.alloc o).ownsRow A.heap.size 74 1 (.slice ra m.rs.length rc) m.rs.length (m.rs.map (.int .u64 ·))):=fun o=>by
      have k:=(C.below (Al.alloc BP o)).W.R
      rw[af]at k
      exact k
     clear af
     go_wp2_with(first|(at_builtin;refine wpList_append_own_at _ rfl _ _ 24 rfl A.heap.size 74 iR _ 1 8 Tryz.underlying24 aA.1 aA.2.1 aA.2.2.1 aA.2.2.2 rfl Aa _ _ _ rfl (OA _) ⟨u11.heap.size,0,none⟩ 1 1 [Value.int .u64 x2] rfl rfl aE ?c2 ?c3 ?c4 (aK _) ?_))
     case c2=>simp[Value.oneCell']
     case c3=>unfold maxLen;omega
     case c4=>omega
     intro v' u12 L l _ _
     obtain⟨vb,Y,rfl⟩:=BA L
     obtain⟨ua,ay,ba⟩:∃y,u11.alloc (.cells #[.int .u64 x2] 74)=y/\Bw u11 y:=⟨_,rfl,Ah⟩
     rw[ay]at l
     rw[<-bn.out]at l
     have XA:=C.below ba
     have am:DW A p B n b {m with vR:=.slice vb (m.rs.length+1) Y,rs:=m.rs++[x2]} u12:=XA.W.growR _ x2 bo l L
     have I:=Br XA.X l (CF XA.X XA.W.R Aa)
     have an:=Br XA.Z l (CF XA.Z XA.W.R Aa)
     have aJ:Hid (DX A p B n b q r {m with vR:=.slice vb (m.rs.length+1) Y,rs:=m.rs++[x2]} (u12.setCell (Va q 0) (.slice vb (m.rs.length+1) Y))):=DX.store am I an C.wq C.wr C.ne 0 _ rfl
     have y0:=AJ I 0
     have yf:=CS I
     have yz:=(Cj.1 I).1
     clear L l ba ay XA am I an x0 xf xz C
     go_wp2_with fail
     go_roundw
     case rel=>exact⟨{m with vR:=.slice vb (m.rs.length+1) Y,rs:=m.rs++[x2]},by have:=HK.out;simp;omega,by have:=HK.out;simp;omega,ak,⟨by have h:=Q.form;rw[h],Q.heap⟩,fun i hi=>by
      show UU (Oz m.hs) (V i) ((m.rs++[x2]).getD i 0)
      rw[Qj hi]
      by_cases e:i<m.rs.length
      ·rw[if_pos e];exact aH i e
      ·have e2:i=k:=by have h:=hi;have h2:=HK.out;simp at h;omega
       rw[if_neg e,e2];exact bl,aJ⟩
     case measure=>simp[intOf];omega
    ·have a6:Hid (m.rs.length=8):=(by have:=HK.out;omega:m.rs.length=8)
     have bF:¬((k:Int)<8):=AB
     obtain⟨ra,rc,af⟩:=BA E.W.R
     obtain⟨ha,U,N⟩:=BA E.W.H
     have hf:=Q.form
     have bj:Hid (jB m nH S V):=⟨Q,ak,a6.out,fun i hi=>aH.out i (by have:=a6.out;omega)⟩
     clear HK ak Q aH
     obtain⟨vR,fz,fc,bJ,bI,vH,pc,st,vO,rs,hs,os⟩:=m
     unfold G8 at hf
     dsimp only at hf af N
     injection hf with _ e1 e2 e3 e4 _ e6 e7 e8 _ _ br
     subst af N e1 e2 e3 e4 e6 e7 e8 br
     obtain⟨⟨x0,x1,x2,x3,x4,x5,x6,x7,x8⟩,xf,xz⟩:=E.cells
     dsimp only at x0 x1 x2 x3 x4 x5 x6 x7 x8
     obtain⟨z0,z1,z2,z3,z4,z5,z6,z7,z8,zf,zz⟩:=z9 E.Z
     have bp:Hid (DW A p B n b ⟨.slice ra rs.length rc,false,false,false,false,.slice ha hs.length U,0,0,.slice none 0 0,rs,hs,[]⟩ _):=E.W.put9 E.wr E.Z (.slice ra rs.length rc) (.bool false) (.bool false) (.bool false) (.bool false) (.slice ha hs.length U) (Vi 0) (Vi 0) (.slice none 0 0)
     have bL:=E.ne
     clear E
     go_wp2
     refine bodyPost_ret (v:=.agg #[.slice ra rs.length rc,.bool false,.bool false,.bool false,.bool false,.slice ha hs.length U,Vi 0,Vi 0,.slice none 0 0]) (by simp[results,Tryz.results14,go_sem,z0,z1,z2,z3,z4,z5,z6,z7,z8]) rfl ⟨⟨.slice ra rs.length rc,false,false,false,false,.slice ha hs.length U,0,0,.slice none 0 0,rs,hs,[]⟩,rfl,bj,bp.down bh bB⟩
end Go.Proofs.YtkckomianknjdaaGreat
