import Derived.Test.YtcjnmdgomocpgaaGreatDoorOfUnitBlock
import Derived.Deep.Onto
set_option maxHeartbeats 4000000
set_option maxRecDepth 20000
namespace Go.Proofs.YtcjnmdgomocpgaaGreatDoor
open Go.RowKit
variable {d:List Value}{I Y b e l m n s:Nat}{Z:Nat->Int}{f:Nat->Value}{v:Value}{j w:World}
def first(m:Nat)(f:Nat->Value):List Value:=(List.range m).map f
theorem Aw(m:Nat)(f:Nat->Value):(first m f).length=m:=by simp[first]
theorem Ca{j:Nat}{u:Value}(h:(first m f)[j]?=some u):j<m/\u=f j:=by
 unfold first at h
 rw[List.getElem?_map]at h;by_cases a:j<m
 ·rw[List.getElem?_range a]at h
  exact⟨a,by simpa using h.symm⟩
 ·rw[List.getElem?_eq_none (by simpa using Nat.le_of_not_lt a)]at h
  cases h
theorem Cv{u:Value}(h:u∈first m f):∃j,j<m/\u=f j:=by
 unfold first at h
 simp only[List.mem_map,List.mem_range]at h;obtain⟨j,a,rfl⟩:=h;exact⟨j,a,rfl⟩
theorem Rf:(Tryz.prog.info? 41).map (fun i=>(i.zero,i.size,i.bytes))=some (some (.int .u64 0),1,8):=AV
theorem RU:(Tryz.prog.info? 5).map (fun i=>(i.zero,i.size,i.bytes))=some (some (.int .u8 0),1,1):=AV
theorem Xf:(Tryz.prog.info? 167).map (fun i=>(i.zero,i.size,i.bytes))=some (some (.agg #[Vi 0,.int .u64 0]),2,16):=AV
theorem Sy:(Tryz.prog.info? 43).map (fun i=>(i.zero,i.size,i.bytes))=some (some (.agg #[.int .u64 0,.bool false,.slice none 0 0]),3,40):=AV
theorem DJ{P:Program}{R:Array Oper}{o:Oper}{a:Act}{K:Act->World->Prop}{Q:Exit->Act->World->Prop}{E:Prop}
 (Z:o.guard=none)(s x:Operand)(t:TypeId)(C:o.op=Op.call {callee:=Callee.builtin Builtin.append,args:=#[s,x],argTypes:=#[t,t]})(k:Nat)
 (e:TypeId)(i:TypeInfo)(z:Value)(b h:Nat)(I:P.underlying t=some (.slice e))(J:P.info? e=some i)(L:i.zero=some z)(M:i.size=b)(N:i.bytes=h)(O:z.cells.size=b)(S:0<b)
 (v:Value)(n:Nat)(l:List Value)(hs:a.eval s=v)(p:w.ownsRow k e b v n l)
 (A:Addr)(m c:Nat)(d:List Value)(hx:a.eval x=.slice (some A) m c)(hn:d.length=m*b)(Y:∀j u,d[j]?=some u->w.cell? (A.add j)=some u)(B:∀u∈d,u.oneCell'=true)
 (D:n+m<=maxLen)(F:(n+m)*h<=140737488355328)(X:k<=w.heap.size)
 (U:∀y r,r.ownsRow k e b y (n+m) (l++d)->w.grownBy r v.ownBlock->K (a.put o.dst y) r):
 if Region.wanted o (yielded R a.tmps)=true then Oper.wp P o a w K Q else E:=by
 have hw:Region.wanted o (yielded R a.tmps)=true:=by simp[Region.wanted,Z]
 rw[if_pos hw];obtain⟨y,r,q,r1,r2,_⟩:=run_append_own (P:=P) w k t o.type e i z b h I J L M N O S v n l p A m c d hn Y B D F X;unfold Oper.wp;simp[execOp,C,resolve,invoke,builtin,hs,hx,q,Result.andThen];exact U y r r1 r2
def zF(Z:Nat->Int)(i:Nat):Value:=Vi (Z i)
def wI(s:SV)(Z:Nat->Int):Int:=if s.k=1 then 1 else if s.k=4 then Z s.proc.toNat else 2
def Cs(L:Nat->SV)(Z:Nat->Int):Nat->Int
 |0=>0
 |k+1=>Cs L Z k+wI (L k) Z
theorem jJ{s:SV}(h:∀i,0<=Z i):0<=wI s Z:=by
 unfold wI;split
 ·omega
 ·split
  ·exact h _
  ·omega
theorem vS{s:SV}(h:∀i,Z i<=2001):wI s Z<=2001:=by
 unfold wI;split
 ·omega
 ·split
  ·exact h _
  ·omega
theorem Ej{L:Nat->SV}(h:∀i,0<=Z i){k:Nat}(b:k<=n):Cs L Z k<=Cs L Z n:=by
 induction n with
 |zero=>rw[show k=0 by omega];exact Int.le_refl _
 |succ n a=>
  by_cases e:k=n+1
  ·rw[e];exact Int.le_refl _
  ·have:=a AB
   have:=jJ (s:=L n) h;show Cs L Z k<=Cs L Z n+wI (L n) Z;omega
theorem JZ{L:Nat->SV}(h:∀i,0<=Z i)(k:Nat):0<=Cs L Z k:=Ej h (Nat.zero_le k)
def NQ(x:Int):Int:=if 2000<x then 2001 else x
theorem WH(b n A:Nat)(L:Nat->SV)(bz p X:Nat)(Z:Nat->Int)(w:World)(ln:n<=1048576)(I:Ak w b (n*11) (JW L))(J:At w bz 0 p (zF Z))(z0:∀i,0<=Z i)(z1:∀i,Z i<=2001)(hp:∀j,j<n->(L j).k=4->0<=(L j).proc/\(L j).proc<p):
 Ks 63 #[Vs b n A,Vs bz p X] w fun e w'=>e=.returned (Vi (NQ (Cs L Z n)))/\w'=w:=by
 have Q:=hxy I;have S:=hxy J;have R:=hxy hp;have z:=hxy z0;have U:=hxy z1;have lb:=I.lt;have aa:=J.lt;obtain⟨ab,d⟩:=Au (NQ (Cs L Z n));rw[d];have u:=hxy d;go_enter Tryz.func63,Tryz.ntmps63;go_wp2;go_loopw [5,6](fun nv C wr=>∃j:Nat,j<=n/\C=Vi (j:Int)/\nv=Vi (Cs L Z j)/\Cs L Z j<=4001/\wr=w)(fun _ C _=>n-(intOf C).toNat)
 case atStart=>exact⟨0,Nat.zero_le _,rfl,rfl,by simp[Cs],rfl⟩
 case round=>
  obtain⟨j,hj,rfl,rfl,h4,rfl⟩:=hrel;have p0:=JZ (L:=L) z j;have HS:Hid (Cs L Z (j+1)=Cs L Z j+wI (L j) Z):=rfl;have s:Hid (Cs L Z j<=Cs L Z n):=Ej z hj;obtain⟨x,N⟩:=Au (Cs L Z j);have a:=hxy N;rw[N]at h4 p0⊢;by_cases h:j<n
  ·have l:(j:Int)<(n:Int):=AB
   obtain⟨s0,_,_,_,_,_,_,_,_,_,D⟩:=Ij Q.out j h;by_cases m:x<=2000
   ·have Y:decide (x<=2000)=true:=by simp[m]
    by_cases r:(L j).k=1
    ·have e1:((L j).k==1)=true:=by simp[r]
     have c:Hid (wI (L j) Z=1):=(by simp[wI,r]:wI (L j) Z=1)
     go_wp2;go_roundw
     case rel=>exact⟨j+1,AB,by go_num,by rw[HS.out,a.out,c.out],by rw[HS.out,a.out,c.out];omega,by first|rfl|trivial⟩
     case measure=>simp[intOf];omega
    ·have e1:((L j).k==1)=false:=by simp[r]
     by_cases o:(L j).k=4
     ·have e4:((L j).k==4)=true:=by simp[o]
      obtain⟨q0,q1⟩:=R.out j h o;obtain⟨q,K⟩:∃y:Nat,(L j).proc=(y:Int):=⟨(L j).proc.toNat,AB⟩
      have c:Hid (wI (L j) Z=Z q):=(by simp[wI,o,K]:wI (L j) Z=Z q)
      rw[K]at D;have B:q<p:=AB;have M:(q:Int)<(p:Int):=AB;have g0:wr.cell? (Va bz q)=some (Vi (Z q)):=by have:=S.cell B;rwa [Nat.zero_add]at this
      have y0:=z.out q;have y1:=U.out q;obtain⟨y,O⟩:=Au (Z q);have E:=hxy O;rw[O]at g0 y0 y1;go_wp2;go_roundw
      case rel=>exact⟨j+1,AB,by go_num,by rw[HS.out,a.out,c.out,E.out],by rw[HS.out,a.out,c.out,E.out];omega,by first|rfl|trivial⟩
      case measure=>simp[intOf];omega
     ·have e4:((L j).k==4)=false:=by simp[o]
      have c:Hid (wI (L j) Z=2):=(by simp[wI,r,o]:wI (L j) Z=2)
      go_wp2;go_roundw
      case rel=>exact⟨j+1,AB,by go_num,by rw[HS.out,a.out,c.out],by rw[HS.out,a.out,c.out];omega,by first|rfl|trivial⟩
      case measure=>simp[intOf];omega
   ·have Y:decide (x<=2000)=false:=by simp;omega
    have F:decide (2000<x)=true:=by simp;omega
    go_wp2;go_ret;exact⟨Ae (by rw[<-u.out,NQ,if_pos (by have:=s.out;rw[a.out]at this;omega)]),rfl⟩
  ·obtain rfl:j=n:=AB
   have l:¬(j:Int)<(j:Int):=AB;by_cases m:x<=2000
   ·have F:decide (2000<x)=false:=by simp;omega
    go_wp2;go_ret;exact⟨Ae (by rw[<-u.out,NQ,a.out,if_neg AB]),rfl⟩
   ·have F:decide (2000<x)=true:=by simp;omega
    go_wp2;go_ret;exact⟨Ae (by rw[<-u.out,NQ,a.out,if_pos AB]),rfl⟩
structure PV where
 n:Nat
 L:Nat->SV
 c:Nat
def zs(Pv:Nat->PV)(np:Nat):Nat->Nat->Int
 |0=>fun _=>0
 |k+1=>fun i=>if i=np-1-k then NQ (Cs (Pv (np-1-k)).L (zs Pv np k) (Pv (np-1-k)).n)else zs Pv np k i
theorem pG{x:Int}(h:0<=x):0<=NQ x/\NQ x<=2001:=by unfold NQ;split<;>omega
theorem oO(L:Nat->SV)(p b d:Int):∀(m i l:Nat)(a:Int),l-i<=m->(DU L p b d i l a).1=0->∀j,i<=j->j<l->BZ (L j) b=true:=by
 intro m;induction m using Nat.strongRecOn with
 |ind m ih=>
 intro i l a B c j A u;have h:i<l:=AB;by_cases n:BZ (L i) b=false
 ·rw[Nb h n]at c;exact absurd c AX
 by_cases o:i+1+(L i).thn.toNat+(L i).els.toNat<=l
 rotate_left
 ·rw[IC h n o]at c;exact absurd c AX
 by_cases s:((L i).k=2∨(L i).k=3)/\d<=a
 ·rw[Jm h n o s]at c;exact absurd c AX
 by_cases x:(L i).k=4/\(L i).proc<=p
 ·rw[Na h n o s x]at c;exact absurd c AX
 rw[LM h n o s x]at c;by_cases q:(DU L p b d (i+1) (i+1+(L i).thn.toNat) (a+1)).1≠0
 ·rw[if_pos q]at c;exact absurd c q
 rw[if_neg q]at c;by_cases r:(DU L p b d (i+1+(L i).thn.toNat) (i+1+(L i).thn.toNat+(L i).els.toNat) (a+1)).1≠0
 ·rw[if_pos r]at c;exact absurd c r
 rw[if_neg r]at c;by_cases e:j=i
 ·rw[e];simpa using n
 by_cases y:j<i+1+(L i).thn.toNat
 ·exact ih (l-i-1) AB (i+1) _ (a+1) AB (by simpa using q) j AB y
 by_cases z:j<i+1+(L i).thn.toNat+(L i).els.toNat
 ·exact ih (l-i-1) AB (i+1+(L i).thn.toNat) _ (a+1) AB (by simpa using r) j AB z
 ·exact ih (l-i-1) AB _ l a AB c j AB u
theorem Rw{s:SV}{z:Int}(h:BZ s z=true)(k:s.k=4):0<=s.proc/\s.proc<z:=by
 unfold BZ at h;rw[if_neg AB,if_neg AB,if_neg AB,if_pos k]at h;have:=of_decide_eq_true h;omega
theorem FQ(h:w.ownsRow l e s v n d)(o:Below w.heap.size w j):j.ownsRow l e s v n d:=by
 refine⟨h.1,?_⟩;rcases h.2 with h|⟨g,a,b,rfl,k,c,m⟩
 ·exact .inl h
 ·have p:g<w.heap.size:=(I8.1 c).1
  exact .inr ⟨g,a,b,rfl,k,(o.block g p).trans c,m⟩
theorem Ii(h:w.ownsRow l e s v n d)(j:0<n):∃g c,v=Vs g n c:=by
 rcases h.2 with⟨_,rfl⟩|⟨g,a,b,rfl,_⟩
 ·omega
 ·exact⟨_,_,rfl⟩
theorem Vk:(Tryz.prog.info? 167).map (fun i=>(i.zero,i.size,i.bytes))=some (some (.agg #[Vi 0,.int .u64 0]),2,16):=AV
theorem KE(h:w.ownsRow l e s v (n+1) d):∃g a,v=.slice (some ⟨g,0,none⟩) (n+1) a:=by
 rcases h.2 with⟨_,c⟩|⟨g,a,_,b,_⟩
 ·omega
 ·exact⟨g,a,b⟩
theorem Vo(w:World)(o:Obj)(k:Nat)(a:k<w.heap.size):(w.alloc o).heap[k]?=w.heap[k]?:=heap_alloc_old w o a
theorem G6{j:Nat}(h:j<m):(first m f)[j]?=some (f j):=by
 unfold first;rw[List.getElem?_map,List.getElem?_range h];rfl
theorem Eh{g:Nat->Value}(h:∀i,i<m->f i=g i):first m f=first m g:=by
 unfold first;exact List.map_congr_left fun i a=>h i (List.mem_range.1 a)
theorem MP(m:Nat)(f:Nat->Value)(j:Nat)(u:Value):(first m f).set j u=first m (fun i=>if i=j then u else f i):=by
 apply List.ext_getElem?;intro i;by_cases a:i<m
 ·rw[G6 a,List.getElem?_set]
  by_cases e:j=i
  ·subst e;simp[Aw,a]
  ·rw[if_neg e,G6 a,if_neg (fun h=>e h.symm)]
 ·rw[List.getElem?_eq_none (by simp[Aw];omega),List.getElem?_eq_none (by simp[Aw];omega)]
theorem ZA(m:Nat)(f:Nat->Value):first (m+1+1) f=first m f++[f m,f (m+1)]:=by
 unfold first;rw[List.range_succ,List.range_succ];simp
theorem UI(m:Nat)(f:Nat->Value):first (m+1+1+1) f=first m f++[f m,f (m+1),f (m+1+1)]:=by
 unfold first;rw[List.range_succ,List.range_succ,List.range_succ];simp
theorem Aj{E J n':Nat}{D:Value}{b:List Value}(h:w.ownsRow l e s v n d)(o:w.ownsRow I E J D n' b)(p:e≠E):v.ownBlock=none∨v.ownBlock≠D.ownBlock:=by
 rcases h.2 with⟨rfl,_⟩|⟨g,k,m,rfl,_,r,_⟩
 ·exact .inl rfl
 ·rcases o.2 with⟨rfl,_⟩|⟨u,c,j,rfl,_,a,_⟩
  ·exact .inr (by simp[Value.ownBlock])
  ·refine .inr fun q=>?_
   simp only[Value.ownBlock,Option.some.injEq]at q;subst q;rw[r]at a;simp only[Option.some.injEq,Obj.cells.injEq]at a;exact p a.2.1
theorem Fu(h:(Vs b n Y).ownBlock=none∨(Vs b n Y).ownBlock≠v.ownBlock):some b≠v.ownBlock:=by
 rcases h with h|h
 ·simp[Value.ownBlock]at h
 ·exact h
theorem Tg(h:Below w.heap.size w j)(a:Option Nat):w.grownBy j a:=⟨h.os,h.tape,h.output,h.size,fun k b _=>h.block k b⟩
theorem Av(h:w.ownsRow l e s v n d)(a:Below w.heap.size w j):j.ownsRow l e s v n d:=
 h.kept (Tg a none) (by cases v.ownBlock<;>simp)
theorem Fv(h:w.ownsRow l e s (Vs b n Y) n (first m f)):l<=b/\n<=Y/\m=n*s/\Ak w b m f:=by
 have d:=h.1;rw[Aw]at d;have a:=h.lt b rfl;refine⟨a.1,?_,d,a.2,fun i=>h.frozenAt i,fun i o=>?_⟩
 ·rcases h.2 with⟨q,_⟩|⟨p,c,j,q,_,_,k,_⟩
  ·cases q
  ·simp only[Value.slice.injEq]at q;rw[q.2.2];exact k
 ·rw[h.cellAt i AB,G6 o]
structure MV where
 R:Nat->Int
 z:Bool
 c:Bool
 hz:Bool
 hc:Bool
 nH:Nat
 Hp:Nat->Bv
 pc:Int
 st:Int
 nO:Nat
 K:Nat->Int
 V:Nat->Int
def MV.setR(M:MV)(d:Nat)(v:Int):MV:={M with R:=fun i=>if i=d then v else M.R i}
def MV.see(M:MV)(k v:Int):MV:={M with nO:=M.nO+1,K:=fun i=>if i=M.nO then k else M.K i,V:=fun i=>if i=M.nO then v else M.V i}
def MV.flags(M:MV)(r:Int)(cy:Bool):MV:={M with z:=decide (r=0),c:=cy,hz:=true,hc:=true}
def MV.fault(M:MV):MV:={M with st:=2}
def MV.poke(M:MV)(h j:Nat)(u:Int):MV:={M with Hp:=fun i=>if i=h then{M.Hp i with dat:=fun q=>if q=j then u else(M.Hp i).dat q}else M.Hp i}
structure Pl where
 bR:Nat
 cR:Nat
 aH:Option Addr
 cH:Nat
 blk:Nat->Nat
 cap:Nat->Nat
 aO:Option Addr
 cO:Nat
def place(Hp:Nat->Bv)(blk cap:Nat->Nat)(i:Nat):Bv:={Hp i with ao:=some ⟨blk i,0,none⟩,cap:=cap i}
structure Mem(w:World)(base:Nat)(p:Pl)(M:MV):Prop where
 regs:w.ownsRow base 41 1 (Vs p.bR 8 p.cR) 8 (first 8 (EU .u64 M.R))
 heaps:w.ownsRow base 43 3 (.slice p.aH M.nH p.cH) M.nH (first (M.nH*3) (CO (place M.Hp p.blk p.cap)))
 data:∀i,i<M.nH->w.ownsRow base 5 1 (.slice (some ⟨p.blk i,0,none⟩) (M.Hp i).len (p.cap i)) (M.Hp i).len (first (M.Hp i).len (EU .u8 (M.Hp i).dat))
 obs:w.ownsRow base 167 2 (.slice p.aO M.nO p.cO) M.nO (first (M.nO*2) (Dg M.K M.V))
 ne:∀i j,i<M.nH->j<M.nH->i≠j->p.blk i≠p.blk j
theorem Mem.mono{base:Nat}{p:Pl}{M:MV}(h:Mem w base p M)(a:I<=base):Mem w I p M:=
 ⟨h.regs.mono a,h.heaps.mono a,fun i b=>(h.data i b).mono a,h.obs.mono a,h.ne⟩
theorem Mem.below{p:Pl}{M:MV}(h:Mem w l p M)(a:Below w.heap.size w j):Mem j l p M:=
 ⟨Av h.regs a,Av h.heaps a,fun i b=>Av (h.data i b) a,Av h.obs a,h.ne⟩
theorem Mem.other{p:Pl}{M:MV}(h:Mem w l p M)(k:w.ownsRow I e s (Vs b n Y) n d)(c:w.grownBy j (some b))(o:e≠41)(q:e≠43)(r:e≠5)(u:e≠167):Mem j l p M:=
 ⟨h.regs.kept c (Aj h.regs k (Ne.symm o)),h.heaps.kept c (Aj h.heaps k (Ne.symm q)),fun i m=>(h.data i m).kept c (Aj (h.data i m) k (Ne.symm r)),h.obs.kept c (Aj h.obs k (Ne.symm u)),h.ne⟩
theorem Mem.setR{p:Pl}{M:MV}(h:Mem w l p M)(d:Nat)(v:Int):Mem (w.setCell ⟨p.bR,d,none⟩ (.int .u64 v)) l p (M.setR d v):=by
 obtain⟨b,a⟩:=h.regs.stored d (.int .u64 v);refine⟨?_,h.heaps.kept a (Aj h.heaps h.regs Ad),fun i c=>(h.data i c).kept a (Aj (h.data i c) h.regs Ad),h.obs.kept a (Aj h.obs h.regs Ad),h.ne⟩;rw[MP]at b;refine(Eh fun i _=>?_)▸b;unfold EU MV.setR;by_cases e:i=d<;>simp[e]
theorem Mem.poke{p:Pl}{M:MV}(h:Mem w l p M){k:Nat}(b:k<M.nH)(j:Nat)(u:Int):Mem (w.setCell ⟨p.blk k,j,none⟩ (.int .u8 u)) l p (M.poke k j u):=by
 obtain⟨d,c⟩:=(h.data k b).stored j (.int .u8 u);refine⟨h.regs.kept c (Aj h.regs (h.data k b) Ad),?_,fun i m=>?_,h.obs.kept c (Aj h.obs (h.data k b) Ad),h.ne⟩
 ·have n:=h.heaps.kept c (Aj h.heaps (h.data k b) Ad)
  refine(Eh fun i _=>?_)▸n;unfold CO place MV.poke;by_cases e:i/3=k<;>simp[e]
 ·by_cases e:i=k
  ·subst e
   rw[MP]at d;have q:(M.poke i j u).Hp i={M.Hp i with dat:=fun q=>if q=j then u else(M.Hp i).dat q}:=by simp[MV.poke]
   rw[q];refine(Eh fun t _=>?_)▸d;unfold EU;by_cases e:t=j<;>simp[e]
  ·have q:(M.poke k j u).Hp i=M.Hp i:=by simp[MV.poke,e]
   rw[q];exact(h.data i m).kept c (.inr (by have:=h.ne i k m b e;simpa[Value.ownBlock]using this))
theorem lJ(M:MV)(k v:Int):first ((M.see k v).nO*2) (Dg (M.see k v).K (M.see k v).V)=first (M.nO*2) (Dg M.K M.V)++[Vi k,.int .u64 v]:=by
 show first ((M.nO+1)*2) _=_
 rw[show(M.nO+1)*2=M.nO*2+1+1 by omega,ZA];congr 1
 ·refine Eh fun i c=>?_
  unfold Dg MV.see;have:i/2≠M.nO:=AB;simp[this]
 ·have a:=Zh (M.see k v).K (M.see k v).V M.nO
  have b:=M4 (M.see k v).K (M.see k v).V M.nO;simp only[Nat.add_zero]at a;rw[a,b];simp[MV.see]
theorem Mem.see{N:World}{p:Pl}{M:MV}{k v:Int}{g:Nat}(h:Mem w l p M)(c:N.ownsRow l 167 2 (Vs g (M.nO+1) Y) (M.nO+1) (first (M.nO*2) (Dg M.K M.V)++[Vi k,.int .u64 v]))(a:w.grownBy N (Value.slice p.aO M.nO p.cO).ownBlock):Mem N l {p with aO:=some ⟨g,0,none⟩,cO:=Y} (M.see k v):=
 ⟨h.regs.kept a (Aj h.regs h.obs Ad),h.heaps.kept a (Aj h.heaps h.obs Ad),fun i b=>(h.data i b).kept a (Aj (h.data i b) h.obs Ad),by rw[lJ];exact c,h.ne⟩
def Ih(x y c:Int):Int:=(x+y+c)%18446744073709551616
def carry(x y c:Int):Int:=(x+y+c)/18446744073709551616
def Ep(x y:Int):Int:=(x-y)%18446744073709551616
def borrow(x y:Int):Int:=if x<y then 1 else 0
def lies(base address width:Int)(len:Nat):Bool:=decide (base<=address)&&decide (width<=len)&&decide (address-base<=len-width)
theorem Dp{B:Nat}{W X:World}(h:Below B W X){p:Addr}(_hp:p.block<B)(v:Value):Below B (W.setCell p v) (X.setCell p v):=by
 refine⟨h.os,h.tape,h.output,by simpa using h.size,fun k a=>?_⟩;by_cases e:k=p.block
 ·subst e
  have b:=h.block p.block a;unfold World.setCell;simp only[Array.getElem?_modify,b]
 ·rw[heap_setCell_other _ _ _ _ e,heap_setCell_other _ _ _ _ e]
  exact h.block k a
end Go.Proofs.YtcjnmdgomocpgaaGreatDoor
