import Derived.Test.YtkckomianknjdaaGreatOfCoreF
import Derived.Test.YtkckomianknjdaaGreatRows
import Derived.WalkKit
import Derived.WalkSpells
import Derived.WalkLawsBesides
import Derived.Test.YtkckomianknjdaaGreatOfTableParts
import Derived.Below
import Derived.OneCell
import Derived.Deep.Onto
import Derived.BigRegion
import Derived.Laws.Externs
import Derived.Deep.QuietTactic
import Derived.BigQuiet
import Derived.Recover
import Derived.Deep.RegionHeld
import Derived.Defers
set_option maxHeartbeats 800000
set_option maxRecDepth 100000
namespace Go.Proofs.YtkckomianknjdaaGreat
open Go.RowKit
variable {d:List Value}{D Y b e l m n s:Nat}{f:Nat->Value}{v:Value}{j w:World}
theorem Rz:(Tryz.prog.info? 109).map (fun i=>(i.zero,i.size,i.bytes))=some (some (.agg #[Vi 0,.int .u64 0]),2,16):=Ab
theorem Ht(h:w.ownsRow l e s v (n+1) d):∃g a,v=.slice (some ⟨g,0,none⟩) (n+1) a:=by
 rcases h.2 with⟨_,c⟩|⟨g,a,_,b,_⟩
 ·omega
 ·exact⟨g,a,b⟩
theorem Ez(w:World)(o:Obj)(k:Nat)(a:k<w.heap.size):(w.alloc o).heap[k]?=w.heap[k]?:=heap_alloc_old w o a
theorem IJ(b h n:Nat)(q:Value)(I:List Value)(d p:Int)(w:World)(S:n<=1048576)(y:b<=w.heap.size)(D:h<w.heap.size)(l:some h≠q.ownBlock)
 (K:w.cell? (Va h 8)=some q)(M:w.frozen? (Va h 8)=false)(r:w.ownsRow b 109 2 q n I):
 Calls Tryz.prog 126 #[Vq h,Vi d,.int .u64 p] w fun e R=>∃C m,e=.returned (.tuple #[])/\
  m.ownsRow b 109 2 C (n+1) (I++[Vi d,.int .u64 p])/\w.grownBy m q.ownBlock/\R=m.setCell (Va h 8) C:=by
 obtain⟨Q,N,z,A,B⟩:=info_parts Rz;have J:=hxy r;go_enter Tryz.func126,Tryz.ntmps126;go_wp2_with(first|(at_builtin;refine wpList_append_own _ rfl _ _ 26 rfl b 109 Q (.agg #[Vi 0,.int .u64 0]) 2 16 Tryz.underlying26 N z A B rfl Aa _ _ _ rfl (J.alloc _) ⟨w.heap.size,0,none⟩ 1 1 [Vi d,.int .u64 p] rfl rfl ?c1 ?c2 ?c3 ?c4 ?c5 ?_)|go_in)
 case c1=>
  intro j u o;match j,o with
  |0,o=>simp at o;subst o;simp[Addr.add,go_sem]
  |1,o=>simp at o;subst o;simp[Addr.add,go_sem]
 case c2=>
  intro u E;simp at E;rcases E with rfl|rfl<;>rfl
 case c3=>unfold maxLen;omega
 case c4=>omega
 case c5=>simp;omega
 ·intro C m c a _
  obtain⟨g,L,F⟩:=Ht c;have s:Hid (w.grownBy m q.ownBlock):=⟨a.os,a.tape,a.output,Nat.le_trans AY a.size,fun k O l=>(a.block k (by simp;omega) l).trans (Ez w _ k O)⟩
  have U:m.cell? (Va h 8)=some q:=(World.cell?_of_block (s.block h D l)).trans K;have X:m.frozen? (Va h 8)=false:=(World.frozen?_of_block (s.block h D l)).trans M;have x:=hxy c;rw[F];go_wp2;go_end0;exact⟨_,m,rfl,by rw[<-F];exact x,s,rfl⟩
theorem DF{j:Nat}(h:j<m):(first m f)[j]?=some (f j):=by
 unfold first;rw[List.getElem?_map,List.getElem?_range h];rfl
theorem EU{g:Nat->Value}(h:∀i,i<m->f i=g i):first m f=first m g:=by
 unfold first;exact List.map_congr_left fun i a=>h i (List.mem_range.1 a)
theorem Ko(m:Nat)(f:Nat->Value)(j:Nat)(u:Value):(first m f).set j u=first m (fun i=>if i=j then u else f i):=by
 apply List.ext_getElem?;intro i;by_cases a:i<m
 ·rw[DF a,List.getElem?_set]
  by_cases e:j=i
  ·subst e;simp[CJ,a]
  ·rw[if_neg e,DF a,if_neg (fun h=>e h.symm)]
 ·rw[List.getElem?_eq_none (by simp[CJ];omega),List.getElem?_eq_none (by simp[CJ];omega)]
theorem VG(m:Nat)(f:Nat->Value):first (m+1+1) f=first m f++[f m,f (m+1)]:=by
 unfold first;rw[List.range_succ,List.range_succ];simp
theorem SK(m:Nat)(f:Nat->Value):first (m+1+1+1) f=first m f++[f m,f (m+1),f (m+1+1)]:=by
 unfold first;rw[List.range_succ,List.range_succ,List.range_succ];simp
theorem Ae{base' S C:Nat}{I:Value}{k:List Value}(h:w.ownsRow l e s v n d)(o:w.ownsRow base' D S I C k)(p:e≠D):v.ownBlock=none∨v.ownBlock≠I.ownBlock:=by
 rcases h.2 with⟨rfl,_⟩|⟨g,j,m,rfl,_,r,_⟩
 ·exact .inl rfl
 ·rcases o.2 with⟨rfl,_⟩|⟨u,b,c,rfl,_,a,_⟩
  ·exact .inr (by simp[Value.ownBlock])
  ·refine .inr fun q=>?_
   simp only[Value.ownBlock,Option.some.injEq]at q;subst q;rw[r]at a;simp only[Option.some.injEq,Obj.cells.injEq]at a;exact p a.2.1
theorem CU(h:(Vs b n Y).ownBlock=none∨(Vs b n Y).ownBlock≠v.ownBlock):some b≠v.ownBlock:=by
 rcases h with h|h
 ·simp[Value.ownBlock]at h
 ·exact h
theorem Q0(h:Below w.heap.size w j)(a:Option Nat):w.grownBy j a:=⟨h.os,h.tape,h.output,h.size,fun k b _=>h.block k b⟩
theorem Am(h:w.ownsRow l e s v n d)(a:Below w.heap.size w j):j.ownsRow l e s v n d:=
 h.kept (Q0 a none) (by cases v.ownBlock<;>simp)
theorem ET(h:w.ownsRow l e s (Vs b n Y) n (first m f)):l<=b/\n<=Y/\m=n*s/\BZ w b m f:=by
 have d:=h.1;rw[CJ]at d;have a:=h.lt b rfl;refine⟨a.1,?_,d,a.2,fun i=>h.frozenAt i,fun i o=>?_⟩
 ·rcases h.2 with⟨q,_⟩|⟨p,c,j,q,_,_,k,_⟩
  ·cases q
  ·simp only[Value.slice.injEq]at q;rw[q.2.2];exact k
 ·rw[h.cellAt i AB,DF o]
structure MV where
 R:Nat->Int
 z:Bool
 c:Bool
 hz:Bool
 hc:Bool
 nH:Nat
 Hp:Nat->Bj
 pc:Int
 st:Int
 nO:Nat
 K:Nat->Int
 V:Nat->Int
def MV.setR(M:MV)(d:Nat)(v:Int):MV:={M with R:=fun i=>if i=d then v else M.R i}
def MV.see(M:MV)(k v:Int):MV:={M with nO:=M.nO+1,K:=fun i=>if i=M.nO then k else M.K i,V:=fun i=>if i=M.nO then v else M.V i}
def MV.flags(M:MV)(r:Int)(cy:Bool):MV:={M with z:=decide (r=0),c:=cy,hz:=true,hc:=true}
def MV.fault(M:MV):MV:={M with st:=2}
def MV.poke(M:MV)(h j:Nat)(u:Int):MV:={M with Hp:=fun i=>if i=h then{M.Hp i with dat:=fun q=>if q=j then u else(M.Hp i).dat q}else M.Hp i}
structure Pl where
 bR:Nat
 cR:Nat
 aH:Option Addr
 cH:Nat
 blk:Nat->Nat
 cap:Nat->Nat
 aO:Option Addr
 cO:Nat
def place(Hp:Nat->Bj)(blk cap:Nat->Nat)(i:Nat):Bj:={Hp i with ao:=some ⟨blk i,0,none⟩,cap:=cap i}
structure Mem(w:World)(base:Nat)(p:Pl)(M:MV):Prop where
 regs:w.ownsRow base 74 1 (Vs p.bR 8 p.cR) 8 (first 8 (EH .u64 M.R))
 heaps:w.ownsRow base 76 3 (.slice p.aH M.nH p.cH) M.nH (first (M.nH*3) (CO (place M.Hp p.blk p.cap)))
 data:∀i,i<M.nH->w.ownsRow base 5 1 (.slice (some ⟨p.blk i,0,none⟩) (M.Hp i).len (p.cap i)) (M.Hp i).len (first (M.Hp i).len (EH .u8 (M.Hp i).dat))
 obs:w.ownsRow base 109 2 (.slice p.aO M.nO p.cO) M.nO (first (M.nO*2) (CR M.K M.V))
 ne:∀i j,i<M.nH->j<M.nH->i≠j->p.blk i≠p.blk j
theorem Mem.mono{base:Nat}{p:Pl}{M:MV}(h:Mem w base p M)(a:D<=base):Mem w D p M:=
 ⟨h.regs.mono a,h.heaps.mono a,fun i b=>(h.data i b).mono a,h.obs.mono a,h.ne⟩
theorem Mem.below{p:Pl}{M:MV}(h:Mem w l p M)(a:Below w.heap.size w j):Mem j l p M:=
 ⟨Am h.regs a,Am h.heaps a,fun i b=>Am (h.data i b) a,Am h.obs a,h.ne⟩
theorem Mem.other{p:Pl}{M:MV}(h:Mem w l p M)(k:w.ownsRow D e s (Vs b n Y) n d)(c:w.grownBy j (some b))(o:e≠74)(q:e≠76)(r:e≠5)(u:e≠109):Mem j l p M:=
 ⟨h.regs.kept c (Ae h.regs k (Ne.symm o)),h.heaps.kept c (Ae h.heaps k (Ne.symm q)),fun i m=>(h.data i m).kept c (Ae (h.data i m) k (Ne.symm r)),h.obs.kept c (Ae h.obs k (Ne.symm u)),h.ne⟩
theorem Mem.setR{p:Pl}{M:MV}(h:Mem w l p M)(d:Nat)(v:Int):Mem (w.setCell ⟨p.bR,d,none⟩ (.int .u64 v)) l p (M.setR d v):=by
 obtain⟨b,a⟩:=h.regs.stored d (.int .u64 v);refine⟨?_,h.heaps.kept a (Ae h.heaps h.regs Aa),fun i c=>(h.data i c).kept a (Ae (h.data i c) h.regs Aa),h.obs.kept a (Ae h.obs h.regs Aa),h.ne⟩;rw[Ko]at b;refine(EU fun i _=>?_)▸b;unfold EH MV.setR;by_cases e:i=d<;>simp[e]
theorem Mem.poke{p:Pl}{M:MV}(h:Mem w l p M){k:Nat}(b:k<M.nH)(j:Nat)(u:Int):Mem (w.setCell ⟨p.blk k,j,none⟩ (.int .u8 u)) l p (M.poke k j u):=by
 obtain⟨d,c⟩:=(h.data k b).stored j (.int .u8 u);refine⟨h.regs.kept c (Ae h.regs (h.data k b) Aa),?_,fun i m=>?_,h.obs.kept c (Ae h.obs (h.data k b) Aa),h.ne⟩
 ·have n:=h.heaps.kept c (Ae h.heaps (h.data k b) Aa)
  refine(EU fun i _=>?_)▸n;unfold CO place MV.poke;by_cases e:i/3=k<;>simp[e]
 ·by_cases e:i=k
  ·subst e
   rw[Ko]at d;have q:(M.poke i j u).Hp i={M.Hp i with dat:=fun q=>if q=j then u else(M.Hp i).dat q}:=by simp[MV.poke]
   rw[q];refine(EU fun t _=>?_)▸d;unfold EH;by_cases e:t=j<;>simp[e]
  ·have q:(M.poke k j u).Hp i=M.Hp i:=by simp[MV.poke,e]
   rw[q];exact(h.data i m).kept c (.inr (by have:=h.ne i k m b e;simpa[Value.ownBlock]using this))
theorem YN(M:MV)(k v:Int):first ((M.see k v).nO*2) (CR (M.see k v).K (M.see k v).V)=first (M.nO*2) (CR M.K M.V)++[Vi k,.int .u64 v]:=by
 show first ((M.nO+1)*2) _=_
 rw[show(M.nO+1)*2=M.nO*2+1+1 by omega,VG];congr 1
 ·refine EU fun i c=>?_
  unfold CR MV.see;have:i/2≠M.nO:=AB;simp[this]
 ·have a:=Ml (M.see k v).K (M.see k v).V M.nO
  have b:=QX (M.see k v).K (M.see k v).V M.nO;simp only[Nat.add_zero]at a;rw[a,b];simp[MV.see]
theorem Mem.see{w1:World}{p:Pl}{M:MV}{k v:Int}{g:Nat}(h:Mem w l p M)(c:w1.ownsRow l 109 2 (Vs g (M.nO+1) Y) (M.nO+1) (first (M.nO*2) (CR M.K M.V)++[Vi k,.int .u64 v]))(a:w.grownBy w1 (Value.slice p.aO M.nO p.cO).ownBlock):Mem w1 l {p with aO:=some ⟨g,0,none⟩,cO:=Y} (M.see k v):=
 ⟨h.regs.kept a (Ae h.regs h.obs Aa),h.heaps.kept a (Ae h.heaps h.obs Aa),fun i b=>(h.data i b).kept a (Ae (h.data i b) h.obs Aa),by rw[YN];exact c,h.ne⟩
def EP(x y c:Int):Int:=(x+y+c)%18446744073709551616
def carry(x y c:Int):Int:=(x+y+c)/18446744073709551616
def EK(x y:Int):Int:=(x-y)%18446744073709551616
def borrow(x y:Int):Int:=if x<y then 1 else 0
theorem VR(x y c:Int)(d:0<=x)(h:0<=y)(a:0<=c)(b:c<=1)(w:World):(callFunc 148 #[.int .u64 x,.int .u64 y,.int .u64 c]).run Tryz.prog w=
 .ok (.value (.tuple #[.int .u64 (EP x y c),.int .u64 (carry x y c)])) w:=by
 rw[run_callFunc_extern Tryz.func148 Ab Ab Ab (e:=add64Entry) Ab,run_add64 x y c d h a b w];rfl
theorem VS(x y:Nat)(w:World):((Extern.MathBitsCarry.rows[1]'Aa).2 #[.int .u64 (x:Int),.int .u64 (y:Int),.int .u64 0]).run Tryz.prog w=
 .ok (Extern.MathBitsCarry.pair ((x+Extern.MathBitsCarry.m64-y-0)%Extern.MathBitsCarry.m64) (if x<y+0 then 1 else 0)) w:=rfl
theorem U7(x y:Int)(c:0<=x)(d:0<=y)(j:y<=18446744073709551615)(w:World):(callFunc 150 #[.int .u64 x,.int .u64 y,.int .u64 0]).run Tryz.prog w=
 .ok (.value (.tuple #[.int .u64 (EK x y),.int .u64 (borrow x y)])) w:=by
 obtain⟨X,rfl⟩:=Int.eq_ofNat_of_zero_le c;obtain⟨Y,rfl⟩:=Int.eq_ofNat_of_zero_le d;rw[run_callFunc_extern Tryz.func150 Ab Ab Ab (e:=(Extern.MathBitsCarry.rows[1]'Aa).2) Ab,VS];have a:(Int.ofNat ((X+Extern.MathBitsCarry.m64-Y-0)%Extern.MathBitsCarry.m64))=((X:Int)-(Y:Int))%18446744073709551616:=by
  simp only[Extern.MathBitsCarry.m64];have:(2:Nat)^64=18446744073709551616:=Aa;rw[this];simp only[Int.ofNat_eq_natCast];omega
 have b:(Int.ofNat (if X<Y+0 then 1 else 0))=(if(X:Int)<(Y:Int)then 1 else 0):=by
  by_cases h:X<Y
  ·rw[if_pos AB,if_pos AB];rfl
  ·rw[if_neg AB,if_neg AB];rfl
 simp only[Extern.MathBitsCarry.pair,Result.andThen,a,b,EK,borrow]
theorem LH(f:Bool)(w:World):
 Calls Tryz.prog 132 #[.bool f,.bool true] w fun e a=>e=.returned (.bool f)/\a=w:=by
 go_enter Tryz.func132,Tryz.ntmps132;go_wp2;go_ret;exact⟨rfl,rfl⟩
theorem MH(f:Bool)(w:World):
 Calls Tryz.prog 132 #[.bool f,.bool false] w fun e a=>e=.panicked [{v:=.iface 138 (.agg #[]),recovered:=false}]/\a=w:=by
 go_enter Tryz.func132,Tryz.ntmps132;go_wp2;exact⟨rfl,rfl,rfl⟩
theorem KH(a:Nat)(r k:Int)(z c d b:Bool)(w:World)(j:w.cell? (Va a 1)=some (.bool z))(l:w.cell? (Va a 2)=some (.bool c))(m:w.cell? (Va a 3)=some (.bool d))(n:w.cell? (Va a 4)=some (.bool b))
 (o:∀i,w.frozen? (Va a i)=false):
 Calls Tryz.prog 149 #[Vq a,.int .u64 r,.int .u64 k] w fun e h=>e=.returned (.tuple #[])/\
  h=(((w.setCell (Va a 1) (.bool (r==0))).setCell (Va a 3) (.bool true)).setCell (Va a 2) (.bool (k !=0))).setCell (Va a 4) (.bool true):=by
 go_enter Tryz.func149,Tryz.ntmps149;go_wp2;go_end0;exact⟨rfl,rfl⟩
def flagged(w:World)(bC:Nat)(r k:Int):World:=
 (((w.setCell (Va bC 1) (.bool (r==0))).setCell (Va bC 3) (.bool true)).setCell (Va bC 2) (.bool (k !=0))).setCell (Va bC 4) (.bool true)
theorem I6(d:Nat)(a b:Int)(z c r n:Bool)(w:World)(u:0<=a)(x:0<=b)(h:b<=18446744073709551615)(j:w.cell? (Va d 1)=some (.bool z))(k:w.cell? (Va d 2)=some (.bool c))(l:w.cell? (Va d 3)=some (.bool r))(m:w.cell? (Va d 4)=some (.bool n))
 (o:∀i,w.frozen? (Va d i)=false):
 Calls Tryz.prog 130 #[Vq d,.int .u64 a,.int .u64 b] w fun e y=>e=.returned (.int .u64 (EK a b))/\y=flagged w d (EK a b) (borrow a b):=by
 have p:=fun w=>U7 a b u x h w
 have C:=KH d (EK a b) (borrow a b) z c r n w j k l m o;clear j k l m o;go_enter Tryz.func130,Tryz.ntmps130;go_wp2_with fail;refine Calls.mono C ?_;rintro e A⟨rfl,q⟩;have s:=hxy q;clear q;go_wp2;go_ret;exact⟨rfl,s⟩
theorem Sl(a:Nat)(f:Bool)(w:World)(c:w.cell? (Va a 1)=some (.bool f))(d:w.cell? (Va a 3)=some (.bool true)):
 Calls Tryz.prog 104 #[Vq a] w fun e b=>e=.returned (.bool f)/\Below w.heap.size w b:=by
 go_enter Tryz.func104,Tryz.ntmps104;go_wp2_with fail;go_quiet((go_at_call 132;exact Calls.quiet_of_same (LH _ _)));go_wp2;go_ret;exact⟨rfl,below_drewN Al _⟩
theorem Kj(a:Nat)(f:Bool)(w:World)(c:w.cell? (Va a 2)=some (.bool f))(d:w.cell? (Va a 4)=some (.bool true)):
 Calls Tryz.prog 105 #[Vq a] w fun e b=>e=.returned (.bool f)/\Below w.heap.size w b:=by
 go_enter Tryz.func105,Tryz.ntmps105;go_wp2_with fail;go_quiet((go_at_call 132;exact Calls.quiet_of_same (LH _ _)));go_wp2;go_ret;exact⟨rfl,below_drewN Al _⟩
theorem Us(a:Nat)(f:Bool)(w:World)(c:a<w.heap.size)(d:w.cell? (Va a 1)=some (.bool f))(j:w.cell? (Va a 3)=some (.bool false)):
 Calls Tryz.prog 104 #[Vq a] w fun e b=>e=.panicked [{v:=.iface 138 (.agg #[]),recovered:=false}]/\Below w.heap.size w b:=by
 have k:Cb w a 1 (.bool f):=fun b h=>(h.cell (p:=Va a 1) c).trans d
 have l:Cb w a 3 (.bool false):=fun b h=>(h.cell (p:=Va a 3) c).trans j
 go_enter Tryz.func104,Tryz.ntmps104;go_wp2_with fail;refine Ak (T:=fun b=>Bw w b) (s:=11) Ab (Al.drew) (fun hHeld=>?_);refine lS [0,1,2,3,4,5,6,7,8,9] ?_;refine Ac (i:=10) rfl Ab (fun K m=>?_);go_simp;refine(MH _ _).mono ?_;rintro e b⟨rfl,rfl⟩;exact⟨rfl,rfl,Al.drew⟩
theorem Nk(a:Nat)(f:Bool)(w:World)(c:a<w.heap.size)(d:w.cell? (Va a 2)=some (.bool f))(j:w.cell? (Va a 4)=some (.bool false)):
 Calls Tryz.prog 105 #[Vq a] w fun e b=>e=.panicked [{v:=.iface 138 (.agg #[]),recovered:=false}]/\Below w.heap.size w b:=by
 have k:Cb w a 2 (.bool f):=fun b h=>(h.cell (p:=Va a 2) c).trans d
 have l:Cb w a 4 (.bool false):=fun b h=>(h.cell (p:=Va a 4) c).trans j
 go_enter Tryz.func105,Tryz.ntmps105;go_wp2_with fail;refine Ak (T:=fun b=>Bw w b) (s:=11) Ab (Al.drew) (fun hHeld=>?_);refine lS [0,1,2,3,4,5,6,7,8,9] ?_;refine Ac (i:=10) rfl Ab (fun K m=>?_);go_simp;refine(MH _ _).mono ?_;rintro e b⟨rfl,rfl⟩;exact⟨rfl,rfl,Al.drew⟩
theorem BI{B:Nat}{W X:World}(h:Below B W X){p:Addr}(_hp:p.block<B)(v:Value):Below B (W.setCell p v) (X.setCell p v):=by
 refine⟨h.os,h.tape,h.output,by simpa using h.size,fun k a=>?_⟩;by_cases e:k=p.block
 ·subst e
  have b:=h.block p.block a;unfold World.setCell;simp only[Array.getElem?_modify,b]
 ·rw[heap_setCell_other _ _ _ _ e,heap_setCell_other _ _ _ _ e]
  exact h.block k a
theorem Ce{B:Nat}{W X:World}{J:Nat}{r k:Int}(a:J<B)(h:Below B W X):Below B (flagged W J r k) (flagged X J r k):=
 BI (BI (BI (BI h a _) a _) a _) a _
theorem Il(h j q d a b:Nat)(I o C k:Int)(R:Nat->Int)(z c F A:Bool)(w:World)(hd:d<8)(ha:a<8)(hb:b<8)(n:h<w.heap.size)(hR:j<w.heap.size)(l:h≠j)(Q:0<=k)(S:k<=1)(U:0<=R a)(X:0<=R b)
 (L:w.cell? (Va h 0)=some (Vs j 8 q))(Y:w.cell? (Va j a)=some (.int .u64 (R a)))(Z:w.cell? (Va j b)=some (.int .u64 (R b)))(rd:w.cell? (Va j d)=some (.int .u64 (R d)))(r:w.frozen? (Va j d)=false)(s:w.cell? (Va h 1)=some (.bool z))(u:w.cell? (Va h 2)=some (.bool c))(x:w.cell? (Va h 3)=some (.bool F))(y:w.cell? (Va h 4)=some (.bool A))(B:∀i,w.frozen? (Va h i)=false):
 Calls Tryz.prog 129 #[Vq h,.agg #[Vi I,Vi d,Vi a,Vi b,Vi o,Vi C],.int .u64 k] w fun e w'=>e=.returned (.tuple #[])/\Below w.heap.size (flagged (w.setCell (Va j d) (.int .u64 (EP (R a) (R b) k))) h (EP (R a) (R b) k) (carry (R a) (R b) k)) w':=by
 have O:(d:Int)<8:=AB;have M:(a:Int)<8:=AB;have N:(b:Int)<8:=AB;have D:=fun w=>VR (R a) (R b) k U X Q S w
 go_enter Tryz.func129,Tryz.ntmps129;go_wp2;go_region;go_wp2_with fail;go_region;go_wp2_with fail;have m:Below w.heap.size (w.setCell (Va j d) (.int .u64 (EP (R a) (R b) k))) ((w.setCell (Va j d) (.int .u64 (EP (R a) (R b) k))).alloc (.cells #[Vi I,Vi d,Vi a,Vi b,Vi o,Vi C] 85)).drew.drew:=((Al.alloc AY _).drew).drew;have K:Hid _:=m;refine(KH h (EP (R a) (R b) k) (carry (R a) (R b) k) z c F A _ ?g1 ?g2 ?g3 ?g4 ?g5).mono ?_
 case g1=>exact(m.cell (p:=Va h 1) n).trans ((World.cell?_setCell_far _ _ _ _ (Ne.symm l)).trans s)
 case g2=>exact(m.cell (p:=Va h 2) n).trans ((World.cell?_setCell_far _ _ _ _ (Ne.symm l)).trans u)
 case g3=>exact(m.cell (p:=Va h 3) n).trans ((World.cell?_setCell_far _ _ _ _ (Ne.symm l)).trans x)
 case g4=>exact(m.cell (p:=Va h 4) n).trans ((World.cell?_setCell_far _ _ _ _ (Ne.symm l)).trans y)
 case g5=>exact fun i=>(m.frozen (p:=Va h i) n).trans ((World.frozen?_setCell _ _ _ _).trans (B i))
 rintro e w1⟨rfl,E⟩;have J:Hid _:=E;clear E m L Y Z rd r s u x y B;go_wp2;go_end0;refine⟨rfl,?_⟩;rw[J.out];exact Ce n K
theorem VF(h c j d a:Nat)(o b k n:Int)(R:Nat->Int)(w:World)(x:d<8)(u:a<8)(r:h<w.heap.size)(s:c<w.heap.size)
 (q:w.cell? (Va h 0)=some (Vs c 8 j))(z:w.cell? (Va c a)=some (.int .u64 (R a)))(A:w.cell? (Va c d)=some (.int .u64 (R d)))(y:w.frozen? (Va c d)=false):
 Calls Tryz.prog 85 #[Vq h,.agg #[Vi o,Vi d,Vi a,Vi b,Vi k,Vi n]] w fun e p=>e=.returned (.tuple #[])/\Below w.heap.size (w.setCell (Va c d) (.int .u64 (R a))) p:=by
 have m:(d:Int)<8:=AB;have l:(a:Int)<8:=AB;go_enter Tryz.func85,Tryz.ntmps85;go_wp2;go_region;all_goals(go_end0;exact⟨rfl,(Al.alloc AY _).drew⟩)
theorem UQ(j c k d:Nat)(n a b h m:Int)(R:Nat->Int)(w:World)(s:d<8)(q:j<w.heap.size)(r:c<w.heap.size)
 (p:w.cell? (Va j 0)=some (Vs c 8 k))(x:w.cell? (Va c d)=some (.int .u64 (R d)))(u:w.frozen? (Va c d)=false):
 Calls Tryz.prog 86 #[Vq j,.agg #[Vi n,Vi d,Vi a,Vi b,Vi h,Vi m]] w fun e o=>e=.returned (.tuple #[])/\Below w.heap.size (w.setCell (Va c d) (.int .u64 (IntKind.u64.wrap h))) o:=by
 have l:(d:Int)<8:=AB;go_enter Tryz.func86,Tryz.ntmps86;go_wp2;go_region;all_goals(go_end0;exact⟨rfl,(Al.alloc AY _).drew⟩)
theorem VD(c:Nat)(l d a b h j k:Int)(w:World)(o:c<w.heap.size)(n:w.cell? (Va c 9)=some (Vi k))(p:w.frozen? (Va c 9)=false):
 Calls Tryz.prog 110 #[Vq c,.agg #[Vi l,Vi d,Vi a,Vi b,Vi h,Vi j]] w fun e m=>e=.returned (.tuple #[])/\Below w.heap.size (w.setCell (Va c 9) (Vi h)) m:=by
 go_enter Tryz.func110,Tryz.ntmps110;go_wp2;go_end0;exact⟨rfl,Al.alloc AY _⟩
theorem TY(c:Nat)(n d a b h l m j o:Int)(w:World)(u:c<w.heap.size)(q:w.cell? (Va c 6)=some (Vi j))(r:w.cell? (Va c 7)=some (Vi o))(s:w.cell? (Va c 9)=some (Vi m))(k:w.frozen? (Va c 7)=false)(x:w.frozen? (Va c 9)=false):
 Calls Tryz.prog 112 #[Vq c,.agg #[Vi n,Vi d,Vi a,Vi b,Vi h,Vi l]] w fun e p=>e=.returned (.tuple #[])/\Below w.heap.size ((w.setCell (Va c 7) (Vi 1)).setCell (Va c 9) (Vi j)) p:=by
 go_enter Tryz.func112,Tryz.ntmps112;go_wp2;go_end0;exact⟨rfl,Al.alloc AY _⟩
theorem Tw(a:Nat)(w:World):
 CallsD Tryz.prog 64 #[Vq a] .returning w fun e d h=>e=.returned (.tuple #[])/\d=.returning/\h=w:=by
 refine callsD_of_wpS Tryz.func64 rfl fun b j c=>?_
 apply wpS_seq;apply wpS_region;simp[wpOpsS,go_sem,recoverD,c,Tryz.ntmps64,Exit.thenS];refine wpS_of_wp ?_;change Code.wp _ _ _ {tmps:=#[Vq a,.nilIface,undef,undef,.nilIface,undef,undef,undef,undef,undef,undef,undef,undef,undef,undef,undef,undef,undef,undef],defers:=[]} w;go_wp2;cases b;simp_all[bodyPostS,results,Tryz.results64]
theorem LV(c b:Nat)(j:Int)(a:List PanicEntry)(w:World)(r:c<w.heap.size)(q:b<w.heap.size)(n:w.cell? (Va c 0)=some (Vq b))(m:w.cell? (Va b 7)=some (Vi j))(s:w.frozen? (Va b 7)=false):
 CallsD Tryz.prog 64 #[Vq c] (.panicking ({v:=.iface 138 (.agg #[]),recovered:=false}::a)) w fun e k l=>
  e=.returned (.tuple #[])/\k=.panicking ({v:=.iface 138 (.agg #[]),recovered:=true}::a)/\l=(w.setCell (Va b 7) (Vi 2)).alloc (.cells #[] 138):=by
 have d:∀w:World,(Instr.typeAssert (.iface 138 (.agg #[])) 20 138 true).run Tryz.prog w=.ok (.tuple #[.agg #[],.bool true]) w:=fun _=>by kernel_rfl
 refine callsD_of_wpS Tryz.func64 rfl fun p o h=>?_
 apply wpS_seq;apply wpS_region;simp[wpOpsS,go_sem,recoverD,h,Tryz.ntmps64,Exit.thenS];refine wpS_of_wp ?_;change Code.wp _ _ _ {tmps:=#[Vq c,.iface 138 (.agg #[]),undef,undef,.iface 138 (.agg #[]),undef,undef,undef,undef,undef,undef,undef,undef,undef,undef,undef,undef,undef,undef],defers:=[]} w;go_wp2;simp[bodyPostS,results,Tryz.results64]
end Go.Proofs.YtkckomianknjdaaGreat
