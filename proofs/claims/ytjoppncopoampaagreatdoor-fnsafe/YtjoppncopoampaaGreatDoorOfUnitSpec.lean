import Derived.Test.YtjoppncopoampaaGreatDoorOfCoreReg
import Derived.Test.YtjoppncopoampaaGreatDoorRows
import Derived.WalkKit
import Derived.WalkSpells
import Derived.WalkLawsBesides
import Derived.Below
import Derived.OneCell
import Derived.Deep.Onto
import Derived.BigRegion
import Derived.Laws.Externs
import Derived.Deep.QuietTactic
import Derived.BigQuiet
import Derived.Recover
import Derived.Deep.RegionHeld
import Derived.Defers
import Derived.Test.YtjoppncopoampaaGreatDoorOfUnitBlock
set_option maxHeartbeats 4000000
set_option maxRecDepth 100000
namespace Go.Proofs.YtjoppncopoampaaGreatDoor
open Go.RowKit
variable {d:List Value}{I Y b e l m n s:Nat}{Z:Nat->Int}{f:Nat->Value}{v:Value}{j w:World}
theorem gM:(Tryz.prog.info? 213).map (fun i=>(i.zero,i.size,i.bytes))=some (some (.agg #[Vi 0,.int .u64 0]),2,16):=AV
theorem KE(h:w.ownsRow l e s v (n+1) d):∃g a,v=.slice (some ⟨g,0,none⟩) (n+1) a:=by
 rcases h.2 with⟨_,c⟩|⟨g,a,_,b,_⟩
 ·omega
 ·exact⟨g,a,b⟩
theorem Vo(w:World)(o:Obj)(k:Nat)(a:k<w.heap.size):(w.alloc o).heap[k]?=w.heap[k]?:=heap_alloc_old w o a
theorem I7(b h n:Nat)(q:Value)(I:List Value)(d p:Int)(w:World)(S:n<=1048576)(y:b<=w.heap.size)(D:h<w.heap.size)(l:some h≠q.ownBlock)
 (K:w.cell? (Va h 8)=some q)(M:w.frozen? (Va h 8)=false)(r:w.ownsRow b 213 2 q n I):
 Calls Tryz.prog 165 #[Vq h,Vi d,.int .u64 p] w fun e R=>∃C m,e=.returned (.tuple #[])/\
  m.ownsRow b 213 2 C (n+1) (I++[Vi d,.int .u64 p])/\w.grownBy m q.ownBlock/\R=m.setCell (Va h 8) C:=by
 obtain⟨Q,N,z,A,B⟩:=info_parts gM;have J:=hxy r;go_enter Tryz.func165,Tryz.ntmps165;go_wp2_with(first|(at_builtin;refine wpList_append_own _ rfl _ _ 30 rfl b 213 Q (.agg #[Vi 0,.int .u64 0]) 2 16 Tryz.underlying30 N z A B rfl Ad _ _ _ rfl (J.alloc _) ⟨w.heap.size,0,none⟩ 1 1 [Vi d,.int .u64 p] rfl rfl ?c1 ?c2 ?c3 ?c4 ?c5 ?_)|go_in)
 case c1=>
  intro j u o;match j,o with
  |0,o=>simp at o;subst o;simp[Addr.add,go_sem]
  |1,o=>simp at o;subst o;simp[Addr.add,go_sem]
 case c2=>
  intro u E;simp at E;rcases E with rfl|rfl<;>rfl
 case c3=>unfold maxLen;omega
 case c4=>omega
 case c5=>simp;omega
 ·intro C m c a _
  obtain⟨g,L,F⟩:=KE c;have s:Hid (w.grownBy m q.ownBlock):=⟨a.os,a.tape,a.output,Nat.le_trans AX a.size,fun k O l=>(a.block k (by simp;omega) l).trans (Vo w _ k O)⟩
  have U:m.cell? (Va h 8)=some q:=(World.cell?_of_block (s.block h D l)).trans K;have X:m.frozen? (Va h 8)=false:=(World.frozen?_of_block (s.block h D l)).trans M;have x:=hxy c;rw[F];go_wp2;go_end0;exact⟨_,m,rfl,by rw[<-F];exact x,s,rfl⟩
def first(m:Nat)(f:Nat->Value):List Value:=(List.range m).map f
theorem Aw(m:Nat)(f:Nat->Value):(first m f).length=m:=by simp[first]
theorem Ca{j:Nat}{u:Value}(h:(first m f)[j]?=some u):j<m/\u=f j:=by
 unfold first at h
 rw[List.getElem?_map]at h;by_cases a:j<m
 ·rw[List.getElem?_range a]at h
  exact⟨a,by simpa using h.symm⟩
 ·rw[List.getElem?_eq_none (by simpa using Nat.le_of_not_lt a)]at h
  cases h
theorem Cv{u:Value}(h:u∈first m f):∃j,j<m/\u=f j:=by
 unfold first at h
 simp only[List.mem_map,List.mem_range]at h;obtain⟨j,a,rfl⟩:=h;exact⟨j,a,rfl⟩
theorem Rf:(Tryz.prog.info? 45).map (fun i=>(i.zero,i.size,i.bytes))=some (some (.int .u64 0),1,8):=AV
theorem eG(b h n m:Nat)(f:Nat->Value)(w:World)(O:n<=1048576)(q:At w b h (n*1) f)(F:∀i,(f i).oneCell'=true):
 Calls Tryz.prog 106 #[.slice (some ⟨b,h,none⟩) n m] w fun e y=>∃l,e=.returned l/\y.ownsRow w.heap.size 45 1 l n (first (n*1) f)/\Below w.heap.size w y/\(l=.slice none 0 0↔n=0):=by
 obtain⟨N,I,r,s,x⟩:=info_parts Rf;have B:=hxy q;have A:=hxy F;go_enter Tryz.func106,Tryz.ntmps106;go_wp2_with(first|(at_builtin;refine wpList_append_own _ rfl _ _ 28 rfl w.heap.size 45 N (.int .u64 0) 1 8 Tryz.underlying28 I r s x rfl Ad _ 0 [] rfl (World.ownsRow_nil _ _ _ _) ⟨b,h,none⟩ n m (first (n*1) f) rfl (Aw _ _) ?c1 ?c2 ?c3 ?c4 ?c5 ?_)|go_in)
 case c1=>
  intro j u J;obtain⟨L,rfl⟩:=Ca J;rw[Addr.add_lit];exact B.cell L
 case c2=>
  intro u M;obtain⟨j,_,rfl⟩:=Cv M;exact A j
 case c3=>unfold maxLen;omega
 case c4=>omega
 case c5=>exact BQ
 ·intro l z p a o
  have d:z.ownsRow w.heap.size 45 1 l n (first (n*1) f):=by simpa using p
  have c:l=.slice none 0 0↔n=0:=by simpa using o
  have C:Hid (Bw w z):=BJ.grown a BQ (by intro k K;cases K);have E:=hxy (d);have D:=hxy c;go_wp2;go_ret;exact⟨l,rfl,E,C,D⟩
theorem ZE(w:World):Calls Tryz.prog 106 #[.slice none 0 0] w fun e a=>e=.returned (.slice none 0 0)/\a=w:=by
 go_enter Tryz.func106,Tryz.ntmps106;go_wp2;go_ret;exact⟨rfl,rfl⟩
theorem RU:(Tryz.prog.info? 5).map (fun i=>(i.zero,i.size,i.bytes))=some (some (.int .u8 0),1,1):=AV
theorem jS(b h n m:Nat)(f:Nat->Value)(w:World)(O:n<=1048576)(q:At w b h (n*1) f)(F:∀i,(f i).oneCell'=true):
 Calls Tryz.prog 108 #[.slice (some ⟨b,h,none⟩) n m] w fun e y=>∃l,e=.returned l/\y.ownsRow w.heap.size 5 1 l n (first (n*1) f)/\Below w.heap.size w y/\(l=.slice none 0 0↔n=0):=by
 obtain⟨N,I,r,s,x⟩:=info_parts RU;have B:=hxy q;have A:=hxy F;go_enter Tryz.func108,Tryz.ntmps108;go_wp2_with(first|(at_builtin;refine wpList_append_own _ rfl _ _ 22 rfl w.heap.size 5 N (.int .u8 0) 1 1 Tryz.underlying22 I r s x rfl Ad _ 0 [] rfl (World.ownsRow_nil _ _ _ _) ⟨b,h,none⟩ n m (first (n*1) f) rfl (Aw _ _) ?c1 ?c2 ?c3 ?c4 ?c5 ?_)|go_in)
 case c1=>
  intro j u J;obtain⟨L,rfl⟩:=Ca J;rw[Addr.add_lit];exact B.cell L
 case c2=>
  intro u M;obtain⟨j,_,rfl⟩:=Cv M;exact A j
 case c3=>unfold maxLen;omega
 case c4=>omega
 case c5=>exact BQ
 ·intro l z p a o
  have d:z.ownsRow w.heap.size 5 1 l n (first (n*1) f):=by simpa using p
  have c:l=.slice none 0 0↔n=0:=by simpa using o
  have C:Hid (Bw w z):=BJ.grown a BQ (by intro k K;cases K);have E:=hxy (d);have D:=hxy c;go_wp2;go_ret;exact⟨l,rfl,E,C,D⟩
theorem Xf:(Tryz.prog.info? 213).map (fun i=>(i.zero,i.size,i.bytes))=some (some (.agg #[Vi 0,.int .u64 0]),2,16):=AV
theorem fZ(b h n m:Nat)(f:Nat->Value)(w:World)(O:n<=1048576)(q:At w b h (n*2) f)(F:∀i,(f i).oneCell'=true):
 Calls Tryz.prog 109 #[.slice (some ⟨b,h,none⟩) n m] w fun e y=>∃l,e=.returned l/\y.ownsRow w.heap.size 213 2 l n (first (n*2) f)/\Below w.heap.size w y/\(l=.slice none 0 0↔n=0):=by
 obtain⟨N,I,r,s,x⟩:=info_parts Xf;have B:=hxy q;have A:=hxy F;go_enter Tryz.func109,Tryz.ntmps109;go_wp2_with(first|(at_builtin;refine wpList_append_own _ rfl _ _ 30 rfl w.heap.size 213 N (.agg #[Vi 0,.int .u64 0]) 2 16 Tryz.underlying30 I r s x rfl Ad _ 0 [] rfl (World.ownsRow_nil _ _ _ _) ⟨b,h,none⟩ n m (first (n*2) f) rfl (Aw _ _) ?c1 ?c2 ?c3 ?c4 ?c5 ?_)|go_in)
 case c1=>
  intro j u J;obtain⟨L,rfl⟩:=Ca J;rw[Addr.add_lit];exact B.cell L
 case c2=>
  intro u M;obtain⟨j,_,rfl⟩:=Cv M;exact A j
 case c3=>unfold maxLen;omega
 case c4=>omega
 case c5=>exact BQ
 ·intro l z p a o
  have d:z.ownsRow w.heap.size 213 2 l n (first (n*2) f):=by simpa using p
  have c:l=.slice none 0 0↔n=0:=by simpa using o
  have C:Hid (Bw w z):=BJ.grown a BQ (by intro k K;cases K);have E:=hxy (d);have D:=hxy c;go_wp2;go_ret;exact⟨l,rfl,E,C,D⟩
theorem Xz(w:World):Calls Tryz.prog 109 #[.slice none 0 0] w fun e a=>e=.returned (.slice none 0 0)/\a=w:=by
 go_enter Tryz.func109,Tryz.ntmps109;go_wp2;go_ret;exact⟨rfl,rfl⟩
theorem Sy:(Tryz.prog.info? 47).map (fun i=>(i.zero,i.size,i.bytes))=some (some (.agg #[.int .u64 0,.bool false,.slice none 0 0]),3,40):=AV
theorem Zx(b h n m:Nat)(f:Nat->Value)(w:World)(O:n<=1048576)(q:At w b h (n*3) f)(F:∀i,(f i).oneCell'=true):
 Calls Tryz.prog 107 #[.slice (some ⟨b,h,none⟩) n m] w fun e y=>∃l,e=.returned l/\y.ownsRow w.heap.size 47 3 l n (first (n*3) f)/\Below w.heap.size w y/\(l=.slice none 0 0↔n=0):=by
 obtain⟨N,I,r,s,x⟩:=info_parts Sy;have B:=hxy q;have A:=hxy F;go_enter Tryz.func107,Tryz.ntmps107;go_wp2_with(first|(at_builtin;refine wpList_append_own _ rfl _ _ 29 rfl w.heap.size 47 N (.agg #[.int .u64 0,.bool false,.slice none 0 0]) 3 40 Tryz.underlying29 I r s x rfl Ad _ 0 [] rfl (World.ownsRow_nil _ _ _ _) ⟨b,h,none⟩ n m (first (n*3) f) rfl (Aw _ _) ?c1 ?c2 ?c3 ?c4 ?c5 ?_)|go_in)
 case c1=>
  intro j u J;obtain⟨L,rfl⟩:=Ca J;rw[Addr.add_lit];exact B.cell L
 case c2=>
  intro u M;obtain⟨j,_,rfl⟩:=Cv M;exact A j
 case c3=>unfold maxLen;omega
 case c4=>omega
 case c5=>exact BQ
 ·intro l z p a o
  have d:z.ownsRow w.heap.size 47 3 l n (first (n*3) f):=by simpa using p
  have c:l=.slice none 0 0↔n=0:=by simpa using o
  have C:Hid (Bw w z):=BJ.grown a BQ (by intro k K;cases K);have E:=hxy (d);have D:=hxy c;go_wp2;go_ret;exact⟨l,rfl,E,C,D⟩
theorem YR(w:World):Calls Tryz.prog 107 #[.slice none 0 0] w fun e a=>e=.returned (.slice none 0 0)/\a=w:=by
 go_enter Tryz.func107,Tryz.ntmps107;go_wp2;go_ret;exact⟨rfl,rfl⟩
theorem oP(x:Option Addr)(b n a:Nat)(f:Nat->Value)(w:World)(k:n<=1048576)(l:(x=none/\n=0/\a=0)∨x=some ⟨b,0,none⟩)(c:At w b 0 (n*1) f)(j:∀i,(f i).oneCell'=true):
 Calls Tryz.prog 106 #[.slice x n a] w fun e h=>∃d,e=.returned d/\h.ownsRow w.heap.size 45 1 d n (first (n*1) f)/\Below w.heap.size w h/\(d=.slice none 0 0↔n=0):=by
 rcases l with⟨rfl,rfl,rfl⟩|rfl
 ·refine(ZE w).mono ?_
  rintro e h⟨rfl,rfl⟩;exact⟨_,rfl,⟨rfl,.inl ⟨rfl,rfl⟩⟩,Below.refl _ _,AX⟩
 ·exact eG b 0 n a f w k c j
theorem qY(x:Option Addr)(b n a:Nat)(f:Nat->Value)(w:World)(k:n<=1048576)(l:(x=none/\n=0/\a=0)∨x=some ⟨b,0,none⟩)(c:At w b 0 (n*2) f)(j:∀i,(f i).oneCell'=true):
 Calls Tryz.prog 109 #[.slice x n a] w fun e h=>∃d,e=.returned d/\h.ownsRow w.heap.size 213 2 d n (first (n*2) f)/\Below w.heap.size w h/\(d=.slice none 0 0↔n=0):=by
 rcases l with⟨rfl,rfl,rfl⟩|rfl
 ·refine(Xz w).mono ?_
  rintro e h⟨rfl,rfl⟩;exact⟨_,rfl,⟨rfl,.inl ⟨rfl,rfl⟩⟩,Below.refl _ _,AX⟩
 ·exact fZ b 0 n a f w k c j
theorem pK(x:Option Addr)(b n a:Nat)(f:Nat->Value)(w:World)(k:n<=1048576)(l:(x=none/\n=0/\a=0)∨x=some ⟨b,0,none⟩)(c:At w b 0 (n*3) f)(j:∀i,(f i).oneCell'=true):
 Calls Tryz.prog 107 #[.slice x n a] w fun e h=>∃d,e=.returned d/\h.ownsRow w.heap.size 47 3 d n (first (n*3) f)/\Below w.heap.size w h/\(d=.slice none 0 0↔n=0):=by
 rcases l with⟨rfl,rfl,rfl⟩|rfl
 ·refine(YR w).mono ?_
  rintro e h⟨rfl,rfl⟩;exact⟨_,rfl,⟨rfl,.inl ⟨rfl,rfl⟩⟩,Below.refl _ _,AX⟩
 ·exact Zx b 0 n a f w k c j
theorem G6{j:Nat}(h:j<m):(first m f)[j]?=some (f j):=by
 unfold first;rw[List.getElem?_map,List.getElem?_range h];rfl
theorem Eh{g:Nat->Value}(h:∀i,i<m->f i=g i):first m f=first m g:=by
 unfold first;exact List.map_congr_left fun i a=>h i (List.mem_range.1 a)
theorem MP(m:Nat)(f:Nat->Value)(j:Nat)(u:Value):(first m f).set j u=first m (fun i=>if i=j then u else f i):=by
 apply List.ext_getElem?;intro i;by_cases a:i<m
 ·rw[G6 a,List.getElem?_set]
  by_cases e:j=i
  ·subst e;simp[Aw,a]
  ·rw[if_neg e,G6 a,if_neg (fun h=>e h.symm)]
 ·rw[List.getElem?_eq_none (by simp[Aw];omega),List.getElem?_eq_none (by simp[Aw];omega)]
theorem ZA(m:Nat)(f:Nat->Value):first (m+1+1) f=first m f++[f m,f (m+1)]:=by
 unfold first;rw[List.range_succ,List.range_succ];simp
theorem UI(m:Nat)(f:Nat->Value):first (m+1+1+1) f=first m f++[f m,f (m+1),f (m+1+1)]:=by
 unfold first;rw[List.range_succ,List.range_succ,List.range_succ];simp
theorem Aj{E J n':Nat}{D:Value}{b:List Value}(h:w.ownsRow l e s v n d)(o:w.ownsRow I E J D n' b)(p:e≠E):v.ownBlock=none∨v.ownBlock≠D.ownBlock:=by
 rcases h.2 with⟨rfl,_⟩|⟨g,k,m,rfl,_,r,_⟩
 ·exact .inl rfl
 ·rcases o.2 with⟨rfl,_⟩|⟨u,c,j,rfl,_,a,_⟩
  ·exact .inr (by simp[Value.ownBlock])
  ·refine .inr fun q=>?_
   simp only[Value.ownBlock,Option.some.injEq]at q;subst q;rw[r]at a;simp only[Option.some.injEq,Obj.cells.injEq]at a;exact p a.2.1
theorem Fu(h:(Vs b n Y).ownBlock=none∨(Vs b n Y).ownBlock≠v.ownBlock):some b≠v.ownBlock:=by
 rcases h with h|h
 ·simp[Value.ownBlock]at h
 ·exact h
theorem Tg(h:Below w.heap.size w j)(a:Option Nat):w.grownBy j a:=⟨h.os,h.tape,h.output,h.size,fun k b _=>h.block k b⟩
theorem Av(h:w.ownsRow l e s v n d)(a:Below w.heap.size w j):j.ownsRow l e s v n d:=
 h.kept (Tg a none) (by cases v.ownBlock<;>simp)
theorem Fv(h:w.ownsRow l e s (Vs b n Y) n (first m f)):l<=b/\n<=Y/\m=n*s/\Ak w b m f:=by
 have d:=h.1;rw[Aw]at d;have a:=h.lt b rfl;refine⟨a.1,?_,d,a.2,fun i=>h.frozenAt i,fun i o=>?_⟩
 ·rcases h.2 with⟨q,_⟩|⟨p,c,j,q,_,_,k,_⟩
  ·cases q
  ·simp only[Value.slice.injEq]at q;rw[q.2.2];exact k
 ·rw[h.cellAt i AB,G6 o]
structure MV where
 R:Nat->Int
 z:Bool
 c:Bool
 hz:Bool
 hc:Bool
 nH:Nat
 Hp:Nat->Bv
 pc:Int
 st:Int
 nO:Nat
 K:Nat->Int
 V:Nat->Int
def MV.setR(M:MV)(d:Nat)(v:Int):MV:={M with R:=fun i=>if i=d then v else M.R i}
def MV.see(M:MV)(k v:Int):MV:={M with nO:=M.nO+1,K:=fun i=>if i=M.nO then k else M.K i,V:=fun i=>if i=M.nO then v else M.V i}
def MV.flags(M:MV)(r:Int)(cy:Bool):MV:={M with z:=decide (r=0),c:=cy,hz:=true,hc:=true}
def MV.fault(M:MV):MV:={M with st:=2}
def MV.poke(M:MV)(h j:Nat)(u:Int):MV:={M with Hp:=fun i=>if i=h then{M.Hp i with dat:=fun q=>if q=j then u else(M.Hp i).dat q}else M.Hp i}
structure Pl where
 bR:Nat
 cR:Nat
 aH:Option Addr
 cH:Nat
 blk:Nat->Nat
 cap:Nat->Nat
 aO:Option Addr
 cO:Nat
def place(Hp:Nat->Bv)(blk cap:Nat->Nat)(i:Nat):Bv:={Hp i with ao:=some ⟨blk i,0,none⟩,cap:=cap i}
structure Mem(w:World)(base:Nat)(p:Pl)(M:MV):Prop where
 regs:w.ownsRow base 45 1 (Vs p.bR 8 p.cR) 8 (first 8 (EU .u64 M.R))
 heaps:w.ownsRow base 47 3 (.slice p.aH M.nH p.cH) M.nH (first (M.nH*3) (CO (place M.Hp p.blk p.cap)))
 data:∀i,i<M.nH->w.ownsRow base 5 1 (.slice (some ⟨p.blk i,0,none⟩) (M.Hp i).len (p.cap i)) (M.Hp i).len (first (M.Hp i).len (EU .u8 (M.Hp i).dat))
 obs:w.ownsRow base 213 2 (.slice p.aO M.nO p.cO) M.nO (first (M.nO*2) (Dg M.K M.V))
 ne:∀i j,i<M.nH->j<M.nH->i≠j->p.blk i≠p.blk j
theorem Mem.mono{base:Nat}{p:Pl}{M:MV}(h:Mem w base p M)(a:I<=base):Mem w I p M:=
 ⟨h.regs.mono a,h.heaps.mono a,fun i b=>(h.data i b).mono a,h.obs.mono a,h.ne⟩
theorem Mem.below{p:Pl}{M:MV}(h:Mem w l p M)(a:Below w.heap.size w j):Mem j l p M:=
 ⟨Av h.regs a,Av h.heaps a,fun i b=>Av (h.data i b) a,Av h.obs a,h.ne⟩
theorem Mem.other{p:Pl}{M:MV}(h:Mem w l p M)(k:w.ownsRow I e s (Vs b n Y) n d)(c:w.grownBy j (some b))(o:e≠45)(q:e≠47)(r:e≠5)(u:e≠213):Mem j l p M:=
 ⟨h.regs.kept c (Aj h.regs k (Ne.symm o)),h.heaps.kept c (Aj h.heaps k (Ne.symm q)),fun i m=>(h.data i m).kept c (Aj (h.data i m) k (Ne.symm r)),h.obs.kept c (Aj h.obs k (Ne.symm u)),h.ne⟩
theorem Mem.setR{p:Pl}{M:MV}(h:Mem w l p M)(d:Nat)(v:Int):Mem (w.setCell ⟨p.bR,d,none⟩ (.int .u64 v)) l p (M.setR d v):=by
 obtain⟨b,a⟩:=h.regs.stored d (.int .u64 v);refine⟨?_,h.heaps.kept a (Aj h.heaps h.regs Ad),fun i c=>(h.data i c).kept a (Aj (h.data i c) h.regs Ad),h.obs.kept a (Aj h.obs h.regs Ad),h.ne⟩;rw[MP]at b;refine(Eh fun i _=>?_)▸b;unfold EU MV.setR;by_cases e:i=d<;>simp[e]
theorem Mem.poke{p:Pl}{M:MV}(h:Mem w l p M){k:Nat}(b:k<M.nH)(j:Nat)(u:Int):Mem (w.setCell ⟨p.blk k,j,none⟩ (.int .u8 u)) l p (M.poke k j u):=by
 obtain⟨d,c⟩:=(h.data k b).stored j (.int .u8 u);refine⟨h.regs.kept c (Aj h.regs (h.data k b) Ad),?_,fun i m=>?_,h.obs.kept c (Aj h.obs (h.data k b) Ad),h.ne⟩
 ·have n:=h.heaps.kept c (Aj h.heaps (h.data k b) Ad)
  refine(Eh fun i _=>?_)▸n;unfold CO place MV.poke;by_cases e:i/3=k<;>simp[e]
 ·by_cases e:i=k
  ·subst e
   rw[MP]at d;have q:(M.poke i j u).Hp i={M.Hp i with dat:=fun q=>if q=j then u else(M.Hp i).dat q}:=by simp[MV.poke]
   rw[q];refine(Eh fun t _=>?_)▸d;unfold EU;by_cases e:t=j<;>simp[e]
  ·have q:(M.poke k j u).Hp i=M.Hp i:=by simp[MV.poke,e]
   rw[q];exact(h.data i m).kept c (.inr (by have:=h.ne i k m b e;simpa[Value.ownBlock]using this))
theorem lJ(M:MV)(k v:Int):first ((M.see k v).nO*2) (Dg (M.see k v).K (M.see k v).V)=first (M.nO*2) (Dg M.K M.V)++[Vi k,.int .u64 v]:=by
 show first ((M.nO+1)*2) _=_
 rw[show(M.nO+1)*2=M.nO*2+1+1 by omega,ZA];congr 1
 ·refine Eh fun i c=>?_
  unfold Dg MV.see;have:i/2≠M.nO:=AB;simp[this]
 ·have a:=Zh (M.see k v).K (M.see k v).V M.nO
  have b:=eU (M.see k v).K (M.see k v).V M.nO;simp only[Nat.add_zero]at a;rw[a,b];simp[MV.see]
theorem Mem.see{N:World}{p:Pl}{M:MV}{k v:Int}{g:Nat}(h:Mem w l p M)(c:N.ownsRow l 213 2 (Vs g (M.nO+1) Y) (M.nO+1) (first (M.nO*2) (Dg M.K M.V)++[Vi k,.int .u64 v]))(a:w.grownBy N (Value.slice p.aO M.nO p.cO).ownBlock):Mem N l {p with aO:=some ⟨g,0,none⟩,cO:=Y} (M.see k v):=
 ⟨h.regs.kept a (Aj h.regs h.obs Ad),h.heaps.kept a (Aj h.heaps h.obs Ad),fun i b=>(h.data i b).kept a (Aj (h.data i b) h.obs Ad),by rw[lJ];exact c,h.ne⟩
def Ih(x y c:Int):Int:=(x+y+c)%18446744073709551616
def carry(x y c:Int):Int:=(x+y+c)/18446744073709551616
def Ep(x y:Int):Int:=(x-y)%18446744073709551616
def borrow(x y:Int):Int:=if x<y then 1 else 0
theorem Ye(x y c:Int)(d:0<=x)(h:0<=y)(a:0<=c)(b:c<=1)(w:World):(callFunc 196 #[.int .u64 x,.int .u64 y,.int .u64 c]).run Tryz.prog w=
 .ok (.value (.tuple #[.int .u64 (Ih x y c),.int .u64 (carry x y c)])) w:=by
 rw[run_callFunc_extern Tryz.func196 AV AV AV (e:=add64Entry) AV,run_add64 x y c d h a b w];rfl
theorem ZL(x y:Nat)(w:World):((Extern.MathBitsCarry.rows[1]'Ad).2 #[.int .u64 (x:Int),.int .u64 (y:Int),.int .u64 0]).run Tryz.prog w=
 .ok (Extern.MathBitsCarry.pair ((x+Extern.MathBitsCarry.m64-y-0)%Extern.MathBitsCarry.m64) (if x<y+0 then 1 else 0)) w:=rfl
theorem Yk(x y:Int)(c:0<=x)(d:0<=y)(j:y<=18446744073709551615)(w:World):(callFunc 198 #[.int .u64 x,.int .u64 y,.int .u64 0]).run Tryz.prog w=
 .ok (.value (.tuple #[.int .u64 (Ep x y),.int .u64 (borrow x y)])) w:=by
 obtain⟨X,rfl⟩:=Int.eq_ofNat_of_zero_le c;obtain⟨Y,rfl⟩:=Int.eq_ofNat_of_zero_le d;rw[run_callFunc_extern Tryz.func198 AV AV AV (e:=(Extern.MathBitsCarry.rows[1]'Ad).2) AV,ZL];have a:(Int.ofNat ((X+Extern.MathBitsCarry.m64-Y-0)%Extern.MathBitsCarry.m64))=((X:Int)-(Y:Int))%18446744073709551616:=by
  simp only[Extern.MathBitsCarry.m64];have:(2:Nat)^64=18446744073709551616:=Ad;rw[this];simp only[Int.ofNat_eq_natCast];omega
 have b:(Int.ofNat (if X<Y+0 then 1 else 0))=(if(X:Int)<(Y:Int)then 1 else 0):=by
  by_cases h:X<Y
  ·rw[if_pos AB,if_pos AB];rfl
  ·rw[if_neg AB,if_neg AB];rfl
 simp only[Extern.MathBitsCarry.pair,Result.andThen,a,b,Ep,borrow]
theorem NA(f:Bool)(w:World):
 Calls Tryz.prog 171 #[.bool f,.bool true] w fun e a=>e=.returned (.bool f)/\a=w:=by
 go_enter Tryz.func171,Tryz.ntmps171;go_wp2;go_ret;exact⟨rfl,rfl⟩
theorem O7(f:Bool)(w:World):
 Calls Tryz.prog 171 #[.bool f,.bool false] w fun e a=>e=.panicked [{v:=.iface 163 (.agg #[]),recovered:=false}]/\a=w:=by
 go_enter Tryz.func171,Tryz.ntmps171;go_wp2;exact⟨rfl,rfl,rfl⟩
theorem Lb(a:Nat)(r k:Int)(z c d b:Bool)(w:World)(j:w.cell? (Va a 1)=some (.bool z))(l:w.cell? (Va a 2)=some (.bool c))(m:w.cell? (Va a 3)=some (.bool d))(n:w.cell? (Va a 4)=some (.bool b))
 (o:∀i,w.frozen? (Va a i)=false):
 Calls Tryz.prog 197 #[Vq a,.int .u64 r,.int .u64 k] w fun e h=>e=.returned (.tuple #[])/\
  h=(((w.setCell (Va a 1) (.bool (r==0))).setCell (Va a 3) (.bool true)).setCell (Va a 2) (.bool (k !=0))).setCell (Va a 4) (.bool true):=by
 go_enter Tryz.func197,Tryz.ntmps197;go_wp2;go_end0;exact⟨rfl,rfl⟩
def flagged(w:World)(bC:Nat)(r k:Int):World:=
 (((w.setCell (Va bC 1) (.bool (r==0))).setCell (Va bC 3) (.bool true)).setCell (Va bC 2) (.bool (k !=0))).setCell (Va bC 4) (.bool true)
theorem Jq(d:Nat)(a b:Int)(z c r n:Bool)(w:World)(u:0<=a)(x:0<=b)(h:b<=18446744073709551615)(j:w.cell? (Va d 1)=some (.bool z))(k:w.cell? (Va d 2)=some (.bool c))(l:w.cell? (Va d 3)=some (.bool r))(m:w.cell? (Va d 4)=some (.bool n))
 (o:∀i,w.frozen? (Va d i)=false):
 Calls Tryz.prog 169 #[Vq d,.int .u64 a,.int .u64 b] w fun e y=>e=.returned (.int .u64 (Ep a b))/\y=flagged w d (Ep a b) (borrow a b):=by
 have p:=fun w=>Yk a b u x h w
 have C:=Lb d (Ep a b) (borrow a b) z c r n w j k l m o;clear j k l m o;go_enter Tryz.func169,Tryz.ntmps169;go_wp2_with fail;refine Calls.mono C ?_;rintro e A⟨rfl,q⟩;have s:=hxy q;clear q;go_wp2;go_ret;exact⟨rfl,s⟩
theorem TS(a:Nat)(f:Bool)(w:World)(c:w.cell? (Va a 1)=some (.bool f))(d:w.cell? (Va a 3)=some (.bool true)):
 Calls Tryz.prog 129 #[Vq a] w fun e b=>e=.returned (.bool f)/\Below w.heap.size w b:=by
 go_enter Tryz.func129,Tryz.ntmps129;go_wp2_with fail;go_quiet((go_at_call 171;exact Calls.quiet_of_same (NA _ _)));go_wp2;go_ret;exact⟨rfl,below_drewN BJ _⟩
theorem MN(a:Nat)(f:Bool)(w:World)(c:w.cell? (Va a 2)=some (.bool f))(d:w.cell? (Va a 4)=some (.bool true)):
 Calls Tryz.prog 130 #[Vq a] w fun e b=>e=.returned (.bool f)/\Below w.heap.size w b:=by
 go_enter Tryz.func130,Tryz.ntmps130;go_wp2_with fail;go_quiet((go_at_call 171;exact Calls.quiet_of_same (NA _ _)));go_wp2;go_ret;exact⟨rfl,below_drewN BJ _⟩
theorem Xh(a:Nat)(f:Bool)(w:World)(c:a<w.heap.size)(d:w.cell? (Va a 1)=some (.bool f))(j:w.cell? (Va a 3)=some (.bool false)):
 Calls Tryz.prog 129 #[Vq a] w fun e b=>e=.panicked [{v:=.iface 163 (.agg #[]),recovered:=false}]/\Below w.heap.size w b:=by
 have k:Cb w a 1 (.bool f):=fun b h=>(h.cell (p:=Va a 1) c).trans d
 have l:Cb w a 3 (.bool false):=fun b h=>(h.cell (p:=Va a 3) c).trans j
 go_enter Tryz.func129,Tryz.ntmps129;go_wp2_with fail;refine BH (T:=fun b=>Bw w b) (s:=11) AV (BJ.drew) (fun hHeld=>?_);refine NU [0,1,2,3,4,5,6,7,8,9] ?_;refine Ah (i:=10) rfl AV (fun K m=>?_);go_simp;refine(O7 _ _).mono ?_;rintro e b⟨rfl,rfl⟩;exact⟨rfl,rfl,BJ.drew⟩
theorem PI(a:Nat)(f:Bool)(w:World)(c:a<w.heap.size)(d:w.cell? (Va a 2)=some (.bool f))(j:w.cell? (Va a 4)=some (.bool false)):
 Calls Tryz.prog 130 #[Vq a] w fun e b=>e=.panicked [{v:=.iface 163 (.agg #[]),recovered:=false}]/\Below w.heap.size w b:=by
 have k:Cb w a 2 (.bool f):=fun b h=>(h.cell (p:=Va a 2) c).trans d
 have l:Cb w a 4 (.bool false):=fun b h=>(h.cell (p:=Va a 4) c).trans j
 go_enter Tryz.func130,Tryz.ntmps130;go_wp2_with fail;refine BH (T:=fun b=>Bw w b) (s:=11) AV (BJ.drew) (fun hHeld=>?_);refine NU [0,1,2,3,4,5,6,7,8,9] ?_;refine Ah (i:=10) rfl AV (fun K m=>?_);go_simp;refine(O7 _ _).mono ?_;rintro e b⟨rfl,rfl⟩;exact⟨rfl,rfl,BJ.drew⟩
theorem Dp{B:Nat}{W X:World}(h:Below B W X){p:Addr}(_hp:p.block<B)(v:Value):Below B (W.setCell p v) (X.setCell p v):=by
 refine⟨h.os,h.tape,h.output,by simpa using h.size,fun k a=>?_⟩;by_cases e:k=p.block
 ·subst e
  have b:=h.block p.block a;unfold World.setCell;simp only[Array.getElem?_modify,b]
 ·rw[heap_setCell_other _ _ _ _ e,heap_setCell_other _ _ _ _ e]
  exact h.block k a
theorem Cr{B:Nat}{W X:World}{c:Nat}{r k:Int}(a:c<B)(h:Below B W X):Below B (flagged W c r k) (flagged X c r k):=
 Dp (Dp (Dp (Dp h a _) a _) a _) a _
theorem Jf(h j q d a b:Nat)(I o C k:Int)(R:Nat->Int)(z c F A:Bool)(w:World)(hd:d<8)(ha:a<8)(hb:b<8)(n:h<w.heap.size)(hR:j<w.heap.size)(l:h≠j)(Q:0<=k)(S:k<=1)(U:0<=R a)(X:0<=R b)
 (L:w.cell? (Va h 0)=some (Vs j 8 q))(Y:w.cell? (Va j a)=some (.int .u64 (R a)))(Z:w.cell? (Va j b)=some (.int .u64 (R b)))(rd:w.cell? (Va j d)=some (.int .u64 (R d)))(r:w.frozen? (Va j d)=false)(s:w.cell? (Va h 1)=some (.bool z))(u:w.cell? (Va h 2)=some (.bool c))(x:w.cell? (Va h 3)=some (.bool F))(y:w.cell? (Va h 4)=some (.bool A))(B:∀i,w.frozen? (Va h i)=false):
 Calls Tryz.prog 168 #[Vq h,.agg #[Vi I,Vi d,Vi a,Vi b,Vi o,Vi C],.int .u64 k] w fun e w'=>e=.returned (.tuple #[])/\Below w.heap.size (flagged (w.setCell (Va j d) (.int .u64 (Ih (R a) (R b) k))) h (Ih (R a) (R b) k) (carry (R a) (R b) k)) w':=by
 have O:(d:Int)<8:=AB;have M:(a:Int)<8:=AB;have N:(b:Int)<8:=AB;have D:=fun w=>Ye (R a) (R b) k U X Q S w
 go_enter Tryz.func168,Tryz.ntmps168;go_wp2;go_region;go_wp2_with fail;go_region;go_wp2_with fail;have m:Below w.heap.size (w.setCell (Va j d) (.int .u64 (Ih (R a) (R b) k))) ((w.setCell (Va j d) (.int .u64 (Ih (R a) (R b) k))).alloc (.cells #[Vi I,Vi d,Vi a,Vi b,Vi o,Vi C] 109)).drew.drew:=((BJ.alloc AX _).drew).drew;have K:Hid _:=m;refine(Lb h (Ih (R a) (R b) k) (carry (R a) (R b) k) z c F A _ ?g1 ?g2 ?g3 ?g4 ?g5).mono ?_
 case g1=>exact(m.cell (p:=Va h 1) n).trans ((World.cell?_setCell_far _ _ _ _ (Ne.symm l)).trans s)
 case g2=>exact(m.cell (p:=Va h 2) n).trans ((World.cell?_setCell_far _ _ _ _ (Ne.symm l)).trans u)
 case g3=>exact(m.cell (p:=Va h 3) n).trans ((World.cell?_setCell_far _ _ _ _ (Ne.symm l)).trans x)
 case g4=>exact(m.cell (p:=Va h 4) n).trans ((World.cell?_setCell_far _ _ _ _ (Ne.symm l)).trans y)
 case g5=>exact fun i=>(m.frozen (p:=Va h i) n).trans ((World.frozen?_setCell _ _ _ _).trans (B i))
 rintro e w1⟨rfl,E⟩;have J:Hid _:=E;clear E m L Y Z rd r s u x y B;go_wp2;go_end0;refine⟨rfl,?_⟩;rw[J.out];exact Cr n K
theorem DJ{P:Program}{R:Array Oper}{o:Oper}{a:Act}{K:Act->World->Prop}{Q:Exit->Act->World->Prop}{E:Prop}
 (Z:o.guard=none)(s x:Operand)(t:TypeId)(C:o.op=Op.call {callee:=Callee.builtin Builtin.append,args:=#[s,x],argTypes:=#[t,t]})(k:Nat)
 (e:TypeId)(i:TypeInfo)(z:Value)(b h:Nat)(I:P.underlying t=some (.slice e))(J:P.info? e=some i)(L:i.zero=some z)(M:i.size=b)(N:i.bytes=h)(O:z.cells.size=b)(S:0<b)
 (v:Value)(n:Nat)(l:List Value)(hs:a.eval s=v)(p:w.ownsRow k e b v n l)
 (A:Addr)(m c:Nat)(d:List Value)(hx:a.eval x=.slice (some A) m c)(hn:d.length=m*b)(Y:∀j u,d[j]?=some u->w.cell? (A.add j)=some u)(B:∀u∈d,u.oneCell'=true)
 (D:n+m<=maxLen)(F:(n+m)*h<=140737488355328)(X:k<=w.heap.size)
 (U:∀y r,r.ownsRow k e b y (n+m) (l++d)->w.grownBy r v.ownBlock->K (a.put o.dst y) r):
 if Region.wanted o (yielded R a.tmps)=true then Oper.wp P o a w K Q else E:=by
 have hw:Region.wanted o (yielded R a.tmps)=true:=by simp[Region.wanted,Z]
 rw[if_pos hw];obtain⟨y,r,q,r1,r2,_⟩:=run_append_own (P:=P) w k t o.type e i z b h I J L M N O S v n l p A m c d hn Y B D F X;unfold Oper.wp;simp[execOp,C,resolve,invoke,builtin,hs,hx,q,Result.andThen];exact U y r r1 r2
theorem Dn(f:Nat)(w:World):Calls Tryz.prog 112 #[.func (.func f) #[] #[]] w fun e a=>e=.returned (.func (.func 164) #[] #[Vq w.heap.size])/\a=(w.alloc (.cells #[.func (.func f) #[] #[]] 222)):=by
 go_enter Tryz.func112,Tryz.ntmps112;go_wp2;go_ret;exact⟨rfl,rfl⟩
theorem Gt(f:Nat)(w:World):Calls Tryz.prog 120 #[.func (.func f) #[] #[]] w fun e a=>e=.returned (.func (.func 167) #[] #[Vq w.heap.size])/\a=(w.alloc (.cells #[.func (.func f) #[] #[]] 222)):=by
 go_enter Tryz.func120,Tryz.ntmps120;go_wp2;go_ret;exact⟨rfl,rfl⟩
theorem LD(f:Nat)(w:World):Calls Tryz.prog 128 #[.func (.func f) #[] #[]] w fun e a=>e=.returned (.func (.func 170) #[] #[Vq w.heap.size])/\a=(w.alloc (.cells #[.func (.func f) #[] #[]] 253)):=by
 go_enter Tryz.func128,Tryz.ntmps128;go_wp2;go_ret;exact⟨rfl,rfl⟩
theorem Ir(f:Nat)(k:Int)(w:World):Calls Tryz.prog 131 #[.int .u64 k,.func (.func f) #[] #[]] w fun e a=>e=.returned (.func (.func 172) #[] #[.pointer (some ⟨w.heap.size+1,0,none⟩),Vq w.heap.size])/\a=((w.alloc (.cells #[.int .u64 k] 45)).alloc (.cells #[.func (.func f) #[] #[]] 255)):=by
 go_enter Tryz.func131,Tryz.ntmps131;go_wp2;go_ret;exact⟨rfl,rfl⟩
theorem Hy(f:Nat)(k:Int)(w:World):Calls Tryz.prog 133 #[.int .u64 k,.func (.func f) #[] #[]] w fun e a=>e=.returned (.func (.func 174) #[] #[.pointer (some ⟨w.heap.size+1,0,none⟩),Vq w.heap.size])/\a=((w.alloc (.cells #[.int .u64 k] 45)).alloc (.cells #[.func (.func f) #[] #[]] 255)):=by
 go_enter Tryz.func133,Tryz.ntmps133;go_wp2;go_ret;exact⟨rfl,rfl⟩
theorem Gu(f:Nat)(v:Bool)(w:World):Calls Tryz.prog 136 #[.func (.func f) #[] #[],.bool v] w fun e a=>e=.returned (.func (.func 175) #[] #[Vq w.heap.size,.pointer (some ⟨w.heap.size+1,0,none⟩)])/\a=((w.alloc (.cells #[.func (.func f) #[] #[]] 253)).alloc (.cells #[.bool v] 4)):=by
 go_enter Tryz.func136,Tryz.ntmps136;go_wp2;go_ret;exact⟨rfl,rfl⟩
theorem ZJ(h c j d a:Nat)(o b k n:Int)(R:Nat->Int)(w:World)(x:d<8)(u:a<8)(r:h<w.heap.size)(s:c<w.heap.size)
 (q:w.cell? (Va h 0)=some (Vs c 8 j))(z:w.cell? (Va c a)=some (.int .u64 (R a)))(A:w.cell? (Va c d)=some (.int .u64 (R d)))(y:w.frozen? (Va c d)=false):
 Calls Tryz.prog 110 #[Vq h,.agg #[Vi o,Vi d,Vi a,Vi b,Vi k,Vi n]] w fun e p=>e=.returned (.tuple #[])/\Below w.heap.size (w.setCell (Va c d) (.int .u64 (R a))) p:=by
 have m:(d:Int)<8:=AB;have l:(a:Int)<8:=AB;go_enter Tryz.func110,Tryz.ntmps110;go_wp2;go_region;all_goals(go_end0;exact⟨rfl,(BJ.alloc AX _).drew⟩)
theorem Vk(j c k d:Nat)(n a b h m:Int)(R:Nat->Int)(w:World)(s:d<8)(q:j<w.heap.size)(r:c<w.heap.size)
 (p:w.cell? (Va j 0)=some (Vs c 8 k))(x:w.cell? (Va c d)=some (.int .u64 (R d)))(u:w.frozen? (Va c d)=false):
 Calls Tryz.prog 111 #[Vq j,.agg #[Vi n,Vi d,Vi a,Vi b,Vi h,Vi m]] w fun e o=>e=.returned (.tuple #[])/\Below w.heap.size (w.setCell (Va c d) (.int .u64 (IntKind.u64.wrap h))) o:=by
 have l:(d:Int)<8:=AB;go_enter Tryz.func111,Tryz.ntmps111;go_wp2;go_region;all_goals(go_end0;exact⟨rfl,(BJ.alloc AX _).drew⟩)
theorem Yv(c:Nat)(l d a b h j k:Int)(w:World)(o:c<w.heap.size)(n:w.cell? (Va c 9)=some (Vi k))(p:w.frozen? (Va c 9)=false):
 Calls Tryz.prog 135 #[Vq c,.agg #[Vi l,Vi d,Vi a,Vi b,Vi h,Vi j]] w fun e m=>e=.returned (.tuple #[])/\Below w.heap.size (w.setCell (Va c 9) (Vi h)) m:=by
 go_enter Tryz.func135,Tryz.ntmps135;go_wp2;go_end0;exact⟨rfl,BJ.alloc AX _⟩
theorem Wd(c:Nat)(n d a b h l m j o:Int)(w:World)(u:c<w.heap.size)(q:w.cell? (Va c 6)=some (Vi j))(r:w.cell? (Va c 7)=some (Vi o))(s:w.cell? (Va c 9)=some (Vi m))(k:w.frozen? (Va c 7)=false)(x:w.frozen? (Va c 9)=false):
 Calls Tryz.prog 137 #[Vq c,.agg #[Vi n,Vi d,Vi a,Vi b,Vi h,Vi l]] w fun e p=>e=.returned (.tuple #[])/\Below w.heap.size ((w.setCell (Va c 7) (Vi 1)).setCell (Va c 9) (Vi j)) p:=by
 go_enter Tryz.func137,Tryz.ntmps137;go_wp2;go_end0;exact⟨rfl,BJ.alloc AX _⟩
theorem VN(a:Nat)(w:World):
 CallsD Tryz.prog 69 #[Vq a] .returning w fun e d h=>e=.returned (.tuple #[])/\d=.returning/\h=w:=by
 refine callsD_of_wpS Tryz.func69 rfl fun b j c=>?_
 apply wpS_seq;apply wpS_region;simp[wpOpsS,go_sem,recoverD,c,Tryz.ntmps69,Exit.thenS];refine wpS_of_wp ?_;change Code.wp _ _ _ {tmps:=#[Vq a,.nilIface,undef,undef,.nilIface,undef,undef,undef,undef,undef,undef,undef,undef,undef,undef,undef,undef,undef,undef],defers:=[]} w;go_wp2;cases b;simp_all[bodyPostS,results,Tryz.results69]
theorem M4(c b:Nat)(j:Int)(a:List PanicEntry)(w:World)(r:c<w.heap.size)(q:b<w.heap.size)(n:w.cell? (Va c 0)=some (Vq b))(m:w.cell? (Va b 7)=some (Vi j))(s:w.frozen? (Va b 7)=false):
 CallsD Tryz.prog 69 #[Vq c] (.panicking ({v:=.iface 163 (.agg #[]),recovered:=false}::a)) w fun e k l=>
  e=.returned (.tuple #[])/\k=.panicking ({v:=.iface 163 (.agg #[]),recovered:=true}::a)/\l=(w.setCell (Va b 7) (Vi 2)).alloc (.cells #[] 163):=by
 have d:∀w:World,(Instr.typeAssert (.iface 163 (.agg #[])) 20 163 true).run Tryz.prog w=.ok (.tuple #[.agg #[],.bool true]) w:=fun _=>by kernel_rfl
 refine callsD_of_wpS Tryz.func69 rfl fun p o h=>?_
 apply wpS_seq;apply wpS_region;simp[wpOpsS,go_sem,recoverD,h,Tryz.ntmps69,Exit.thenS];refine wpS_of_wp ?_;change Code.wp _ _ _ {tmps:=#[Vq c,.iface 163 (.agg #[]),undef,undef,.iface 163 (.agg #[]),undef,undef,undef,undef,undef,undef,undef,undef,undef,undef,undef,undef,undef,undef],defers:=[]} w;go_wp2;simp[bodyPostS,results,Tryz.results69]
def zF(Z:Nat->Int)(i:Nat):Value:=Vi (Z i)
def wI(s:SV)(Z:Nat->Int):Int:=if s.k=1 then 1 else if s.k=4 then Z s.proc.toNat else 2
def Cs(L:Nat->SV)(Z:Nat->Int):Nat->Int
 |0=>0
 |k+1=>Cs L Z k+wI (L k) Z
theorem jJ{s:SV}(h:∀i,0<=Z i):0<=wI s Z:=by
 unfold wI;split
 ·omega
 ·split
  ·exact h _
  ·omega
theorem vS{s:SV}(h:∀i,Z i<=2001):wI s Z<=2001:=by
 unfold wI;split
 ·omega
 ·split
  ·exact h _
  ·omega
theorem Ej{L:Nat->SV}(h:∀i,0<=Z i){k:Nat}(b:k<=n):Cs L Z k<=Cs L Z n:=by
 induction n with
 |zero=>rw[show k=0 by omega];exact Int.le_refl _
 |succ n a=>
  by_cases e:k=n+1
  ·rw[e];exact Int.le_refl _
  ·have:=a AB
   have:=jJ (s:=L n) h;show Cs L Z k<=Cs L Z n+wI (L n) Z;omega
theorem JZ{L:Nat->SV}(h:∀i,0<=Z i)(k:Nat):0<=Cs L Z k:=Ej h (Nat.zero_le k)
def NQ(x:Int):Int:=if 2000<x then 2001 else x
theorem WH(b n A:Nat)(L:Nat->SV)(bz p X:Nat)(Z:Nat->Int)(w:World)(ln:n<=1048576)(I:Ak w b (n*11) (JW L))(J:At w bz 0 p (zF Z))(z0:∀i,0<=Z i)(z1:∀i,Z i<=2001)(hp:∀j,j<n->(L j).k=4->0<=(L j).proc/\(L j).proc<p):
 Calls Tryz.prog 57 #[Vs b n A,Vs bz p X] w fun e w'=>e=.returned (Vi (NQ (Cs L Z n)))/\w'=w:=by
 have Q:=hxy I;have S:=hxy J;have R:=hxy hp;have z:=hxy z0;have U:=hxy z1;have lb:=I.lt;have aa:=J.lt;obtain⟨ab,d⟩:=Au (NQ (Cs L Z n));rw[d];have u:=hxy d;go_enter Tryz.func57,Tryz.ntmps57;go_wp2;go_loopw [5,6](fun nv C wr=>∃j:Nat,j<=n/\C=Vi (j:Int)/\nv=Vi (Cs L Z j)/\Cs L Z j<=4001/\wr=w)(fun _ C _=>n-(intOf C).toNat)
 case atStart=>exact⟨0,Nat.zero_le _,rfl,rfl,by simp[Cs],rfl⟩
 case round=>
  obtain⟨j,hj,rfl,rfl,h4,rfl⟩:=hrel;have p0:=JZ (L:=L) z j;have HS:Hid (Cs L Z (j+1)=Cs L Z j+wI (L j) Z):=rfl;have s:Hid (Cs L Z j<=Cs L Z n):=Ej z hj;obtain⟨x,N⟩:=Au (Cs L Z j);have a:=hxy N;rw[N]at h4 p0⊢;by_cases h:j<n
  ·have l:(j:Int)<(n:Int):=AB
   obtain⟨s0,_,_,_,_,_,_,_,_,_,D⟩:=Ij Q.out j h;by_cases m:x<=2000
   ·have Y:decide (x<=2000)=true:=by simp[m]
    by_cases r:(L j).k=1
    ·have e1:((L j).k==1)=true:=by simp[r]
     have c:Hid (wI (L j) Z=1):=(by simp[wI,r]:wI (L j) Z=1)
     go_wp2;go_roundw
     case rel=>exact⟨j+1,AB,by go_num,by rw[HS.out,a.out,c.out],by rw[HS.out,a.out,c.out];omega,by first|rfl|trivial⟩
     case measure=>simp[intOf];omega
    ·have e1:((L j).k==1)=false:=by simp[r]
     by_cases o:(L j).k=4
     ·have e4:((L j).k==4)=true:=by simp[o]
      obtain⟨q0,q1⟩:=R.out j h o;obtain⟨q,K⟩:∃y:Nat,(L j).proc=(y:Int):=⟨(L j).proc.toNat,AB⟩
      have c:Hid (wI (L j) Z=Z q):=(by simp[wI,o,K]:wI (L j) Z=Z q)
      rw[K]at D;have B:q<p:=AB;have M:(q:Int)<(p:Int):=AB;have g0:wr.cell? (Va bz q)=some (Vi (Z q)):=by have:=S.cell B;rwa [Nat.zero_add]at this
      have y0:=z.out q;have y1:=U.out q;obtain⟨y,O⟩:=Au (Z q);have E:=hxy O;rw[O]at g0 y0 y1;go_wp2;go_roundw
      case rel=>exact⟨j+1,AB,by go_num,by rw[HS.out,a.out,c.out,E.out],by rw[HS.out,a.out,c.out,E.out];omega,by first|rfl|trivial⟩
      case measure=>simp[intOf];omega
     ·have e4:((L j).k==4)=false:=by simp[o]
      have c:Hid (wI (L j) Z=2):=(by simp[wI,r,o]:wI (L j) Z=2)
      go_wp2;go_roundw
      case rel=>exact⟨j+1,AB,by go_num,by rw[HS.out,a.out,c.out],by rw[HS.out,a.out,c.out];omega,by first|rfl|trivial⟩
      case measure=>simp[intOf];omega
   ·have Y:decide (x<=2000)=false:=by simp;omega
    have F:decide (2000<x)=true:=by simp;omega
    go_wp2;go_ret;exact⟨Ae (by rw[<-u.out,NQ,if_pos (by have:=s.out;rw[a.out]at this;omega)]),rfl⟩
  ·obtain rfl:j=n:=AB
   have l:¬(j:Int)<(j:Int):=AB;by_cases m:x<=2000
   ·have F:decide (2000<x)=false:=by simp;omega
    go_wp2;go_ret;exact⟨Ae (by rw[<-u.out,NQ,a.out,if_neg AB]),rfl⟩
   ·have F:decide (2000<x)=true:=by simp;omega
    go_wp2;go_ret;exact⟨Ae (by rw[<-u.out,NQ,a.out,if_pos AB]),rfl⟩
structure PV where
 n:Nat
 L:Nat->SV
 c:Nat
def zs(Pv:Nat->PV)(np:Nat):Nat->Nat->Int
 |0=>fun _=>0
 |k+1=>fun i=>if i=np-1-k then NQ (Cs (Pv (np-1-k)).L (zs Pv np k) (Pv (np-1-k)).n)else zs Pv np k i
theorem pG{x:Int}(h:0<=x):0<=NQ x/\NQ x<=2001:=by unfold NQ;split<;>omega
theorem oO(L:Nat->SV)(p b d:Int):∀(m i l:Nat)(a:Int),l-i<=m->(DU L p b d i l a).1=0->∀j,i<=j->j<l->BZ (L j) b=true:=by
 intro m;induction m using Nat.strongRecOn with
 |ind m ih=>
 intro i l a B c j A u;have h:i<l:=AB;by_cases n:BZ (L i) b=false
 ·rw[Nb h n]at c;exact absurd c AX
 by_cases o:i+1+(L i).thn.toNat+(L i).els.toNat<=l
 rotate_left
 ·rw[IC h n o]at c;exact absurd c AX
 by_cases s:((L i).k=2∨(L i).k=3)/\d<=a
 ·rw[Jm h n o s]at c;exact absurd c AX
 by_cases x:(L i).k=4/\(L i).proc<=p
 ·rw[Na h n o s x]at c;exact absurd c AX
 rw[LM h n o s x]at c;by_cases q:(DU L p b d (i+1) (i+1+(L i).thn.toNat) (a+1)).1≠0
 ·rw[if_pos q]at c;exact absurd c q
 rw[if_neg q]at c;by_cases r:(DU L p b d (i+1+(L i).thn.toNat) (i+1+(L i).thn.toNat+(L i).els.toNat) (a+1)).1≠0
 ·rw[if_pos r]at c;exact absurd c r
 rw[if_neg r]at c;by_cases e:j=i
 ·rw[e];simpa using n
 by_cases y:j<i+1+(L i).thn.toNat
 ·exact ih (l-i-1) AB (i+1) _ (a+1) AB (by simpa using q) j AB y
 by_cases z:j<i+1+(L i).thn.toNat+(L i).els.toNat
 ·exact ih (l-i-1) AB (i+1+(L i).thn.toNat) _ (a+1) AB (by simpa using r) j AB z
 ·exact ih (l-i-1) AB _ l a AB c j AB u
theorem Rw{s:SV}{z:Int}(h:BZ s z=true)(k:s.k=4):0<=s.proc/\s.proc<z:=by
 unfold BZ at h;rw[if_neg AB,if_neg AB,if_neg AB,if_pos k]at h;have:=of_decide_eq_true h;omega
theorem FQ(h:w.ownsRow l e s v n d)(o:Below w.heap.size w j):j.ownsRow l e s v n d:=by
 refine⟨h.1,?_⟩;rcases h.2 with h|⟨g,a,b,rfl,k,c,m⟩
 ·exact .inl h
 ·have p:g<w.heap.size:=(I8.1 c).1
  exact .inr ⟨g,a,b,rfl,k,(o.block g p).trans c,m⟩
theorem Ii(h:w.ownsRow l e s v n d)(j:0<n):∃g c,v=Vs g n c:=by
 rcases h.2 with⟨_,rfl⟩|⟨g,a,b,rfl,_⟩
 ·omega
 ·exact⟨_,_,rfl⟩
theorem Ak.setU(h:Ak w b n f)(o:Nat)(a:o<n)(v:Value):Ak (w.setCell (Va b o) v) b n (fun i=>if i=o then v else f i):=by
 have:=h.setCells o [v] (by simp;omega);refine Ak.congr (f:=fun i=>if o<=i/\i<o+[v].length then[v].getD (i-o) undef else f i) this fun i _=>?_
 by_cases e:i=o
 ·subst e;simp
 ·rw[if_neg (by simp;omega),if_neg e]
end Go.Proofs.YtjoppncopoampaaGreatDoor
