import Derived.Deep.RegionHeld
import Derived.Below
import Derived.WalkKit
import Derived.WalkSpells
import Derived.Laws.IdiomCopy
import Derived.ProofKit
import Derived.Deep.Slices
import Derived.OrdersHeld
import Derived.Maps.RangeWalk
import Derived.Test.YtkckomianknjdaaGreatRows
import Derived.WalkLawsBesides
set_option maxHeartbeats 400000
namespace Go.Proofs.YtkckomianknjdaaGreat
open Go Go.RowKit
variable {i:Nat}{p:Prop}{w:World}
theorem hxy(h:p):Hid p:=h
abbrev Vi(x:Int):Value:=.int .i64 x
abbrev Vs(b n c:Nat):Value:=.slice (some ⟨b,0,none⟩) n c
abbrev Va(b o:Nat):Addr:=⟨b,o,none⟩
abbrev Vq(b:Nat):Value:=.pointer (some ⟨b,0,none⟩)
theorem BP{n:Nat}:n<=n:=Nat.le_refl n
theorem DY{a b c:Nat}(h:a<b)(k:b<=c):a<c:=Nat.lt_of_lt_of_le h k
theorem Cj{α:Type}{xs:Array α}{b:α}:xs[i]?=some b↔∃h:i<xs.size,xs[i]=b:=Array.getElem?_eq_some_iff
theorem Jw{α:Type}{l:List α}{d:α}:l.getD i d=l[i]?.getD d:=List.getD_eq_getElem?_getD
theorem BG{α:Type}(a:α):∃y,a=y:=⟨_,rfl⟩
theorem Ah{o:Obj}:Below w.heap.size w (w.alloc o):=(Below.refl _ _).alloc (Nat.le_refl _) _
theorem jo{α:Type}{l:List α}(h:i<l.toArray.size):l.toArray[i]'h=l[i]'(by simpa using h):=rfl
theorem jd{α:Type}{a:α}{l:List α}(h:0<(a::l).length):(a::l)[0]'h=a:=rfl
theorem jy{α:Type}{a:α}{l:List α}(h:i+1<(a::l).length):(a::l)[i+1]'h=l[i]'(Nat.lt_of_succ_lt_succ h):=rfl
theorem je{α:Type}{l:List α}{a:α}:l.toArray.setIfInBounds i a=(l.set i a).toArray:=by simp
theorem ja{α:Type}{a b:α}{l:List α}:(a::l).set 0 b=b::l:=rfl
theorem kC{α:Type}{a b:α}{l:List α}{n:Nat}:(a::l).set (n+1) b=a::l.set n b:=rfl
theorem AO{P:Program}{ops:Array Oper}{Q:Exit->Act->World->Prop}{md:Region.Mode}{S:World->Prop}(i:Nat){o:Oper}{fuel:Nat}{listed:Array Bool}{a:Act}(ho:ops[i]?=some o)
 (h:∀K':Act->World->Prop,Shut (∀a w,S w->(S w->wpAnyH P md ops Q S fuel (listed.setIfInBounds i true) a w)->K' a w)->if Region.wanted o (yielded ops a.tmps)=true then Oper.wp P o a w K' Q else K' (a.put o.dst undef) w)
 (hr:Region.ready md ops listed=[i]:=by kernel_rfl):wpAnyH P md ops Q S (fuel+1) listed a w:=wpAnyH_ready hr (List.cons_ne_nil _ _) (AllReadyH.cons ho h AllReadyH.nil)
theorem AB(h:p:=by omega):p:=h
theorem Aa(h:p:=by decide):p:=h
theorem AY(h:p:=by simp):p:=h
theorem Ab(h:p:=by kernel_rfl):p:=h
theorem Al{B:Nat}:Below B w w:=Below.refl B w
abbrev Bw(w w':World):Prop:=Below w.heap.size w w'
abbrev wz(w:World):Nat:=w.heap.size
structure Bx(p:Prop):Prop where
 o:p
theorem BV{q:Prop}(hq:q)(h:Bx q->p:=by(intro hq;(try simp only[Act.put,jo,jd,jy,je,ja,kC]);exact hq.o)):p:=h ⟨hq⟩
abbrev Cb(u:World)(b i:Nat)(v:Value):Prop:=∀w',Below u.heap.size u w'->w'.cell? ⟨b,i,none⟩=some v
end Go.Proofs.YtkckomianknjdaaGreat
namespace Go.Proofs.YtkckomianknjdaaGreat
open Go.RowKit
variable {B b n:Nat}{f:Nat->Value}{D E I S a k v6 v7 v8:Value}{j w:World}
theorem Rj{W K:World}(a:Below W.heap.size W K):(∀b o,b<W.heap.size->K.cell? ⟨b,o,none⟩=W.cell? ⟨b,o,none⟩)/\(∀b o,b<W.heap.size->K.frozen? ⟨b,o,none⟩=W.frozen? ⟨b,o,none⟩):=
 ⟨fun b o h=>a.cell (p:=⟨b,o,none⟩) h,fun b o h=>a.frozen (p:=⟨b,o,none⟩) h⟩
def At(w:World)(b off n:Nat)(f:Nat->Value):Prop:=b<w.heap.size/\∀i,i<n->w.cell? ⟨b,off+i,none⟩=some (f i)
def BZ(w:World)(b n:Nat)(f:Nat->Value):Prop:=b<w.heap.size/\(∀i,w.frozen? ⟨b,i,none⟩=false)/\∀i,i<n->w.cell? ⟨b,i,none⟩=some (f i)
theorem BZ.lt(h:BZ w b n f):b<w.heap.size:=h.1
theorem BZ.free(h:BZ w b n f):∀i,w.frozen? ⟨b,i,none⟩=false:=h.2.1
theorem BZ.cell(h:BZ w b n f){i:Nat}(a:i<n):w.cell? ⟨b,i,none⟩=some (f i):=h.2.2 i a
theorem BZ.at(h:BZ w b n f):At w b 0 n f:=⟨h.1,fun i a=>by rw[Nat.zero_add];exact h.2.2 i a⟩
theorem BZ.congr{g:Nat->Value}(h:BZ w b n f)(e:∀i,i<n->f i=g i):BZ w b n g:=⟨h.1,h.2.1,fun i a=>by rw[h.2.2 i a,e i a]⟩
theorem BZ.below(h:BZ w b n f)(a:Below B w j)(c:b<B):BZ j b n f:=
 ⟨Nat.lt_of_lt_of_le h.1 a.size,fun i=>(a.frozen (p:=⟨b,i,none⟩) c).trans (h.2.1 i),fun i d=>(a.cell (p:=⟨b,i,none⟩) c).trans (h.2.2 i d)⟩
theorem At.lt{k:Nat}(h:At w b k n f):b<w.heap.size:=h.1
theorem At.cell{k:Nat}(h:At w b k n f){i:Nat}(a:i<n):w.cell? ⟨b,k+i,none⟩=some (f i):=h.2 i a
theorem At.below{k:Nat}(h:At w b k n f)(a:Below B w j)(c:b<B):At j b k n f:=
 ⟨Nat.lt_of_lt_of_le h.1 a.size,fun i d=>(a.cell (p:=⟨b,k+i,none⟩) c).trans (h.2 i d)⟩
theorem size_setCells(b:Nat):∀(a:List Value)(o:Nat)(w:World),(w.setCells b o a).heap.size=w.heap.size
 |[],_,_=>rfl
 |v::r,o,w=>by rw[World.setCells,size_setCells b r];simp
theorem below_setCells(a:B<=b):∀(d:List Value)(o:Nat){c w:World},Below B c w->Below B c (w.setCells b o d)
 |[],_,_,_,h=>h
 |v::r,o,_,_,h=>by rw[World.setCells];exact below_setCells a r (o+1) (h.setCell (by simpa using a) v)
theorem BZ.setCells(h:BZ w b n f)(o:Nat)(a:List Value)(e:o+a.length<=n):
 BZ (w.setCells b o a) b n (fun i=>if o<=i/\i<o+a.length then a.getD (i-o) undef else f i):=by
 refine⟨by rw[size_setCells];exact h.1,fun i=>by rw[World.frozen?_setCells];exact h.2.1 i,fun i d=>?_⟩;by_cases g:o<=i/\i<o+a.length
 ·have c:i-o<a.length:=by omega
  have:=World.cell?_setCells_in b a o w (fun j c=>by rw[h.2.2 (o+j) (by omega)];rfl) (i-o) c;rw[show o+(i-o)=i by omega]at this;rw[this];simp[g,List.getD,c]
 ·rw[World.cell?_setCells_out b a o w ⟨b,i,none⟩ (fun _ _=>by simp only;omega),h.2.2 i d]
  simp[g]
theorem BZ.other(h:BZ w b n f){a:Addr}(c:a.block≠b)(v:Value):BZ (w.setCell a v) b n f:=
 ⟨by simpa using h.1,fun i=>by rw[World.frozen?_setCell];exact h.2.1 i,fun i d=>by rw[World.cell?_setCell_other _ _ _ _ (fun e=>c (by rw[e]))];exact h.2.2 i d⟩
def Sd(w:World)(ao:Option Addr)(n:Nat)(f:Nat->Value):Prop:=n=0∨∃b off,ao=some ⟨b,off,none⟩/\At w b off n f
theorem Sd.below{U:Option Addr}(h:Sd w U n f)(d:Below B w j)(c:w.heap.size<=B):Sd j U n f:=by
 rcases h with h|⟨b,a,rfl,h⟩
 ·exact .inl h
 ·exact .inr ⟨b,a,rfl,h.below d (Nat.lt_of_lt_of_le h.lt c)⟩
theorem BX{l e:Nat}(h:w.ownsRow l e 9 (.slice (some ⟨b,0,none⟩) 1 1) 1 [S,a,I,k,E,D,v6,v7,v8]):w.cell? ⟨b,0,none⟩=some S/\w.cell? ⟨b,1,none⟩=some a/\w.cell? ⟨b,2,none⟩=some I/\w.cell? ⟨b,3,none⟩=some k/\w.cell? ⟨b,4,none⟩=some E/\w.cell? ⟨b,5,none⟩=some D/\w.cell? ⟨b,6,none⟩=some v6/\w.cell? ⟨b,7,none⟩=some v7/\w.cell? ⟨b,8,none⟩=some v8:=
 ⟨h.cellAt 0 (by decide),h.cellAt 1 (by decide),h.cellAt 2 (by decide),h.cellAt 3 (by decide),h.cellAt 4 (by decide),h.cellAt 5 (by decide),h.cellAt 6 (by decide),h.cellAt 7 (by decide),h.cellAt 8 (by decide)⟩
theorem Zk(h:∀o,j.cell? ⟨b,o,none⟩=w.cell? ⟨b,o,none⟩)(c:w.cell? ⟨b,0,none⟩=some S)(d:w.cell? ⟨b,1,none⟩=some a)(e:w.cell? ⟨b,2,none⟩=some I)(l:w.cell? ⟨b,3,none⟩=some k)(m:w.cell? ⟨b,4,none⟩=some E)(n:w.cell? ⟨b,5,none⟩=some D)(p:w.cell? ⟨b,6,none⟩=some v6)(q:w.cell? ⟨b,7,none⟩=some v7)(r:w.cell? ⟨b,8,none⟩=some v8):j.cell? ⟨b,0,none⟩=some S/\j.cell? ⟨b,1,none⟩=some a/\j.cell? ⟨b,2,none⟩=some I/\j.cell? ⟨b,3,none⟩=some k/\j.cell? ⟨b,4,none⟩=some E/\j.cell? ⟨b,5,none⟩=some D/\j.cell? ⟨b,6,none⟩=some v6/\j.cell? ⟨b,7,none⟩=some v7/\j.cell? ⟨b,8,none⟩=some v8:=
 ⟨(h 0).trans c,(h 1).trans d,(h 2).trans e,(h 3).trans l,(h 4).trans m,(h 5).trans n,(h 6).trans p,(h 7).trans q,(h 8).trans r⟩
theorem c9b(h:Below B w j)(u:b<B)(c:w.cell? ⟨b,0,none⟩=some S)(d:w.cell? ⟨b,1,none⟩=some a)(e:w.cell? ⟨b,2,none⟩=some I)(l:w.cell? ⟨b,3,none⟩=some k)(m:w.cell? ⟨b,4,none⟩=some E)(n:w.cell? ⟨b,5,none⟩=some D)(q:w.cell? ⟨b,6,none⟩=some v6)(r:w.cell? ⟨b,7,none⟩=some v7)(s:w.cell? ⟨b,8,none⟩=some v8):j.cell? ⟨b,0,none⟩=some S/\j.cell? ⟨b,1,none⟩=some a/\j.cell? ⟨b,2,none⟩=some I/\j.cell? ⟨b,3,none⟩=some k/\j.cell? ⟨b,4,none⟩=some E/\j.cell? ⟨b,5,none⟩=some D/\j.cell? ⟨b,6,none⟩=some v6/\j.cell? ⟨b,7,none⟩=some v7/\j.cell? ⟨b,8,none⟩=some v8:=
 Zk (fun o=>h.cell (p:=⟨b,o,none⟩) u) c d e l m n q r s
theorem Gc{l e:Nat}(h:w.ownsRow l e 6 (.slice (some ⟨b,0,none⟩) 1 1) 1 [S,a,I,k,E,D]):w.cell? ⟨b,0,none⟩=some S/\w.cell? ⟨b,1,none⟩=some a/\w.cell? ⟨b,2,none⟩=some I/\w.cell? ⟨b,3,none⟩=some k/\w.cell? ⟨b,4,none⟩=some E/\w.cell? ⟨b,5,none⟩=some D:=
 ⟨h.cellAt 0 (by decide),h.cellAt 1 (by decide),h.cellAt 2 (by decide),h.cellAt 3 (by decide),h.cellAt 4 (by decide),h.cellAt 5 (by decide)⟩
theorem jV(h:∀o,j.cell? ⟨b,o,none⟩=w.cell? ⟨b,o,none⟩)(c:w.cell? ⟨b,0,none⟩=some S)(d:w.cell? ⟨b,1,none⟩=some a)(e:w.cell? ⟨b,2,none⟩=some I)(l:w.cell? ⟨b,3,none⟩=some k)(m:w.cell? ⟨b,4,none⟩=some E)(n:w.cell? ⟨b,5,none⟩=some D):j.cell? ⟨b,0,none⟩=some S/\j.cell? ⟨b,1,none⟩=some a/\j.cell? ⟨b,2,none⟩=some I/\j.cell? ⟨b,3,none⟩=some k/\j.cell? ⟨b,4,none⟩=some E/\j.cell? ⟨b,5,none⟩=some D:=
 ⟨(h 0).trans c,(h 1).trans d,(h 2).trans e,(h 3).trans l,(h 4).trans m,(h 5).trans n⟩
theorem JY(h:Below B w j)(q:b<B)(c:w.cell? ⟨b,0,none⟩=some S)(d:w.cell? ⟨b,1,none⟩=some a)(e:w.cell? ⟨b,2,none⟩=some I)(l:w.cell? ⟨b,3,none⟩=some k)(m:w.cell? ⟨b,4,none⟩=some E)(n:w.cell? ⟨b,5,none⟩=some D):j.cell? ⟨b,0,none⟩=some S/\j.cell? ⟨b,1,none⟩=some a/\j.cell? ⟨b,2,none⟩=some I/\j.cell? ⟨b,3,none⟩=some k/\j.cell? ⟨b,4,none⟩=some E/\j.cell? ⟨b,5,none⟩=some D:=
 jV (fun o=>h.cell (p:=⟨b,o,none⟩) q) c d e l m n
end Go.Proofs.YtkckomianknjdaaGreat
namespace Go.Proofs.YtkckomianknjdaaGreat
open Go.ChangeShapes Go.WideShapes Go.ChangeAt Go.RowKit Go.Deep
theorem open_row{H:Type}{s:TypeId×Value->H}{P:Program}{w:World}{l:Nat}{L:Nat->Bool}{B:Bool}{t e:TypeId}{q K:Nat}{U:Option Addr}{u Y:Nat}{x:DataW H×List MemPlace}
 (ht:P.underlying t=some (.slice e))(hK:P.cellsOf e=K)(d:0<K)(h:DataW.trod s P w l L B q t [.slice U u Y]=some x):
 u<=maxLen/\∃f:Nat->Value,Sd w U (u*K) f/\∀i,i<u->∃n y,DataW.trod s P w l L B n e ((List.range K).map fun j=>f (i*K+j))=some y:=by
 rcases open_slice ht h with⟨M,_⟩|⟨a,aa,S,m,n,D,Pl,C,hb,hl,hm,Q,_,Z⟩
 ·simp only[List.cons.injEq,Value.slice.injEq,and_true]at M
  obtain⟨_,rfl,_⟩:=M;exact⟨Nat.zero_le _,fun _=>undef,.inl (by simp),fun i O=>by omega⟩
 ·simp only[List.cons.injEq,Value.slice.injEq,and_true]at C
  obtain⟨rfl,rfl,rfl⟩:=C;have ab:u<=m:=by rw[Q];split<;>omega
  refine⟨by omega,?_⟩;rw[hK]at Z;obtain⟨c,X⟩:=choose_lt (n:=m) (p:=fun i A=>w.cells? l (a.add (i*K)) K=some A/\DataW.trod s P w l L B n e A=some (D i,Pl i)) Z;have o:∀i,i<m->(c i).length=K/\∀j,j<K->w.cell? (a.add (i*K+j))=(c i)[j]?:=by
   intro i O;obtain⟨_,F,N⟩:=World.cells?_some (X i O).1;refine⟨F,fun j E=>?_⟩;rw[<-add_add];exact N j E
  refine⟨fun p=>(c (p/K)).getD (p%K) undef,?_,fun i O=>⟨n,(D i,Pl i),?_⟩⟩
  ·by_cases M:u=0
   ·subst M;exact .inl (by simp)
   ·right
    obtain⟨b,J,r⟩:=a;have k:∀p,p<u*K->w.cell? ((⟨b,J,r⟩:Addr).add p)=some ((c (p/K)).getD (p%K) undef):=by
     intro p R;have h1:=(Nat.div_lt_iff_lt_mul d).2 R;have h2:p%K<K:=Nat.mod_lt _ d;obtain⟨q1,q2⟩:=o (p/K) (by omega);have:=q2 (p%K) h2;rw[show p/K*K+p%K=p by rw[Nat.mul_comm];exact Nat.div_add_mod p K]at this;rw[this,List.getD_eq_getElem?_getD,List.getElem?_eq_getElem (by omega)];rfl
    have I:0<u*K:=Nat.mul_pos (by omega) d;have z:r=none:=by simpa[Addr.add]using World.cell?_spot (k 0 I)
    subst z;refine⟨b,J,rfl,?_,fun p R=>?_⟩
    ·have:=k 0 I
     exact block_lt_of_cell this
    ·rw[<-Go.WideShapes.add_plain];exact k p R
  ·have e1:((List.range K).map fun j=>(c ((i*K+j)/K)).getD ((i*K+j)%K) undef)=c i:=by
    obtain⟨q1,_⟩:=o i (by omega);apply List.ext_getElem?;intro j;by_cases E:j<K
    ·rw[List.getElem?_map,List.getElem?_range E]
     simp only[Option.map_some];rw[show(i*K+j)/K=i by rw[Nat.mul_comm,Nat.mul_add_div d,Nat.div_eq_of_lt E];rfl,show(i*K+j)%K=j by rw[Nat.mul_comm,Nat.mul_add_mod];exact Nat.mod_eq_of_lt E];rw[List.getD_eq_getElem?_getD,List.getElem?_eq_getElem (by omega)];rfl
    ·rw[List.getElem?_eq_none (by simp;omega),List.getElem?_eq_none (by omega)]
   rw[e1];exact(X i (by omega)).2
end Go.Proofs.YtkckomianknjdaaGreat
namespace Go.Proofs.YtkckomianknjdaaGreat
open Go.RowKit
def Fx(op:Int):List UInt8:=
 if op=1 then[68,65]else if op=2 then[68,73]
 else if op=10∨op=11∨op=12∨op=13 then[68,65,73]
 else if op=17 then[65,66]else if op=18 then[65,73]
 else if op=21∨op=22∨op=23∨op=24 then[68,65,73,72]
 else if op=25∨op=26∨op=27∨op=28 then[68,65,66,72]
 else if op=29∨op=30∨op=31∨op=32∨op=33 then[73]
 else if op=34 then[]else[68,65,66]
def Ag(op:Int):ByteArray:=⟨(Fx op).toArray⟩
def Gg(op:Int):Int:=
 if op=1 then 3 else if op=2 then 9
 else if op=10∨op=11∨op=12∨op=13 then 11
 else if op=17 then 6 else if op=18 then 10
 else if op=21∨op=22∨op=23∨op=24 then 27
 else if op=25∨op=26∨op=27∨op=28 then 23
 else if op=29∨op=30∨op=31∨op=32∨op=33 then 8
 else if op=34 then 0 else 7
def Cv(op:Int):Int:=if op=11∨op=12∨op=13∨(29<=op/\op<=33)then 0 else -1000000
def DI(op:Int):Int:=if op=12∨op=13 then 63 else if 29<=op/\op<=33 then 1999 else 1000000
def Dm(x lo hi:Int):Bool:=decide (lo<=x)&&decide (x<=hi)
def Df(op:Int):Bool:=decide (29<=op)&&decide (op<=33)
def Da(used:Bool)(v lo hi:Int):Bool:=if used then Dm v lo hi else v==0
def hasB(s:ByteArray)(b:UInt8):Bool:=s.data.toList.contains b
theorem AZ{a b:Bool}(h:a=b):Ending.returned (.bool a)=.returned (.bool b):=by rw[h]
theorem Bb{k:IntKind}{a b:Int}(h:a=b):Ending.returned (.int k a)=.returned (.int k b):=by rw[h]
theorem Yi{a b:ByteArray}(h:a=b):Ending.returned (.string a)=.returned (.string b):=by rw[h]
theorem U9(s:ByteArray)(k:Nat)(h:k<s.size):s.data.toList.take (k+1)=s.data.toList.take k++[s[k]]:=by
 rw[List.take_succ_eq_append_getElem (by simpa using h)];rfl
theorem WO{k l:IntKind}{a b c d:Int}(h:a=b)(g:c=d):Ending.returned (.tuple #[.int k a,.int l c])=.returned (.tuple #[.int k b,.int l d]):=by rw[h,g]
theorem Zb(s:ByteArray)(b:UInt8)(k:Nat)(a:k<s.size)(h:((s[k].toNat:Int)==(b.toNat:Int))=true):hasB s b=true:=by
 have e:s[k]=b:=by rw[beq_iff_eq]at h;exact UInt8.toNat_inj.1 (by omega)
 unfold hasB;rw[List.contains_iff_mem];rw[<-e];have:s[k]=s.data.toList[k]'(by simpa using a):=rfl;rw[this];exact List.getElem_mem _
theorem iI(s:ByteArray)(b:UInt8)(k:Nat)(h:(s.data.toList.take k).contains b=false){a:k<s.size}(e:s.data.toList.take (k+1)=s.data.toList.take k++[s[k]])(g:((s[k].toNat:Int)==(b.toNat:Int))=false):
 (s.data.toList.take (k+1)).contains b=false:=by
 rw[e];have n:s[k]≠b:=by intro x;rw[x]at g;simp at g
 simp only[List.contains_eq_mem,decide_eq_false_iff_not]at h;simp only[List.contains_eq_mem,decide_eq_false_iff_not,List.mem_append,List.mem_singleton,not_or];exact⟨h,fun x=>n x.symm⟩
theorem Zh(s:ByteArray)(b:UInt8)(k:Nat)(_hk:k<=s.size)(a:s.size<=k)(h:(s.data.toList.take k).contains b=false):hasB s b=false:=by
 rw[List.take_of_length_le (by simpa using a)]at h;exact h
def Cl(w:World)(b:Nat)(vs:List Value):Prop:=b<w.heap.size/\∀i,i<vs.length->w.cell? ⟨b,i,none⟩=some (vs.getD i undef)
theorem Cl.below{w j:World}{b:Nat}{R:List Value}(h:Cl w b R)(a:Below w.heap.size w j):Cl j b R:=
 ⟨Nat.lt_of_lt_of_le h.1 a.size,fun i c=>(a.cell (p:=⟨b,i,none⟩) h.1).trans (h.2 i c)⟩
theorem Cl.new{w:World}{vs:Array Value}{t:TypeId}:Cl (w.alloc (.cells vs t)) w.heap.size vs.toList:=
 ⟨by simp,fun i a=>by simp[go_sem,List.getD_eq_getElem?_getD]at a⊢;simp[a]⟩
end Go.Proofs.YtkckomianknjdaaGreat
namespace Go.Proofs.YtkckomianknjdaaGreat
open Go
variable {a m:Act}{b z:Array Bool}{L:List Nat}{i j q:Nat}{N:Oper}{X p:Prop}{v:Value}{w:World}
section
variable{P:Program}{ops:Array Oper}{Q:Exit->Act->World->Prop}{md:Region.Mode}{T:World->Prop}{s:Nat}
def wpAnyL(P:Program)(md:Region.Mode)(ops:Array Oper)(Q:Exit->Act->World->Prop)(T:World->Prop)(s:Nat):Nat->Array Bool->Act->World->Prop
 |0,listed,a,w=>Region.ready md ops listed=[]/\Q .normal a w
 |fuel+1,listed,a,w=>
  (Region.ready md ops listed=[]->Q .normal a w)/\
  ∀i∈Region.ready md ops listed,wpOp P ops Q i (fun a' w'=>(i≠s->T w')/\wpAnyL P md ops Q T s fuel (listed.setIfInBounds i true) a' w') a w
theorem Me:∀(b:Nat)(c:Array Bool)(a:Act)(w:World),wpAnyL P md ops Q T s b c a w->wpAny P md ops Q b c a w
 |0,_,_,_,h=>h
 |b+1,_,_,_,h=>⟨h.1,fun i j=>wpOp_mono (fun d k e=>Me b _ d k e.2) (h.2 i j)⟩
def waits(md:Region.Mode)(ops:Array Oper)(s i:Nat):Bool:=match ops[s]? with
 |some o=>o.after.any fun e=>Region.binds md e&&e.on==i
 |none=>false
theorem Jf{o:Oper}(h:waits md ops s i=true)(c:ops[s]?=some o):∃e∈o.after,Region.binds md e=true/\e.on=i:=by
 unfold waits at h;rw[c]at h;simp only[Array.any_eq_true]at h;obtain⟨k,b,a⟩:=h;simp only[Bool.and_eq_true,beq_iff_eq]at a;exact⟨_,Array.getElem_mem b,a⟩
theorem Ni{h:Oper}(r:i∈Region.ready md ops z)(q:j∈Region.ready md ops z)(k:ops[j]?=some h):∀e∈h.after,Region.binds md e=true->e.on≠i:=by
 intro e p n d;obtain⟨_,o,m,c⟩:=mem_ready.1 q;have l:o=h:=by rw[k]at m;exact(Option.some.inj m).symm
 subst l;have on:=c e p n;have b:=(mem_ready.1 r).1;rw[d]at on;by_cases a:i<z.size
 ·simp[a]at on b
  rw[b]at on;cases on
 ·simp[Array.getElem?_eq_none (Nat.le_of_not_lt a)]at on
def Clear(md:Region.Mode)(ops:Array Oper)(i:Nat)(oi:Oper)(listed:Array Bool):Prop:=
 ∀j oj,ops[j]?=some oj->j≠i->listed.getD j true=false->(∀e∈oj.after,Region.binds md e=true->e.on≠i)->oi.apart ops oj=true
theorem Clear.more(h:Clear md ops i N z)(d:j∈Region.ready md ops z):Clear md ops i N (z.setIfInBounds j true):=by
 intro k l e b c;refine h k l e b ?_;by_cases a:j=k
 ·subst a;exact(mem_ready.1 d).1
 ·rwa [getD_set_ne true a]at c
theorem wpAnyL_first(z:ops[i]?=some N)(m:∀(j:Nat)(o:Oper)r b,ops[j]?=some o->o.op≠ .select r b)
 (I:∀c a w,Q (.panic c) (a.put N.dst v) w->Q (.panic c) a w)(B:waits md ops s i=true):
 ∀(k:Nat)(d:Array Bool)(a:Act)(w:World),Clear md ops i N d->i∈Region.ready md ops d->YieldsIf P ops T N v a->T w->
  wpAnyL P md ops Q T s k (d.setIfInBounds i true) (a.put N.dst v) w->wpAnyL P md ops Q T s (k+1) d a w:=by
 intro k;induction k with
 |zero=>
  intro d a w _ p y u H;constructor
  ·intro none;rw[none]at p;cases p
  ·intro j q
   by_cases h:j=i
   ·subst h;exact y.wpOp z u ⟨fun _=>u,H⟩
   ·exact absurd (ready_mono q h) (by rw[H.1];simp)
 |succ n L=>
  intro d a w hcl p y u H;constructor
  ·intro none;rw[none]at p;cases p
  ·intro j q
   by_cases h:j=i
   ·subst h;exact y.wpOp z u ⟨fun _=>u,H⟩
   ·obtain⟨R,D,l,_⟩:=mem_ready.1 q
    have C:=Ni p q l;have M:j≠s:=by
     intro e;subst e;obtain⟨e,K,J,A⟩:=Jf B l;exact C e K J A
    have x:=wpOp_putIf l (hcl j D l h R C) (fun r b=>m i N r b z) (fun r b=>m j D r b l) I y (H.2 j (ready_mono q h));refine wpOp_mono (fun F S⟨U,E,O⟩=>⟨E,L _ F S (hcl.more q) (ready_mono p (Ne.symm h)) U (E M) ?_⟩) x;rw[Array.setIfInBounds_comm _ _ h];exact O
theorem RY(d:ops[i]?=some N)
 (m:Region.noSelect ops=true)(k:Region.free md ops z i=true)(l:(Region.ready md ops z).contains i=true)(b:waits md ops s i=true)
 (e:∀c a w,Q (.panic c) (a.put N.dst v) w->Q (.panic c) a w)(n:YieldsIf P ops T N v a)(j:T w)
 (h:wpAnyL P md ops Q T s q (z.setIfInBounds i true) (a.put N.dst v) w):wpAnyL P md ops Q T s (q+1) z a w:=
 wpAnyL_first d (Region.noSelect_spec m) e b q z a w (Region.free_spec d k) (by simpa using l) n j h
theorem VK(i:Nat)(v:Value)(k:ops[i]?=some N)(o:∀w,T w->(execOp a.eval N).run P w=.ok (.value v) w)
 (h:wpAnyL P md ops Q T s q (z.setIfInBounds i true) (a.put N.dst v) w)
 (n:Region.wanted N (yielded ops a.tmps)=true:=by kernel_rfl)(m:Region.noSelect ops=true:=by kernel_rfl)(j:Region.free md ops z i=true:=by kernel_rfl)(l:(Region.ready md ops z).contains i=true:=by kernel_rfl)(b:waits md ops s i=true:=by kernel_rfl)
 (d:∀c a w,Q (.panic c) (a.put N.dst v) w->Q (.panic c) a w:=by exact fun _ _ _ h=>h)(e:T w:=by assumption):wpAnyL P md ops Q T s (q+1) z a w:=
 RY k m j l b d (Or.inl ⟨n,o⟩) e h
theorem Ky(i:Nat)(v:Value)(j:ops[i]?=some N)(n:∀w,T w->(execOp a.eval N).run P w=.ok (.value v) w)
 (h:wpAnyH P md ops Q T q (z.setIfInBounds i true) (a.put N.dst v) w)
 (m:Region.wanted N (yielded ops a.tmps)=true:=by kernel_rfl)(l:Region.noSelect ops=true:=by kernel_rfl)(e:Region.free md ops z i=true:=by kernel_rfl)(k:(Region.ready md ops z).contains i=true:=by kernel_rfl)
 (b:∀c a w,Q (.panic c) (a.put N.dst v) w->Q (.panic c) a w:=by exact fun _ _ _ h=>h)(d:T w:=by assumption):wpAnyH P md ops Q T (q+1) z a w:=
 wpAnyH_take j l e k b (Or.inl ⟨m,n⟩) d h
structure Bl(q:Prop):Prop where
 o:q
def Tk(_:List Nat)(p:Prop):Prop:=p
theorem Bl.e{q:Prop}(h:Bl q):Tk [] q:=h.o
theorem Ao(i:Nat){e:Array Bool}(h:wpAnyH P md ops Q T q e m w)(n:ops[i]?=some N:=by rfl)
 (p:(Region.ready md ops z).contains i=true:=by kernel_rfl)(l:Region.free md ops z i=true:=by kernel_rfl)(s:Region.wanted N (yielded ops a.tmps)=true:=by kernel_rfl)(r:Region.noSelect ops=true:=by kernel_rfl)
 (u:∀w,T w->(execOp a.eval N).run P w=.ok (.value v) w:=by(intro w b;(try dsimp only at b);go_simp;try with_reducible rfl))
 (k:a.put N.dst v=m:=by((try simp only[Act.put,jo,jd,jy,je,ja,kC]);rfl))(o:z.setIfInBounds i true=e:=by((try simp only[List.getElem_toArray,List.getElem_cons_zero,List.getElem_cons_succ,List.setIfInBounds_toArray,List.set_cons_zero,List.set_cons_succ]);rfl))
 (d:∀c a w,Q (.panic c) (a.put N.dst v) w->Q (.panic c) a w:=by exact fun _ _ _ h=>h)(j:T w:=by assumption):wpAnyH P md ops Q T (q+1) z a w:=by
 subst k o;exact Ky i v n u h s r l p d j
theorem BR(i:Nat){e:Array Bool}(h:wpAnyL P md ops Q T s q e m w)(o:ops[i]?=some N:=by rfl)
 (r:(Region.ready md ops z).contains i=true:=by kernel_rfl)(n:Region.free md ops z i=true:=by kernel_rfl)(x:Region.wanted N (yielded ops a.tmps)=true:=by kernel_rfl)(u:Region.noSelect ops=true:=by kernel_rfl)(d:waits md ops s i=true:=by kernel_rfl)
 (y:∀w,T w->(execOp a.eval N).run P w=.ok (.value v) w:=by(intro w b;(try dsimp only at b);go_simp;try with_reducible rfl))
 (l:a.put N.dst v=m:=by((try simp only[Act.put,jo,jd,jy,je,ja,kC]);rfl))(p:z.setIfInBounds i true=e:=by((try simp only[List.getElem_toArray,List.getElem_cons_zero,List.getElem_cons_succ,List.setIfInBounds_toArray,List.set_cons_zero,List.set_cons_succ]);rfl))
 (j:∀c a w,Q (.panic c) (a.put N.dst v) w->Q (.panic c) a w:=by exact fun _ _ _ h=>h)(k:T w:=by assumption):wpAnyL P md ops Q T s (q+1) z a w:=by
 subst l p;exact VK i v o y h x u n r d j k
theorem lV{e:Array Bool}(h:X->Tk L (wpAnyH P md ops Q T q e m w))(o:ops[i]?=some N:=by rfl)
 (r:(Region.ready md ops b).contains i=true:=by kernel_rfl)(n:Region.free md ops b i=true:=by kernel_rfl)(u:Region.wanted N (yielded ops a.tmps)=true:=by kernel_rfl)(s:Region.noSelect ops=true:=by kernel_rfl)
 (x:∀w,T w->(execOp a.eval N).run P w=.ok (.value v) w:=by(intro w d;(try dsimp only at d);go_simp;try with_reducible rfl))
 (l:a.put N.dst v=m:=by((try simp only[Act.put,jo,jd,jy,je,ja,kC]);rfl))(p:b.setIfInBounds i true=e:=by((try simp only[List.getElem_toArray,List.getElem_cons_zero,List.getElem_cons_succ,List.setIfInBounds_toArray,List.set_cons_zero,List.set_cons_succ]);rfl))
 (j:∀c a w,Q (.panic c) (a.put N.dst v) w->Q (.panic c) a w:=by exact fun _ _ _ h=>h)(k:T w:=by assumption):X->Tk (i::L) (wpAnyH P md ops Q T (q+1) b a w):=
 fun z=>Ao i (h z) o r n u s x l p j k
theorem lM(l:List Nat){q:Prop}(a:q)(h:Bl q->Tk l p:=by((repeat refine lV ?_);exact Bl.e)):p:=h ⟨a⟩
theorem lW{e:Array Bool}(h:X->Tk L (wpAnyL P md ops Q T s q e m w))(p:ops[i]?=some N:=by rfl)
 (u:(Region.ready md ops b).contains i=true:=by kernel_rfl)(o:Region.free md ops b i=true:=by kernel_rfl)(y:Region.wanted N (yielded ops a.tmps)=true:=by kernel_rfl)(x:Region.noSelect ops=true:=by kernel_rfl)(j:waits md ops s i=true:=by kernel_rfl)
 (A:∀w,T w->(execOp a.eval N).run P w=.ok (.value v) w:=by(intro w d;(try dsimp only at d);go_simp;try with_reducible rfl))
 (n:a.put N.dst v=m:=by((try simp only[Act.put,jo,jd,jy,je,ja,kC]);rfl))(r:b.setIfInBounds i true=e:=by((try simp only[List.getElem_toArray,List.getElem_cons_zero,List.getElem_cons_succ,List.setIfInBounds_toArray,List.set_cons_zero,List.set_cons_succ]);rfl))
 (k:∀c a w,Q (.panic c) (a.put N.dst v) w->Q (.panic c) a w:=by exact fun _ _ _ h=>h)(l:T w:=by assumption):X->Tk (i::L) (wpAnyL P md ops Q T s (q+1) b a w):=
 fun z=>BR i (h z) p u o y x j A n r k l
theorem lS(l:List Nat){q:Prop}(a:q)(h:Bl q->Tk l p:=by((repeat refine lW ?_);exact Bl.e)):p:=h ⟨a⟩
theorem AV(i:Nat)(j:ops[i]?=some N)
 (h:wpAnyH P md ops Q T q (z.setIfInBounds i true) (a.put N.dst undef) w)
 (m:Region.wanted N (yielded ops a.tmps)=false:=by kernel_rfl)(l:Region.noSelect ops=true:=by kernel_rfl)(e:Region.free md ops z i=true:=by kernel_rfl)(k:(Region.ready md ops z).contains i=true:=by kernel_rfl)
 (b:∀c a w,Q (.panic c) (a.put N.dst undef) w->Q (.panic c) a w:=by exact fun _ _ _ h=>h)(d:T w:=by assumption):wpAnyH P md ops Q T (q+1) z a w:=
 wpAnyH_take j l e k b (Or.inr ⟨m,rfl⟩) d h
theorem Ac(n:ops[i]?=some N)(k:Region.ready md ops z=[i])
 (h:∀b:Act->World->Prop,Shut (∀a w,T w->(T w->wpAnyL P md ops Q T s q (z.setIfInBounds i true) a w)->b a w)->if Region.wanted N (yielded ops a.tmps)=true then Oper.wp P N a w b Q else b (a.put N.dst undef) w):
 wpAnyL P md ops Q T s (q+1) z a w:=
 ⟨fun c=>(by rw[k]at c;cases c),fun j e=>by
   rw[k]at e;obtain rfl:j=i:=by simpa using e
   exact wpOp_step n fun b l=>h b fun a w d m=>l a w ⟨fun _=>d,m d⟩⟩
theorem Ai(c:ops[s]?=some N)(m:Region.ready md ops z=[s])(e:Region.ready md ops (z.setIfInBounds s true)=[])
 (h:∀b:Act->World->Prop,Shut (∀a w,Q .normal a w->b a w)->if Region.wanted N (yielded ops a.tmps)=true then Oper.wp P N a w b Q else b (a.put N.dst undef) w):
 wpAnyL P md ops Q T s (q+1) z a w:=
 ⟨fun d=>(by rw[m]at d;cases d),fun j k=>by
   rw[m]at k;obtain rfl:j=s:=by simpa using k
   refine wpOp_step c fun b o=>h b fun a w l=>o a w ⟨fun h=>absurd rfl h,?_⟩
   cases q with
   |zero=>exact⟨e,l⟩
   |succ n=>exact⟨fun _=>l,fun i c=>by rw[e]at c;cases c⟩⟩
theorem Ak{id:Nat}(c:P.follows .mixedOrders=true)(b:T w.drew)
 (h:T w.drew->wpAnyL P .any ops Q T s ops.size (Array.replicate ops.size false) a w.drew):(Code.region id ops true).wp P Q a w:=
 wp_region_any c (Me _ _ _ _ (h b))
end
section
variable{P:Program}{ops:Array Oper}{Q:Exit->Act->World->Prop}{md:Region.Mode}{T:World->Prop}{s:Nat}
def Gw(md:Region.Mode)(ops:Array Oper):Nat->Nat->Nat->Bool
 |0,s,i=>waits md ops s i
 |n+1,s,i=>waits md ops s i||(List.range ops.size).any fun k=>waits md ops s k&&Gw md ops n k i
def Closed(md:Region.Mode)(ops:Array Oper)(listed:Array Bool):Prop:=
 ∀j oj,ops[j]?=some oj->listed.getD j false=true->∀e∈oj.after,Region.binds md e=true->listed.getD e.on false=true
def Ki(md:Region.Mode)(ops:Array Oper)(listed:Array Bool):Bool:=
 (List.range ops.size).all fun j=>!(listed.getD j false)||match ops[j]? with
   |some o=>o.after.all fun e=>!(Region.binds md e)||listed.getD e.on false
   |none=>true
theorem VA(h:Ki md ops z=true):Closed md ops z:=by
 intro j l b k e d c;unfold Ki at h;rw[List.all_eq_true]at h;have a:j<ops.size:=(Array.getElem?_eq_some_iff.1 b).1;have:=h j (List.mem_range.2 a);rw[k,b]at this;simp only[Bool.not_true,Bool.false_or,Array.all_eq_true_iff_forall_mem]at this;have:=this e d;rw[c]at this;simpa using this
theorem Ql{h:Oper}(m:j∈Region.ready md ops z)(b:ops[j]?=some h):∀e∈h.after,Region.binds md e=true->z.getD e.on false=true:=by
 intro e l k;obtain⟨_,o,d,a⟩:=mem_ready.1 m;have c:o=h:=by rw[b]at d;exact(Option.some.inj d).symm
 subst c;exact a e l k
theorem Fb(a:Closed md ops z):∀n k i,z.getD k false=true->Gw md ops n k i=true->z.getD i false=true
 |0,k,i,hk,h=>by
  unfold Gw waits at h;cases ho:ops[k]? with
  |none=>rw[ho]at h;cases h
  |some o=>
   obtain⟨e,j,d,c⟩:=Jf (s:=k) (i:=i) h ho;rw[<-c];exact a k o ho hk e j d
 |n+1,k,i,hk,h=>by
  unfold Gw at h;rw[Bool.or_eq_true]at h;rcases h with h|h
  ·exact Fb a 0 k i hk h
  ·rw[List.any_eq_true]at h
   obtain⟨m,_,b⟩:=h;rw[Bool.and_eq_true]at b;exact Fb a n m i (Fb a 0 k m hk b.1) b.2
theorem Qe(q:Closed md ops z){n:Nat}(d:j∈Region.ready md ops z)(h:Gw md ops n j i=true):z.getD i false=true:=by
 obtain⟨_,o,l,_⟩:=mem_ready.1 d;have a:∀k,waits md ops j k=true->z.getD k false=true:=fun k s=>by
  obtain⟨e,r,p,c⟩:=Jf s l;rw[<-c];exact Ql d l e r p
 cases n with
 |zero=>exact a i h
 |succ n=>
  unfold Gw at h;rw[Bool.or_eq_true]at h;rcases h with h|h
  ·exact a i h
  ·rw[List.any_eq_true]at h
   obtain⟨m,_,b⟩:=h;rw[Bool.and_eq_true]at b;exact Fb q n m i (a m b.1) b.2
theorem Closed.more(h:Closed md ops z)(n:j∈Region.ready md ops z):Closed md ops (z.setIfInBounds j true):=by
 have m:∀k,z.getD k false=true->(z.setIfInBounds j true).getD k false=true:=by
  intro k b;by_cases e:j=k
  ·subst e
   have a:j<z.size:=by
    by_cases a:j<z.size
    ·exact a
    ·rw[Array.getD_eq_getD_getElem?,Array.getElem?_eq_none (Nat.le_of_not_lt a)]at b;cases b
   simp[Array.getD_eq_getD_getElem?,a]
  ·rw[Array.getD_eq_getD_getElem?,Array.getElem?_setIfInBounds,if_neg e,<-Array.getD_eq_getD_getElem?];exact b
 intro k o b l e d c;by_cases q:j=k
 ·subst q;exact m _ (Ql n b e d c)
 ·refine m _ (h k o b ?_ e d c)
  rw[Array.getD_eq_getD_getElem?,Array.getElem?_setIfInBounds,if_neg q,<-Array.getD_eq_getD_getElem?]at l;exact l
theorem Oa{n:Nat}(B:ops[i]?=some N)(r:∀(j:Nat)(o:Oper)u b,ops[j]?=some o->o.op≠ .select u b)
 (I:∀c a w,Q (.panic c) (a.put N.dst v) w->Q (.panic c) a w)(C:Gw md ops n s i=true):
 ∀(k:Nat)(d:Array Bool)(a:Act)(w:World),Closed md ops d->Clear md ops i N d->i∈Region.ready md ops d->YieldsIf P ops T N v a->T w->
  wpAnyL P md ops Q T s k (d.setIfInBounds i true) (a.put N.dst v) w->wpAnyL P md ops Q T s (k+1) d a w:=by
 intro k;induction k with
 |zero=>
  intro d a w _ _ q A x H;constructor
  ·intro none;rw[none]at q;cases q
  ·intro j p
   by_cases h:j=i
   ·subst h;exact A.wpOp B x ⟨fun _=>x,H⟩
   ·exact absurd (ready_mono p h) (by rw[H.1];simp)
 |succ n J=>
  intro d a w y hcl q A x H;constructor
  ·intro none;rw[none]at q;cases q
  ·intro j p
   by_cases h:j=i
   ·subst h;exact A.wpOp B x ⟨fun _=>x,H⟩
   ·obtain⟨O,D,m,_⟩:=mem_ready.1 p
    have M:=Ni q p m;have K:j≠s:=by
     intro e;subst e;have on:=Qe y p C;have l:=(mem_ready.1 q).1;rw[Array.getD_eq_getD_getElem?]at on l;cases hq:d[i]? with
     |none=>rw[hq]at on;cases on
     |some b=>rw[hq]at on l;simp at on l;rw[on]at l;cases l
    have z:=wpOp_putIf m (hcl j D m h O M) (fun u b=>r i N u b B) (fun u b=>r j D u b m) I A (H.2 j (ready_mono p h));refine wpOp_mono (fun F R⟨S,E,L⟩=>⟨E,J _ F R (y.more p) (hcl.more p) (ready_mono q (Ne.symm h)) S (E K) ?_⟩) z;rw[Array.setIfInBounds_comm _ _ h];exact L
theorem Ct(d:ops[i]?=some N)
 (m:Region.noSelect ops=true)(k:Region.free md ops z i=true)(l:(Region.ready md ops z).contains i=true)(b:(Gw md ops 6 s i&&Ki md ops z)=true)
 (e:∀c a w,Q (.panic c) (a.put N.dst v) w->Q (.panic c) a w)(n:YieldsIf P ops T N v a)(j:T w)
 (h:wpAnyL P md ops Q T s q (z.setIfInBounds i true) (a.put N.dst v) w):wpAnyL P md ops Q T s (q+1) z a w:=
 Oa d (Region.noSelect_spec m) e (Bool.and_eq_true _ _▸b).1 q z a w (VA (Bool.and_eq_true _ _▸b).2) (Region.free_spec d k) (by simpa using l) n j h
theorem UI(i:Nat)(v:Value)(k:ops[i]?=some N)(o:∀w,T w->(execOp a.eval N).run P w=.ok (.value v) w)
 (h:wpAnyL P md ops Q T s q (z.setIfInBounds i true) (a.put N.dst v) w)
 (n:Region.wanted N (yielded ops a.tmps)=true:=by kernel_rfl)(m:Region.noSelect ops=true:=by kernel_rfl)(j:Region.free md ops z i=true:=by kernel_rfl)(l:(Region.ready md ops z).contains i=true:=by kernel_rfl)(b:(Gw md ops 6 s i&&Ki md ops z)=true:=by kernel_rfl)
 (d:∀c a w,Q (.panic c) (a.put N.dst v) w->Q (.panic c) a w:=by exact fun _ _ _ h=>h)(e:T w:=by assumption):wpAnyL P md ops Q T s (q+1) z a w:=
 Ct k m j l b d (Or.inl ⟨n,o⟩) e h
theorem Aj(i:Nat){e:Array Bool}(h:wpAnyL P md ops Q T s q e m w)(o:ops[i]?=some N:=by rfl)
 (r:(Region.ready md ops z).contains i=true:=by kernel_rfl)(n:Region.free md ops z i=true:=by kernel_rfl)(x:Region.wanted N (yielded ops a.tmps)=true:=by kernel_rfl)(u:Region.noSelect ops=true:=by kernel_rfl)(d:(Gw md ops 6 s i&&Ki md ops z)=true:=by kernel_rfl)
 (y:∀w,T w->(execOp a.eval N).run P w=.ok (.value v) w:=by(intro w b;(try dsimp only at b);go_simp;try with_reducible rfl))
 (l:a.put N.dst v=m:=by((try simp only[Act.put,jo,jd,jy,je,ja,kC]);rfl))(p:z.setIfInBounds i true=e:=by((try simp only[List.getElem_toArray,List.getElem_cons_zero,List.getElem_cons_succ,List.setIfInBounds_toArray,List.set_cons_zero,List.set_cons_succ]);rfl))
 (j:∀c a w,Q (.panic c) (a.put N.dst v) w->Q (.panic c) a w:=by exact fun _ _ _ h=>h)(k:T w:=by assumption):wpAnyL P md ops Q T s (q+1) z a w:=by
 subst l p;exact UI i v o y h x u n r d j k
theorem lU{e:Array Bool}(h:X->Tk L (wpAnyL P md ops Q T s q e m w))(p:ops[i]?=some N:=by rfl)
 (u:(Region.ready md ops b).contains i=true:=by kernel_rfl)(o:Region.free md ops b i=true:=by kernel_rfl)(y:Region.wanted N (yielded ops a.tmps)=true:=by kernel_rfl)(x:Region.noSelect ops=true:=by kernel_rfl)(j:(Gw md ops 6 s i&&Ki md ops b)=true:=by kernel_rfl)
 (A:∀w,T w->(execOp a.eval N).run P w=.ok (.value v) w:=by(intro w d;(try dsimp only at d);go_simp;try with_reducible rfl))
 (n:a.put N.dst v=m:=by((try simp only[Act.put,jo,jd,jy,je,ja,kC]);rfl))(r:b.setIfInBounds i true=e:=by((try simp only[List.getElem_toArray,List.getElem_cons_zero,List.getElem_cons_succ,List.setIfInBounds_toArray,List.set_cons_zero,List.set_cons_succ]);rfl))
 (k:∀c a w,Q (.panic c) (a.put N.dst v) w->Q (.panic c) a w:=by exact fun _ _ _ h=>h)(l:T w:=by assumption):X->Tk (i::L) (wpAnyL P md ops Q T s (q+1) b a w):=
 fun z=>Aj i (h z) p u o y x j A n r k l
theorem lQ(l:List Nat){q:Prop}(a:q)(h:Bl q->Tk l p:=by((repeat refine lU ?_);exact Bl.e)):p:=h ⟨a⟩
end
end Go.Proofs.YtkckomianknjdaaGreat
namespace Go.Proofs.YtkckomianknjdaaGreat
open Go.RowKit
def EH(k:IntKind)(R:Nat->Int)(i:Nat):Value:=.int k (R i)
def CR(K V:Nat->Int)(p:Nat):Value:=if p%2=0 then .int .i64 (K (p/2))else .int .u64 (V (p/2))
theorem Ml(K V:Nat->Int)(k:Nat):CR K V (k*2+0)=.int .i64 (K k):=by unfold CR;rw[if_pos (by omega),show(k*2+0)/2=k by omega]
theorem QX(K V:Nat->Int)(k:Nat):CR K V (k*2+1)=.int .u64 (V k):=by unfold CR;rw[if_neg (by omega),show(k*2+1)/2=k by omega]
structure Bj where
 base:Int
 wr:Bool
 ao:Option Addr
 len:Nat
 cap:Nat
 dat:Nat->Int
def CO(Hp:Nat->Bj)(p:Nat):Value:=if p%3=0 then .int .u64 (Hp (p/3)).base else if p%3=1 then .bool (Hp (p/3)).wr else .slice (Hp (p/3)).ao (Hp (p/3)).len (Hp (p/3)).cap
theorem FR(a:Nat->Bj)(k:Nat):CO a (k*3+0)=.int .u64 (a k).base:=by unfold CO;rw[if_pos (by omega),show(k*3+0)/3=k by omega]
theorem FQ(a:Nat->Bj)(k:Nat):CO a (k*3+1)=.bool (a k).wr:=by unfold CO;rw[if_neg (by omega),if_pos (by omega),show(k*3+1)/3=k by omega]
theorem Ef(a:Nat->Bj)(k:Nat):CO a (k*3+2)=.slice (a k).ao (a k).len (a k).cap:=by unfold CO;rw[if_neg (by omega),if_neg (by omega),show(k*3+2)/3=k by omega]
theorem LJ{a b:Nat->Bj}{n p:Nat}(c:p<n*3)(h:∀i,i<n->a i=b i):CO a p=CO b p:=by unfold CO;rw[h (p/3) (by omega)]
theorem Uv(a b:Int)(w:World):
 Calls Tryz.prog 88 #[.int .u64 a,.int .u64 b] w fun e c=>e=.returned (.int .u64 (IntKind.u64.wrap (a+b)))/\c=w:=by
 go_enter Tryz.func88,Tryz.ntmps88;go_wp2;go_ret;exact⟨rfl,rfl⟩
theorem NR(a b:Int)(w:World):
 Calls Tryz.prog 89 #[.int .u64 a,.int .u64 b] w fun e c=>e=.returned (.int .u64 (IntKind.u64.wrap (a-b)))/\c=w:=by
 go_enter Tryz.func89,Tryz.ntmps89;go_wp2;go_ret;exact⟨rfl,rfl⟩
theorem SX(a b:Int)(w:World):
 Calls Tryz.prog 90 #[.int .u64 a,.int .u64 b] w fun e c=>e=.returned (.int .u64 (IntKind.u64.wrap (a*b)))/\c=w:=by
 go_enter Tryz.func90,Tryz.ntmps90;go_wp2;go_ret;exact⟨rfl,rfl⟩
theorem KL(a b:Int)(w:World):
 Calls Tryz.prog 91 #[.int .u64 a,.int .u64 b] w fun e c=>e=.returned (.int .u64 (bits BinOp.and IntKind.u64 a b))/\c=w:=by
 go_enter Tryz.func91,Tryz.ntmps91;go_wp2;go_ret;exact⟨rfl,rfl⟩
theorem Mq(a b:Int)(w:World):
 Calls Tryz.prog 92 #[.int .u64 a,.int .u64 b] w fun e c=>e=.returned (.int .u64 (bits BinOp.or IntKind.u64 a b))/\c=w:=by
 go_enter Tryz.func92,Tryz.ntmps92;go_wp2;go_ret;exact⟨rfl,rfl⟩
theorem Qq(a b:Int)(w:World):
 Calls Tryz.prog 93 #[.int .u64 a,.int .u64 b] w fun e c=>e=.returned (.int .u64 (bits BinOp.xor IntKind.u64 a b))/\c=w:=by
 go_enter Tryz.func93,Tryz.ntmps93;go_wp2;go_ret;exact⟨rfl,rfl⟩
theorem OJ(a b:Int)(w:World)(d:0<=b)(h:b<=63):
 Calls Tryz.prog 96 #[.int .u64 a,.int .u64 b] w fun e c=>e=.returned (.int .u64 (IntKind.u64.wrap (a*2^(b).toNat)))/\c=w:=by
 go_enter Tryz.func96,Tryz.ntmps96;go_wp2;go_ret;exact⟨rfl,rfl⟩
theorem Nb(a b:Int)(w:World)(d:0<=b)(h:b<=63):
 Calls Tryz.prog 97 #[.int .u64 a,.int .u64 b] w fun e c=>e=.returned (.int .u64 (a/2^(b).toNat))/\c=w:=by
 go_enter Tryz.func97,Tryz.ntmps97;go_wp2;go_ret;exact⟨rfl,rfl⟩
end Go.Proofs.YtkckomianknjdaaGreat
