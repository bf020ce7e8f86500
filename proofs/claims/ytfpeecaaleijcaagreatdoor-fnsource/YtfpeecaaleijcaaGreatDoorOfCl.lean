import Derived.Deep.RegionHeld
import Derived.Below
import Derived.WalkKit
import Derived.WalkSpells
import Derived.Laws.IdiomCopy
import Derived.ProofKit
import Derived.Deep.Slices
import Derived.OrdersHeld
import Derived.Maps.RangeWalk
namespace Go.Proofs.YtfpeecaaleijcaaGreatDoor
open Go Go.RowKit
variable {i:Nat}
theorem hxy{p:Prop}(h:p):Hid p:=h
abbrev Vi(x:Int):Value:=.int .i64 x
abbrev Vs(b n c:Nat):Value:=.slice (some ⟨b,0,none⟩) n c
abbrev Va(b o:Nat):Addr:=⟨b,o,none⟩
abbrev Vq(b:Nat):Value:=.pointer (some ⟨b,0,none⟩)
theorem jG{n:Nat}:n<=n:=Nat.le_refl n
theorem jI{a b c:Nat}(h:a<b)(k:b<=c):a<c:=Nat.lt_of_lt_of_le h k
theorem jH{α:Type}{xs:Array α}{b:α}:xs[i]?=some b↔∃h:i<xs.size,xs[i]=b:=Array.getElem?_eq_some_iff
theorem jJ{α:Type}{l:List α}{d:α}:l.getD i d=l[i]?.getD d:=List.getD_eq_getElem?_getD
theorem Ae{α:Type}(a:α):∃y,a=y:=⟨_,rfl⟩
theorem Ak{w:World}{o:Obj}:Below w.heap.size w (w.alloc o):=(Below.refl _ _).alloc (Nat.le_refl _) _
theorem BP{α:Type}{l:List α}(h:i<l.toArray.size):l.toArray[i]'h=l[i]'(by simpa using h):=rfl
theorem BN{α:Type}{a:α}{l:List α}(h:0<(a::l).length):(a::l)[0]'h=a:=rfl
theorem BK{α:Type}{a:α}{l:List α}(h:i+1<(a::l).length):(a::l)[i+1]'h=l[i]'(Nat.lt_of_succ_lt_succ h):=rfl
theorem BQ{α:Type}{l:List α}{a:α}:l.toArray.setIfInBounds i a=(l.set i a).toArray:=by simp
theorem BS{α:Type}{a b:α}{l:List α}:(a::l).set 0 b=b::l:=rfl
theorem BM{α:Type}{a b:α}{l:List α}{n:Nat}:(a::l).set (n+1) b=a::l.set n b:=rfl
theorem AO{P:Program}{ops:Array Oper}{Q:Exit->Act->World->Prop}{md:Region.Mode}{S:World->Prop}(i:Nat){o:Oper}{fuel:Nat}{listed:Array Bool}{a:Act}{w:World}(ho:ops[i]?=some o)
 (h:∀K':Act->World->Prop,Shut (∀a w,S w->(S w->wpAnyH P md ops Q S fuel (listed.setIfInBounds i true) a w)->K' a w)->if Region.wanted o (yielded ops a.tmps)=true then Oper.wp P o a w K' Q else K' (a.put o.dst undef) w)
 (hr:Region.ready md ops listed=[i]:=by kernel_rfl):wpAnyH P md ops Q S (fuel+1) listed a w:=wpAnyH_ready hr (List.cons_ne_nil _ _) (AllReadyH.cons ho h AllReadyH.nil)
end Go.Proofs.YtfpeecaaleijcaaGreatDoor
namespace Go.Proofs.YtfpeecaaleijcaaGreatDoor
open Go.RowKit
variable {B b n off:Nat}{f:Nat->Value}{w w':World}
def Es(op:Int):List UInt8:=
 if op=1 then[68,65]else if op=2 then[68,73]
 else if op=10∨op=11∨op=12∨op=13 then[68,65,73]
 else if op=17 then[65,66]else if op=18 then[65,73]
 else if op=21∨op=22∨op=23∨op=24 then[68,65,73,72]
 else if op=25∨op=26∨op=27∨op=28 then[68,65,66,72]
 else if op=29∨op=30∨op=31∨op=32∨op=33 then[73]
 else if op=34 then[]else[68,65,66]
def Af(op:Int):ByteArray:=⟨(Es op).toArray⟩
def Eg(op:Int):Int:=
 if op=1 then 3 else if op=2 then 9
 else if op=10∨op=11∨op=12∨op=13 then 11
 else if op=17 then 6 else if op=18 then 10
 else if op=21∨op=22∨op=23∨op=24 then 27
 else if op=25∨op=26∨op=27∨op=28 then 23
 else if op=29∨op=30∨op=31∨op=32∨op=33 then 8
 else if op=34 then 0 else 7
def CX(op:Int):Int:=if op=11∨op=12∨op=13∨(29<=op/\op<=33)then 0 else -1000000
def Ca(op:Int):Int:=if op=12∨op=13 then 63 else if 29<=op/\op<=33 then 1999 else 1000000
def Ec(x lo hi:Int):Bool:=decide (lo<=x)&&decide (x<=hi)
def Ce(op:Int):Bool:=decide (29<=op)&&decide (op<=33)
def C8(used:Bool)(v lo hi:Int):Bool:=if used then Ec v lo hi else v==0
def hasB(s:ByteArray)(b:UInt8):Bool:=s.data.toList.contains b
theorem Ag{a b:Bool}(h:a=b):Ending.returned (.bool a)=.returned (.bool b):=by rw[h]
theorem Bp{k:IntKind}{a b:Int}(h:a=b):Ending.returned (.int k a)=.returned (.int k b):=by rw[h]
theorem Zj{a b:ByteArray}(h:a=b):Ending.returned (.string a)=.returned (.string b):=by rw[h]
theorem OI(s:ByteArray)(k:Nat)(h:k<s.size):s.data.toList.take (k+1)=s.data.toList.take k++[s[k]]:=by
 rw[List.take_succ_eq_append_getElem (by simpa using h)];rfl
theorem Yv{k l:IntKind}{a b c d:Int}(h:a=b)(g:c=d):Ending.returned (.tuple #[.int k a,.int l c])=.returned (.tuple #[.int k b,.int l d]):=by rw[h,g]
theorem Zd(s:ByteArray)(b:UInt8)(k:Nat)(hk:k<s.size)(h:((s[k].toNat:Int)==(b.toNat:Int))=true):hasB s b=true:=by
 have e:s[k]=b:=by rw[beq_iff_eq]at h;exact UInt8.toNat_inj.1 (by omega)
 unfold hasB;rw[List.contains_iff_mem];rw[<-e];have:s[k]=s.data.toList[k]'(by simpa using hk):=rfl;rw[this];exact List.getElem_mem _
theorem dK(s:ByteArray)(b:UInt8)(k:Nat)(h:(s.data.toList.take k).contains b=false){hk:k<s.size}(e:s.data.toList.take (k+1)=s.data.toList.take k++[s[k]])(g:((s[k].toNat:Int)==(b.toNat:Int))=false):
 (s.data.toList.take (k+1)).contains b=false:=by
 rw[e];have n:s[k]≠b:=by intro x;rw[x]at g;simp at g
 simp only[List.contains_eq_mem,decide_eq_false_iff_not]at h;simp only[List.contains_eq_mem,decide_eq_false_iff_not,List.mem_append,List.mem_singleton,not_or];exact⟨h,fun x=>n x.symm⟩
theorem Zr(s:ByteArray)(b:UInt8)(k:Nat)(_hk:k<=s.size)(he:s.size<=k)(h:(s.data.toList.take k).contains b=false):hasB s b=false:=by
 rw[List.take_of_length_le (by simpa using he)]at h;exact h
theorem aZ{W w1:World}(hb:Below W.heap.size W w1):(∀b o,b<W.heap.size->w1.cell? ⟨b,o,none⟩=W.cell? ⟨b,o,none⟩)/\(∀b o,b<W.heap.size->w1.frozen? ⟨b,o,none⟩=W.frozen? ⟨b,o,none⟩):=
 ⟨fun b o h=>hb.cell (p:=⟨b,o,none⟩) h,fun b o h=>hb.frozen (p:=⟨b,o,none⟩) h⟩
def At(w:World)(b off n:Nat)(f:Nat->Value):Prop:=b<w.heap.size/\∀i,i<n->w.cell? ⟨b,off+i,none⟩=some (f i)
def A9(w:World)(b n:Nat)(f:Nat->Value):Prop:=b<w.heap.size/\(∀i,w.frozen? ⟨b,i,none⟩=false)/\∀i,i<n->w.cell? ⟨b,i,none⟩=some (f i)
theorem A9.lt(h:A9 w b n f):b<w.heap.size:=h.1
theorem A9.free(h:A9 w b n f):∀i,w.frozen? ⟨b,i,none⟩=false:=h.2.1
theorem A9.cell(h:A9 w b n f){i:Nat}(hi:i<n):w.cell? ⟨b,i,none⟩=some (f i):=h.2.2 i hi
theorem A9.at(h:A9 w b n f):At w b 0 n f:=⟨h.1,fun i hi=>by rw[Nat.zero_add];exact h.2.2 i hi⟩
theorem A9.congr{g:Nat->Value}(h:A9 w b n f)(e:∀i,i<n->f i=g i):A9 w b n g:=⟨h.1,h.2.1,fun i hi=>by rw[h.2.2 i hi,e i hi]⟩
theorem A9.below(h:A9 w b n f)(hb:Below B w w')(hB:b<B):A9 w' b n f:=
 ⟨Nat.lt_of_lt_of_le h.1 hb.size,fun i=>(hb.frozen (p:=⟨b,i,none⟩) hB).trans (h.2.1 i),fun i hi=>(hb.cell (p:=⟨b,i,none⟩) hB).trans (h.2.2 i hi)⟩
theorem At.lt(h:At w b off n f):b<w.heap.size:=h.1
theorem At.cell(h:At w b off n f){i:Nat}(hi:i<n):w.cell? ⟨b,off+i,none⟩=some (f i):=h.2 i hi
theorem At.below(h:At w b off n f)(hb:Below B w w')(hB:b<B):At w' b off n f:=
 ⟨Nat.lt_of_lt_of_le h.1 hb.size,fun i hi=>(hb.cell (p:=⟨b,off+i,none⟩) hB).trans (h.2 i hi)⟩
theorem size_setCells(b:Nat):∀(vs:List Value)(o:Nat)(w:World),(w.setCells b o vs).heap.size=w.heap.size
 |[],_,_=>rfl
 |v::r,o,w=>by rw[World.setCells,size_setCells b r];simp
theorem A9.setCells(h:A9 w b n f)(o:Nat)(vs:List Value)(ho:o+vs.length<=n):
 A9 (w.setCells b o vs) b n (fun i=>if o<=i/\i<o+vs.length then vs.getD (i-o) undef else f i):=by
 refine⟨by rw[size_setCells];exact h.1,fun i=>by rw[World.frozen?_setCells];exact h.2.1 i,fun i hi=>?_⟩;by_cases g:o<=i/\i<o+vs.length
 ·have hj:i-o<vs.length:=by omega
  have:=World.cell?_setCells_in b vs o w (fun j hj=>by rw[h.2.2 (o+j) (by omega)];rfl) (i-o) hj;rw[show o+(i-o)=i by omega]at this;rw[this];simp[g,List.getD,hj]
 ·rw[World.cell?_setCells_out b vs o w ⟨b,i,none⟩ (fun _ _=>by simp only;omega),h.2.2 i hi]
  simp[g]
theorem A9.other(h:A9 w b n f){a:Addr}(ha:a.block≠b)(v:Value):A9 (w.setCell a v) b n f:=
 ⟨by simpa using h.1,fun i=>by rw[World.frozen?_setCell];exact h.2.1 i,fun i hi=>by rw[World.cell?_setCell_other _ _ _ _ (fun e=>ha (by rw[e]))];exact h.2.2 i hi⟩
theorem A9.made{w1:World}{e size:Nat}{xs:List Value}{z:Nat->Value}(hown:w1.ownsRow w.heap.size e size (.slice (some ⟨w.heap.size,0,none⟩) n n) n xs)(hx:∀i,i<n*size->xs[i]?=some (z i)):A9 w1 w.heap.size (n*size) z:=by
 refine⟨?_,fun i=>hown.frozenAt i,fun i hi=>by rw[hown.cellAt i hi];exact hx i hi⟩;rcases hown.2 with⟨h',_⟩|⟨g',cap',cur,h',_,hg,_⟩
 ·simp at h'
 ·simp only[Value.slice.injEq,Option.some.injEq,Addr.mk.injEq,and_true,true_and]at h'
  obtain⟨rfl,rfl⟩:=h';by_cases hl:w.heap.size<w1.heap.size
  ·exact hl
  ·rw[Array.getElem?_eq_none (by omega)]at hg;cases hg
def Kn(w:World)(ao:Option Addr)(n:Nat)(f:Nat->Value):Prop:=n=0∨∃b off,ao=some ⟨b,off,none⟩/\At w b off n f
theorem Kn.below{ao:Option Addr}(h:Kn w ao n f)(hb:Below B w w')(hB:w.heap.size<=B):Kn w' ao n f:=by
 rcases h with h|⟨b,off,rfl,h⟩
 ·exact .inl h
 ·exact .inr ⟨b,off,rfl,h.below hb (Nat.lt_of_lt_of_le h.lt hB)⟩
theorem ZH(z:Array Value)(n i:Nat)(h:i<n):(madeCells z n).toList[i]?=some (z[i%z.size]!):=by
 simp[madeCells,h]
end Go.Proofs.YtfpeecaaleijcaaGreatDoor
namespace Go.Proofs.YtfpeecaaleijcaaGreatDoor
open Go.ChangeShapes Go.WideShapes Go.ChangeAt Go.RowKit Go.Deep
theorem open_row{H:Type}{enc:TypeId×Value->H}{P:Program}{w:World}{base:Nat}{spare:Nat->Bool}{held:Bool}{t e:TypeId}{fuel K:Nat}{ao:Option Addr}{len cap:Nat}{x:DataW H×List MemPlace}
 (ht:P.underlying t=some (.slice e))(hK:P.cellsOf e=K)(hpos:0<K)(h:DataW.trod enc P w base spare held fuel t [.slice ao len cap]=some x):
 len<=maxLen/\∃f:Nat->Value,Kn w ao (len*K) f/\∀i,i<len->∃n y,DataW.trod enc P w base spare held n e ((List.range K).map fun j=>f (i*K+j))=some y:=by
 rcases open_slice ht h with⟨h0,_⟩|⟨a,len',cap',m,n,D,Pl,hcs,hb,hl,hm,hmm,_,hx⟩
 ·simp only[List.cons.injEq,Value.slice.injEq,and_true]at h0
  obtain⟨_,rfl,_⟩:=h0;exact⟨Nat.zero_le _,fun _=>undef,.inl (by simp),fun i hi=>by omega⟩
 ·simp only[List.cons.injEq,Value.slice.injEq,and_true]at hcs
  obtain⟨rfl,rfl,rfl⟩:=hcs;have hlm:len<=m:=by rw[hmm];split<;>omega
  refine⟨by omega,?_⟩;rw[hK]at hx;obtain⟨c,hc⟩:=choose_lt (n:=m) (p:=fun i cs'=>w.cells? base (a.add (i*K)) K=some cs'/\DataW.trod enc P w base spare held n e cs'=some (D i,Pl i)) hx;have hcell:∀i,i<m->(c i).length=K/\∀j,j<K->w.cell? (a.add (i*K+j))=(c i)[j]?:=by
   intro i hi;obtain⟨_,hlen,hce⟩:=World.cells?_some (hc i hi).1;refine⟨hlen,fun j hj=>?_⟩;rw[<-add_add];exact hce j hj
  refine⟨fun p=>(c (p/K)).getD (p%K) undef,?_,fun i hi=>⟨n,(D i,Pl i),?_⟩⟩
  ·by_cases h0:len=0
   ·subst h0;exact .inl (by simp)
   ·right
    obtain⟨b,off,spot⟩:=a;have each:∀p,p<len*K->w.cell? ((⟨b,off,spot⟩:Addr).add p)=some ((c (p/K)).getD (p%K) undef):=by
     intro p hp;have h1:=(Nat.div_lt_iff_lt_mul hpos).2 hp;have h2:p%K<K:=Nat.mod_lt _ hpos;obtain⟨q1,q2⟩:=hcell (p/K) (by omega);have:=q2 (p%K) h2;rw[show p/K*K+p%K=p by rw[Nat.mul_comm];exact Nat.div_add_mod p K]at this;rw[this,List.getD_eq_getElem?_getD,List.getElem?_eq_getElem (by omega)];rfl
    have hp0:0<len*K:=Nat.mul_pos (by omega) hpos;have hspot:spot=none:=by simpa[Addr.add]using World.cell?_spot (each 0 hp0)
    subst hspot;refine⟨b,off,rfl,?_,fun p hp=>?_⟩
    ·have:=each 0 hp0
     exact block_lt_of_cell this
    ·rw[<-Go.WideShapes.add_plain];exact each p hp
  ·have e1:((List.range K).map fun j=>(c ((i*K+j)/K)).getD ((i*K+j)%K) undef)=c i:=by
    obtain⟨q1,_⟩:=hcell i (by omega);apply List.ext_getElem?;intro j;by_cases hj:j<K
    ·rw[List.getElem?_map,List.getElem?_range hj]
     simp only[Option.map_some];rw[show(i*K+j)/K=i by rw[Nat.mul_comm,Nat.mul_add_div hpos,Nat.div_eq_of_lt hj];rfl,show(i*K+j)%K=j by rw[Nat.mul_comm,Nat.mul_add_mod];exact Nat.mod_eq_of_lt hj];rw[List.getD_eq_getElem?_getD,List.getElem?_eq_getElem (by omega)];rfl
    ·rw[List.getElem?_eq_none (by simp;omega),List.getElem?_eq_none (by omega)]
   rw[e1];exact(hc i (by omega)).2
end Go.Proofs.YtfpeecaaleijcaaGreatDoor
namespace Go.Proofs.YtfpeecaaleijcaaGreatDoor
open Go.RowKit
def EG(k:IntKind)(R:Nat->Int)(i:Nat):Value:=.int k (R i)
end Go.Proofs.YtfpeecaaleijcaaGreatDoor
namespace Go.Proofs.YtfpeecaaleijcaaGreatDoor
open Go
variable {a a':Act}{l' listed:Array Bool}{fuel i j:Nat}{oi:Oper}{v:Value}{w:World}
section
variable{P:Program}{ops:Array Oper}{Q:Exit->Act->World->Prop}{md:Region.Mode}{T:World->Prop}{s:Nat}
def wpAnyL(P:Program)(md:Region.Mode)(ops:Array Oper)(Q:Exit->Act->World->Prop)(T:World->Prop)(s:Nat):Nat->Array Bool->Act->World->Prop
 |0,listed,a,w=>Region.ready md ops listed=[]/\Q .normal a w
 |fuel+1,listed,a,w=>
  (Region.ready md ops listed=[]->Q .normal a w)/\
  ∀i∈Region.ready md ops listed,wpOp P ops Q i (fun a' w'=>(i≠s->T w')/\wpAnyL P md ops Q T s fuel (listed.setIfInBounds i true) a' w') a w
theorem NG:∀(fuel:Nat)(listed:Array Bool)(a:Act)(w:World),wpAnyL P md ops Q T s fuel listed a w->wpAny P md ops Q fuel listed a w
 |0,_,_,_,h=>h
 |fuel+1,_,_,_,h=>⟨h.1,fun i hi=>wpOp_mono (fun a' w' h'=>NG fuel _ a' w' h'.2) (h.2 i hi)⟩
def waits(md:Region.Mode)(ops:Array Oper)(s i:Nat):Bool:=match ops[s]? with
 |some o=>o.after.any fun e=>Region.binds md e&&e.on==i
 |none=>false
theorem JJ{o:Oper}(h:waits md ops s i=true)(ho:ops[s]?=some o):∃e∈o.after,Region.binds md e=true/\e.on=i:=by
 unfold waits at h;rw[ho]at h;simp only[Array.any_eq_true]at h;obtain⟨k,hk,hb⟩:=h;simp only[Bool.and_eq_true,beq_iff_eq]at hb;exact⟨_,Array.getElem_mem hk,hb⟩
theorem NJ{oj:Oper}(hr:i∈Region.ready md ops listed)(hj:j∈Region.ready md ops listed)(hoj:ops[j]?=some oj):∀e∈oj.after,Region.binds md e=true->e.on≠i:=by
 intro e he hb heq;obtain⟨_,o,ho,all⟩:=mem_ready.1 hj;have hoo:o=oj:=by rw[hoj]at ho;exact(Option.some.inj ho).symm
 subst hoo;have on:=all e he hb;have off:=(mem_ready.1 hr).1;rw[heq]at on;by_cases hlt:i<listed.size
 ·simp[hlt]at on off
  rw[off]at on;cases on
 ·simp[Array.getElem?_eq_none (Nat.le_of_not_lt hlt)]at on
def Clear(md:Region.Mode)(ops:Array Oper)(i:Nat)(oi:Oper)(listed:Array Bool):Prop:=
 ∀j oj,ops[j]?=some oj->j≠i->listed.getD j true=false->(∀e∈oj.after,Region.binds md e=true->e.on≠i)->oi.apart ops oj=true
theorem Clear.more(h:Clear md ops i oi listed)(hj:j∈Region.ready md ops listed):Clear md ops i oi (listed.setIfInBounds j true):=by
 intro k ok hk hki hun;refine h k ok hk hki ?_;by_cases hjk:j=k
 ·subst hjk;exact(mem_ready.1 hj).1
 ·rwa [getD_set_ne true hjk]at hun
theorem wpAnyL_first(hi:ops[i]?=some oi)(hsel:∀(j:Nat)(o:Oper)cs b,ops[j]?=some o->o.op≠ .select cs b)
 (hQ:∀c a w,Q (.panic c) (a.put oi.dst v) w->Q (.panic c) a w)(hws:waits md ops s i=true):
 ∀(fuel:Nat)(listed:Array Bool)(a:Act)(w:World),Clear md ops i oi listed->i∈Region.ready md ops listed->YieldsIf P ops T oi v a->T w->
  wpAnyL P md ops Q T s fuel (listed.setIfInBounds i true) (a.put oi.dst v) w->wpAnyL P md ops Q T s (fuel+1) listed a w:=by
 intro fuel;induction fuel with
 |zero=>
  intro listed a w _ hr hy hT H;constructor
  ·intro none;rw[none]at hr;cases hr
  ·intro j hj
   by_cases hji:j=i
   ·subst hji;exact hy.wpOp hi hT ⟨fun _=>hT,H⟩
   ·exact absurd (ready_mono hj hji) (by rw[H.1];simp)
 |succ n ih=>
  intro listed a w hcl hr hy hT H;constructor
  ·intro none;rw[none]at hr;cases hr
  ·intro j hj
   by_cases hji:j=i
   ·subst hji;exact hy.wpOp hi hT ⟨fun _=>hT,H⟩
   ·obtain⟨un,oj,hoj,_⟩:=mem_ready.1 hj
    have nw:=NJ hr hj hoj;have js:j≠s:=by
     intro e;subst e;obtain⟨e,he,hb,hon⟩:=JJ hws hoj;exact nw e he hb hon
    have step:=wpOp_putIf hoj (hcl j oj hoj hji un nw) (fun cs b=>hsel i oi cs b hi) (fun cs b=>hsel j oj cs b hoj) hQ hy (H.2 j (ready_mono hj hji));refine wpOp_mono (fun a' w'⟨y',t',k'⟩=>⟨t',ih _ a' w' (hcl.more hj) (ready_mono hr (Ne.symm hji)) y' (t' js) ?_⟩) step;rw[Array.setIfInBounds_comm _ _ hji];exact k'
theorem Rs(hi:ops[i]?=some oi)
 (hs:Region.noSelect ops=true)(hf:Region.free md ops listed i=true)(hr:(Region.ready md ops listed).contains i=true)(hws:waits md ops s i=true)
 (hQ:∀c a w,Q (.panic c) (a.put oi.dst v) w->Q (.panic c) a w)(hy:YieldsIf P ops T oi v a)(hS:T w)
 (h:wpAnyL P md ops Q T s fuel (listed.setIfInBounds i true) (a.put oi.dst v) w):wpAnyL P md ops Q T s (fuel+1) listed a w:=
 wpAnyL_first hi (Region.noSelect_spec hs) hQ hws fuel listed a w (Region.free_spec hi hf) (by simpa using hr) hy hS h
theorem Og(i:Nat)(v:Value)(hi:ops[i]?=some oi)(hy:∀w,T w->(execOp a.eval oi).run P w=.ok (.value v) w)
 (h:wpAnyL P md ops Q T s fuel (listed.setIfInBounds i true) (a.put oi.dst v) w)
 (hw:Region.wanted oi (yielded ops a.tmps)=true:=by kernel_rfl)(hs:Region.noSelect ops=true:=by kernel_rfl)(hf:Region.free md ops listed i=true:=by kernel_rfl)(hr:(Region.ready md ops listed).contains i=true:=by kernel_rfl)(hws:waits md ops s i=true:=by kernel_rfl)
 (hQ:∀c a w,Q (.panic c) (a.put oi.dst v) w->Q (.panic c) a w:=by exact fun _ _ _ h=>h)(hS:T w:=by assumption):wpAnyL P md ops Q T s (fuel+1) listed a w:=
 Rs hi hs hf hr hws hQ (Or.inl ⟨hw,hy⟩) hS h
theorem Ad(i:Nat)(v:Value)(hi:ops[i]?=some oi)(hy:∀w,T w->(execOp a.eval oi).run P w=.ok (.value v) w)
 (h:wpAnyH P md ops Q T fuel (listed.setIfInBounds i true) (a.put oi.dst v) w)
 (hw:Region.wanted oi (yielded ops a.tmps)=true:=by kernel_rfl)(hs:Region.noSelect ops=true:=by kernel_rfl)(hf:Region.free md ops listed i=true:=by kernel_rfl)(hr:(Region.ready md ops listed).contains i=true:=by kernel_rfl)
 (hQ:∀c a w,Q (.panic c) (a.put oi.dst v) w->Q (.panic c) a w:=by exact fun _ _ _ h=>h)(hS:T w:=by assumption):wpAnyH P md ops Q T (fuel+1) listed a w:=
 wpAnyH_take hi hs hf hr hQ (Or.inl ⟨hw,hy⟩) hS h
theorem AB(i:Nat)(hi:ops[i]?=some oi)(h:wpAnyH P md ops Q T fuel l' a' w)
 (hy:∀w,T w->(execOp a.eval oi).run P w=.ok (.value v) w:=by(intro w hSw;(try dsimp only at hSw);go_simp;try with_reducible rfl))
 (ha:a.put oi.dst v=a':=by((try simp only[Act.put,BP,BN,BK,BQ,BS,BM]);rfl))(hl:listed.setIfInBounds i true=l':=by((try simp only[List.getElem_toArray,List.getElem_cons_zero,List.getElem_cons_succ,List.setIfInBounds_toArray,List.set_cons_zero,List.set_cons_succ]);rfl))
 (hw:Region.wanted oi (yielded ops a.tmps)=true:=by kernel_rfl)(hs:Region.noSelect ops=true:=by kernel_rfl)(hf:Region.free md ops listed i=true:=by kernel_rfl)(hr:(Region.ready md ops listed).contains i=true:=by kernel_rfl)
 (hQ:∀c a w,Q (.panic c) (a.put oi.dst v) w->Q (.panic c) a w:=by exact fun _ _ _ h=>h)(hS:T w:=by assumption):wpAnyH P md ops Q T (fuel+1) listed a w:=by
 subst ha hl;exact Ad i v hi hy h hw hs hf hr hQ hS
theorem AJ(i:Nat)(hi:ops[i]?=some oi)(h:wpAnyL P md ops Q T s fuel l' a' w)
 (hy:∀w,T w->(execOp a.eval oi).run P w=.ok (.value v) w:=by(intro w hSw;(try dsimp only at hSw);go_simp;try with_reducible rfl))
 (ha:a.put oi.dst v=a':=by((try simp only[Act.put,BP,BN,BK,BQ,BS,BM]);rfl))(hl:listed.setIfInBounds i true=l':=by((try simp only[List.getElem_toArray,List.getElem_cons_zero,List.getElem_cons_succ,List.setIfInBounds_toArray,List.set_cons_zero,List.set_cons_succ]);rfl))
 (hw:Region.wanted oi (yielded ops a.tmps)=true:=by kernel_rfl)(hs:Region.noSelect ops=true:=by kernel_rfl)(hf:Region.free md ops listed i=true:=by kernel_rfl)(hr:(Region.ready md ops listed).contains i=true:=by kernel_rfl)(hws:waits md ops s i=true:=by kernel_rfl)
 (hQ:∀c a w,Q (.panic c) (a.put oi.dst v) w->Q (.panic c) a w:=by exact fun _ _ _ h=>h)(hS:T w:=by assumption):wpAnyL P md ops Q T s (fuel+1) listed a w:=by
 subst ha hl;exact Og i v hi hy h hw hs hf hr hws hQ hS
theorem Aq(hi:ops[i]?=some oi)(hr:Region.ready md ops listed=[i])
 (h:∀K':Act->World->Prop,Shut (∀a w,T w->(T w->wpAnyL P md ops Q T s fuel (listed.setIfInBounds i true) a w)->K' a w)->if Region.wanted oi (yielded ops a.tmps)=true then Oper.wp P oi a w K' Q else K' (a.put oi.dst undef) w):
 wpAnyL P md ops Q T s (fuel+1) listed a w:=
 ⟨fun h0=>(by rw[hr]at h0;cases h0),fun j hj=>by
   rw[hr]at hj;obtain rfl:j=i:=by simpa using hj
   exact wpOp_step hi fun K' hK=>h K' fun a w hS hW=>hK a w ⟨fun _=>hS,hW hS⟩⟩
theorem A7(hi:ops[s]?=some oi)(hr:Region.ready md ops listed=[s])(hd:Region.ready md ops (listed.setIfInBounds s true)=[])
 (h:∀K':Act->World->Prop,Shut (∀a w,Q .normal a w->K' a w)->if Region.wanted oi (yielded ops a.tmps)=true then Oper.wp P oi a w K' Q else K' (a.put oi.dst undef) w):
 wpAnyL P md ops Q T s (fuel+1) listed a w:=
 ⟨fun h0=>(by rw[hr]at h0;cases h0),fun j hj=>by
   rw[hr]at hj;obtain rfl:j=s:=by simpa using hj
   refine wpOp_step hi fun K' hK=>h K' fun a w hq=>hK a w ⟨fun h=>absurd rfl h,?_⟩
   cases fuel with
   |zero=>exact⟨hd,hq⟩
   |succ n=>exact⟨fun _=>hq,fun i hi=>by rw[hd]at hi;cases hi⟩⟩
theorem BF{id:Nat}(hm:P.follows .mixedOrders=true)(hS:T w.drew)
 (h:T w.drew->wpAnyL P .any ops Q T s ops.size (Array.replicate ops.size false) a w.drew):(Code.region id ops true).wp P Q a w:=
 wp_region_any hm (NG _ _ _ _ (h hS))
end
section
variable{P:Program}{ops:Array Oper}{Q:Exit->Act->World->Prop}{md:Region.Mode}{T:World->Prop}{s:Nat}
def Ff(md:Region.Mode)(ops:Array Oper):Nat->Nat->Nat->Bool
 |0,s,i=>waits md ops s i
 |n+1,s,i=>waits md ops s i||(List.range ops.size).any fun k=>waits md ops s k&&Ff md ops n k i
def Closed(md:Region.Mode)(ops:Array Oper)(listed:Array Bool):Prop:=
 ∀j oj,ops[j]?=some oj->listed.getD j false=true->∀e∈oj.after,Region.binds md e=true->listed.getD e.on false=true
def JS(md:Region.Mode)(ops:Array Oper)(listed:Array Bool):Bool:=
 (List.range ops.size).all fun j=>!(listed.getD j false)||match ops[j]? with
   |some o=>o.after.all fun e=>!(Region.binds md e)||listed.getD e.on false
   |none=>true
theorem WG(h:JS md ops listed=true):Closed md ops listed:=by
 intro j oj hj hl e he hb;unfold JS at h;rw[List.all_eq_true]at h;have hlt:j<ops.size:=(Array.getElem?_eq_some_iff.1 hj).1;have:=h j (List.mem_range.2 hlt);rw[hl,hj]at this;simp only[Bool.not_true,Bool.false_or,Array.all_eq_true_iff_forall_mem]at this;have:=this e he;rw[hb]at this;simpa using this
theorem TF{oj:Oper}(hj:j∈Region.ready md ops listed)(hoj:ops[j]?=some oj):∀e∈oj.after,Region.binds md e=true->listed.getD e.on false=true:=by
 intro e he hb;obtain⟨_,o,ho,all⟩:=mem_ready.1 hj;have hoo:o=oj:=by rw[hoj]at ho;exact(Option.some.inj ho).symm
 subst hoo;exact all e he hb
theorem Ee(hc:Closed md ops listed):∀n k i,listed.getD k false=true->Ff md ops n k i=true->listed.getD i false=true
 |0,k,i,hk,h=>by
  unfold Ff waits at h;cases ho:ops[k]? with
  |none=>rw[ho]at h;cases h
  |some o=>
   obtain⟨e,he,hb,hon⟩:=JJ (s:=k) (i:=i) h ho;rw[<-hon];exact hc k o ho hk e he hb
 |n+1,k,i,hk,h=>by
  unfold Ff at h;rw[Bool.or_eq_true]at h;rcases h with h|h
  ·exact Ee hc 0 k i hk h
  ·rw[List.any_eq_true]at h
   obtain⟨m,_,hm⟩:=h;rw[Bool.and_eq_true]at hm;exact Ee hc n m i (Ee hc 0 k m hk hm.1) hm.2
theorem QS(hc:Closed md ops listed){n:Nat}(hj:j∈Region.ready md ops listed)(h:Ff md ops n j i=true):listed.getD i false=true:=by
 obtain⟨_,o,ho,_⟩:=mem_ready.1 hj;have base:∀k,waits md ops j k=true->listed.getD k false=true:=fun k hk=>by
  obtain⟨e,he,hb,hon⟩:=JJ hk ho;rw[<-hon];exact TF hj ho e he hb
 cases n with
 |zero=>exact base i h
 |succ n=>
  unfold Ff at h;rw[Bool.or_eq_true]at h;rcases h with h|h
  ·exact base i h
  ·rw[List.any_eq_true]at h
   obtain⟨m,_,hm⟩:=h;rw[Bool.and_eq_true]at hm;exact Ee hc n m i (base m hm.1) hm.2
theorem Closed.more(h:Closed md ops listed)(hj:j∈Region.ready md ops listed):Closed md ops (listed.setIfInBounds j true):=by
 have up:∀k,listed.getD k false=true->(listed.setIfInBounds j true).getD k false=true:=by
  intro k hk;by_cases e:j=k
  ·subst e
   have hlt:j<listed.size:=by
    by_cases hlt:j<listed.size
    ·exact hlt
    ·rw[Array.getD_eq_getD_getElem?,Array.getElem?_eq_none (Nat.le_of_not_lt hlt)]at hk;cases hk
   simp[Array.getD_eq_getD_getElem?,hlt]
  ·rw[Array.getD_eq_getD_getElem?,Array.getElem?_setIfInBounds,if_neg e,<-Array.getD_eq_getD_getElem?];exact hk
 intro k ok hk hl e he hb;by_cases q:j=k
 ·subst q;exact up _ (TF hj hk e he hb)
 ·refine up _ (h k ok hk ?_ e he hb)
  rw[Array.getD_eq_getD_getElem?,Array.getElem?_setIfInBounds,if_neg q,<-Array.getD_eq_getD_getElem?]at hl;exact hl
theorem Ns{n:Nat}(hi:ops[i]?=some oi)(hsel:∀(j:Nat)(o:Oper)cs b,ops[j]?=some o->o.op≠ .select cs b)
 (hQ:∀c a w,Q (.panic c) (a.put oi.dst v) w->Q (.panic c) a w)(hws:Ff md ops n s i=true):
 ∀(fuel:Nat)(listed:Array Bool)(a:Act)(w:World),Closed md ops listed->Clear md ops i oi listed->i∈Region.ready md ops listed->YieldsIf P ops T oi v a->T w->
  wpAnyL P md ops Q T s fuel (listed.setIfInBounds i true) (a.put oi.dst v) w->wpAnyL P md ops Q T s (fuel+1) listed a w:=by
 intro fuel;induction fuel with
 |zero=>
  intro listed a w _ _ hr hy hT H;constructor
  ·intro none;rw[none]at hr;cases hr
  ·intro j hj
   by_cases hji:j=i
   ·subst hji;exact hy.wpOp hi hT ⟨fun _=>hT,H⟩
   ·exact absurd (ready_mono hj hji) (by rw[H.1];simp)
 |succ n ih=>
  intro listed a w hcd hcl hr hy hT H;constructor
  ·intro none;rw[none]at hr;cases hr
  ·intro j hj
   by_cases hji:j=i
   ·subst hji;exact hy.wpOp hi hT ⟨fun _=>hT,H⟩
   ·obtain⟨un,oj,hoj,_⟩:=mem_ready.1 hj
    have nw:=NJ hr hj hoj;have js:j≠s:=by
     intro e;subst e;have on:=QS hcd hj hws;have off:=(mem_ready.1 hr).1;rw[Array.getD_eq_getD_getElem?]at on off;cases hq:listed[i]? with
     |none=>rw[hq]at on;cases on
     |some b=>rw[hq]at on off;simp at on off;rw[on]at off;cases off
    have step:=wpOp_putIf hoj (hcl j oj hoj hji un nw) (fun cs b=>hsel i oi cs b hi) (fun cs b=>hsel j oj cs b hoj) hQ hy (H.2 j (ready_mono hj hji));refine wpOp_mono (fun a' w'⟨y',t',k'⟩=>⟨t',ih _ a' w' (hcd.more hj) (hcl.more hj) (ready_mono hr (Ne.symm hji)) y' (t' js) ?_⟩) step;rw[Array.setIfInBounds_comm _ _ hji];exact k'
theorem QO(hi:ops[i]?=some oi)
 (hs:Region.noSelect ops=true)(hf:Region.free md ops listed i=true)(hr:(Region.ready md ops listed).contains i=true)(hws:(Ff md ops 6 s i&&JS md ops listed)=true)
 (hQ:∀c a w,Q (.panic c) (a.put oi.dst v) w->Q (.panic c) a w)(hy:YieldsIf P ops T oi v a)(hS:T w)
 (h:wpAnyL P md ops Q T s fuel (listed.setIfInBounds i true) (a.put oi.dst v) w):wpAnyL P md ops Q T s (fuel+1) listed a w:=
 Ns hi (Region.noSelect_spec hs) hQ (Bool.and_eq_true _ _▸hws).1 fuel listed a w (WG (Bool.and_eq_true _ _▸hws).2) (Region.free_spec hi hf) (by simpa using hr) hy hS h
theorem Ub(i:Nat)(v:Value)(hi:ops[i]?=some oi)(hy:∀w,T w->(execOp a.eval oi).run P w=.ok (.value v) w)
 (h:wpAnyL P md ops Q T s fuel (listed.setIfInBounds i true) (a.put oi.dst v) w)
 (hw:Region.wanted oi (yielded ops a.tmps)=true:=by kernel_rfl)(hs:Region.noSelect ops=true:=by kernel_rfl)(hf:Region.free md ops listed i=true:=by kernel_rfl)(hr:(Region.ready md ops listed).contains i=true:=by kernel_rfl)(hws:(Ff md ops 6 s i&&JS md ops listed)=true:=by kernel_rfl)
 (hQ:∀c a w,Q (.panic c) (a.put oi.dst v) w->Q (.panic c) a w:=by exact fun _ _ _ h=>h)(hS:T w:=by assumption):wpAnyL P md ops Q T s (fuel+1) listed a w:=
 QO hi hs hf hr hws hQ (Or.inl ⟨hw,hy⟩) hS h
theorem C9(i:Nat)(hi:ops[i]?=some oi)(h:wpAnyL P md ops Q T s fuel l' a' w)
 (hy:∀w,T w->(execOp a.eval oi).run P w=.ok (.value v) w:=by(intro w hSw;(try dsimp only at hSw);go_simp;try with_reducible rfl))
 (ha:a.put oi.dst v=a':=by((try simp only[Act.put,BP,BN,BK,BQ,BS,BM]);rfl))(hl:listed.setIfInBounds i true=l':=by((try simp only[List.getElem_toArray,List.getElem_cons_zero,List.getElem_cons_succ,List.setIfInBounds_toArray,List.set_cons_zero,List.set_cons_succ]);rfl))
 (hw:Region.wanted oi (yielded ops a.tmps)=true:=by kernel_rfl)(hs:Region.noSelect ops=true:=by kernel_rfl)(hf:Region.free md ops listed i=true:=by kernel_rfl)(hr:(Region.ready md ops listed).contains i=true:=by kernel_rfl)(hws:(Ff md ops 6 s i&&JS md ops listed)=true:=by kernel_rfl)
 (hQ:∀c a w,Q (.panic c) (a.put oi.dst v) w->Q (.panic c) a w:=by exact fun _ _ _ h=>h)(hS:T w:=by assumption):wpAnyL P md ops Q T s (fuel+1) listed a w:=by
 subst ha hl;exact Ub i v hi hy h hw hs hf hr hws hQ hS
end
end Go.Proofs.YtfpeecaaleijcaaGreatDoor
namespace Go.Proofs.YtfpeecaaleijcaaGreatDoor
open Go.RowKit
def Cl(w:World)(b:Nat)(vs:List Value):Prop:=b<w.heap.size/\∀i,i<vs.length->w.cell? ⟨b,i,none⟩=some (vs.getD i undef)
theorem Cl.below{w w':World}{b:Nat}{vs:List Value}(h:Cl w b vs)(hb:Below w.heap.size w w'):Cl w' b vs:=
 ⟨Nat.lt_of_lt_of_le h.1 hb.size,fun i hi=>(hb.cell (p:=⟨b,i,none⟩) h.1).trans (h.2 i hi)⟩
theorem Cl.new{w:World}{vs:Array Value}{t:TypeId}:Cl (w.alloc (.cells vs t)) w.heap.size vs.toList:=
 ⟨by simp,fun i hi=>by simp[go_sem,List.getD_eq_getElem?_getD]at hi⊢;simp[hi]⟩
end Go.Proofs.YtfpeecaaleijcaaGreatDoor
