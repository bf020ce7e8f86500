import Derived.WalkKit
import Derived.WalkSpells
import Derived.Laws.IdiomCopy
import Derived.ProofKit
import Derived.Deep.Slices
import Derived.OrdersHeld
import Derived.Deep.RegionHeld
import Derived.Maps.RangeWalk
import Derived.Test.YtbahofiiaodpdaaGreatRows
import Derived.WalkLawsBesides
set_option maxHeartbeats 400000
namespace Go.Proofs.YtbahofiiaodpdaaGreat
open Go.RowKit
def usesL(op:Int):List UInt8:=
 if op=1 then[68,65]else if op=2 then[68,73]
 else if op=10∨op=11∨op=12∨op=13 then[68,65,73]
 else if op=17 then[65,66]else if op=18 then[65,73]
 else if op=21∨op=22∨op=23∨op=24 then[68,65,73,72]
 else if op=25∨op=26∨op=27∨op=28 then[68,65,66,72]
 else if op=29∨op=30∨op=31∨op=32∨op=33 then[73]
 else if op=34 then[]else[68,65,66]
def usesS(op:Int):ByteArray:=⟨(usesL op).toArray⟩
def fieldsI(op:Int):Int:=
 if op=1 then 3 else if op=2 then 9
 else if op=10∨op=11∨op=12∨op=13 then 11
 else if op=17 then 6 else if op=18 then 10
 else if op=21∨op=22∨op=23∨op=24 then 27
 else if op=25∨op=26∨op=27∨op=28 then 23
 else if op=29∨op=30∨op=31∨op=32∨op=33 then 8
 else if op=34 then 0 else 7
def immLo(op:Int):Int:=if op=11∨op=12∨op=13∨(29<=op/\op<=33)then 0 else -1000000
def immHi(op:Int):Int:=if op=12∨op=13 then 63 else if 29<=op/\op<=33 then 1999 else 1000000
def inB(x lo hi:Int):Bool:=decide (lo<=x)&&decide (x<=hi)
def jumpB(op:Int):Bool:=decide (29<=op)&&decide (op<=33)
def fieldB(used:Bool)(v lo hi:Int):Bool:=if used then inB v lo hi else v==0
def hasB(s:ByteArray)(b:UInt8):Bool:=s.data.toList.contains b
theorem ret_bool{a b:Bool}(h:a=b):Ending.returned (.bool a)=.returned (.bool b):=by rw[h]
theorem ret_int{k:IntKind}{a b:Int}(h:a=b):Ending.returned (.int k a)=.returned (.int k b):=by rw[h]
theorem ret_str{a b:ByteArray}(h:a=b):Ending.returned (.string a)=.returned (.string b):=by rw[h]
theorem take_snoc(s:ByteArray)(k:Nat)(h:k<s.size):s.data.toList.take (k+1)=s.data.toList.take k++[s[k]]:=by
 rw[List.take_succ_eq_append_getElem (by simpa using h)];rfl
theorem ret_int2{k l:IntKind}{a b c d:Int}(h:a=b)(g:c=d):Ending.returned (.tuple #[.int k a,.int l c])=.returned (.tuple #[.int k b,.int l d]):=by rw[h,g]
theorem has_yes(s:ByteArray)(b:UInt8)(k:Nat)(hk:k<s.size)(h:((s[k].toNat:Int)==(b.toNat:Int))=true):hasB s b=true:=by
 have e:s[k]=b:=by rw[beq_iff_eq]at h;exact UInt8.toNat_inj.1 (by omega)
 unfold hasB;rw[List.contains_iff_mem];rw[<-e];have:s[k]=s.data.toList[k]'(by simpa using hk):=rfl;rw[this];exact List.getElem_mem _
theorem has_no(s:ByteArray)(b:UInt8)(k:Nat)(h:(s.data.toList.take k).contains b=false){hk:k<s.size}(e:s.data.toList.take (k+1)=s.data.toList.take k++[s[k]])(g:((s[k].toNat:Int)==(b.toNat:Int))=false):
 (s.data.toList.take (k+1)).contains b=false:=by
 rw[e];have n:s[k]≠b:=by intro x;rw[x]at g;simp at g
 simp only[List.contains_eq_mem,decide_eq_false_iff_not]at h;simp only[List.contains_eq_mem,decide_eq_false_iff_not,List.mem_append,List.mem_singleton,not_or];exact⟨h,fun x=>n x.symm⟩
theorem has_end(s:ByteArray)(b:UInt8)(k:Nat)(_hk:k<=s.size)(he:s.size<=k)(h:(s.data.toList.take k).contains b=false):hasB s b=false:=by
 rw[List.take_of_length_le (by simpa using he)]at h;exact h
theorem bcell{W w1:World}(hb:Below W.heap.size W w1):(∀b o,b<W.heap.size->w1.cell? ⟨b,o,none⟩=W.cell? ⟨b,o,none⟩)/\(∀b o,b<W.heap.size->w1.frozen? ⟨b,o,none⟩=W.frozen? ⟨b,o,none⟩):=
 ⟨fun b o h=>hb.cell (p:=⟨b,o,none⟩) h,fun b o h=>hb.frozen (p:=⟨b,o,none⟩) h⟩
def At(w:World)(b off n:Nat)(f:Nat->Value):Prop:=b<w.heap.size/\∀i,i<n->w.cell? ⟨b,off+i,none⟩=some (f i)
def Arr(w:World)(b n:Nat)(f:Nat->Value):Prop:=b<w.heap.size/\(∀i,w.frozen? ⟨b,i,none⟩=false)/\∀i,i<n->w.cell? ⟨b,i,none⟩=some (f i)
theorem Arr.lt{w:World}{b n:Nat}{f:Nat->Value}(h:Arr w b n f):b<w.heap.size:=h.1
theorem Arr.free{w:World}{b n:Nat}{f:Nat->Value}(h:Arr w b n f):∀i,w.frozen? ⟨b,i,none⟩=false:=h.2.1
theorem Arr.cell{w:World}{b n:Nat}{f:Nat->Value}(h:Arr w b n f){i:Nat}(hi:i<n):w.cell? ⟨b,i,none⟩=some (f i):=h.2.2 i hi
theorem Arr.at{w:World}{b n:Nat}{f:Nat->Value}(h:Arr w b n f):At w b 0 n f:=⟨h.1,fun i hi=>by rw[Nat.zero_add];exact h.2.2 i hi⟩
theorem Arr.congr{w:World}{b n:Nat}{f g:Nat->Value}(h:Arr w b n f)(e:∀i,i<n->f i=g i):Arr w b n g:=⟨h.1,h.2.1,fun i hi=>by rw[h.2.2 i hi,e i hi]⟩
theorem Arr.below{w w':World}{B b n:Nat}{f:Nat->Value}(h:Arr w b n f)(hb:Below B w w')(hB:b<B):Arr w' b n f:=
 ⟨Nat.lt_of_lt_of_le h.1 hb.size,fun i=>(hb.frozen (p:=⟨b,i,none⟩) hB).trans (h.2.1 i),fun i hi=>(hb.cell (p:=⟨b,i,none⟩) hB).trans (h.2.2 i hi)⟩
theorem At.lt{w:World}{b off n:Nat}{f:Nat->Value}(h:At w b off n f):b<w.heap.size:=h.1
theorem At.cell{w:World}{b off n:Nat}{f:Nat->Value}(h:At w b off n f){i:Nat}(hi:i<n):w.cell? ⟨b,off+i,none⟩=some (f i):=h.2 i hi
theorem At.below{w w':World}{B b off n:Nat}{f:Nat->Value}(h:At w b off n f)(hb:Below B w w')(hB:b<B):At w' b off n f:=
 ⟨Nat.lt_of_lt_of_le h.1 hb.size,fun i hi=>(hb.cell (p:=⟨b,off+i,none⟩) hB).trans (h.2 i hi)⟩
theorem At.congr{w:World}{b off n:Nat}{f g:Nat->Value}(h:At w b off n f)(e:∀i,i<n->f i=g i):At w b off n g:=⟨h.1,fun i hi=>by rw[h.2 i hi,e i hi]⟩
theorem size_setCells(b:Nat):∀(vs:List Value)(o:Nat)(w:World),(w.setCells b o vs).heap.size=w.heap.size
 |[],_,_=>rfl
 |v::r,o,w=>by rw[World.setCells,size_setCells b r];simp
theorem below_setCells{B b:Nat}(hB:B<=b):∀(vs:List Value)(o:Nat){w0 w:World},Below B w0 w->Below B w0 (w.setCells b o vs)
 |[],_,_,_,h=>h
 |v::r,o,_,_,h=>by rw[World.setCells];exact below_setCells hB r (o+1) (h.setCell (by simpa using hB) v)
theorem Arr.setCells{w:World}{b n:Nat}{f:Nat->Value}(h:Arr w b n f)(o:Nat)(vs:List Value)(ho:o+vs.length<=n):
 Arr (w.setCells b o vs) b n (fun i=>if o<=i/\i<o+vs.length then vs.getD (i-o) undef else f i):=by
 refine⟨by rw[size_setCells];exact h.1,fun i=>by rw[World.frozen?_setCells];exact h.2.1 i,fun i hi=>?_⟩;by_cases g:o<=i/\i<o+vs.length
 ·have hj:i-o<vs.length:=by omega
  have:=World.cell?_setCells_in b vs o w (fun j hj=>by rw[h.2.2 (o+j) (by omega)];rfl) (i-o) hj;rw[show o+(i-o)=i by omega]at this;rw[this];simp[g,List.getD,hj]
 ·rw[World.cell?_setCells_out b vs o w ⟨b,i,none⟩ (fun _ _=>by simp only;omega),h.2.2 i hi]
  simp[g]
theorem Arr.other{w:World}{b n:Nat}{f:Nat->Value}(h:Arr w b n f){a:Addr}(ha:a.block≠b)(v:Value):Arr (w.setCell a v) b n f:=
 ⟨by simpa using h.1,fun i=>by rw[World.frozen?_setCell];exact h.2.1 i,fun i hi=>by rw[World.cell?_setCell_other _ _ _ _ (fun e=>ha (by rw[e]))];exact h.2.2 i hi⟩
def InRow(w:World)(ao:Option Addr)(n:Nat)(f:Nat->Value):Prop:=n=0∨∃b off,ao=some ⟨b,off,none⟩/\At w b off n f
theorem InRow.below{w w':World}{B:Nat}{ao:Option Addr}{n:Nat}{f:Nat->Value}(h:InRow w ao n f)(hb:Below B w w')(hB:w.heap.size<=B):InRow w' ao n f:=by
 rcases h with h|⟨b,off,rfl,h⟩
 ·exact .inl h
 ·exact .inr ⟨b,off,rfl,h.below hb (Nat.lt_of_lt_of_le h.lt hB)⟩
theorem InRow.congr{w:World}{ao:Option Addr}{n:Nat}{f g:Nat->Value}(h:InRow w ao n f)(e:∀i,i<n->f i=g i):InRow w ao n g:=by
 rcases h with h|⟨b,off,rfl,h⟩
 ·exact .inl h
 ·exact .inr ⟨b,off,rfl,h.congr e⟩
theorem cells9{w:World}{base e b:Nat}{v0 v1 v2 v3 v4 v5 v6 v7 v8:Value}(h:w.ownsRow base e 9 (.slice (some ⟨b,0,none⟩) 1 1) 1 [v0,v1,v2,v3,v4,v5,v6,v7,v8]):w.cell? ⟨b,0,none⟩=some v0/\w.cell? ⟨b,1,none⟩=some v1/\w.cell? ⟨b,2,none⟩=some v2/\w.cell? ⟨b,3,none⟩=some v3/\w.cell? ⟨b,4,none⟩=some v4/\w.cell? ⟨b,5,none⟩=some v5/\w.cell? ⟨b,6,none⟩=some v6/\w.cell? ⟨b,7,none⟩=some v7/\w.cell? ⟨b,8,none⟩=some v8:=
 ⟨h.cellAt 0 (by decide),h.cellAt 1 (by decide),h.cellAt 2 (by decide),h.cellAt 3 (by decide),h.cellAt 4 (by decide),h.cellAt 5 (by decide),h.cellAt 6 (by decide),h.cellAt 7 (by decide),h.cellAt 8 (by decide)⟩
theorem c6f{w w':World}{b:Nat}{v0 v1 v2 v3 v4 v5:Value}(h:∀o,w'.cell? ⟨b,o,none⟩=w.cell? ⟨b,o,none⟩)(c0:w.cell? ⟨b,0,none⟩=some v0)(c1:w.cell? ⟨b,1,none⟩=some v1)(c2:w.cell? ⟨b,2,none⟩=some v2)(c3:w.cell? ⟨b,3,none⟩=some v3)(c4:w.cell? ⟨b,4,none⟩=some v4)(c5:w.cell? ⟨b,5,none⟩=some v5):w'.cell? ⟨b,0,none⟩=some v0/\w'.cell? ⟨b,1,none⟩=some v1/\w'.cell? ⟨b,2,none⟩=some v2/\w'.cell? ⟨b,3,none⟩=some v3/\w'.cell? ⟨b,4,none⟩=some v4/\w'.cell? ⟨b,5,none⟩=some v5:=
 ⟨(h 0).trans c0,(h 1).trans c1,(h 2).trans c2,(h 3).trans c3,(h 4).trans c4,(h 5).trans c5⟩
theorem c6b{w w':World}{B b:Nat}{v0 v1 v2 v3 v4 v5:Value}(h:Below B w w')(hb:b<B)(c0:w.cell? ⟨b,0,none⟩=some v0)(c1:w.cell? ⟨b,1,none⟩=some v1)(c2:w.cell? ⟨b,2,none⟩=some v2)(c3:w.cell? ⟨b,3,none⟩=some v3)(c4:w.cell? ⟨b,4,none⟩=some v4)(c5:w.cell? ⟨b,5,none⟩=some v5):w'.cell? ⟨b,0,none⟩=some v0/\w'.cell? ⟨b,1,none⟩=some v1/\w'.cell? ⟨b,2,none⟩=some v2/\w'.cell? ⟨b,3,none⟩=some v3/\w'.cell? ⟨b,4,none⟩=some v4/\w'.cell? ⟨b,5,none⟩=some v5:=
 c6f (fun o=>h.cell (p:=⟨b,o,none⟩) hb) c0 c1 c2 c3 c4 c5
end Go.Proofs.YtbahofiiaodpdaaGreat
namespace Go.Proofs.YtbahofiiaodpdaaGreat
open Go.ChangeShapes Go.WideShapes Go.ChangeAt Go.RowKit Go.Deep
theorem open_row{H:Type}{enc:TypeId×Value->H}{P:Program}{w:World}{base:Nat}{spare:Nat->Bool}{held:Bool}{t e:TypeId}{fuel K:Nat}{ao:Option Addr}{len cap:Nat}{x:DataW H×List MemPlace}
 (ht:P.underlying t=some (.slice e))(hK:P.cellsOf e=K)(hpos:0<K)(h:DataW.trod enc P w base spare held fuel t [.slice ao len cap]=some x):
 len<=maxLen/\∃f:Nat->Value,InRow w ao (len*K) f/\∀i,i<len->∃n y,DataW.trod enc P w base spare held n e ((List.range K).map fun j=>f (i*K+j))=some y:=by
 rcases open_slice ht h with⟨h0,_⟩|⟨a,len',cap',m,n,D,Pl,hcs,hb,hl,hm,hmm,_,hx⟩
 ·simp only[List.cons.injEq,Value.slice.injEq,and_true]at h0
  obtain⟨_,rfl,_⟩:=h0;exact⟨Nat.zero_le _,fun _=>undef,.inl (by simp),fun i hi=>by omega⟩
 ·simp only[List.cons.injEq,Value.slice.injEq,and_true]at hcs
  obtain⟨rfl,rfl,rfl⟩:=hcs;have hlm:len<=m:=by rw[hmm];split<;>omega
  refine⟨by omega,?_⟩;rw[hK]at hx;obtain⟨c,hc⟩:=choose_lt (n:=m) (p:=fun i cs'=>w.cells? base (a.add (i*K)) K=some cs'/\DataW.trod enc P w base spare held n e cs'=some (D i,Pl i)) hx;have hcell:∀i,i<m->(c i).length=K/\∀j,j<K->w.cell? (a.add (i*K+j))=(c i)[j]?:=by
   intro i hi;obtain⟨_,hlen,hce⟩:=World.cells?_some (hc i hi).1;refine⟨hlen,fun j hj=>?_⟩;rw[<-add_add];exact hce j hj
  refine⟨fun p=>(c (p/K)).getD (p%K) undef,?_,fun i hi=>⟨n,(D i,Pl i),?_⟩⟩
  ·by_cases h0:len=0
   ·subst h0;exact .inl (by simp)
   ·right
    obtain⟨b,off,spot⟩:=a;have each:∀p,p<len*K->w.cell? ((⟨b,off,spot⟩:Addr).add p)=some ((c (p/K)).getD (p%K) undef):=by
     intro p hp;have h1:p/K<len:=(Nat.div_lt_iff_lt_mul hpos).2 hp;have h2:p%K<K:=Nat.mod_lt _ hpos;obtain⟨q1,q2⟩:=hcell (p/K) (by omega);have:=q2 (p%K) h2;rw[show p/K*K+p%K=p by rw[Nat.mul_comm];exact Nat.div_add_mod p K]at this;rw[this,List.getD_eq_getElem?_getD,List.getElem?_eq_getElem (by omega)];rfl
    have hp0:0<len*K:=Nat.mul_pos (by omega) hpos;have hspot:spot=none:=by simpa[Addr.add]using World.cell?_spot (each 0 hp0)
    subst hspot;refine⟨b,off,rfl,?_,fun p hp=>?_⟩
    ·have:=each 0 hp0
     exact block_lt_of_cell this
    ·rw[<-Go.WideShapes.add_plain];exact each p hp
  ·have e1:((List.range K).map fun j=>(c ((i*K+j)/K)).getD ((i*K+j)%K) undef)=c i:=by
    obtain⟨q1,_⟩:=hcell i (by omega);apply List.ext_getElem?;intro j;by_cases hj:j<K
    ·rw[List.getElem?_map,List.getElem?_range hj]
     simp only[Option.map_some];rw[show(i*K+j)/K=i by rw[Nat.mul_comm,Nat.mul_add_div hpos,Nat.div_eq_of_lt hj];rfl,show(i*K+j)%K=j by rw[Nat.mul_comm,Nat.mul_add_mod];exact Nat.mod_eq_of_lt hj];rw[List.getD_eq_getElem?_getD,List.getElem?_eq_getElem (by omega)];rfl
    ·rw[List.getElem?_eq_none (by simp;omega),List.getElem?_eq_none (by omega)]
   rw[e1];exact(hc i (by omega)).2
end Go.Proofs.YtbahofiiaodpdaaGreat
namespace Go.Proofs.YtbahofiiaodpdaaGreat
open Go.RowKit
def numF(k:IntKind)(R:Nat->Int)(i:Nat):Value:=.int k (R i)
def obsF(K V:Nat->Int)(p:Nat):Value:=if p%2=0 then .int .i64 (K (p/2))else .int .u64 (V (p/2))
theorem obsF_0(K V:Nat->Int)(k:Nat):obsF K V (k*2+0)=.int .i64 (K k):=by unfold obsF;rw[if_pos (by omega),show(k*2+0)/2=k by omega]
theorem obsF_1(K V:Nat->Int)(k:Nat):obsF K V (k*2+1)=.int .u64 (V k):=by unfold obsF;rw[if_neg (by omega),show(k*2+1)/2=k by omega]
structure HeapV where
 base:Int
 wr:Bool
 ao:Option Addr
 len:Nat
 cap:Nat
 dat:Nat->Int
def heapF(Hp:Nat->HeapV)(p:Nat):Value:=if p%3=0 then .int .u64 (Hp (p/3)).base else if p%3=1 then .bool (Hp (p/3)).wr else .slice (Hp (p/3)).ao (Hp (p/3)).len (Hp (p/3)).cap
theorem heapF_0(Hp:Nat->HeapV)(k:Nat):heapF Hp (k*3+0)=.int .u64 (Hp k).base:=by unfold heapF;rw[if_pos (by omega),show(k*3+0)/3=k by omega]
theorem heapF_1(Hp:Nat->HeapV)(k:Nat):heapF Hp (k*3+1)=.bool (Hp k).wr:=by unfold heapF;rw[if_neg (by omega),if_pos (by omega),show(k*3+1)/3=k by omega]
theorem heapF_2(Hp:Nat->HeapV)(k:Nat):heapF Hp (k*3+2)=.slice (Hp k).ao (Hp k).len (Hp k).cap:=by unfold heapF;rw[if_neg (by omega),if_neg (by omega),show(k*3+2)/3=k by omega]
theorem heapF_congr{Hp Hq:Nat->HeapV}{n p:Nat}(hp:p<n*3)(h:∀i,i<n->Hp i=Hq i):heapF Hp p=heapF Hq p:=by unfold heapF;rw[h (p/3) (by omega)]
def HeapV.moved(h:HeapV)(b:Nat):HeapV:={h with ao:=some ⟨b,0,none⟩,cap:=h.len}
end Go.Proofs.YtbahofiiaodpdaaGreat
namespace Go.Proofs.YtbahofiiaodpdaaGreat
open Go
section
variable{P:Program}{ops:Array Oper}{Q:Exit->Act->World->Prop}{md:Region.Mode}{T:World->Prop}{s:Nat}
def wpAnyL(P:Program)(md:Region.Mode)(ops:Array Oper)(Q:Exit->Act->World->Prop)(T:World->Prop)(s:Nat):Nat->Array Bool->Act->World->Prop
 |0,listed,a,w=>Region.ready md ops listed=[]/\Q .normal a w
 |fuel+1,listed,a,w=>
  (Region.ready md ops listed=[]->Q .normal a w)/\
  ∀i∈Region.ready md ops listed,wpOp P ops Q i (fun a' w'=>(i≠s->T w')/\wpAnyL P md ops Q T s fuel (listed.setIfInBounds i true) a' w') a w
theorem wpAny_of_L:∀(fuel:Nat)(listed:Array Bool)(a:Act)(w:World),wpAnyL P md ops Q T s fuel listed a w->wpAny P md ops Q fuel listed a w
 |0,_,_,_,h=>h
 |fuel+1,_,_,_,h=>⟨h.1,fun i hi=>wpOp_mono (fun a' w' h'=>wpAny_of_L fuel _ a' w' h'.2) (h.2 i hi)⟩
def waits(md:Region.Mode)(ops:Array Oper)(s i:Nat):Bool:=match ops[s]? with
 |some o=>o.after.any fun e=>Region.binds md e&&e.on==i
 |none=>false
theorem waits_spec{o:Oper}{i:Nat}(h:waits md ops s i=true)(ho:ops[s]?=some o):∃e∈o.after,Region.binds md e=true/\e.on=i:=by
 unfold waits at h;rw[ho]at h;simp only[Array.any_eq_true]at h;obtain⟨k,hk,hb⟩:=h;simp only[Bool.and_eq_true,beq_iff_eq]at hb;exact⟨_,Array.getElem_mem hk,hb⟩
theorem ready_free{i j:Nat}{oj:Oper}{listed:Array Bool}(hr:i∈Region.ready md ops listed)(hj:j∈Region.ready md ops listed)(hoj:ops[j]?=some oj):∀e∈oj.after,Region.binds md e=true->e.on≠i:=by
 intro e he hb heq;obtain⟨_,o,ho,all⟩:=mem_ready.1 hj;have hoo:o=oj:=by rw[hoj]at ho;exact(Option.some.inj ho).symm
 subst hoo;have on:=all e he hb;have off:=(mem_ready.1 hr).1;rw[heq]at on;by_cases hlt:i<listed.size
 ·simp[hlt]at on off
  rw[off]at on;cases on
 ·simp[Array.getElem?_eq_none (Nat.le_of_not_lt hlt)]at on
def Clear(md:Region.Mode)(ops:Array Oper)(i:Nat)(oi:Oper)(listed:Array Bool):Prop:=
 ∀j oj,ops[j]?=some oj->j≠i->listed.getD j true=false->(∀e∈oj.after,Region.binds md e=true->e.on≠i)->oi.apart ops oj=true
theorem Clear.more{i j:Nat}{oi:Oper}{listed:Array Bool}(h:Clear md ops i oi listed)(hj:j∈Region.ready md ops listed):Clear md ops i oi (listed.setIfInBounds j true):=by
 intro k ok hk hki hun;refine h k ok hk hki ?_;by_cases hjk:j=k
 ·subst hjk;exact(mem_ready.1 hj).1
 ·rwa [getD_set_ne true hjk]at hun
theorem wpAnyL_first{i:Nat}{oi:Oper}{v:Value}(hi:ops[i]?=some oi)(hsel:∀(j:Nat)(o:Oper)cs b,ops[j]?=some o->o.op≠ .select cs b)
 (hQ:∀c a w,Q (.panic c) (a.put oi.dst v) w->Q (.panic c) a w)(hws:waits md ops s i=true):
 ∀(fuel:Nat)(listed:Array Bool)(a:Act)(w:World),Clear md ops i oi listed->i∈Region.ready md ops listed->YieldsIf P ops T oi v a->T w->
  wpAnyL P md ops Q T s fuel (listed.setIfInBounds i true) (a.put oi.dst v) w->wpAnyL P md ops Q T s (fuel+1) listed a w:=by
 intro fuel;induction fuel with
 |zero=>
  intro listed a w _ hr hy hT H;constructor
  ·intro none;rw[none]at hr;cases hr
  ·intro j hj
   by_cases hji:j=i
   ·subst hji;exact hy.wpOp hi hT ⟨fun _=>hT,H⟩
   ·exact absurd (ready_mono hj hji) (by rw[H.1];simp)
 |succ n ih=>
  intro listed a w hcl hr hy hT H;constructor
  ·intro none;rw[none]at hr;cases hr
  ·intro j hj
   by_cases hji:j=i
   ·subst hji;exact hy.wpOp hi hT ⟨fun _=>hT,H⟩
   ·obtain⟨un,oj,hoj,_⟩:=mem_ready.1 hj
    have nw:=ready_free hr hj hoj;have js:j≠s:=by
     intro e;subst e;obtain⟨e,he,hb,hon⟩:=waits_spec hws hoj;exact nw e he hb hon
    have step:=wpOp_putIf hoj (hcl j oj hoj hji un nw) (fun cs b=>hsel i oi cs b hi) (fun cs b=>hsel j oj cs b hoj) hQ hy (H.2 j (ready_mono hj hji));refine wpOp_mono (fun a' w'⟨y',t',k'⟩=>⟨t',ih _ a' w' (hcl.more hj) (ready_mono hr (Ne.symm hji)) y' (t' js) ?_⟩) step;rw[Array.setIfInBounds_comm _ _ hji];exact k'
theorem wpAnyL_take{i:Nat}{oi:Oper}{v:Value}{fuel:Nat}{listed:Array Bool}{a:Act}{w:World}(hi:ops[i]?=some oi)
 (hs:Region.noSelect ops=true)(hf:Region.free md ops listed i=true)(hr:(Region.ready md ops listed).contains i=true)(hws:waits md ops s i=true)
 (hQ:∀c a w,Q (.panic c) (a.put oi.dst v) w->Q (.panic c) a w)(hy:YieldsIf P ops T oi v a)(hS:T w)
 (h:wpAnyL P md ops Q T s fuel (listed.setIfInBounds i true) (a.put oi.dst v) w):wpAnyL P md ops Q T s (fuel+1) listed a w:=
 wpAnyL_first hi (Region.noSelect_spec hs) hQ hws fuel listed a w (Region.free_spec hi hf) (by simpa using hr) hy hS h
theorem wpAnyL_tk(i:Nat)(v:Value){oi:Oper}{fuel:Nat}{listed:Array Bool}{a:Act}{w:World}(hi:ops[i]?=some oi)(hy:∀w,T w->(execOp a.eval oi).run P w=.ok (.value v) w)
 (h:wpAnyL P md ops Q T s fuel (listed.setIfInBounds i true) (a.put oi.dst v) w)
 (hw:Region.wanted oi (yielded ops a.tmps)=true:=by kernel_rfl)(hs:Region.noSelect ops=true:=by kernel_rfl)(hf:Region.free md ops listed i=true:=by kernel_rfl)(hr:(Region.ready md ops listed).contains i=true:=by kernel_rfl)(hws:waits md ops s i=true:=by kernel_rfl)
 (hQ:∀c a w,Q (.panic c) (a.put oi.dst v) w->Q (.panic c) a w:=by exact fun _ _ _ h=>h)(hS:T w:=by assumption):wpAnyL P md ops Q T s (fuel+1) listed a w:=
 wpAnyL_take hi hs hf hr hws hQ (Or.inl ⟨hw,hy⟩) hS h
theorem wpAnyH_tk(i:Nat)(v:Value){oi:Oper}{fuel:Nat}{listed:Array Bool}{a:Act}{w:World}(hi:ops[i]?=some oi)(hy:∀w,T w->(execOp a.eval oi).run P w=.ok (.value v) w)
 (h:wpAnyH P md ops Q T fuel (listed.setIfInBounds i true) (a.put oi.dst v) w)
 (hw:Region.wanted oi (yielded ops a.tmps)=true:=by kernel_rfl)(hs:Region.noSelect ops=true:=by kernel_rfl)(hf:Region.free md ops listed i=true:=by kernel_rfl)(hr:(Region.ready md ops listed).contains i=true:=by kernel_rfl)
 (hQ:∀c a w,Q (.panic c) (a.put oi.dst v) w->Q (.panic c) a w:=by exact fun _ _ _ h=>h)(hS:T w:=by assumption):wpAnyH P md ops Q T (fuel+1) listed a w:=
 wpAnyH_take hi hs hf hr hQ (Or.inl ⟨hw,hy⟩) hS h
theorem wpAnyH_ta(i:Nat){v:Value}{oi:Oper}{fuel:Nat}{listed l':Array Bool}{a a':Act}{w:World}(hi:ops[i]?=some oi)(h:wpAnyH P md ops Q T fuel l' a' w)
 (hy:∀w,T w->(execOp a.eval oi).run P w=.ok (.value v) w:=by(intro w hSw;(try dsimp only at hSw);go_simp;try with_reducible rfl))
 (ha:a.put oi.dst v=a':=by((try simp only[Act.put,List.getElem_toArray,List.getElem_cons_zero,List.getElem_cons_succ,List.setIfInBounds_toArray,List.set_cons_zero,List.set_cons_succ]);rfl))(hl:listed.setIfInBounds i true=l':=by((try simp only[List.getElem_toArray,List.getElem_cons_zero,List.getElem_cons_succ,List.setIfInBounds_toArray,List.set_cons_zero,List.set_cons_succ]);rfl))
 (hw:Region.wanted oi (yielded ops a.tmps)=true:=by kernel_rfl)(hs:Region.noSelect ops=true:=by kernel_rfl)(hf:Region.free md ops listed i=true:=by kernel_rfl)(hr:(Region.ready md ops listed).contains i=true:=by kernel_rfl)
 (hQ:∀c a w,Q (.panic c) (a.put oi.dst v) w->Q (.panic c) a w:=by exact fun _ _ _ h=>h)(hS:T w:=by assumption):wpAnyH P md ops Q T (fuel+1) listed a w:=by
 subst ha hl;exact wpAnyH_tk i v hi hy h hw hs hf hr hQ hS
theorem wpAnyL_ta(i:Nat){v:Value}{oi:Oper}{fuel:Nat}{listed l':Array Bool}{a a':Act}{w:World}(hi:ops[i]?=some oi)(h:wpAnyL P md ops Q T s fuel l' a' w)
 (hy:∀w,T w->(execOp a.eval oi).run P w=.ok (.value v) w:=by(intro w hSw;(try dsimp only at hSw);go_simp;try with_reducible rfl))
 (ha:a.put oi.dst v=a':=by((try simp only[Act.put,List.getElem_toArray,List.getElem_cons_zero,List.getElem_cons_succ,List.setIfInBounds_toArray,List.set_cons_zero,List.set_cons_succ]);rfl))(hl:listed.setIfInBounds i true=l':=by((try simp only[List.getElem_toArray,List.getElem_cons_zero,List.getElem_cons_succ,List.setIfInBounds_toArray,List.set_cons_zero,List.set_cons_succ]);rfl))
 (hw:Region.wanted oi (yielded ops a.tmps)=true:=by kernel_rfl)(hs:Region.noSelect ops=true:=by kernel_rfl)(hf:Region.free md ops listed i=true:=by kernel_rfl)(hr:(Region.ready md ops listed).contains i=true:=by kernel_rfl)(hws:waits md ops s i=true:=by kernel_rfl)
 (hQ:∀c a w,Q (.panic c) (a.put oi.dst v) w->Q (.panic c) a w:=by exact fun _ _ _ h=>h)(hS:T w:=by assumption):wpAnyL P md ops Q T s (fuel+1) listed a w:=by
 subst ha hl;exact wpAnyL_tk i v hi hy h hw hs hf hr hws hQ hS
theorem wpAnyH_sk(i:Nat){oi:Oper}{fuel:Nat}{listed:Array Bool}{a:Act}{w:World}(hi:ops[i]?=some oi)
 (h:wpAnyH P md ops Q T fuel (listed.setIfInBounds i true) (a.put oi.dst undef) w)
 (hw:Region.wanted oi (yielded ops a.tmps)=false:=by kernel_rfl)(hs:Region.noSelect ops=true:=by kernel_rfl)(hf:Region.free md ops listed i=true:=by kernel_rfl)(hr:(Region.ready md ops listed).contains i=true:=by kernel_rfl)
 (hQ:∀c a w,Q (.panic c) (a.put oi.dst undef) w->Q (.panic c) a w:=by exact fun _ _ _ h=>h)(hS:T w:=by assumption):wpAnyH P md ops Q T (fuel+1) listed a w:=
 wpAnyH_take hi hs hf hr hQ (Or.inr ⟨hw,rfl⟩) hS h
theorem wpAnyL_call{i:Nat}{oi:Oper}{fuel:Nat}{listed:Array Bool}{a:Act}{w:World}(hi:ops[i]?=some oi)(hr:Region.ready md ops listed=[i])
 (h:∀K':Act->World->Prop,Shut (∀a w,T w->(T w->wpAnyL P md ops Q T s fuel (listed.setIfInBounds i true) a w)->K' a w)->if Region.wanted oi (yielded ops a.tmps)=true then Oper.wp P oi a w K' Q else K' (a.put oi.dst undef) w):
 wpAnyL P md ops Q T s (fuel+1) listed a w:=
 ⟨fun h0=>(by rw[hr]at h0;cases h0),fun j hj=>by
   rw[hr]at hj;obtain rfl:j=i:=by simpa using hj
   exact wpOp_step hi fun K' hK=>h K' fun a w hS hW=>hK a w ⟨fun _=>hS,hW hS⟩⟩
theorem wpAnyL_store{oi:Oper}{fuel:Nat}{listed:Array Bool}{a:Act}{w:World}(hi:ops[s]?=some oi)(hr:Region.ready md ops listed=[s])(hd:Region.ready md ops (listed.setIfInBounds s true)=[])
 (h:∀K':Act->World->Prop,Shut (∀a w,Q .normal a w->K' a w)->if Region.wanted oi (yielded ops a.tmps)=true then Oper.wp P oi a w K' Q else K' (a.put oi.dst undef) w):
 wpAnyL P md ops Q T s (fuel+1) listed a w:=
 ⟨fun h0=>(by rw[hr]at h0;cases h0),fun j hj=>by
   rw[hr]at hj;obtain rfl:j=s:=by simpa using hj
   refine wpOp_step hi fun K' hK=>h K' fun a w hq=>hK a w ⟨fun h=>absurd rfl h,?_⟩
   cases fuel with
   |zero=>exact⟨hd,hq⟩
   |succ n=>exact⟨fun _=>hq,fun i hi=>by rw[hd]at hi;cases hi⟩⟩
theorem wp_region_L{id:Nat}{a:Act}{w:World}(hm:P.follows .mixedOrders=true)(hS:T w.drew)
 (h:T w.drew->wpAnyL P .any ops Q T s ops.size (Array.replicate ops.size false) a w.drew):(Code.region id ops true).wp P Q a w:=
 wp_region_any hm (wpAny_of_L _ _ _ _ (h hS))
end
section
variable{P:Program}{ops:Array Oper}{Q:Exit->Act->World->Prop}{md:Region.Mode}{T:World->Prop}{s:Nat}
def waitsT(md:Region.Mode)(ops:Array Oper):Nat->Nat->Nat->Bool
 |0,s,i=>waits md ops s i
 |n+1,s,i=>waits md ops s i||(List.range ops.size).any fun k=>waits md ops s k&&waitsT md ops n k i
def Closed(md:Region.Mode)(ops:Array Oper)(listed:Array Bool):Prop:=
 ∀j oj,ops[j]?=some oj->listed.getD j false=true->∀e∈oj.after,Region.binds md e=true->listed.getD e.on false=true
def closedB(md:Region.Mode)(ops:Array Oper)(listed:Array Bool):Bool:=
 (List.range ops.size).all fun j=>!(listed.getD j false)||match ops[j]? with
   |some o=>o.after.all fun e=>!(Region.binds md e)||listed.getD e.on false
   |none=>true
theorem closed_of{listed:Array Bool}(h:closedB md ops listed=true):Closed md ops listed:=by
 intro j oj hj hl e he hb;unfold closedB at h;rw[List.all_eq_true]at h;have hlt:j<ops.size:=(Array.getElem?_eq_some_iff.1 hj).1;have:=h j (List.mem_range.2 hlt);rw[hl,hj]at this;simp only[Bool.not_true,Bool.false_or,Array.all_eq_true_iff_forall_mem]at this;have:=this e he;rw[hb]at this;simpa using this
theorem ready_on{j:Nat}{oj:Oper}{listed:Array Bool}(hj:j∈Region.ready md ops listed)(hoj:ops[j]?=some oj):∀e∈oj.after,Region.binds md e=true->listed.getD e.on false=true:=by
 intro e he hb;obtain⟨_,o,ho,all⟩:=mem_ready.1 hj;have hoo:o=oj:=by rw[hoj]at ho;exact(Option.some.inj ho).symm
 subst hoo;exact all e he hb
theorem listed_waitsT{listed:Array Bool}(hc:Closed md ops listed):∀n k i,listed.getD k false=true->waitsT md ops n k i=true->listed.getD i false=true
 |0,k,i,hk,h=>by
  unfold waitsT waits at h;cases ho:ops[k]? with
  |none=>rw[ho]at h;cases h
  |some o=>
   obtain⟨e,he,hb,hon⟩:=waits_spec (s:=k) (i:=i) h ho;rw[<-hon];exact hc k o ho hk e he hb
 |n+1,k,i,hk,h=>by
  unfold waitsT at h;rw[Bool.or_eq_true]at h;rcases h with h|h
  ·exact listed_waitsT hc 0 k i hk h
  ·rw[List.any_eq_true]at h
   obtain⟨m,_,hm⟩:=h;rw[Bool.and_eq_true]at hm;exact listed_waitsT hc n m i (listed_waitsT hc 0 k m hk hm.1) hm.2
theorem ready_waitsT{listed:Array Bool}(hc:Closed md ops listed){n j i:Nat}(hj:j∈Region.ready md ops listed)(h:waitsT md ops n j i=true):listed.getD i false=true:=by
 obtain⟨_,o,ho,_⟩:=mem_ready.1 hj;have base:∀k,waits md ops j k=true->listed.getD k false=true:=fun k hk=>by
  obtain⟨e,he,hb,hon⟩:=waits_spec hk ho;rw[<-hon];exact ready_on hj ho e he hb
 cases n with
 |zero=>exact base i h
 |succ n=>
  unfold waitsT at h;rw[Bool.or_eq_true]at h;rcases h with h|h
  ·exact base i h
  ·rw[List.any_eq_true]at h
   obtain⟨m,_,hm⟩:=h;rw[Bool.and_eq_true]at hm;exact listed_waitsT hc n m i (base m hm.1) hm.2
theorem Closed.more{j:Nat}{listed:Array Bool}(h:Closed md ops listed)(hj:j∈Region.ready md ops listed):Closed md ops (listed.setIfInBounds j true):=by
 have up:∀k,listed.getD k false=true->(listed.setIfInBounds j true).getD k false=true:=by
  intro k hk;by_cases e:j=k
  ·subst e
   have hlt:j<listed.size:=by
    by_cases hlt:j<listed.size
    ·exact hlt
    ·rw[Array.getD_eq_getD_getElem?,Array.getElem?_eq_none (Nat.le_of_not_lt hlt)]at hk;cases hk
   simp[Array.getD_eq_getD_getElem?,hlt]
  ·rw[Array.getD_eq_getD_getElem?,Array.getElem?_setIfInBounds,if_neg e,<-Array.getD_eq_getD_getElem?];exact hk
 intro k ok hk hl e he hb;by_cases q:j=k
 ·subst q;exact up _ (ready_on hj hk e he hb)
 ·refine up _ (h k ok hk ?_ e he hb)
  rw[Array.getD_eq_getD_getElem?,Array.getElem?_setIfInBounds,if_neg q,<-Array.getD_eq_getD_getElem?]at hl;exact hl
theorem wpAnyL_firstT{i n:Nat}{oi:Oper}{v:Value}(hi:ops[i]?=some oi)(hsel:∀(j:Nat)(o:Oper)cs b,ops[j]?=some o->o.op≠ .select cs b)
 (hQ:∀c a w,Q (.panic c) (a.put oi.dst v) w->Q (.panic c) a w)(hws:waitsT md ops n s i=true):
 ∀(fuel:Nat)(listed:Array Bool)(a:Act)(w:World),Closed md ops listed->Clear md ops i oi listed->i∈Region.ready md ops listed->YieldsIf P ops T oi v a->T w->
  wpAnyL P md ops Q T s fuel (listed.setIfInBounds i true) (a.put oi.dst v) w->wpAnyL P md ops Q T s (fuel+1) listed a w:=by
 intro fuel;induction fuel with
 |zero=>
  intro listed a w _ _ hr hy hT H;constructor
  ·intro none;rw[none]at hr;cases hr
  ·intro j hj
   by_cases hji:j=i
   ·subst hji;exact hy.wpOp hi hT ⟨fun _=>hT,H⟩
   ·exact absurd (ready_mono hj hji) (by rw[H.1];simp)
 |succ n ih=>
  intro listed a w hcd hcl hr hy hT H;constructor
  ·intro none;rw[none]at hr;cases hr
  ·intro j hj
   by_cases hji:j=i
   ·subst hji;exact hy.wpOp hi hT ⟨fun _=>hT,H⟩
   ·obtain⟨un,oj,hoj,_⟩:=mem_ready.1 hj
    have nw:=ready_free hr hj hoj;have js:j≠s:=by
     intro e;subst e;have on:=ready_waitsT hcd hj hws;have off:=(mem_ready.1 hr).1;rw[Array.getD_eq_getD_getElem?]at on off;cases hq:listed[i]? with
     |none=>rw[hq]at on;cases on
     |some b=>rw[hq]at on off;simp at on off;rw[on]at off;cases off
    have step:=wpOp_putIf hoj (hcl j oj hoj hji un nw) (fun cs b=>hsel i oi cs b hi) (fun cs b=>hsel j oj cs b hoj) hQ hy (H.2 j (ready_mono hj hji));refine wpOp_mono (fun a' w'⟨y',t',k'⟩=>⟨t',ih _ a' w' (hcd.more hj) (hcl.more hj) (ready_mono hr (Ne.symm hji)) y' (t' js) ?_⟩) step;rw[Array.setIfInBounds_comm _ _ hji];exact k'
theorem wpAnyL_takeT{i:Nat}{oi:Oper}{v:Value}{fuel:Nat}{listed:Array Bool}{a:Act}{w:World}(hi:ops[i]?=some oi)
 (hs:Region.noSelect ops=true)(hf:Region.free md ops listed i=true)(hr:(Region.ready md ops listed).contains i=true)(hws:(waitsT md ops 6 s i&&closedB md ops listed)=true)
 (hQ:∀c a w,Q (.panic c) (a.put oi.dst v) w->Q (.panic c) a w)(hy:YieldsIf P ops T oi v a)(hS:T w)
 (h:wpAnyL P md ops Q T s fuel (listed.setIfInBounds i true) (a.put oi.dst v) w):wpAnyL P md ops Q T s (fuel+1) listed a w:=
 wpAnyL_firstT hi (Region.noSelect_spec hs) hQ (Bool.and_eq_true _ _▸hws).1 fuel listed a w (closed_of (Bool.and_eq_true _ _▸hws).2) (Region.free_spec hi hf) (by simpa using hr) hy hS h
theorem wpAnyL_tkT(i:Nat)(v:Value){oi:Oper}{fuel:Nat}{listed:Array Bool}{a:Act}{w:World}(hi:ops[i]?=some oi)(hy:∀w,T w->(execOp a.eval oi).run P w=.ok (.value v) w)
 (h:wpAnyL P md ops Q T s fuel (listed.setIfInBounds i true) (a.put oi.dst v) w)
 (hw:Region.wanted oi (yielded ops a.tmps)=true:=by kernel_rfl)(hs:Region.noSelect ops=true:=by kernel_rfl)(hf:Region.free md ops listed i=true:=by kernel_rfl)(hr:(Region.ready md ops listed).contains i=true:=by kernel_rfl)(hws:(waitsT md ops 6 s i&&closedB md ops listed)=true:=by kernel_rfl)
 (hQ:∀c a w,Q (.panic c) (a.put oi.dst v) w->Q (.panic c) a w:=by exact fun _ _ _ h=>h)(hS:T w:=by assumption):wpAnyL P md ops Q T s (fuel+1) listed a w:=
 wpAnyL_takeT hi hs hf hr hws hQ (Or.inl ⟨hw,hy⟩) hS h
theorem wpAnyL_taT(i:Nat){v:Value}{oi:Oper}{fuel:Nat}{listed l':Array Bool}{a a':Act}{w:World}(hi:ops[i]?=some oi)(h:wpAnyL P md ops Q T s fuel l' a' w)
 (hy:∀w,T w->(execOp a.eval oi).run P w=.ok (.value v) w:=by(intro w hSw;(try dsimp only at hSw);go_simp;try with_reducible rfl))
 (ha:a.put oi.dst v=a':=by((try simp only[Act.put,List.getElem_toArray,List.getElem_cons_zero,List.getElem_cons_succ,List.setIfInBounds_toArray,List.set_cons_zero,List.set_cons_succ]);rfl))(hl:listed.setIfInBounds i true=l':=by((try simp only[List.getElem_toArray,List.getElem_cons_zero,List.getElem_cons_succ,List.setIfInBounds_toArray,List.set_cons_zero,List.set_cons_succ]);rfl))
 (hw:Region.wanted oi (yielded ops a.tmps)=true:=by kernel_rfl)(hs:Region.noSelect ops=true:=by kernel_rfl)(hf:Region.free md ops listed i=true:=by kernel_rfl)(hr:(Region.ready md ops listed).contains i=true:=by kernel_rfl)(hws:(waitsT md ops 6 s i&&closedB md ops listed)=true:=by kernel_rfl)
 (hQ:∀c a w,Q (.panic c) (a.put oi.dst v) w->Q (.panic c) a w:=by exact fun _ _ _ h=>h)(hS:T w:=by assumption):wpAnyL P md ops Q T s (fuel+1) listed a w:=by
 subst ha hl;exact wpAnyL_tkT i v hi hy h hw hs hf hr hws hQ hS
end
end Go.Proofs.YtbahofiiaodpdaaGreat
namespace Go.Proofs.YtbahofiiaodpdaaGreat
open Go.RowKit
theorem sum_any(a b:Int)(w:World):
 Calls Tryz.prog 105 #[.int .u64 a,.int .u64 b] w fun e w'=>e=.returned (.int .u64 (IntKind.u64.wrap (a+b)))/\w'=w:=by
 go_enter Tryz.func105,Tryz.ntmps105;go_wp2;go_ret;exact⟨rfl,rfl⟩
theorem difference_any(a b:Int)(w:World):
 Calls Tryz.prog 106 #[.int .u64 a,.int .u64 b] w fun e w'=>e=.returned (.int .u64 (IntKind.u64.wrap (a-b)))/\w'=w:=by
 go_enter Tryz.func106,Tryz.ntmps106;go_wp2;go_ret;exact⟨rfl,rfl⟩
theorem product_any(a b:Int)(w:World):
 Calls Tryz.prog 107 #[.int .u64 a,.int .u64 b] w fun e w'=>e=.returned (.int .u64 (IntKind.u64.wrap (a*b)))/\w'=w:=by
 go_enter Tryz.func107,Tryz.ntmps107;go_wp2;go_ret;exact⟨rfl,rfl⟩
theorem bothBits_any(a b:Int)(w:World):
 Calls Tryz.prog 108 #[.int .u64 a,.int .u64 b] w fun e w'=>e=.returned (.int .u64 (bits BinOp.and IntKind.u64 (a) (b)))/\w'=w:=by
 go_enter Tryz.func108,Tryz.ntmps108;go_wp2;go_ret;exact⟨rfl,rfl⟩
theorem eitherBits_any(a b:Int)(w:World):
 Calls Tryz.prog 109 #[.int .u64 a,.int .u64 b] w fun e w'=>e=.returned (.int .u64 (bits BinOp.or IntKind.u64 (a) (b)))/\w'=w:=by
 go_enter Tryz.func109,Tryz.ntmps109;go_wp2;go_ret;exact⟨rfl,rfl⟩
theorem oneBits_any(a b:Int)(w:World):
 Calls Tryz.prog 110 #[.int .u64 a,.int .u64 b] w fun e w'=>e=.returned (.int .u64 (bits BinOp.xor IntKind.u64 (a) (b)))/\w'=w:=by
 go_enter Tryz.func110,Tryz.ntmps110;go_wp2;go_ret;exact⟨rfl,rfl⟩
theorem shiftLeft_any(a b:Int)(w:World)(h0:0<=b)(h1:b<=63):
 Calls Tryz.prog 113 #[.int .u64 a,.int .u64 b] w fun e w'=>e=.returned (.int .u64 (IntKind.u64.wrap (a*2^(b).toNat)))/\w'=w:=by
 go_enter Tryz.func113,Tryz.ntmps113;go_wp2;go_ret;exact⟨rfl,rfl⟩
theorem shiftRight_any(a b:Int)(w:World)(h0:0<=b)(h1:b<=63):
 Calls Tryz.prog 114 #[.int .u64 a,.int .u64 b] w fun e w'=>e=.returned (.int .u64 (a/2^(b).toNat))/\w'=w:=by
 go_enter Tryz.func114,Tryz.ntmps114;go_wp2;go_ret;exact⟨rfl,rfl⟩
def Cl(w:World)(b:Nat)(vs:List Value):Prop:=b<w.heap.size/\∀i,i<vs.length->w.cell? ⟨b,i,none⟩=some (vs.getD i undef)
theorem Cl.below{w w':World}{b:Nat}{vs:List Value}(h:Cl w b vs)(hb:Below w.heap.size w w'):Cl w' b vs:=
 ⟨Nat.lt_of_lt_of_le h.1 hb.size,fun i hi=>(hb.cell (p:=⟨b,i,none⟩) h.1).trans (h.2 i hi)⟩
theorem Cl.new{w:World}{vs:Array Value}{t:TypeId}:Cl (w.alloc (.cells vs t)) w.heap.size vs.toList:=
 ⟨by simp,fun i hi=>by simp[go_sem,List.getD_eq_getElem?_getD]at hi⊢;simp[hi]⟩
end Go.Proofs.YtbahofiiaodpdaaGreat
