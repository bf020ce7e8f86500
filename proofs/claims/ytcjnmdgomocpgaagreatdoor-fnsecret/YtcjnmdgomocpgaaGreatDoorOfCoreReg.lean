import Derived.Deep.RegionHeld
import Derived.Test.YtcjnmdgomocpgaaGreatDoorRows
import Derived.WalkSpells
import Derived.WalkLawsBesides
import Derived.ProofKit
import Derived.Deep.Slices
namespace Go.Proofs.YtcjnmdgomocpgaaGreatDoor
section
open Go Go.RowKit
variable {i:Nat}{p:Prop}{w:World}
theorem hxy(h:p):Hid p:=h
abbrev Vi(x:Int):Value:=.int .i64 x
abbrev Vs(b n c:Nat):Value:=.slice (some ⟨b,0,none⟩) n c
abbrev Va(b o:Nat):Addr:=⟨b,o,none⟩
abbrev Vq(b:Nat):Value:=.pointer (some ⟨b,0,none⟩)
theorem BQ{n:Nat}:n<=n:=Nat.le_refl n
theorem Ey{a b c:Nat}(h:a<b)(k:b<=c):a<c:=Nat.lt_of_lt_of_le h k
theorem I8{α:Type}{xs:Array α}{b:α}:xs[i]?=some b↔∃h:i<xs.size,xs[i]=b:=Array.getElem?_eq_some_iff
theorem KJ{α:Type}{l:List α}{d:α}:l.getD i d=l[i]?.getD d:=List.getD_eq_getElem?_getD
theorem Au{α:Type}(a:α):∃y,a=y:=⟨_,rfl⟩
theorem Ai{o:Obj}:Below w.heap.size w (w.alloc o):=(Below.refl _ _).alloc (Nat.le_refl _) _
theorem rY{α:Type}{l:List α}(h:i<l.toArray.size):l.toArray[i]'h=l[i]'(by simpa using h):=rfl
theorem uK{α:Type}{a:α}{l:List α}(h:0<(a::l).length):(a::l)[0]'h=a:=rfl
theorem rX{α:Type}{a:α}{l:List α}(h:i+1<(a::l).length):(a::l)[i+1]'h=l[i]'(Nat.lt_of_succ_lt_succ h):=rfl
theorem rP{α:Type}{l:List α}{a:α}:l.toArray.setIfInBounds i a=(l.set i a).toArray:=by simp
theorem uo{α:Type}{a b:α}{l:List α}:(a::l).set 0 b=b::l:=rfl
theorem tQ{α:Type}{a b:α}{l:List α}{n:Nat}:(a::l).set (n+1) b=a::l.set n b:=rfl
theorem AO{P:Program}{ops:Array Oper}{Q:Exit->Act->World->Prop}{md:Region.Mode}{S:World->Prop}(i:Nat){o:Oper}{fuel:Nat}{listed:Array Bool}{a:Act}(ho:ops[i]?=some o)
 (h:∀K':Act->World->Prop,Shut (∀a w,S w->(S w->wpAnyH P md ops Q S fuel (listed.setIfInBounds i true) a w)->K' a w)->if Region.wanted o (yielded ops a.tmps)=true then Oper.wp P o a w K' Q else K' (a.put o.dst undef) w)
 (hr:Region.ready md ops listed=[i]:=by kernel_rfl):wpAnyH P md ops Q S (fuel+1) listed a w:=wpAnyH_ready hr (List.cons_ne_nil _ _) (AllReadyH.cons ho h AllReadyH.nil)
theorem AB(h:p:=by omega):p:=h
theorem Ad(h:p:=by decide):p:=h
theorem AX(h:p:=by simp):p:=h
theorem AV(h:p:=by kernel_rfl):p:=h
theorem BJ{B:Nat}:Below B w w:=Below.refl B w
abbrev Bw(w w':World):Prop:=Below w.heap.size w w'
abbrev wz(w:World):Nat:=w.heap.size
structure Bx(p:Prop):Prop where
 o:p
theorem Cn{q:Prop}(hq:q)(h:Bx q->p:=by(intro hq;(try simp only[Act.put,rY,uK,rX,rP,uo,tQ]);exact hq.o)):p:=h ⟨hq⟩
abbrev Zq:Array Value:=#[.slice none 0 0,.bool false,.bool false,.bool false,.bool false,.slice none 0 0,.int .i64 0,.int .i64 0,.slice none 0 0]
abbrev Zp:List Value:=[.slice none 0 0,.bool false,.bool false,.bool false,.bool false,.slice none 0 0,.int .i64 0,.int .i64 0,.slice none 0 0]
abbrev Cb(u:World)(b i:Nat)(v:Value):Prop:=∀w',Below u.heap.size u w'->w'.cell? ⟨b,i,none⟩=some v
theorem mY{P:Program}{fn:Func}{R:Ending->World->Prop}{a:Act}(v:Value)(hr:(results fn a.tmps).run P w=.ok v w)(hR:R (.returned v) w)(hd:a.defers=[]:=by rfl):bodyPost P fn R .ret a w:=bodyPost_ret hr hd hR
abbrev Ks(f:FuncId)(a:Array Value)(w:World)(R:Ending->World->Prop):Prop:=Calls Tryz.prog f a w R
end
section
open Go.RowKit
variable {B b c n:Nat}{f:Nat->Value}{C D M O U a k v6 v7:Value}{j w:World}
theorem Ud{W N:World}(a:Below W.heap.size W N):(∀b o,b<W.heap.size->N.cell? ⟨b,o,none⟩=W.cell? ⟨b,o,none⟩)/\(∀b o,b<W.heap.size->N.frozen? ⟨b,o,none⟩=W.frozen? ⟨b,o,none⟩):=
 ⟨fun b o h=>a.cell (p:=⟨b,o,none⟩) h,fun b o h=>a.frozen (p:=⟨b,o,none⟩) h⟩
def At(w:World)(b off n:Nat)(f:Nat->Value):Prop:=b<w.heap.size/\∀i,i<n->w.cell? ⟨b,off+i,none⟩=some (f i)
def Ak(w:World)(b n:Nat)(f:Nat->Value):Prop:=b<w.heap.size/\(∀i,w.frozen? ⟨b,i,none⟩=false)/\∀i,i<n->w.cell? ⟨b,i,none⟩=some (f i)
theorem Ak.lt(h:Ak w b n f):b<w.heap.size:=h.1
theorem Ak.free(h:Ak w b n f):∀i,w.frozen? ⟨b,i,none⟩=false:=h.2.1
theorem Ak.cell(h:Ak w b n f){i:Nat}(a:i<n):w.cell? ⟨b,i,none⟩=some (f i):=h.2.2 i a
theorem Ak.at(h:Ak w b n f):At w b 0 n f:=⟨h.1,fun i a=>by rw[Nat.zero_add];exact h.2.2 i a⟩
theorem Ak.congr{g:Nat->Value}(h:Ak w b n f)(e:∀i,i<n->f i=g i):Ak w b n g:=⟨h.1,h.2.1,fun i a=>by rw[h.2.2 i a,e i a]⟩
theorem Ak.below(h:Ak w b n f)(a:Below B w j)(c:b<B):Ak j b n f:=
 ⟨Nat.lt_of_lt_of_le h.1 a.size,fun i=>(a.frozen (p:=⟨b,i,none⟩) c).trans (h.2.1 i),fun i d=>(a.cell (p:=⟨b,i,none⟩) c).trans (h.2.2 i d)⟩
theorem At.lt(h:At w b c n f):b<w.heap.size:=h.1
theorem At.cell(h:At w b c n f){i:Nat}(a:i<n):w.cell? ⟨b,c+i,none⟩=some (f i):=h.2 i a
theorem At.below(h:At w b c n f)(a:Below B w j)(d:b<B):At j b c n f:=
 ⟨Nat.lt_of_lt_of_le h.1 a.size,fun i e=>(a.cell (p:=⟨b,c+i,none⟩) d).trans (h.2 i e)⟩
theorem size_setCells(b:Nat):∀(a:List Value)(o:Nat)(w:World),(w.setCells b o a).heap.size=w.heap.size
 |[],_,_=>rfl
 |v::r,o,w=>by rw[World.setCells,size_setCells b r];simp
theorem below_setCells(a:B<=b):∀(d:List Value)(o:Nat){c w:World},Below B c w->Below B c (w.setCells b o d)
 |[],_,_,_,h=>h
 |v::r,o,_,_,h=>by rw[World.setCells];exact below_setCells a r (o+1) (h.setCell (by simpa using a) v)
theorem Ak.setCells(h:Ak w b n f)(o:Nat)(a:List Value)(e:o+a.length<=n):
 Ak (w.setCells b o a) b n (fun i=>if o<=i/\i<o+a.length then a.getD (i-o) undef else f i):=by
 refine⟨by rw[size_setCells];exact h.1,fun i=>by rw[World.frozen?_setCells];exact h.2.1 i,fun i d=>?_⟩;by_cases g:o<=i/\i<o+a.length
 ·have c:i-o<a.length:=by omega
  have:=World.cell?_setCells_in b a o w (fun j c=>by rw[h.2.2 (o+j) (by omega)];rfl) (i-o) c;rw[show o+(i-o)=i by omega]at this;rw[this];simp[g,List.getD,c]
 ·rw[World.cell?_setCells_out b a o w ⟨b,i,none⟩ (fun _ _=>by simp only;omega),h.2.2 i d]
  simp[g]
theorem Ak.other(h:Ak w b n f){a:Addr}(c:a.block≠b)(v:Value):Ak (w.setCell a v) b n f:=
 ⟨by simpa using h.1,fun i=>by rw[World.frozen?_setCell];exact h.2.1 i,fun i d=>by rw[World.cell?_setCell_other _ _ _ _ (fun e=>c (by rw[e]))];exact h.2.2 i d⟩
def UM(w:World)(ao:Option Addr)(n:Nat)(f:Nat->Value):Prop:=n=0∨∃b off,ao=some ⟨b,off,none⟩/\At w b off n f
theorem UM.below{U:Option Addr}(h:UM w U n f)(d:Below B w j)(c:w.heap.size<=B):UM j U n f:=by
 rcases h with h|⟨b,a,rfl,h⟩
 ·exact .inl h
 ·exact .inr ⟨b,a,rfl,h.below d (Nat.lt_of_lt_of_le h.lt c)⟩
theorem Dl{l e:Nat}(h:w.ownsRow l e 9 (.slice (some ⟨b,0,none⟩) 1 1) 1 [k,a,M,D,C,O,v6,v7,U]):w.cell? ⟨b,0,none⟩=some k/\w.cell? ⟨b,1,none⟩=some a/\w.cell? ⟨b,2,none⟩=some M/\w.cell? ⟨b,3,none⟩=some D/\w.cell? ⟨b,4,none⟩=some C/\w.cell? ⟨b,5,none⟩=some O/\w.cell? ⟨b,6,none⟩=some v6/\w.cell? ⟨b,7,none⟩=some v7/\w.cell? ⟨b,8,none⟩=some U:=
 ⟨h.cellAt 0 (by decide),h.cellAt 1 (by decide),h.cellAt 2 (by decide),h.cellAt 3 (by decide),h.cellAt 4 (by decide),h.cellAt 5 (by decide),h.cellAt 6 (by decide),h.cellAt 7 (by decide),h.cellAt 8 (by decide)⟩
theorem lI(h:∀o,j.cell? ⟨b,o,none⟩=w.cell? ⟨b,o,none⟩)(c:w.cell? ⟨b,0,none⟩=some k)(d:w.cell? ⟨b,1,none⟩=some a)(e:w.cell? ⟨b,2,none⟩=some M)(l:w.cell? ⟨b,3,none⟩=some D)(m:w.cell? ⟨b,4,none⟩=some C)(n:w.cell? ⟨b,5,none⟩=some O)(p:w.cell? ⟨b,6,none⟩=some v6)(q:w.cell? ⟨b,7,none⟩=some v7)(r:w.cell? ⟨b,8,none⟩=some U):j.cell? ⟨b,0,none⟩=some k/\j.cell? ⟨b,1,none⟩=some a/\j.cell? ⟨b,2,none⟩=some M/\j.cell? ⟨b,3,none⟩=some D/\j.cell? ⟨b,4,none⟩=some C/\j.cell? ⟨b,5,none⟩=some O/\j.cell? ⟨b,6,none⟩=some v6/\j.cell? ⟨b,7,none⟩=some v7/\j.cell? ⟨b,8,none⟩=some U:=
 ⟨(h 0).trans c,(h 1).trans d,(h 2).trans e,(h 3).trans l,(h 4).trans m,(h 5).trans n,(h 6).trans p,(h 7).trans q,(h 8).trans r⟩
theorem c9b(h:Below B w j)(u:b<B)(c:w.cell? ⟨b,0,none⟩=some k)(d:w.cell? ⟨b,1,none⟩=some a)(e:w.cell? ⟨b,2,none⟩=some M)(l:w.cell? ⟨b,3,none⟩=some D)(m:w.cell? ⟨b,4,none⟩=some C)(n:w.cell? ⟨b,5,none⟩=some O)(q:w.cell? ⟨b,6,none⟩=some v6)(r:w.cell? ⟨b,7,none⟩=some v7)(s:w.cell? ⟨b,8,none⟩=some U):j.cell? ⟨b,0,none⟩=some k/\j.cell? ⟨b,1,none⟩=some a/\j.cell? ⟨b,2,none⟩=some M/\j.cell? ⟨b,3,none⟩=some D/\j.cell? ⟨b,4,none⟩=some C/\j.cell? ⟨b,5,none⟩=some O/\j.cell? ⟨b,6,none⟩=some v6/\j.cell? ⟨b,7,none⟩=some v7/\j.cell? ⟨b,8,none⟩=some U:=
 lI (fun o=>h.cell (p:=⟨b,o,none⟩) u) c d e l m n q r s
theorem E5{l e:Nat}(h:w.ownsRow l e 6 (.slice (some ⟨b,0,none⟩) 1 1) 1 [k,a,M,D,C,O]):w.cell? ⟨b,0,none⟩=some k/\w.cell? ⟨b,1,none⟩=some a/\w.cell? ⟨b,2,none⟩=some M/\w.cell? ⟨b,3,none⟩=some D/\w.cell? ⟨b,4,none⟩=some C/\w.cell? ⟨b,5,none⟩=some O:=
 ⟨h.cellAt 0 (by decide),h.cellAt 1 (by decide),h.cellAt 2 (by decide),h.cellAt 3 (by decide),h.cellAt 4 (by decide),h.cellAt 5 (by decide)⟩
theorem yT(h:∀o,j.cell? ⟨b,o,none⟩=w.cell? ⟨b,o,none⟩)(c:w.cell? ⟨b,0,none⟩=some k)(d:w.cell? ⟨b,1,none⟩=some a)(e:w.cell? ⟨b,2,none⟩=some M)(l:w.cell? ⟨b,3,none⟩=some D)(m:w.cell? ⟨b,4,none⟩=some C)(n:w.cell? ⟨b,5,none⟩=some O):j.cell? ⟨b,0,none⟩=some k/\j.cell? ⟨b,1,none⟩=some a/\j.cell? ⟨b,2,none⟩=some M/\j.cell? ⟨b,3,none⟩=some D/\j.cell? ⟨b,4,none⟩=some C/\j.cell? ⟨b,5,none⟩=some O:=
 ⟨(h 0).trans c,(h 1).trans d,(h 2).trans e,(h 3).trans l,(h 4).trans m,(h 5).trans n⟩
theorem yh(h:Below B w j)(q:b<B)(c:w.cell? ⟨b,0,none⟩=some k)(d:w.cell? ⟨b,1,none⟩=some a)(e:w.cell? ⟨b,2,none⟩=some M)(l:w.cell? ⟨b,3,none⟩=some D)(m:w.cell? ⟨b,4,none⟩=some C)(n:w.cell? ⟨b,5,none⟩=some O):j.cell? ⟨b,0,none⟩=some k/\j.cell? ⟨b,1,none⟩=some a/\j.cell? ⟨b,2,none⟩=some M/\j.cell? ⟨b,3,none⟩=some D/\j.cell? ⟨b,4,none⟩=some C/\j.cell? ⟨b,5,none⟩=some O:=
 yT (fun o=>h.cell (p:=⟨b,o,none⟩) q) c d e l m n
end
section
open Go.ChangeShapes Go.WideShapes Go.ChangeAt Go.RowKit Go.Deep
theorem open_row{H:Type}{s:TypeId×Value->H}{P:Program}{w:World}{l:Nat}{E:Nat->Bool}{B:Bool}{t e:TypeId}{q K:Nat}{U:Option Addr}{X Y:Nat}{x:DataW H×List MemPlace}
 (ht:P.underlying t=some (.slice e))(hK:P.cellsOf e=K)(d:0<K)(h:DataW.trod s P w l E B q t [.slice U X Y]=some x):
 X<=maxLen/\∃f:Nat->Value,UM w U (X*K) f/\∀i,i<X->∃n y,DataW.trod s P w l E B n e ((List.range K).map fun j=>f (i*K+j))=some y:=by
 rcases open_slice ht h with⟨L,_⟩|⟨a,aa,R,m,n,D,Pl,A,hb,hl,hm,O,_,Z⟩
 ·simp only[List.cons.injEq,Value.slice.injEq,and_true]at L
  obtain⟨_,rfl,_⟩:=L;exact⟨Nat.zero_le _,fun _=>undef,.inl (by simp),fun i N=>by omega⟩
 ·simp only[List.cons.injEq,Value.slice.injEq,and_true]at A
  obtain⟨rfl,rfl,rfl⟩:=A;have ab:X<=m:=by rw[O];split<;>omega
  refine⟨by omega,?_⟩;rw[hK]at Z;obtain⟨c,S⟩:=choose_lt (n:=m) (p:=fun i z=>w.cells? l (a.add (i*K)) K=some z/\DataW.trod s P w l E B n e z=some (D i,Pl i)) Z;have o:∀i,i<m->(c i).length=K/\∀j,j<K->w.cell? (a.add (i*K+j))=(c i)[j]?:=by
   intro i N;obtain⟨_,F,M⟩:=World.cells?_some (S i N).1;refine⟨F,fun j C=>?_⟩;rw[<-add_add];exact M j C
  refine⟨fun p=>(c (p/K)).getD (p%K) undef,?_,fun i N=>⟨n,(D i,Pl i),?_⟩⟩
  ·by_cases L:X=0
   ·subst L;exact .inl (by simp)
   ·right
    obtain⟨b,J,r⟩:=a;have k:∀p,p<X*K->w.cell? ((⟨b,J,r⟩:Addr).add p)=some ((c (p/K)).getD (p%K) undef):=by
     intro p Q;have h1:=(Nat.div_lt_iff_lt_mul d).2 Q;have h2:p%K<K:=Nat.mod_lt _ d;obtain⟨q1,q2⟩:=o (p/K) (by omega);have:=q2 (p%K) h2;rw[show p/K*K+p%K=p by rw[Nat.mul_comm];exact Nat.div_add_mod p K]at this;rw[this,List.getD_eq_getElem?_getD,List.getElem?_eq_getElem (by omega)];rfl
    have I:0<X*K:=Nat.mul_pos (by omega) d;have u:r=none:=by simpa[Addr.add]using World.cell?_spot (k 0 I)
    subst u;refine⟨b,J,rfl,?_,fun p Q=>?_⟩
    ·have:=k 0 I
     exact block_lt_of_cell this
    ·rw[<-Go.WideShapes.add_plain];exact k p Q
  ·have e1:((List.range K).map fun j=>(c ((i*K+j)/K)).getD ((i*K+j)%K) undef)=c i:=by
    obtain⟨q1,_⟩:=o i (by omega);apply List.ext_getElem?;intro j;by_cases C:j<K
    ·rw[List.getElem?_map,List.getElem?_range C]
     simp only[Option.map_some];rw[show(i*K+j)/K=i by rw[Nat.mul_comm,Nat.mul_add_div d,Nat.div_eq_of_lt C];rfl,show(i*K+j)%K=j by rw[Nat.mul_comm,Nat.mul_add_mod];exact Nat.mod_eq_of_lt C];rw[List.getD_eq_getElem?_getD,List.getElem?_eq_getElem (by omega)];rfl
    ·rw[List.getElem?_eq_none (by simp;omega),List.getElem?_eq_none (by omega)]
   rw[e1];exact(S i (by omega)).2
end
section
open Go.RowKit
def Gj(op:Int):List UInt8:=
 if op=1 then[68,65]else if op=2 then[68,73]
 else if op=10∨op=11∨op=12∨op=13 then[68,65,73]
 else if op=17 then[65,66]else if op=18 then[65,73]
 else if op=21∨op=22∨op=23∨op=24 then[68,65,73,72]
 else if op=25∨op=26∨op=27∨op=28 then[68,65,66,72]
 else if op=29∨op=30∨op=31∨op=32∨op=33 then[73]
 else if op=34 then[]else[68,65,66]
def Ab(op:Int):ByteArray:=⟨(Gj op).toArray⟩
def FE(op:Int):Int:=
 if op=1 then 3 else if op=2 then 9
 else if op=10∨op=11∨op=12∨op=13 then 11
 else if op=17 then 6 else if op=18 then 10
 else if op=21∨op=22∨op=23∨op=24 then 27
 else if op=25∨op=26∨op=27∨op=28 then 23
 else if op=29∨op=30∨op=31∨op=32∨op=33 then 8
 else if op=34 then 0 else 7
def DF(op:Int):Int:=if op=11∨op=12∨op=13∨(29<=op/\op<=33)then 0 else -1000000
def DL(op:Int):Int:=if op=12∨op=13 then 63 else if 29<=op/\op<=33 then 1999 else 1000000
def EM(x lo hi:Int):Bool:=decide (lo<=x)&&decide (x<=hi)
def EH(op:Int):Bool:=decide (29<=op)&&decide (op<=33)
def Dc(used:Bool)(v lo hi:Int):Bool:=if used then EM v lo hi else v==0
def hasB(s:ByteArray)(b:UInt8):Bool:=s.data.toList.contains b
theorem AY{a b:Bool}(h:a=b):Ending.returned (.bool a)=.returned (.bool b):=by rw[h]
theorem Ae{k:IntKind}{a b:Int}(h:a=b):Ending.returned (.int k a)=.returned (.int k b):=by rw[h]
theorem qM{a b:ByteArray}(h:a=b):Ending.returned (.string a)=.returned (.string b):=by rw[h]
theorem Xy(s:ByteArray)(k:Nat)(h:k<s.size):s.data.toList.take (k+1)=s.data.toList.take k++[s[k]]:=by
 rw[List.take_succ_eq_append_getElem (by simpa using h)];rfl
theorem Yo{k l:IntKind}{a b c d:Int}(h:a=b)(g:c=d):Ending.returned (.tuple #[.int k a,.int l c])=.returned (.tuple #[.int k b,.int l d]):=by rw[h,g]
theorem ZT(s:ByteArray)(b:UInt8)(k:Nat)(a:k<s.size)(h:((s[k].toNat:Int)==(b.toNat:Int))=true):hasB s b=true:=by
 have e:s[k]=b:=by rw[beq_iff_eq]at h;exact UInt8.toNat_inj.1 (by omega)
 unfold hasB;rw[List.contains_iff_mem];rw[<-e];have:s[k]=s.data.toList[k]'(by simpa using a):=rfl;rw[this];exact List.getElem_mem _
theorem tu(s:ByteArray)(b:UInt8)(k:Nat)(h:(s.data.toList.take k).contains b=false){a:k<s.size}(e:s.data.toList.take (k+1)=s.data.toList.take k++[s[k]])(g:((s[k].toNat:Int)==(b.toNat:Int))=false):
 (s.data.toList.take (k+1)).contains b=false:=by
 rw[e];have n:s[k]≠b:=by intro x;rw[x]at g;simp at g
 simp only[List.contains_eq_mem,decide_eq_false_iff_not]at h;simp only[List.contains_eq_mem,decide_eq_false_iff_not,List.mem_append,List.mem_singleton,not_or];exact⟨h,fun x=>n x.symm⟩
theorem mq(s:ByteArray)(b:UInt8)(k:Nat)(_hk:k<=s.size)(a:s.size<=k)(h:(s.data.toList.take k).contains b=false):hasB s b=false:=by
 rw[List.take_of_length_le (by simpa using a)]at h;exact h
def Cl(w:World)(b:Nat)(vs:List Value):Prop:=b<w.heap.size/\∀i,i<vs.length->w.cell? ⟨b,i,none⟩=some (vs.getD i undef)
theorem Cl.below{w j:World}{b:Nat}{N:List Value}(h:Cl w b N)(a:Below w.heap.size w j):Cl j b N:=
 ⟨Nat.lt_of_lt_of_le h.1 a.size,fun i c=>(a.cell (p:=⟨b,i,none⟩) h.1).trans (h.2 i c)⟩
theorem Cl.new{w:World}{vs:Array Value}{t:TypeId}:Cl (w.alloc (.cells vs t)) w.heap.size vs.toList:=
 ⟨by simp,fun i a=>by simp[go_sem,List.getD_eq_getElem?_getD]at a⊢;simp[a]⟩
end
section
open Go
variable {a a':Act}{J y:Array Bool}{L:List Nat}{i j q:Nat}{p:Oper}{X:Prop}{v:Value}{w:World}
section
variable{P:Program}{ops:Array Oper}{Q:Exit->Act->World->Prop}{md:Region.Mode}{T:World->Prop}{s:Nat}
def wpAnyL(P:Program)(md:Region.Mode)(ops:Array Oper)(Q:Exit->Act->World->Prop)(T:World->Prop)(s:Nat):Nat->Array Bool->Act->World->Prop
 |0,listed,a,w=>Region.ready md ops listed=[]/\Q .normal a w
 |fuel+1,listed,a,w=>
  (Region.ready md ops listed=[]->Q .normal a w)/\
  ∀i∈Region.ready md ops listed,wpOp P ops Q i (fun a' w'=>(i≠s->T w')/\wpAnyL P md ops Q T s fuel (listed.setIfInBounds i true) a' w') a w
theorem OO:∀(b:Nat)(c:Array Bool)(a:Act)(w:World),wpAnyL P md ops Q T s b c a w->wpAny P md ops Q b c a w
 |0,_,_,_,h=>h
 |b+1,_,_,_,h=>⟨h.1,fun i j=>wpOp_mono (fun d k e=>OO b _ d k e.2) (h.2 i j)⟩
def waits(md:Region.Mode)(ops:Array Oper)(s i:Nat):Bool:=match ops[s]? with
 |some o=>o.after.any fun e=>Region.binds md e&&e.on==i
 |none=>false
theorem Kw{o:Oper}(h:waits md ops s i=true)(c:ops[s]?=some o):∃e∈o.after,Region.binds md e=true/\e.on=i:=by
 unfold waits at h;rw[c]at h;simp only[Array.any_eq_true]at h;obtain⟨k,b,a⟩:=h;simp only[Bool.and_eq_true,beq_iff_eq]at a;exact⟨_,Array.getElem_mem b,a⟩
theorem PS{h:Oper}(r:i∈Region.ready md ops y)(q:j∈Region.ready md ops y)(k:ops[j]?=some h):∀e∈h.after,Region.binds md e=true->e.on≠i:=by
 intro e p n d;obtain⟨_,o,m,c⟩:=mem_ready.1 q;have l:o=h:=by rw[k]at m;exact(Option.some.inj m).symm
 subst l;have on:=c e p n;have b:=(mem_ready.1 r).1;rw[d]at on;by_cases a:i<y.size
 ·simp[a]at on b
  rw[b]at on;cases on
 ·simp[Array.getElem?_eq_none (Nat.le_of_not_lt a)]at on
def Clear(md:Region.Mode)(ops:Array Oper)(i:Nat)(oi:Oper)(listed:Array Bool):Prop:=
 ∀j oj,ops[j]?=some oj->j≠i->listed.getD j true=false->(∀e∈oj.after,Region.binds md e=true->e.on≠i)->oi.apart ops oj=true
theorem Clear.more(h:Clear md ops i p y)(d:j∈Region.ready md ops y):Clear md ops i p (y.setIfInBounds j true):=by
 intro k l e b c;refine h k l e b ?_;by_cases a:j=k
 ·subst a;exact(mem_ready.1 d).1
 ·rwa [getD_set_ne true a]at c
theorem wpAnyL_first(A:ops[i]?=some p)(m:∀(j:Nat)(o:Oper)u b,ops[j]?=some o->o.op≠ .select u b)
 (J:∀c a w,Q (.panic c) (a.put p.dst v) w->Q (.panic c) a w)(C:waits md ops s i=true):
 ∀(k:Nat)(d:Array Bool)(a:Act)(w:World),Clear md ops i p d->i∈Region.ready md ops d->YieldsIf P ops T p v a->T w->
  wpAnyL P md ops Q T s k (d.setIfInBounds i true) (a.put p.dst v) w->wpAnyL P md ops Q T s (k+1) d a w:=by
 intro k;induction k with
 |zero=>
  intro d a w _ q z x H;constructor
  ·intro none;rw[none]at q;cases q
  ·intro j r
   by_cases h:j=i
   ·subst h;exact z.wpOp A x ⟨fun _=>x,H⟩
   ·exact absurd (ready_mono r h) (by rw[H.1];simp)
 |succ n M=>
  intro d a w hcl q z x H;constructor
  ·intro none;rw[none]at q;cases q
  ·intro j r
   by_cases h:j=i
   ·subst h;exact z.wpOp A x ⟨fun _=>x,H⟩
   ·obtain⟨R,E,l,_⟩:=mem_ready.1 r
    have D:=PS q r l;have N:j≠s:=by
     intro e;subst e;obtain⟨e,L,K,B⟩:=Kw C l;exact D e L K B
    have y:=wpOp_putIf l (hcl j E l h R D) (fun u b=>m i p u b A) (fun u b=>m j E u b l) J z (H.2 j (ready_mono r h));refine wpOp_mono (fun I S⟨U,F,O⟩=>⟨F,M _ I S (hcl.more r) (ready_mono q (Ne.symm h)) U (F N) ?_⟩) y;rw[Array.setIfInBounds_comm _ _ h];exact O
theorem Tz(d:ops[i]?=some p)
 (m:Region.noSelect ops=true)(k:Region.free md ops y i=true)(l:(Region.ready md ops y).contains i=true)(b:waits md ops s i=true)
 (e:∀c a w,Q (.panic c) (a.put p.dst v) w->Q (.panic c) a w)(n:YieldsIf P ops T p v a)(j:T w)
 (h:wpAnyL P md ops Q T s q (y.setIfInBounds i true) (a.put p.dst v) w):wpAnyL P md ops Q T s (q+1) y a w:=
 wpAnyL_first d (Region.noSelect_spec m) e b q y a w (Region.free_spec d k) (by simpa using l) n j h
theorem Mi(i:Nat)(v:Value)(k:ops[i]?=some p)(o:∀w,T w->(execOp a.eval p).run P w=.ok (.value v) w)
 (h:wpAnyL P md ops Q T s q (y.setIfInBounds i true) (a.put p.dst v) w)
 (n:Region.wanted p (yielded ops a.tmps)=true:=by kernel_rfl)(m:Region.noSelect ops=true:=by kernel_rfl)(j:Region.free md ops y i=true:=by kernel_rfl)(l:(Region.ready md ops y).contains i=true:=by kernel_rfl)(b:waits md ops s i=true:=by kernel_rfl)
 (d:∀c a w,Q (.panic c) (a.put p.dst v) w->Q (.panic c) a w:=by exact fun _ _ _ h=>h)(e:T w:=by assumption):wpAnyL P md ops Q T s (q+1) y a w:=
 Tz k m j l b d (Or.inl ⟨n,o⟩) e h
theorem Cj(i:Nat)(v:Value)(j:ops[i]?=some p)(n:∀w,T w->(execOp a.eval p).run P w=.ok (.value v) w)
 (h:wpAnyH P md ops Q T q (y.setIfInBounds i true) (a.put p.dst v) w)
 (m:Region.wanted p (yielded ops a.tmps)=true:=by kernel_rfl)(l:Region.noSelect ops=true:=by kernel_rfl)(e:Region.free md ops y i=true:=by kernel_rfl)(k:(Region.ready md ops y).contains i=true:=by kernel_rfl)
 (b:∀c a w,Q (.panic c) (a.put p.dst v) w->Q (.panic c) a w:=by exact fun _ _ _ h=>h)(d:T w:=by assumption):wpAnyH P md ops Q T (q+1) y a w:=
 wpAnyH_take j l e k b (Or.inl ⟨m,n⟩) d h
structure Bl(q:Prop):Prop where
 o:q
def Tk(_:List Nat)(p:Prop):Prop:=p
theorem Bl.e{q:Prop}(h:Bl q):Tk [] q:=h.o
theorem AU(i:Nat)(h:wpAnyH P md ops Q T q J a' w)(l:ops[i]?=some p:=by rfl)
 (n:(Region.ready md ops y).contains i=true:=by kernel_rfl)(k:Region.free md ops y i=true:=by kernel_rfl)(r:Region.wanted p (yielded ops a.tmps)=true:=by kernel_rfl)(o:Region.noSelect ops=true:=by kernel_rfl)
 (s:∀w,T w->(execOp a.eval p).run P w=.ok (.value v) w:=by(intro w b;(try dsimp only at b);go_simp;try with_reducible rfl))
 (j:a.put p.dst v=a':=by((try simp only[Act.put,rY,uK,rX,rP,uo,tQ]);rfl))(m:y.setIfInBounds i true=J:=by((try simp only[List.getElem_toArray,List.getElem_cons_zero,List.getElem_cons_succ,List.setIfInBounds_toArray,List.set_cons_zero,List.set_cons_succ]);rfl))
 (d:∀c a w,Q (.panic c) (a.put p.dst v) w->Q (.panic c) a w:=by exact fun _ _ _ h=>h)(e:T w:=by assumption):wpAnyH P md ops Q T (q+1) y a w:=by
 subst j m;exact Cj i v l s h r o k n d e
theorem BR(i:Nat)(h:wpAnyL P md ops Q T s q J a' w)(m:ops[i]?=some p:=by rfl)
 (o:(Region.ready md ops y).contains i=true:=by kernel_rfl)(l:Region.free md ops y i=true:=by kernel_rfl)(u:Region.wanted p (yielded ops a.tmps)=true:=by kernel_rfl)(r:Region.noSelect ops=true:=by kernel_rfl)(d:waits md ops s i=true:=by kernel_rfl)
 (x:∀w,T w->(execOp a.eval p).run P w=.ok (.value v) w:=by(intro w b;(try dsimp only at b);go_simp;try with_reducible rfl))
 (k:a.put p.dst v=a':=by((try simp only[Act.put,rY,uK,rX,rP,uo,tQ]);rfl))(n:y.setIfInBounds i true=J:=by((try simp only[List.getElem_toArray,List.getElem_cons_zero,List.getElem_cons_succ,List.setIfInBounds_toArray,List.set_cons_zero,List.set_cons_succ]);rfl))
 (e:∀c a w,Q (.panic c) (a.put p.dst v) w->Q (.panic c) a w:=by exact fun _ _ _ h=>h)(j:T w:=by assumption):wpAnyL P md ops Q T s (q+1) y a w:=by
 subst k n;exact Mi i v m x h u r l o d e j
theorem yg(h:X->Tk L (wpAnyH P md ops Q T q J a' w))(l:ops[i]?=some p:=by rfl)
 (n:(Region.ready md ops y).contains i=true:=by kernel_rfl)(k:Region.free md ops y i=true:=by kernel_rfl)(r:Region.wanted p (yielded ops a.tmps)=true:=by kernel_rfl)(o:Region.noSelect ops=true:=by kernel_rfl)
 (s:∀w,T w->(execOp a.eval p).run P w=.ok (.value v) w:=by(intro w b;(try dsimp only at b);go_simp;try with_reducible rfl))
 (j:a.put p.dst v=a':=by((try simp only[Act.put,rY,uK,rX,rP,uo,tQ]);rfl))(m:y.setIfInBounds i true=J:=by((try simp only[List.getElem_toArray,List.getElem_cons_zero,List.getElem_cons_succ,List.setIfInBounds_toArray,List.set_cons_zero,List.set_cons_succ]);rfl))
 (d:∀c a w,Q (.panic c) (a.put p.dst v) w->Q (.panic c) a w:=by exact fun _ _ _ h=>h)(e:T w:=by assumption):X->Tk (i::L) (wpAnyH P md ops Q T (q+1) y a w):=
 fun z=>AU i (h z) l n k r o s j m d e
theorem EX(l:List Nat){p q:Prop}(a:q)(h:Bl q->Tk l p:=by((repeat refine yg ?_);exact Bl.e)):p:=h ⟨a⟩
theorem yc(h:X->Tk L (wpAnyL P md ops Q T s q J a' w))(m:ops[i]?=some p:=by rfl)
 (o:(Region.ready md ops y).contains i=true:=by kernel_rfl)(l:Region.free md ops y i=true:=by kernel_rfl)(u:Region.wanted p (yielded ops a.tmps)=true:=by kernel_rfl)(r:Region.noSelect ops=true:=by kernel_rfl)(d:waits md ops s i=true:=by kernel_rfl)
 (x:∀w,T w->(execOp a.eval p).run P w=.ok (.value v) w:=by(intro w b;(try dsimp only at b);go_simp;try with_reducible rfl))
 (k:a.put p.dst v=a':=by((try simp only[Act.put,rY,uK,rX,rP,uo,tQ]);rfl))(n:y.setIfInBounds i true=J:=by((try simp only[List.getElem_toArray,List.getElem_cons_zero,List.getElem_cons_succ,List.setIfInBounds_toArray,List.set_cons_zero,List.set_cons_succ]);rfl))
 (e:∀c a w,Q (.panic c) (a.put p.dst v) w->Q (.panic c) a w:=by exact fun _ _ _ h=>h)(j:T w:=by assumption):X->Tk (i::L) (wpAnyL P md ops Q T s (q+1) y a w):=
 fun z=>BR i (h z) m o l u r d x k n e j
theorem NU(l:List Nat){p q:Prop}(a:q)(h:Bl q->Tk l p:=by((repeat refine yc ?_);exact Bl.e)):p:=h ⟨a⟩
theorem Br(i:Nat)(j:ops[i]?=some p)
 (h:wpAnyH P md ops Q T q (y.setIfInBounds i true) (a.put p.dst undef) w)
 (m:Region.wanted p (yielded ops a.tmps)=false:=by kernel_rfl)(l:Region.noSelect ops=true:=by kernel_rfl)(e:Region.free md ops y i=true:=by kernel_rfl)(k:(Region.ready md ops y).contains i=true:=by kernel_rfl)
 (b:∀c a w,Q (.panic c) (a.put p.dst undef) w->Q (.panic c) a w:=by exact fun _ _ _ h=>h)(d:T w:=by assumption):wpAnyH P md ops Q T (q+1) y a w:=
 wpAnyH_take j l e k b (Or.inr ⟨m,rfl⟩) d h
theorem Ah(n:ops[i]?=some p)(k:Region.ready md ops y=[i])
 (h:∀b:Act->World->Prop,Shut (∀a w,T w->(T w->wpAnyL P md ops Q T s q (y.setIfInBounds i true) a w)->b a w)->if Region.wanted p (yielded ops a.tmps)=true then Oper.wp P p a w b Q else b (a.put p.dst undef) w):
 wpAnyL P md ops Q T s (q+1) y a w:=
 ⟨fun c=>(by rw[k]at c;cases c),fun j e=>by
   rw[k]at e;obtain rfl:j=i:=by simpa using e
   exact wpOp_step n fun b l=>h b fun a w d m=>l a w ⟨fun _=>d,m d⟩⟩
theorem BD(c:ops[s]?=some p)(m:Region.ready md ops y=[s])(e:Region.ready md ops (y.setIfInBounds s true)=[])
 (h:∀b:Act->World->Prop,Shut (∀a w,Q .normal a w->b a w)->if Region.wanted p (yielded ops a.tmps)=true then Oper.wp P p a w b Q else b (a.put p.dst undef) w):
 wpAnyL P md ops Q T s (q+1) y a w:=
 ⟨fun d=>(by rw[m]at d;cases d),fun j k=>by
   rw[m]at k;obtain rfl:j=s:=by simpa using k
   refine wpOp_step c fun b o=>h b fun a w l=>o a w ⟨fun h=>absurd rfl h,?_⟩
   cases q with
   |zero=>exact⟨e,l⟩
   |succ n=>exact⟨fun _=>l,fun i c=>by rw[e]at c;cases c⟩⟩
theorem BH{id:Nat}(c:P.follows .mixedOrders=true)(b:T w.drew)
 (h:T w.drew->wpAnyL P .any ops Q T s ops.size (Array.replicate ops.size false) a w.drew):(Code.region id ops true).wp P Q a w:=
 wp_region_any c (OO _ _ _ _ (h b))
end
section
variable{P:Program}{ops:Array Oper}{Q:Exit->Act->World->Prop}{md:Region.Mode}{T:World->Prop}{s:Nat}
def Hl(md:Region.Mode)(ops:Array Oper):Nat->Nat->Nat->Bool
 |0,s,i=>waits md ops s i
 |n+1,s,i=>waits md ops s i||(List.range ops.size).any fun k=>waits md ops s k&&Hl md ops n k i
def Closed(md:Region.Mode)(ops:Array Oper)(listed:Array Bool):Prop:=
 ∀j oj,ops[j]?=some oj->listed.getD j false=true->∀e∈oj.after,Region.binds md e=true->listed.getD e.on false=true
def J6(md:Region.Mode)(ops:Array Oper)(listed:Array Bool):Bool:=
 (List.range ops.size).all fun j=>!(listed.getD j false)||match ops[j]? with
   |some o=>o.after.all fun e=>!(Region.binds md e)||listed.getD e.on false
   |none=>true
theorem YO(h:J6 md ops y=true):Closed md ops y:=by
 intro j l b k e d c;unfold J6 at h;rw[List.all_eq_true]at h;have a:j<ops.size:=(Array.getElem?_eq_some_iff.1 b).1;have:=h j (List.mem_range.2 a);rw[k,b]at this;simp only[Bool.not_true,Bool.false_or,Array.all_eq_true_iff_forall_mem]at this;have:=this e d;rw[c]at this;simpa using this
theorem mJ{k:Nat}(h:y[k]?.getD false=true):y.getD k false=true:=by
 rw[Array.getD_eq_getD_getElem?];exact h
theorem TY{h:Oper}(m:j∈Region.ready md ops y)(b:ops[j]?=some h):∀e∈h.after,Region.binds md e=true->y.getD e.on false=true:=by
 intro e l k;obtain⟨_,o,d,a⟩:=mem_ready.1 m;have c:o=h:=by rw[b]at d;exact(Option.some.inj d).symm
 subst c;exact a e l k
theorem Fz(a:Closed md ops y):∀n k i,y.getD k false=true->Hl md ops n k i=true->y.getD i false=true
 |0,k,i,hk,h=>by
  unfold Hl waits at h;cases ho:ops[k]? with
  |none=>rw[ho]at h;cases h
  |some o=>
   obtain⟨e,j,d,c⟩:=Kw (s:=k) (i:=i) h ho;rw[<-c];exact a k o ho hk e j d
 |n+1,k,i,hk,h=>by
  unfold Hl at h;rw[Bool.or_eq_true]at h;rcases h with h|h
  ·exact Fz a 0 k i hk h
  ·rw[List.any_eq_true]at h
   obtain⟨m,_,b⟩:=h;rw[Bool.and_eq_true]at b;exact Fz a n m i (Fz a 0 k m hk b.1) b.2
theorem NN(q:Closed md ops y){n:Nat}(d:j∈Region.ready md ops y)(h:Hl md ops n j i=true):y.getD i false=true:=by
 obtain⟨_,o,l,_⟩:=mem_ready.1 d;have a:∀k,waits md ops j k=true->y.getD k false=true:=fun k s=>by
  obtain⟨e,r,p,c⟩:=Kw s l;rw[<-c];exact TY d l e r p
 cases n with
 |zero=>exact a i h
 |succ n=>
  unfold Hl at h;rw[Bool.or_eq_true]at h;rcases h with h|h
  ·exact a i h
  ·rw[List.any_eq_true]at h
   obtain⟨m,_,b⟩:=h;rw[Bool.and_eq_true]at b;exact Fz q n m i (a m b.1) b.2
theorem Closed.more(h:Closed md ops y)(n:j∈Region.ready md ops y):Closed md ops (y.setIfInBounds j true):=by
 have m:∀k,y.getD k false=true->(y.setIfInBounds j true).getD k false=true:=by
  intro k b;by_cases e:j=k
  ·subst e
   have a:j<y.size:=by
    by_cases a:j<y.size
    ·exact a
    ·rw[Array.getD_eq_getD_getElem?,Array.getElem?_eq_none (Nat.le_of_not_lt a)]at b;cases b
   simp[Array.getD_eq_getD_getElem?,a]
  ·rw[Array.getD_eq_getD_getElem?,Array.getElem?_setIfInBounds,if_neg e,<-Array.getD_eq_getD_getElem?];exact b
 intro k o b l e d c;by_cases q:j=k
 ·subst q;exact m _ (TY n b e d c)
 ·refine m _ (h k o b ?_ e d c)
  rw[Array.getD_eq_getD_getElem?,Array.getElem?_setIfInBounds,if_neg q,<-Array.getD_eq_getD_getElem?]at l;exact l
theorem Ps{n:Nat}(C:ops[i]?=some p)(u:∀(j:Nat)(o:Oper)x b,ops[j]?=some o->o.op≠ .select x b)
 (J:∀c a w,Q (.panic c) (a.put p.dst v) w->Q (.panic c) a w)(D:Hl md ops n s i=true):
 ∀(k:Nat)(d:Array Bool)(a:Act)(w:World),Closed md ops d->Clear md ops i p d->i∈Region.ready md ops d->YieldsIf P ops T p v a->T w->
  wpAnyL P md ops Q T s k (d.setIfInBounds i true) (a.put p.dst v) w->wpAnyL P md ops Q T s (k+1) d a w:=by
 intro k;induction k with
 |zero=>
  intro d a w _ _ r B y H;constructor
  ·intro none;rw[none]at r;cases r
  ·intro j q
   by_cases h:j=i
   ·subst h;exact B.wpOp C y ⟨fun _=>y,H⟩
   ·exact absurd (ready_mono q h) (by rw[H.1];simp)
 |succ n K=>
  intro d a w z hcl r B y H;constructor
  ·intro none;rw[none]at r;cases r
  ·intro j q
   by_cases h:j=i
   ·subst h;exact B.wpOp C y ⟨fun _=>y,H⟩
   ·obtain⟨O,E,m,_⟩:=mem_ready.1 q
    have N:=PS r q m;have L:j≠s:=by
     intro e;subst e;have on:=NN z q D;have l:=(mem_ready.1 r).1;rw[Array.getD_eq_getD_getElem?]at on l;cases hq:d[i]? with
     |none=>rw[hq]at on;cases on
     |some b=>rw[hq]at on l;simp at on l;rw[on]at l;cases l
    have A:=wpOp_putIf m (hcl j E m h O N) (fun x b=>u i p x b C) (fun x b=>u j E x b m) J B (H.2 j (ready_mono q h));refine wpOp_mono (fun I R⟨S,F,M⟩=>⟨F,K _ I R (z.more q) (hcl.more q) (ready_mono r (Ne.symm h)) S (F L) ?_⟩) A;rw[Array.setIfInBounds_comm _ _ h];exact M
theorem Cz(d:ops[i]?=some p)
 (m:Region.noSelect ops=true)(k:Region.free md ops y i=true)(l:(Region.ready md ops y).contains i=true)(b:(Hl md ops 6 s i&&J6 md ops y)=true)
 (e:∀c a w,Q (.panic c) (a.put p.dst v) w->Q (.panic c) a w)(n:YieldsIf P ops T p v a)(j:T w)
 (h:wpAnyL P md ops Q T s q (y.setIfInBounds i true) (a.put p.dst v) w):wpAnyL P md ops Q T s (q+1) y a w:=
 Ps d (Region.noSelect_spec m) e (Bool.and_eq_true _ _▸b).1 q y a w (YO (Bool.and_eq_true _ _▸b).2) (Region.free_spec d k) (by simpa using l) n j h
theorem V8(i:Nat)(v:Value)(k:ops[i]?=some p)(o:∀w,T w->(execOp a.eval p).run P w=.ok (.value v) w)
 (h:wpAnyL P md ops Q T s q (y.setIfInBounds i true) (a.put p.dst v) w)
 (n:Region.wanted p (yielded ops a.tmps)=true:=by kernel_rfl)(m:Region.noSelect ops=true:=by kernel_rfl)(j:Region.free md ops y i=true:=by kernel_rfl)(l:(Region.ready md ops y).contains i=true:=by kernel_rfl)(b:(Hl md ops 6 s i&&J6 md ops y)=true:=by kernel_rfl)
 (d:∀c a w,Q (.panic c) (a.put p.dst v) w->Q (.panic c) a w:=by exact fun _ _ _ h=>h)(e:T w:=by assumption):wpAnyL P md ops Q T s (q+1) y a w:=
 Cz k m j l b d (Or.inl ⟨n,o⟩) e h
theorem Bt(i:Nat)(h:wpAnyL P md ops Q T s q J a' w)(m:ops[i]?=some p:=by rfl)
 (o:(Region.ready md ops y).contains i=true:=by kernel_rfl)(l:Region.free md ops y i=true:=by kernel_rfl)(u:Region.wanted p (yielded ops a.tmps)=true:=by kernel_rfl)(r:Region.noSelect ops=true:=by kernel_rfl)(d:(Hl md ops 6 s i&&J6 md ops y)=true:=by kernel_rfl)
 (x:∀w,T w->(execOp a.eval p).run P w=.ok (.value v) w:=by(intro w b;(try dsimp only at b);go_simp;try with_reducible rfl))
 (k:a.put p.dst v=a':=by((try simp only[Act.put,rY,uK,rX,rP,uo,tQ]);rfl))(n:y.setIfInBounds i true=J:=by((try simp only[List.getElem_toArray,List.getElem_cons_zero,List.getElem_cons_succ,List.setIfInBounds_toArray,List.set_cons_zero,List.set_cons_succ]);rfl))
 (e:∀c a w,Q (.panic c) (a.put p.dst v) w->Q (.panic c) a w:=by exact fun _ _ _ h=>h)(j:T w:=by assumption):wpAnyL P md ops Q T s (q+1) y a w:=by
 subst k n;exact V8 i v m x h u r l o d e j
theorem xS(h:X->Tk L (wpAnyL P md ops Q T s q J a' w))(m:ops[i]?=some p:=by rfl)
 (o:(Region.ready md ops y).contains i=true:=by kernel_rfl)(l:Region.free md ops y i=true:=by kernel_rfl)(u:Region.wanted p (yielded ops a.tmps)=true:=by kernel_rfl)(r:Region.noSelect ops=true:=by kernel_rfl)(d:(Hl md ops 6 s i&&J6 md ops y)=true:=by kernel_rfl)
 (x:∀w,T w->(execOp a.eval p).run P w=.ok (.value v) w:=by(intro w b;(try dsimp only at b);go_simp;try with_reducible rfl))
 (k:a.put p.dst v=a':=by((try simp only[Act.put,rY,uK,rX,rP,uo,tQ]);rfl))(n:y.setIfInBounds i true=J:=by((try simp only[List.getElem_toArray,List.getElem_cons_zero,List.getElem_cons_succ,List.setIfInBounds_toArray,List.set_cons_zero,List.set_cons_succ]);rfl))
 (e:∀c a w,Q (.panic c) (a.put p.dst v) w->Q (.panic c) a w:=by exact fun _ _ _ h=>h)(j:T w:=by assumption):X->Tk (i::L) (wpAnyL P md ops Q T s (q+1) y a w):=
 fun z=>Bt i (h z) m o l u r d x k n e j
theorem ve(l:List Nat){p q:Prop}(a:q)(h:Bl q->Tk l p:=by((repeat refine xS ?_);exact Bl.e)):p:=h ⟨a⟩
end
end
section
open Go.RowKit
def EU(k:IntKind)(R:Nat->Int)(i:Nat):Value:=.int k (R i)
def Dg(K V:Nat->Int)(p:Nat):Value:=if p%2=0 then .int .i64 (K (p/2))else .int .u64 (V (p/2))
theorem Zh(K V:Nat->Int)(k:Nat):Dg K V (k*2+0)=.int .i64 (K k):=by unfold Dg;rw[if_pos (by omega),show(k*2+0)/2=k by omega]
theorem M4(K V:Nat->Int)(k:Nat):Dg K V (k*2+1)=.int .u64 (V k):=by unfold Dg;rw[if_neg (by omega),show(k*2+1)/2=k by omega]
structure Bv where
 base:Int
 wr:Bool
 ao:Option Addr
 len:Nat
 cap:Nat
 dat:Nat->Int
def CO(Hp:Nat->Bv)(p:Nat):Value:=if p%3=0 then .int .u64 (Hp (p/3)).base else if p%3=1 then .bool (Hp (p/3)).wr else .slice (Hp (p/3)).ao (Hp (p/3)).len (Hp (p/3)).cap
theorem Iz(a:Nat->Bv)(k:Nat):CO a (k*3+0)=.int .u64 (a k).base:=by unfold CO;rw[if_pos (by omega),show(k*3+0)/3=k by omega]
theorem JE(a:Nat->Bv)(k:Nat):CO a (k*3+1)=.bool (a k).wr:=by unfold CO;rw[if_neg (by omega),if_pos (by omega),show(k*3+1)/3=k by omega]
theorem GD(a:Nat->Bv)(k:Nat):CO a (k*3+2)=.slice (a k).ao (a k).len (a k).cap:=by unfold CO;rw[if_neg (by omega),if_neg (by omega),show(k*3+2)/3=k by omega]
theorem ND{a b:Nat->Bv}{n p:Nat}(c:p<n*3)(h:∀i,i<n->a i=b i):CO a p=CO b p:=by unfold CO;rw[h (p/3) (by omega)]
end
end Go.Proofs.YtcjnmdgomocpgaaGreatDoor
