import Derived.Test.YtfpeecaaleijcaaGreatDoorOfRdTake
import Derived.Test.YtfpeecaaleijcaaGreatDoorOfPzBody
import Derived.Test.YtfpeecaaleijcaaGreatDoorOfPzNum
import Derived.Test.YtfpeecaaleijcaaGreatDoorOfCl
namespace Go.Proofs.YtfpeecaaleijcaaGreatDoor
open Go.RowKit
variable {f:List (List UInt8)}{B fb g n:Nat}{t:TypeId}{w w':World}
structure Sl where
 a:Option Addr
 n:Nat
 c:Nat
theorem XW{ex:List Rw}{hs:List HS}{rg:List VV}{PL:List (List SV)}{vH vR vP:Value}{bv:List Value}{ts:List TypeId}(he:∀r∈ex,r.t∈ts)(h1:40∈ts)(h2:42∈ts)(h3:38∈ts)(h4:89∈ts)(j:Nat)(r:Rw)(hr:(Df ex hs rg PL vH vR vP bv)[j]?=some r):r.t∈ts:=by
 have hm:=List.mem_of_getElem? hr;unfold Df at hm;rcases List.mem_append.1 hm with hm|hm
 ·exact he r hm
 ·rcases List.mem_cons.1 hm with rfl|hm
  ·exact h1
  ·rcases List.mem_cons.1 hm with rfl|hm
   ·exact h2
   ·rcases List.mem_cons.1 hm with rfl|hm
    ·exact h3
    ·unfold Gq at hm
     obtain⟨i,hi,rfl⟩:=List.mem_iff_getElem.1 hm;rw[List.getElem_zipWith];exact h4
theorem Bq{b:Nat}{cs:Array Value}(h:w.heap[b]?=some (.cells cs t))(i:Nat)(v:Value):(w.setCell (Va b i) v).heap[b]?=some (.cells (cs.setIfInBounds i v) t):=heap_setCell_same w b i cs t v h
theorem CQ{p:Nat}{cs:Array Value}(h:w.heap[p]?=some (.cells cs t))(j:Nat):w.frozen? (Va p j)=false:=frozen_of_row w p j cs t h
theorem Ki{e z m c:Nat}{a:Option Addr}{xs:List Value}(h:w.ownsRow B e z (.slice a n c) m xs):n=m:=by
 obtain⟨a',c',h'⟩:=Dr h;injection h'
theorem VL{z:Value}{b:Nat}(h:(Tryz.prog.info? t).map (fun i=>(i.zero,i.size,i.bytes))=some (some z,n,b)):∃i,Tryz.prog.info? t=some i/\i.zero=some z/\i.size=n/\i.bytes=b:=by
 rcases hh:Tryz.prog.info? t with _|i
 ·rw[hh]at h;simp at h
 ·rw[hh]at h;simp at h;exact⟨i,rfl,h⟩
theorem Gf(w:World)(vs:Array Value)(t:TypeId):∀j u,vs.toList[j]?=some u->(w.alloc (.cells vs t)).cell? ((⟨w.heap.size,0,none⟩:Addr).add j)=some u:=by
 intro j u hj;rw[show((⟨w.heap.size,0,none⟩:Addr).add j)=⟨w.heap.size,j,none⟩by simp[Addr.add];exact fun h=>h.symm];simp at hj;simp[go_sem,hj]
structure FA(w:World)(fb:Nat)(f:List (List UInt8)):Prop where
 c:∃cur:Array Value,w.heap[fb]?=some (.cells cur 9)/\∀i,i<f.length->cur[i]?=some (.string (Ck (fd f i)))
theorem FA.below(h:FA w fb f)(b:Below w.heap.size w w'):FA w' fb f:=by
 obtain⟨cur,h1,h2⟩:=h.c;exact⟨cur,(b.block fb (jH.1 h1).1).trans h1,h2⟩
theorem FA.fm{ts:List TypeId}(h:FA w fb f)(b:Fm ts B w w')(ht:9∉ts):FA w' fb f:=by
 obtain⟨cur,h1,h2⟩:=h.c;exact⟨cur,b.k fb _ h1 (fun c t fz e=>by have:9=t:=(Obj.cells.inj e).2.1;subst this;exact ht),h2⟩
theorem FA.cell(h:FA w fb f)(i:Nat)(hi:i<f.length):w.cell? (Va fb i)=some (.string (Ck (fd f i))):=by
 obtain⟨cur,h1,h2⟩:=h.c;exact(AV h1 i).trans (h2 i hi)
theorem eZ{l a:List UInt8}{s:ByteArray}(hs:Ck l=s)(h:l=a):(s.toList==a)=true/\(s.toList !=a)=false:=by
 subst hs h;have e:(Ck l).toList=l:=by rw[ByteArray.toList_eq];simp[Ck]
 exact⟨by rw[e,beq_iff_eq],by rw[e,bne_eq_false_iff_eq]⟩
theorem eT{l a:List UInt8}{s:ByteArray}(hs:Ck l=s)(h:l≠a):(s.toList==a)=false/\(s.toList !=a)=true:=by
 subst hs;have e:(Ck l).toList=l:=by rw[ByteArray.toList_eq];simp[Ck]
 exact⟨by rw[e,beq_eq_false_iff_ne];exact h,by rw[e,bne_iff_ne];exact h⟩
theorem FP{P:Program}{md:Region.Mode}{ops:Array Oper}{Q:Exit->Act->World->Prop}{T:World->Prop}{s' fuel i:Nat}{listed:Array Bool}{a:Act}{o:Oper}(s x:Operand){v u v':Value}(ho:ops[i]?=some o)(hr:Region.ready md ops listed=[i])(hw:Region.wanted o (yielded ops a.tmps)=true)
 (hop:o.op=.call {callee:=.builtin .append,args:=#[s,x],argTypes:=#[t,t]})(hs:a.eval s=v)(hx:a.eval x=u)(hrun:(Builtin.append_ #[t,t] o.type #[v,u]).run P w=.ok v' w')(hT:T w')(h:T w'->wpAnyL P md ops Q T s' fuel (listed.setIfInBounds i true) (a.put o.dst v') w'):wpAnyL P md ops Q T s' (fuel+1) listed a w:=
 Aq ho hr (fun K' hK=>by
  rw[if_pos hw];unfold Oper.wp execOp;simp only[hop,resolve,invoke,builtin,Sem.run_bind,Sem.run_pure,Result.andThen_ok,List.map_toArray,List.map_cons,List.map_nil,hs,hx,hrun];exact hK _ _ hT h)
def PI:List Value->Nat->List Value->List Value
 |xs,_,[]=>xs
 |xs,i,v::vs=>PI (xs.set i v) (i+1) vs
def setW:World->Nat->Nat->List Value->World
 |w,_,_,[]=>w
 |w,g,i,v::vs=>setW (w.setCell (Va g i) v) g (i+1) vs
theorem XO{u v:World}{ob:Option Nat}(h:w.grownBy u ob)(g:u.grownBy v ob):w.grownBy v ob:=
 ⟨g.os.trans h.os,g.tape.trans h.tape,g.output.trans h.output,Nat.le_trans h.size g.size,fun k hk hn=>(g.block k (jI hk h.size) hn).trans (h.block k hk hn)⟩
theorem TH(w:World)(ob:Option Nat):w.grownBy w ob:=⟨rfl,rfl,rfl,jG,fun _ _ _=>rfl⟩
theorem L8{e z cap:Nat}:∀(vs:List Value)(w:World)(xs:List Value)(i:Nat),w.ownsRow B e z (Vs g n cap) n xs->(setW w g i vs).ownsRow B e z (Vs g n cap) n (PI xs i vs)/\w.grownBy (setW w g i vs) (some g)
 |[],w,xs,i,h=>⟨h,TH _ _⟩
 |v::vs,w,xs,i,h=>by
  obtain⟨s1,s2⟩:=h.stored i v;obtain⟨q1,q2⟩:=L8 vs _ _ (i+1) s1;exact⟨q1,XO s2 q2⟩
theorem JP(A:List Value):∀(vs:List Value)(i:Nat)(R:List Value),PI (A++R) (A.length+i) vs=A++PI R i vs
 |[],_,_=>rfl
 |v::vs,i,R=>by
  show PI ((A++R).set (A.length+i) v) (A.length+i+1) vs=A++PI (R.set i v) (i+1) vs;rw[List.set_append,if_neg (by omega),Nat.add_sub_cancel_left];exact JP A vs (i+1) (R.set i v)
theorem Sy:∀(vs A R:List Value),vs.length=A.length->PI (A++R) 0 vs=vs++R
 |[],A,R,h=>by
  have:A=[]:=List.length_eq_zero_iff.1 h.symm;subst this;rfl
 |v::vs,[],R,h=>by simp at h
 |v::vs,a::A,R,h=>by
  show PI ([v]++(A++R)) ([v].length+0) vs=v::vs++R;rw[JP [v] vs 0 (A++R),Sy vs A R (by simpa using h)];rfl
theorem Uu{α:Type}(g:α->List Value)(z:Nat)(hz:∀a,(g a).length=z):∀(xs:List α)(i:Nat)(b:α),i<xs.length->PI (xs.flatMap g) (i*z) (g b)=(xs.set i b).flatMap g
 |[],i,b,h=>by simp at h
 |x::l,0,b,_=>by
  rw[List.flatMap_cons,Nat.zero_mul,Sy _ _ _ (by rw[hz,hz])];rfl
 |x::l,i+1,b,h=>by
  rw[List.flatMap_cons,show(i+1)*z=(g x).length+i*z by rw[hz,Nat.add_mul];omega,JP (g x) (g b) (i*z) (l.flatMap g),Uu g z hz l i b (by simpa using h)];rfl
theorem Bv(hB:B<=g):∀(vs:List Value)(i:Nat){w0 w:World},Below B w0 w->Below B w0 (setW w g i vs)
 |[],_,_,_,h=>h
 |v::vs,i,_,_,h=>Bv hB vs (i+1) (h.setCell hB v)
theorem OG{a0 a1 a2 a3 a4 a5 b0 b1 b2 b3 b4 b5:Value}(h:w.heap[g]?=some (.cells #[a0,a1,a2,a3,a4,a5] t)):(setW w g 0 [b0,b1,b2,b3,b4,b5]).heap[g]?=some (.cells #[b0,b1,b2,b3,b4,b5] t):=
 Bq (Bq (Bq (Bq (Bq (Bq h 0 b0) 1 b1) 2 b2) 3 b3) 4 b4) 5 b5
end Go.Proofs.YtfpeecaaleijcaaGreatDoor
