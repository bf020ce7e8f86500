import Derived.Test.YtfpeecaaleijcaaGreatDoorOfCl
import Derived.Test.YtfpeecaaleijcaaGreatDoorOfPzNum
import Derived.Test.YtfpeecaaleijcaaGreatDoorOfUnitBlock
import Derived.Test.YtfpeecaaleijcaaGreatDoorOfTransMath
import Derived.Lib.Join
import Derived.WalkSmall
import Derived.Laws.OwnMore
import Derived.Maps.AppendAt
namespace Go.Proofs.YtfpeecaaleijcaaGreatDoor
open Go.RowKit
variable {ip:List (List SV)}{hs:List HS}{b b':List SV}{ts:List TypeId}{rg:List VV}{ib xs:List Value}{B base e n size:Nat}{cv v vH vP vR:Value}{w w':World}
def Aj:List UInt8->List (List UInt8)
 |[]=>[[]]
 |c::l=>if c=32 then[]::Aj l else match Aj l with|[]=>[[c]]|f::fs=>(c::f)::fs
def Yt(s:SV):List Value:=[Vi s.k,Vi s.op,Vi s.d,Vi s.a,Vi s.b,Vi s.imm,Vi s.h,Vi s.cond,Vi s.thn,Vi s.els,Vi s.proc]
def cs(xs:List SV):List Value:=xs.flatMap Yt
def hsL(s:HS):List Value:=[Vi s.size,.bool s.s,.bool s.w]
def Qe(x:VV):List Value:=[Vi x.k,.bool x.s,Vi x.m,Vi x.h,Vi x.lo,Vi x.hi]
structure OV where
 at':Nat
 th:Int
 els:Bool
structure PS where
 st:Nat
 d:Int
 hs:List HS
 rg:List VV
 gv:List Bool
 ps:List (List SV)
 op:List OV
def sv0:SV:=⟨0,0,0,0,0,0,0,0,0,0,0⟩
def dR:VV:=⟨0,true,-1,0,0,0⟩
def ps0:PS:=⟨0,0,[],List.replicate 8 dR,List.replicate 8 false,[],[]⟩
def Di(l:List UInt8):Option Bool:=if l=[112,117,98,108,105,99]then some false else if l=[115,101,99,114,101,116]then some true else none
def Jr(l:List UInt8):Option Bool:=if l=[114,101,97,100]then some false else if l=[119,114,105,116,101]then some true else none
def Nn(l:List UInt8):Option Int:=if l=[103,97,115]then some 0 else if l=[109,97,115,109]then some 1 else none
def Ju(l:List UInt8):Int:=if l=[122]then 1 else if l=[110,122]then 2 else if l=[99]then 3 else if l=[110,99]then 4 else 0
def fd(f:List (List UInt8))(k:Nat):List UInt8:=f.getD k []
def Ku(S:PS)(f:List (List UInt8)):Option PS:=
 if S.st=0/\f.length=2 then(Nn (fd f 1)).map fun d=>{S with d:=d,st:=1}else none
def FC(S:PS)(f:List (List UInt8)):Option PS:=
 if S.st=1/\f.length=4/\S.hs.length≠8 then
  match Bc false (fd f 1),Di (fd f 2),Jr (fd f 3)with
  |some a,some b,some c=>some {S with hs:=S.hs++[⟨a,b,c⟩]}
  |_,_,_=>none
 else none
def FK(f:List (List UInt8)):Option VV:=
 if f.length=2 then
  match(if fd f 0=[97,110,121]then some (-1)else Bc false (fd f 0)),Di (fd f 1)with
  |some m,some s=>some ⟨0,s,m,0,0,0⟩
  |_,_=>none
 else if f.length=4/\fd f 0=[112,116,114]then
  match Bc false (fd f 1),Bc true (fd f 2),Bc true (fd f 3)with
  |some h,some lo,some hi=>some ⟨1,false,0,h,lo,hi⟩
  |_,_,_=>none
 else none
def JQ(S:PS)(f:List (List UInt8)):Option PS:=
 if(S.st=1∨S.st=2)/\2<=f.length then
  match Bc false (fd f 1)with
  |some n=>if n<8/\S.gv.getD n.toNat false=false then(FK (f.drop 2)).map fun v=>{S with st:=2,rg:=S.rg.set n.toNat v,gv:=S.gv.set n.toNat true}else none
  |none=>none
 else none
def Gj(S:PS)(f:List (List UInt8)):Option PS:=
 if S.st≠0/\S.op=[]/\f.length=1 then some {S with st:=3,ps:=S.ps++[[]]}else none
def Ac(S:PS):List SV:=S.ps.getLastD []
def Cv(S:PS)(b:List SV):PS:={S with ps:=S.ps.dropLast++[b]}
def Dw(S:PS)(s:SV):PS:=Cv S (Ac S++[s])
def Ez(S:PS)(k:Int)(f:List (List UInt8)):Option PS:=
 if f.length=2/\Ju (fd f 1)≠0 then some {Dw S {sv0 with k:=k,cond:=Ju (fd f 1)}with op:=⟨(Ac S).length,0,false⟩::S.op}else none
def JV(S:PS)(f:List (List UInt8)):Option PS:=
 match S.op with
 |[]=>none
 |o::os=>if f.length=1/\o.els=false/\((Ac S).getD o.at' sv0).k=2 then some {S with op:=⟨o.at',((Ac S).length:Int)-o.at'-1,true⟩::os}else none
def JG(S:PS)(f:List (List UInt8)):Option PS:=
 match S.op with
 |[]=>none
 |o::os=>if f.length=1 then some {Cv S ((Ac S).set o.at' (if o.els=true then{(Ac S).getD o.at' sv0 with thn:=o.th,els:=((Ac S).length:Int)-o.at'-1-o.th}else{(Ac S).getD o.at' sv0 with thn:=((Ac S).length:Int)-o.at'-1}))with op:=os}else none
def NF(S:PS)(f:List (List UInt8)):Option PS:=
 if f.length=2 then(Bc false (fd f 1)).map fun n=>Dw S {sv0 with k:=4,proc:=n}else none
def PZ(S:PS)(l:List UInt8):Option PS:=
 match KE 1 l with
 |some x=>if Ar x.op x.d x.a x.b x.imm x.h=true/\x.op<29 then some (Dw S {sv0 with k:=1,op:=x.op,d:=x.d,a:=x.a,b:=x.b,imm:=x.imm,h:=x.h})else none
 |none=>none
def Vg(S:PS)(l:List UInt8)(f:List (List UInt8)):Option PS:=
 if S.st=3 then
  if fd f 0=[105,102]then Ez S 2 f else if fd f 0=[119,104,105,108,101]then Ez S 3 f
  else if fd f 0=[101,108,115,101]then JV S f else if fd f 0=[101,110,100]then JG S f
  else if fd f 0=[99,97,108,108]then NF S f else PZ S l
 else none
def Eb(S:PS)(l:List UInt8):Option PS:=
 if fd (Aj l) 0=[100,105,97,108,101,99,116]then Ku S (Aj l)else if fd (Aj l) 0=[104,101,97,112]then FC S (Aj l)
 else if fd (Aj l) 0=[114,101,103]then JQ S (Aj l)else if fd (Aj l) 0=[112,114,111,99]then Gj S (Aj l)
 else Vg S l (Aj l)
def Xb:Nat->List UInt8->PS->Nat->Nat×PS
 |0,_,S,k=>(k,S)
 |n+1,t,S,k=>
 if _h:t=[]then(if S.st=3/\S.op=[]then 0 else k,S)else
 if _hn:pre CY t=t.length then(k,S)else
 match Eb S (t.take (pre CY t))with
 |none=>(k,S)
 |some S'=>Xb n (t.drop (pre CY t+1)) S' (k+1)
def psT(t:List UInt8)(S:PS)(k:Nat):Nat×PS:=Xb (t.length+1) t S k
theorem Uq:∀(n m:Nat)(t:List UInt8)(S:PS)(k:Nat),t.length<n->t.length<m->Xb n t S k=Xb m t S k
 |0,_,_,_,_,h,_=>absurd h (Nat.not_lt_zero _)
 |_+1,0,_,_,_,_,h=>absurd h (Nat.not_lt_zero _)
 |n+1,m+1,t,S,k,hn,hm=>by
  by_cases h:t=[]
  ·subst h;rfl
  have l:=Oo h (pre CY t);have e:∀S' j,Xb n (t.drop (pre CY t+1)) S' j=Xb m (t.drop (pre CY t+1)) S' j:=fun S' j=>Uq n m _ S' j (by omega) (by omega)
  rw[Xb,Xb];simp only[e]
theorem Pk(t:List UInt8)(S:PS)(k:Nat):psT t S k=
 if _h:t=[]then(if S.st=3/\S.op=[]then 0 else k,S)else
 if _hn:pre CY t=t.length then(k,S)else
 match Eb S (t.take (pre CY t))with
 |none=>(k,S)
 |some S'=>psT (t.drop (pre CY t+1)) S' (k+1):=by
 by_cases h:t=[]
 ·subst h;rfl
 have e:∀S' j,Xb t.length (t.drop (pre CY t+1)) S' j=psT (t.drop (pre CY t+1)) S' j:=fun S' j=>Uq _ _ _ S' j (Oo h _) (Nat.lt_succ_self _)
 show Xb (t.length+1) t S k=_;rw[Xb];simp only[e]
structure Inv(S:PS):Prop where
 st:S.st<=3
 d:S.d=0∨S.d=1
 hs:S.hs.length<=8
 rg:S.rg.length=8
 gv:S.gv.length=8
 ps:S.st=3->S.ps≠[]
 op:S.st≠3->S.op=[]
 ol:∀o∈S.op,o.at'<(Ac S).length
 od:S.op.Pairwise fun a b=>b.at'<a.at'
theorem IC(S:PS)(b:List SV):Ac (Cv S b)=b:=by simp[Ac,Cv]
theorem Inv.zero:Inv ps0:=⟨by decide,.inl rfl,by decide,rfl,rfl,fun h=>absurd h (by decide),fun _=>rfl,fun o h=>(by cases h),List.Pairwise.nil⟩
theorem Inv.put{S:PS}(h:Inv S)(b:List SV)(os:List OV)(h3:S.st=3)(hl:∀o∈os,o.at'<b.length)(hd:os.Pairwise fun a b=>b.at'<a.at'):Inv {Cv S b with op:=os}:=
 ⟨h.st,h.d,h.hs,h.rg,h.gv,fun _=>by simp[Cv],fun h'=>absurd h3 h',fun o ho=>by
   have e:Ac {Cv S b with op:=os}=b:=IC S b;rw[e];exact hl o ho,hd⟩
theorem GZ:∀l:List UInt8,Aj l≠[]
 |[]=>by simp[Aj]
 |c::l=>by
  unfold Aj;split
  ·simp
  ·split<;>simp
theorem LF:∀(a l:List UInt8),(∀c∈a,c≠32)->Aj (a++l)=(a++(Aj l).getD 0 [])::(Aj l).drop 1
 |[],l,_=>by
  cases h:Aj l with
  |nil=>exact absurd h (GZ l)
  |cons f fs=>simp[h]
 |c::a,l,ha=>by
  show(if c=32 then[]::Aj (a++l)else match Aj (a++l)with|[]=>[[c]]|f::fs=>(c::f)::fs)=_;rw[if_neg (ha c (by simp)),LF a l (fun c hc=>ha c (by simp[hc]))];rfl
theorem Ql(l:List UInt8):Aj (32::l)=[]::Aj l:=by simp[Aj]
theorem Qv(a:List UInt8)(ha:∀c∈a,c≠32):Aj a=[a]:=by
 have:=LF a [] ha;rw[List.append_nil]at this;rw[this];simp[Aj]
theorem Y3(a l:List UInt8)(ha:∀c∈a,c≠32)(hl:∀c,l.head?=some c->c=32):fd (Aj (a++l)) 0=a:=by
 rw[LF a l ha];cases l with
 |nil=>simp[fd,Aj]
 |cons c l=>
  rw[hl c rfl,Ql];simp[fd]
theorem La:∀(l f:List UInt8),f∈Aj l->∀c∈f,c≠32/\c∈l
 |[],f,hf=>by
  have:f=[]:=by simpa[Aj]using hf
  subst this;simp
 |c::l,f,hf=>by
  unfold Aj at hf;split at hf
  ·rcases List.mem_cons.1 hf with rfl|hf
   ·simp
   ·intro x hx;have:=La l f hf x hx;exact⟨this.1,by simp[this.2]⟩
  ·rename_i hc
   split at hf
   ·exact absurd ‹_› (GZ l)
   ·rename_i g gs hg
    rcases List.mem_cons.1 hf with rfl|hf
    ·intro x hx
     rcases List.mem_cons.1 hx with rfl|hx
     ·exact⟨hc,by simp⟩
     ·have:=La l g (by rw[hg];simp) x hx;exact⟨this.1,by simp[this.2]⟩
    ·intro x hx;have:=La l f (by rw[hg];simp[hf]) x hx;exact⟨this.1,by simp[this.2]⟩
theorem VX:∀l:List UInt8,(Aj l).length<=l.length+1
 |[]=>by simp[Aj]
 |c::l=>by
  have:=VX l;unfold Aj;split
  ·simp;omega
  ·split
   ·simp
   ·rename_i f fs h;rw[h]at this;simp at this⊢;omega
theorem Rt:∀l:List UInt8,Lib.join (Aj l) [32]=l
 |[]=>rfl
 |c::l=>by
  have ih:=Rt l;unfold Aj;split
  ·rename_i hc
   subst hc;cases h:Aj l with
   |nil=>exact absurd h (GZ l)
   |cons f fs=>
    rw[h,Lib.join_cons]at ih;rw[Lib.join_cons,<-ih];simp[Lib.joinTail]
  ·split
   ·exact absurd ‹_› (GZ l)
   ·rename_i f fs h
    rw[h,Lib.join_cons]at ih;rw[Lib.join_cons,<-ih];rfl
structure Rw where
 t:TypeId
 z:Nat
 v:Value
 n:Nat
 xs:List Value
def Rw.own(w:World)(B:Nat)(r:Rw):Prop:=w.ownsRow B r.t r.z r.v r.n r.xs
def Rw.far(a b:Rw):Prop:=∀k,a.v.ownBlock=some k->b.v.ownBlock≠some k
theorem Rw.far.symm{a b:Rw}(h:a.far b):b.far a:=fun k hb ha=>h k ha hb
structure Et(w:World)(B:Nat)(rs:List Rw):Prop where
 own:∀(j:Nat)(r:Rw),rs[j]?=some r->r.own w B
 dis:∀(i j:Nat)(a b:Rw),i≠j->rs[i]?=some a->rs[j]?=some b->a.far b
theorem JM(h:w.ownsRow base e size v n xs)(hb:∀k,v.ownBlock=some k->w'.heap[k]?=w.heap[k]?):w'.ownsRow base e size v n xs:=by
 refine⟨h.1,?_⟩;rcases h.2 with h|⟨g,cap,cur,rfl,h1,h2,h3⟩
 ·exact .inl h
 ·exact .inr ⟨g,cap,cur,rfl,h1,(hb g rfl).trans h2,h3⟩
theorem Et.keep{rs:List Rw}(h:Et w B rs)(hk:∀(j:Nat)(r:Rw)(k:Nat),rs[j]?=some r->r.v.ownBlock=some k->w'.heap[k]?=w.heap[k]?):Et w' B rs:=
 ⟨fun j r hr=>JM (h.own j r hr) (fun k hkk=>hk j r k hr hkk),h.dis⟩
theorem Et.below{rs:List Rw}(h:Et w B rs)(hb:Below w.heap.size w w'):Et w' B rs:=
 h.keep fun j r k hr hk=>hb.block k ((h.own j r hr).lt k hk).2
theorem Et.grow{j:Nat}{rs:List Rw}{r r':Rw}(h:Et w B rs)(hj:rs[j]?=some r)(hg:w.grownBy w' r.v.ownBlock)(ho:r'.own w' B)(ha:r'.v.ownBlock=r.v.ownBlock∨∃k,r'.v.ownBlock=some k/\w.heap.size<=k):Et w' B (rs.set j r'):=by
 have hlt:j<rs.length:=(List.getElem?_eq_some_iff.1 hj).1;have at':∀(i:Nat)(q:Rw),(rs.set j r')[i]?=some q->(i=j/\q=r')∨(i≠j/\rs[i]?=some q):=fun i q hq=>by
  rw[List.getElem?_set]at hq;split at hq
  ·rename_i e
   exact .inl ⟨e.symm,(Option.some.inj hq).symm⟩
  ·rename_i e
   exact .inr ⟨fun e'=>e e'.symm,hq⟩
 have fr:∀(i:Nat)(q:Rw),i≠j->rs[i]?=some q->q.far r':=fun i q hi hq k hk hk'=>by
  rcases ha with e|⟨k',e,hl⟩
  ·rw[e]at hk';exact h.dis i j q r hi hq hj k hk hk'
  ·rw[e]at hk'
   have:=Option.some.inj hk';have:=((h.own i q hq).lt k hk).2;omega
 refine⟨fun i q hq=>?_,fun i i2 a b hne ha' hb'=>?_⟩
 ·rcases at' i q hq with⟨rfl,rfl⟩|⟨hi,hq⟩
  ·exact ho
  ·exact(h.own i q hq).kept hg (by
    cases hv:q.v.ownBlock with
    |none=>exact .inl rfl
    |some k=>exact .inr (fun e=>h.dis i j q r hi hq hj k hv e.symm))
 ·rcases at' i a ha' with⟨e1,rfl⟩|⟨h1,ha1⟩
  ·rcases at' i2 b hb' with⟨e2,_⟩|⟨h2,hb2⟩
   ·exact absurd (e1.trans e2.symm) hne
   ·exact(fr i2 b h2 hb2).symm
  ·rcases at' i2 b hb' with⟨e2,rfl⟩|⟨h2,hb2⟩
   ·exact fr i a h1 ha1
   ·exact h.dis i i2 a b hne ha1 hb2
theorem Et.push{rs:List Rw}{r:Rw}(h:Et w B rs)(ho:r.own w B)(hn:r.v.ownBlock=none):Et w B (rs++[r]):=by
 have at':∀(i:Nat)(q:Rw),(rs++[r])[i]?=some q->q=r/\i=rs.length∨rs[i]?=some q:=fun i q hq=>by
  by_cases hi:i<rs.length
  ·rw[List.getElem?_append_left hi]at hq;exact .inr hq
  ·rw[List.getElem?_append_right (by omega)]at hq
   have h1:=(List.getElem?_eq_some_iff.1 hq).1;simp at h1;have e:i=rs.length:=by omega
   subst e;simp at hq;exact .inl ⟨hq.symm,rfl⟩
 refine⟨fun i q hq=>?_,fun i j a b hne ha hb k hk hk'=>?_⟩
 ·rcases at' i q hq with⟨rfl,_⟩|hq
  ·exact ho
  ·exact h.own i q hq
 ·rcases at' i a ha with⟨rfl,e1⟩|ha
  ·rw[hn]at hk;cases hk
  ·rcases at' j b hb with⟨rfl,e2⟩|hb
   ·rw[hn]at hk';cases hk'
   ·exact h.dis i j a b hne ha hb k hk hk'
theorem Et.drop{rs:List Rw}(h:Et w B rs)(n:Nat):Et w B (rs.drop n):=
 ⟨fun j r hr=>h.own (n+j) r (by rwa [List.getElem?_drop]at hr),fun i j a b hne ha hb=>h.dis (n+i) (n+j) a b (by omega) (by rwa [List.getElem?_drop]at ha) (by rwa [List.getElem?_drop]at hb)⟩
structure Fm(ts:List TypeId)(B:Nat)(w w':World):Prop where
 b:Below B w w'
 k:∀(q:Nat)(o:Obj),w.heap[q]?=some o->(∀c t f,o=.cells c t f->t∉ts)->w'.heap[q]?=some o
theorem Fm.refl(ts:List TypeId)(B:Nat)(w:World):Fm ts B w w:=⟨Below.refl _ _,fun _ _ h _=>h⟩
theorem Fm.trans{u v:World}(h:Fm ts B u v)(g:Fm ts B v w):Fm ts B u w:=⟨h.b.trans g.b,fun q o h1 h2=>g.k q o (h.k q o h1 h2) h2⟩
theorem Fm.of_below(h:Below w.heap.size w w')(hB:B<=w.heap.size):Fm ts B w w':=⟨h.mono hB,fun q _ h1 _=>(h.block q (jH.1 h1).1).trans h1⟩
theorem Fm.below{u v:World}(h:Fm ts B w u)(g:Below u.heap.size u v)(hB:B<=u.heap.size):Fm ts B w v:=h.trans (Fm.of_below g hB)
theorem Fm.of_grow{C:Nat}(ho:w.ownsRow C e size v n xs)(hC:B<=C)(hg:w.grownBy w' v.ownBlock)(hB:B<=w.heap.size)(ht:e∈ts):Fm ts B w w':=by
 refine⟨(Below.refl B w).grown hg hB (fun k hk=>Nat.le_trans hC (ho.lt k hk).1),fun q o h1 h2=>?_⟩;refine(hg.block q (jH.1 h1).1 (fun e1=>?_)).trans h1;rcases ho.2 with⟨h',_⟩|⟨g,cap,cur,rfl,_,hh,_⟩
 ·rw[h']at e1;cases e1
 ·have e2:=Option.some.inj e1
  subst e2;rw[hh]at h1;exact h2 cur e (0,0) (Option.some.inj h1).symm ht
theorem Fm.of_set{a:Addr}{c:Array Value}{t:TypeId}{f:Nat×Nat}(hc:w.heap[a.block]?=some (.cells c t f))(ht:t∈ts)(hB:B<=a.block)(u:Value):Fm ts B w (w.setCell a u):=by
 refine⟨(Below.refl B w).setCell hB u,fun q o h1 h2=>?_⟩;refine(Below.heap_setCell w a u q (fun e=>?_)).trans h1;subst e;rw[hc]at h1;exact h2 c t f (Option.some.inj h1).symm ht
def Gq(bv:List Value)(PL:List (List SV)):List Rw:=List.zipWith (fun v b=>⟨89,11,v,b.length,cs b⟩) bv PL
def Df(ex:List Rw)(hs:List HS)(rg:List VV)(PL:List (List SV))(vH vR vP:Value)(bv:List Value):List Rw:=
 ex++(⟨40,3,vH,hs.length,hs.flatMap hsL⟩::⟨42,6,vR,rg.length,rg.flatMap Qe⟩::⟨38,1,vP,bv.length,bv⟩::Gq bv PL)
theorem GJ(ib:List Value)(ip:List (List SV))(cv:Value)(b:List SV)(h:ib.length=ip.length):Gq (ib++[cv]) (ip++[b])=Gq ib ip++[⟨89,11,cv,b.length,cs b⟩]:=by
 unfold Gq;rw[List.zipWith_append h];rfl
theorem NP(ib:List Value)(ip:List (List SV))(h:ib.length=ip.length):(Gq ib ip).length=ib.length:=by
 unfold Gq;rw[List.length_zipWith];omega
theorem Jb{α:Type}(l:List α)(a b:α)(n:Nat)(h:l.length=n):(l++[a]).set n b=l++[b]:=by
 subst h;rw[List.set_append,if_neg (by omega),Nat.sub_self];rfl
theorem Gr{α:Type}(l:List α)(a:α)(n:Nat)(h:l.length=n):(l++[a])[n]?=some a:=by
 subst h;simp
theorem bO(a b:List SV):cs (a++b)=cs a++cs b:=by simp[cs]
theorem bJ(s:SV):cs [s]=Yt s:=by simp[cs]
theorem bQ{α:Type}(g:α->List Value)(z:Nat)(hz:∀a,(g a).length=z)(xs:List α):(xs.flatMap g).length=xs.length*z:=by
 induction xs with
 |nil=>simp
 |cons a l ih=>rw[List.flatMap_cons,List.length_append,ih,hz,List.length_cons,Nat.add_mul];omega
theorem Ui{α:Type}(g:α->List Value)(z:Nat)(hz:∀a,(g a).length=z):∀(xs:List α)(i j:Nat)(a:α),xs[i]?=some a->j<z->(xs.flatMap g)[i*z+j]?=(g a)[j]?
 |[],i,j,a,h,_=>by simp at h
 |x::l,0,j,a,h,hj=>by
  have:x=a:=by simpa using h
  subst this;rw[List.flatMap_cons,List.getElem?_append_left (by rw[hz];omega),Nat.zero_mul,Nat.zero_add]
 |x::l,i+1,j,a,h,hj=>by
  rw[List.flatMap_cons,List.getElem?_append_right (by rw[hz,Nat.add_mul];omega),hz,show(i+1)*z+j-z=i*z+j by rw[Nat.add_mul];omega];exact Ui g z hz l i j a (by simpa using h) hj
theorem TW{α:Type}(g:α->List Value)(z:Nat)(hz:∀a,(g a).length=z):∀(xs:List α)(i j:Nat)(a b:α)(u:Value),xs[i]?=some a->j<z->(g a).set j u=g b->(xs.flatMap g).set (i*z+j) u=(xs.set i b).flatMap g
 |[],i,j,a,b,u,h,_,_=>by simp at h
 |x::l,0,j,a,b,u,h,hj,hu=>by
  have:x=a:=by simpa using h
  subst this;rw[List.flatMap_cons,List.set_append,if_pos (by rw[hz];omega),Nat.zero_mul,Nat.zero_add,hu];rfl
 |x::l,i+1,j,a,b,u,h,hj,hu=>by
  rw[List.flatMap_cons,List.set_append,if_neg (by rw[hz,Nat.add_mul];omega),hz,show(i+1)*z+j-z=i*z+j by rw[Nat.add_mul];omega,TW g z hz l i j a b u (by simpa using h) hj hu];rfl
theorem Dr(h:w.ownsRow base e size v n xs):∃(ao:Option Addr)(c:Nat),v=.slice ao n c:=by
 rcases h.2 with⟨h',h0⟩|⟨g,cap,cur,rfl,_⟩
 ·subst h0;exact⟨_,_,h'⟩
 ·exact⟨_,_,rfl⟩
theorem H7(h:w.ownsRow base e size v n xs)(hn:0<n):∃(g c:Nat),v=Vs g n c/\base<=g/\g<w.heap.size/\n<=c:=by
 rcases h.2 with⟨h',h0⟩|⟨g,cap,cur,rfl,h1,h2,h3,_⟩
 ·omega
 ·exact⟨_,_,rfl,h1,(jH.1 h2).1,h3⟩
def pat:List OV->List SV->List SV
 |[],L=>L
 |o::os,L=>if o.els=true then(pat os L).set o.at' {(pat os L).getD o.at' sv0 with thn:=o.th}else pat os L
theorem Cf:∀(os:List OV)(L:List SV),(pat os L).length=L.length
 |[],L=>rfl
 |o::os,L=>by
  unfold pat;split
  ·rw[List.length_set];exact Cf os L
  ·exact Cf os L
theorem PU:∀(os:List OV)(L:List SV)(a:Nat),(∀o∈os,o.at'≠a)->(pat os L)[a]?=L[a]?
 |[],L,a,_=>rfl
 |o::os,L,a,h=>by
  unfold pat;split
  ·rw[List.getElem?_set,if_neg (h o (by simp))]
   exact PU os L a (fun o ho=>h o (by simp[ho]))
  ·exact PU os L a (fun o ho=>h o (by simp[ho]))
theorem getD_eq{α:Type}{l m:List α}{a:Nat}(d:α)(h:l[a]?=m[a]?):l.getD a d=m.getD a d:=by
 rw[jJ,jJ,h]
theorem QH:∀(os:List OV)(L:List SV)(a:Nat)(x:SV),(∀o∈os,o.at'≠a)->pat os (L.set a x)=(pat os L).set a x
 |[],L,a,x,_=>rfl
 |o::os,L,a,x,h=>by
  unfold pat;have ih:=QH os L a x (fun o ho=>h o (by simp[ho]));have hne:=h o (by simp);split
  ·rw[ih,List.set_comm _ _ hne.symm]
   congr 2
   rw[getD_eq sv0 (l:=(pat os L).set a x) (m:=pat os L) (by rw[List.getElem?_set,if_neg hne.symm])]
  ·exact ih
theorem VW:∀(os:List OV)(L:List SV)(x:SV),(∀o∈os,o.at'<L.length)->pat os (L++[x])=pat os L++[x]
 |[],L,x,_=>rfl
 |o::os,L,x,h=>by
  unfold pat;have ih:=VW os L x (fun o ho=>h o (by simp[ho]));have hlt:=h o (by simp);split
  ·rw[ih,List.set_append,if_pos (by rw[Cf];exact hlt)]
   congr 2
   rw[getD_eq sv0 (l:=pat os L++[x]) (m:=pat os L) (List.getElem?_append_left (by rw[Cf];exact hlt))]
  ·exact ih
theorem Pg(ex:List Rw)(hs:List HS)(rg:List VV)(PL:List (List SV))(vH vR vP:Value)(bv:List Value)(k:Nat):(Df ex hs rg PL vH vR vP bv)[ex.length+k]?=((⟨40,3,vH,hs.length,hs.flatMap hsL⟩::⟨42,6,vR,rg.length,rg.flatMap Qe⟩::⟨38,1,vP,bv.length,bv⟩::Gq bv PL):List Rw)[k]?:=by
 unfold Df;rw[List.getElem?_append_right (by omega),Nat.add_sub_cancel_left]
theorem Mr(ex:List Rw)(hs:List HS)(rg:List VV)(PL:List (List SV))(vH vR vP:Value)(bv:List Value)(k:Nat)(r:Rw):(Df ex hs rg PL vH vR vP bv).set (ex.length+k) r=ex++((⟨40,3,vH,hs.length,hs.flatMap hsL⟩::⟨42,6,vR,rg.length,rg.flatMap Qe⟩::⟨38,1,vP,bv.length,bv⟩::Gq bv PL):List Rw).set k r:=by
 unfold Df;rw[List.set_append,if_neg (by omega),Nat.add_sub_cancel_left]
theorem DZ{ex:List Rw}(h:ib.length=ip.length):(Df ex hs rg (ip++[b]) vH vR vP (ib++[cv]))[ex.length+(ib.length+3)]?=some ⟨89,11,cv,b.length,cs b⟩:=by
 rw[Pg,GJ ib ip cv b h];show(Gq ib ip++[_])[ib.length]?=_;exact Gr _ _ _ (NP ib ip h)
theorem Vn{ex:List Rw}(h:ib.length=ip.length):(Df ex hs rg (ip++[b]) vH vR vP (ib++[cv])).set (ex.length+(ib.length+3)) ⟨89,11,cv,b'.length,cs b'⟩=Df ex hs rg (ip++[b']) vH vR vP (ib++[cv]):=by
 rw[Mr,GJ ib ip cv b h];show ex++(_::_::_::(Gq ib ip++[_]).set ib.length _)=_;rw[Jb _ _ _ _ (NP ib ip h),<-GJ ib ip cv b' h];rfl
theorem Et.body{w5:World}{g c:Nat}{ex:List Rw}{v':Value}(h:Et w B (Df ex hs rg (ip++[b]) vH vR (Vs g n c) (ib++[cv])))(hl:ib.length=ip.length)(hg:w.grownBy w5 cv.ownBlock)(ho:w5.ownsRow B 89 11 v' b'.length (cs b'))(ha:v'.ownBlock=cv.ownBlock∨∃k,v'.ownBlock=some k/\w.heap.size<=k):
 Et (w5.setCell ⟨g,ib.length,none⟩ v') B (Df ex hs rg (ip++[b']) vH vR (Vs g n c) (ib++[v']))/\w5.cell? ⟨g,ib.length,none⟩=some cv/\w5.frozen? ⟨g,ib.length,none⟩=false/\B<=g/\w5.grownBy (w5.setCell ⟨g,ib.length,none⟩ v') (some g)/\w5.ownsRow B 38 1 (Vs g n c) (ib++[cv]).length (ib++[cv]):=by
 have h1:=h.grow (j:=ex.length+(ib.length+3)) (r:=⟨89,11,cv,b.length,cs b⟩) (r':=⟨89,11,v',b'.length,cs b'⟩) (DZ hl) hg ho ha;have e1:(Df ex hs rg (ip++[b]) vH vR (Vs g n c) (ib++[cv])).set (ex.length+(ib.length+3)) ⟨89,11,v',b'.length,cs b'⟩=ex++(⟨40,3,vH,hs.length,hs.flatMap hsL⟩::⟨42,6,vR,rg.length,rg.flatMap Qe⟩::⟨38,1,Vs g n c,(ib++[cv]).length,ib++[cv]⟩::(Gq ib ip++[⟨89,11,v',b'.length,cs b'⟩])):=by
  rw[Mr,GJ ib ip cv b hl];show ex++(_::_::_::(Gq ib ip++[_]).set ib.length _)=_;rw[Jb _ _ _ _ (NP ib ip hl)]
 rw[e1]at h1;have hP:(ex++((⟨40,3,vH,hs.length,hs.flatMap hsL⟩::⟨42,6,vR,rg.length,rg.flatMap Qe⟩::⟨38,1,Vs g n c,(ib++[cv]).length,ib++[cv]⟩::(Gq ib ip++[⟨89,11,v',b'.length,cs b'⟩])):List Rw))[ex.length+2]?=some ⟨38,1,Vs g n c,(ib++[cv]).length,ib++[cv]⟩:=by
  rw[List.getElem?_append_right (by omega),Nat.add_sub_cancel_left];rfl
 have oP:w5.ownsRow B 38 1 (Vs g n c) (ib++[cv]).length (ib++[cv]):=h1.own _ _ hP;have hn:n=(ib++[cv]).length:=by
  obtain⟨_,_,h'⟩:=Dr oP;injection h'
 subst hn;obtain⟨s1,s2⟩:=oP.stored ib.length v';rw[Jb _ _ _ _ rfl]at s1;have s1':(w5.setCell ⟨g,ib.length,none⟩ v').ownsRow B 38 1 (Vs g (ib++[cv]).length c) (ib++[v']).length (ib++[v']):=by
  have:(ib++[v']).length=(ib++[cv]).length:=by simp
  rw[this];exact s1
 refine⟨?_,?_,oP.frozenAt _,(oP.lt g rfl).1,s2,oP⟩
 ·have h2:=h1.grow (j:=ex.length+2) (r':=⟨38,1,Vs g (ib++[cv]).length c,(ib++[v']).length,ib++[v']⟩) hP s2 s1' (.inl rfl)
  rw[List.set_append,if_neg (by omega),Nat.add_sub_cancel_left]at h2;unfold Df;rw[GJ ib ip v' b' hl];exact h2
 ·rw[oP.cellAt ib.length (by simp)]
  exact Gr _ _ _ rfl
theorem Et.bodySet{g c j:Nat}{ex:List Rw}{u:Value}(h:Et w B (Df ex hs rg (ip++[b]) vH vR vP (ib++[Vs g n c])))(hl:ib.length=ip.length)(hb:b'.length=b.length)(hu:(cs b).set j u=cs b'):
 Et (w.setCell (Va g j) u) B (Df ex hs rg (ip++[b']) vH vR vP (ib++[Vs g n c]))/\w.grownBy (w.setCell (Va g j) u) (some g):=by
 have ho:w.ownsRow B 89 11 (Vs g n c) b.length (cs b):=h.own _ _ (DZ hl);have hn:n=b.length:=by
  obtain⟨_,_,h'⟩:=Dr ho;injection h'
 subst hn;obtain⟨s1,s2⟩:=ho.stored j u;rw[hu]at s1;refine⟨?_,s2⟩;have h1:=h.grow (j:=ex.length+(ib.length+3)) (r':=⟨89,11,Vs g b.length c,b'.length,cs b'⟩) (DZ hl) s2 (by unfold Rw.own;rw[hb];exact s1) (.inl rfl);rw[Vn hl]at h1;exact h1
theorem Et.proc{w5:World}{n' c':Nat}{a':Option Addr}{ex:List Rw}{PL:List (List SV)}{bv:List Value}(h:Et w B (Df ex hs rg PL vH vR vP bv))(hl:bv.length=PL.length)(hg:w.grownBy w5 vP.ownBlock)(ho:w5.ownsRow B 38 1 (.slice a' n' c') (bv.length+1) (bv++[.slice none 0 0]))(ha:(Value.slice a' n' c').ownBlock=vP.ownBlock∨∃k,(Value.slice a' n' c').ownBlock=some k/\w.heap.size<=k):
 Et w5 B (Df ex hs rg (PL++[[]]) vH vR (.slice a' n' c') (bv++[.slice none 0 0])):=by
 have h1:=h.grow (j:=ex.length+2) (r:=⟨38,1,vP,bv.length,bv⟩) (r':=⟨38,1,.slice a' n' c',(bv++[Value.slice none 0 0]).length,bv++[Value.slice none 0 0]⟩) (by rw[Pg];rfl) hg (by unfold Rw.own;rw[List.length_append];exact ho) ha;rw[Mr]at h1;have h2:=h1.push (r:=⟨89,11,.slice none 0 0,0,[]⟩) (World.ownsRow_nil _ _ _ _) rfl;unfold Df;rw[GJ bv PL _ _ hl];have e:(ex++((⟨40,3,vH,hs.length,hs.flatMap hsL⟩::⟨42,6,vR,rg.length,rg.flatMap Qe⟩::⟨38,1,vP,bv.length,bv⟩::Gq bv PL:List Rw).set 2 ⟨38,1,.slice a' n' c',(bv++[Value.slice none 0 0]).length,bv++[Value.slice none 0 0]⟩))++[(⟨89,11,.slice none 0 0,0,[]⟩:Rw)]=ex++(⟨40,3,vH,hs.length,hs.flatMap hsL⟩::⟨42,6,vR,rg.length,rg.flatMap Qe⟩::⟨38,1,.slice a' n' c',(bv++[Value.slice none 0 0]).length,bv++[Value.slice none 0 0]⟩::(Gq bv PL++[⟨89,11,.slice none 0 0,([]:List SV).length,cs []⟩])):=by
  rw[List.append_assoc];rfl
 rw[e]at h2;exact h2
theorem Et.last{ex:List Rw}{PL:List (List SV)}{aP:Option Addr}{nP cP:Nat}{bv:List Value}(h:Et w B (Df ex hs rg PL vH vR (.slice aP nP cP) bv))(hl:bv.length=PL.length)(hne:PL≠[]):
 ∃(ib:List Value)(g:Nat)(aB:Option Addr)(cB:Nat),bv=ib++[.slice aB (PL.getLastD []).length cB]/\PL=PL.dropLast++[PL.getLastD []]/\ib.length=PL.dropLast.length/\aP=some ⟨g,0,none⟩/\nP=ib.length+1/\nP<=cP/\w.cell? ⟨g,ib.length,none⟩=some (.slice aB (PL.getLastD []).length cB)/\g<w.heap.size:=by
 have e1:PL=PL.dropLast++[PL.getLastD []]:=by
  rw[List.getLastD_eq_getLast?,List.getLast?_eq_some_getLast hne];exact(List.dropLast_concat_getLast hne).symm
 have hbn:bv≠[]:=fun e=>by rw[e]at hl;exact hne (List.length_eq_zero_iff.1 hl.symm)
 obtain⟨ib,cv,rfl⟩:∃ib cv,bv=ib++[cv]:=⟨bv.dropLast,bv.getLast hbn,(List.dropLast_concat_getLast hbn).symm⟩
 have e2:ib.length=PL.dropLast.length:=by rw[List.length_dropLast,<-hl];simp
 have oP:w.ownsRow B 38 1 (.slice aP nP cP) (ib++[cv]).length (ib++[cv]):=h.own (ex.length+2) ⟨38,1,.slice aP nP cP,(ib++[cv]).length,ib++[cv]⟩ (by rw[Pg];rfl);obtain⟨g,c,h1,_,h2,h3⟩:=H7 oP (by simp);have oB:w.ownsRow B 89 11 cv (PL.getLastD []).length (cs (PL.getLastD [])):=by
  rw[e1]at h;have:=h.own _ _ (DZ (b:=PL.getLastD []) e2);exact this
 obtain⟨aB,cB,rfl⟩:=Dr oB;injection h1 with q1 q2 q3;subst q1 q2 q3;refine⟨ib,g,aB,cB,rfl,e1,e2,rfl,by simp,h3,?_,h2⟩;rw[oP.cellAt ib.length (by simp)];exact Gr _ _ _ rfl
end Go.Proofs.YtfpeecaaleijcaaGreatDoor
