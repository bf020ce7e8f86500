import Derived.Test.YtblfmpgdhpbffaaGreatDoorOfPzNum
import Derived.Test.YtblfmpgdhpbffaaGreatDoorOfUnitBlock
import Derived.Test.YtblfmpgdhpbffaaGreatDoorOfValRows
import Derived.Lib.Join
import Derived.Test.YtblfmpgdhpbffaaGreatDoorOfOpenRow
import Derived.WalkSmall
import Derived.Laws.OwnMore
import Derived.Maps.AppendAt
namespace Go.Proofs.YtblfmpgdhpbffaaGreatDoor
open Go.RowKit
def fldS:List UInt8->List (List UInt8)
 |[]=>[[]]
 |c::l=>if c=32 then[]::fldS l else match fldS l with|[]=>[[c]]|f::fs=>(c::f)::fs
def stL(s:SV):List Value:=[.int .i64 s.k,.int .i64 s.op,.int .i64 s.d,.int .i64 s.a,.int .i64 s.b,.int .i64 s.imm,.int .i64 s.h,.int .i64 s.cond,.int .i64 s.thn,.int .i64 s.els,.int .i64 s.proc]
def cs(xs:List SV):List Value:=xs.flatMap stL
def hsL(s:HS):List Value:=[.int .i64 s.size,.bool s.s,.bool s.w]
def vlL(x:VV):List Value:=[.int .i64 x.k,.bool x.s,.int .i64 x.m,.int .i64 x.h,.int .i64 x.lo,.int .i64 x.hi]
structure OV where
 at':Nat
 th:Int
 els:Bool
structure PS where
 st:Nat
 d:Int
 hs:List HS
 rg:List VV
 gv:List Bool
 ps:List (List SV)
 op:List OV
def sv0:SV:=⟨0,0,0,0,0,0,0,0,0,0,0⟩
def vv0:VV:=⟨0,true,-1,0,0,0⟩
def ps0:PS:=⟨0,0,[],List.replicate 8 vv0,List.replicate 8 false,[],[]⟩
def secW(l:List UInt8):Option Bool:=if l=[112,117,98,108,105,99]then some false else if l=[115,101,99,114,101,116]then some true else none
def wrtW(l:List UInt8):Option Bool:=if l=[114,101,97,100]then some false else if l=[119,114,105,116,101]then some true else none
def diaW(l:List UInt8):Option Int:=if l=[103,97,115]then some 0 else if l=[109,97,115,109]then some 1 else none
def cndW(l:List UInt8):Int:=if l=[122]then 1 else if l=[110,122]then 2 else if l=[99]then 3 else if l=[110,99]then 4 else 0
def fd(f:List (List UInt8))(k:Nat):List UInt8:=f.getD k []
def diaS(S:PS)(f:List (List UInt8)):Option PS:=
 if S.st=0/\f.length=2 then(diaW (fd f 1)).map fun d=>{S with d:=d,st:=1}else none
def heapS(S:PS)(f:List (List UInt8)):Option PS:=
 if S.st=1/\f.length=4/\S.hs.length≠8 then
  match numW false (fd f 1),secW (fd f 2),wrtW (fd f 3)with
  |some a,some b,some c=>some {S with hs:=S.hs++[⟨a,b,c⟩]}
  |_,_,_=>none
 else none
def valS(f:List (List UInt8)):Option VV:=
 if f.length=2 then
  match(if fd f 0=[97,110,121]then some (-1)else numW false (fd f 0)),secW (fd f 1)with
  |some m,some s=>some ⟨0,s,m,0,0,0⟩
  |_,_=>none
 else if f.length=4/\fd f 0=[112,116,114]then
  match numW false (fd f 1),numW true (fd f 2),numW true (fd f 3)with
  |some h,some lo,some hi=>some ⟨1,false,0,h,lo,hi⟩
  |_,_,_=>none
 else none
def regS(S:PS)(f:List (List UInt8)):Option PS:=
 if(S.st=1∨S.st=2)/\2<=f.length then
  match numW false (fd f 1)with
  |some n=>if n<8/\S.gv.getD n.toNat false=false then(valS (f.drop 2)).map fun v=>{S with st:=2,rg:=S.rg.set n.toNat v,gv:=S.gv.set n.toNat true}else none
  |none=>none
 else none
def procS(S:PS)(f:List (List UInt8)):Option PS:=
 if S.st≠0/\S.op=[]/\f.length=1 then some {S with st:=3,ps:=S.ps++[[]]}else none
def bodS(S:PS):List SV:=S.ps.getLastD []
def putS(S:PS)(b:List SV):PS:={S with ps:=S.ps.dropLast++[b]}
def addS(S:PS)(s:SV):PS:=putS S (bodS S++[s])
def opnS(S:PS)(k:Int)(f:List (List UInt8)):Option PS:=
 if f.length=2/\cndW (fd f 1)≠0 then some {addS S {sv0 with k:=k,cond:=cndW (fd f 1)}with op:=⟨(bodS S).length,0,false⟩::S.op}else none
def elsS(S:PS)(f:List (List UInt8)):Option PS:=
 match S.op with
 |[]=>none
 |o::os=>if f.length=1/\o.els=false/\((bodS S).getD o.at' sv0).k=2 then some {S with op:=⟨o.at',((bodS S).length:Int)-o.at'-1,true⟩::os}else none
def endS(S:PS)(f:List (List UInt8)):Option PS:=
 match S.op with
 |[]=>none
 |o::os=>if f.length=1 then some {putS S ((bodS S).set o.at' (if o.els=true then{(bodS S).getD o.at' sv0 with thn:=o.th,els:=((bodS S).length:Int)-o.at'-1-o.th}else{(bodS S).getD o.at' sv0 with thn:=((bodS S).length:Int)-o.at'-1}))with op:=os}else none
def calS(S:PS)(f:List (List UInt8)):Option PS:=
 if f.length=2 then(numW false (fd f 1)).map fun n=>addS S {sv0 with k:=4,proc:=n}else none
def insS(S:PS)(l:List UInt8):Option PS:=
 match insL 1 l with
 |some x=>if implIns x.op x.d x.a x.b x.imm x.h=true/\x.op<29 then some (addS S {sv0 with k:=1,op:=x.op,d:=x.d,a:=x.a,b:=x.b,imm:=x.imm,h:=x.h})else none
 |none=>none
def stmS(S:PS)(l:List UInt8)(f:List (List UInt8)):Option PS:=
 if S.st=3 then
  if fd f 0=[105,102]then opnS S 2 f else if fd f 0=[119,104,105,108,101]then opnS S 3 f
  else if fd f 0=[101,108,115,101]then elsS S f else if fd f 0=[101,110,100]then endS S f
  else if fd f 0=[99,97,108,108]then calS S f else insS S l
 else none
def linS(S:PS)(l:List UInt8):Option PS:=
 if fd (fldS l) 0=[100,105,97,108,101,99,116]then diaS S (fldS l)else if fd (fldS l) 0=[104,101,97,112]then heapS S (fldS l)
 else if fd (fldS l) 0=[114,101,103]then regS S (fldS l)else if fd (fldS l) 0=[112,114,111,99]then procS S (fldS l)
 else stmS S l (fldS l)
def psN:Nat->List UInt8->PS->Nat->Nat×PS
 |0,_,S,k=>(k,S)
 |n+1,t,S,k=>
 if _h:t=[]then(if S.st=3/\S.op=[]then 0 else k,S)else
 if _hn:pre noNl t=t.length then(k,S)else
 match linS S (t.take (pre noNl t))with
 |none=>(k,S)
 |some S'=>psN n (t.drop (pre noNl t+1)) S' (k+1)
def psT(t:List UInt8)(S:PS)(k:Nat):Nat×PS:=psN (t.length+1) t S k
theorem psN_any:∀(n m:Nat)(t:List UInt8)(S:PS)(k:Nat),t.length<n->t.length<m->psN n t S k=psN m t S k
 |0,_,_,_,_,h,_=>absurd h (Nat.not_lt_zero _)
 |_+1,0,_,_,_,_,h=>absurd h (Nat.not_lt_zero _)
 |n+1,m+1,t,S,k,hn,hm=>by
  by_cases h:t=[]
  ·subst h;rfl
  have l:=drop_less h (pre noNl t);have e:∀S' j,psN n (t.drop (pre noNl t+1)) S' j=psN m (t.drop (pre noNl t+1)) S' j:=fun S' j=>psN_any n m _ S' j (by omega) (by omega)
  rw[psN,psN];simp only[e]
theorem psT_eq(t:List UInt8)(S:PS)(k:Nat):psT t S k=
 if _h:t=[]then(if S.st=3/\S.op=[]then 0 else k,S)else
 if _hn:pre noNl t=t.length then(k,S)else
 match linS S (t.take (pre noNl t))with
 |none=>(k,S)
 |some S'=>psT (t.drop (pre noNl t+1)) S' (k+1):=by
 by_cases h:t=[]
 ·subst h;rfl
 have e:∀S' j,psN t.length (t.drop (pre noNl t+1)) S' j=psT (t.drop (pre noNl t+1)) S' j:=fun S' j=>psN_any _ _ _ S' j (drop_less h _) (Nat.lt_succ_self _)
 show psN (t.length+1) t S k=_;rw[psN];simp only[e]
structure Inv(S:PS):Prop where
 st:S.st<=3
 d:S.d=0∨S.d=1
 hs:S.hs.length<=8
 rg:S.rg.length=8
 gv:S.gv.length=8
 ps:S.st=3->S.ps≠[]
 op:S.st≠3->S.op=[]
 ol:∀o∈S.op,o.at'<(bodS S).length
 od:S.op.Pairwise fun a b=>b.at'<a.at'
theorem bod_put(S:PS)(b:List SV):bodS (putS S b)=b:=by simp[bodS,putS]
theorem Inv.zero:Inv ps0:=⟨by decide,.inl rfl,by decide,rfl,rfl,fun h=>absurd h (by decide),fun _=>rfl,fun o h=>(by cases h),List.Pairwise.nil⟩
theorem Inv.put{S:PS}(h:Inv S)(b:List SV)(os:List OV)(h3:S.st=3)(hl:∀o∈os,o.at'<b.length)(hd:os.Pairwise fun a b=>b.at'<a.at'):Inv {putS S b with op:=os}:=
 ⟨h.st,h.d,h.hs,h.rg,h.gv,fun _=>by simp[putS],fun h'=>absurd h3 h',fun o ho=>by
   have e:bodS {putS S b with op:=os}=b:=bod_put S b;rw[e];exact hl o ho,hd⟩
theorem Inv.line{S S':PS}{l:List UInt8}(h:Inv S)(hl:linS S l=some S'):Inv S':=by
 have addI:∀s,S.st=3->Inv (addS S s):=fun s h3=>h.put (bodS S++[s]) S.op h3 (fun o ho=>by have:=h.ol o ho;simp;omega) h.od
 unfold linS at hl;generalize fldS l=f at hl;split at hl
 ·unfold diaS at hl
  split at hl
  ·rename_i hc
   unfold diaW at hl;split at hl
   ·cases hl;exact⟨(by decide:1<=3),.inl rfl,h.hs,h.rg,h.gv,fun h'=>absurd h' (by decide:¬1=3),fun _=>h.op (by omega),h.ol,h.od⟩
   ·split at hl
    ·cases hl;exact⟨(by decide:1<=3),.inr rfl,h.hs,h.rg,h.gv,fun h'=>absurd h' (by decide:¬1=3),fun _=>h.op (by omega),h.ol,h.od⟩
    ·cases hl
  ·cases hl
 split at hl
 ·unfold heapS at hl
  split at hl
  ·rename_i hc
   split at hl
   ·cases hl;exact⟨h.st,h.d,by have:=h.hs;have:=hc.2.2;simp;omega,h.rg,h.gv,fun h'=>absurd h' (by show S.st≠3;omega),fun _=>h.op (by omega),h.ol,h.od⟩
   ·cases hl
  ·cases hl
 split at hl
 ·unfold regS at hl
  split at hl
  ·rename_i hc
   split at hl
   ·split at hl
    ·cases hv:valS (f.drop 2)with
     |none=>rw[hv]at hl;cases hl
     |some v=>
      rw[hv]at hl;cases hl;exact⟨by show 2<=3;omega,h.d,h.hs,by show(S.rg.set _ _).length=8;rw[List.length_set];exact h.rg,by show(S.gv.set _ _).length=8;rw[List.length_set];exact h.gv,fun h'=>absurd h' (by decide:¬2=3),fun _=>h.op (by omega),h.ol,h.od⟩
    ·cases hl
   ·cases hl
  ·cases hl
 split at hl
 ·unfold procS at hl
  split at hl
  ·rename_i hc
   cases hl;exact⟨by show 3<=3;omega,h.d,h.hs,h.rg,h.gv,fun _=>by simp,fun h'=>absurd rfl h',fun o ho=>(by
    have h9:o∈S.op:=ho;rw[hc.2.1]at h9;exact absurd h9 List.not_mem_nil),h.od⟩
  ·cases hl
 unfold stmS at hl;split at hl
 ·rename_i h3
  have opnI:∀k,opnS S k f=some S'->Inv S':=fun k hl=>by
   unfold opnS at hl;split at hl
   ·cases hl
    refine h.put _ _ h3 (fun o ho=>?_) ?_
    ·rcases List.mem_cons.1 ho with rfl|ho
     ·simp
     ·have:=h.ol o ho;simp;omega
    ·exact List.Pairwise.cons (fun o ho=>h.ol o ho) h.od
   ·cases hl
  split at hl
  ·exact opnI _ hl
  split at hl
  ·exact opnI _ hl
  split at hl
  ·unfold elsS at hl
   split at hl
   ·cases hl
   ·rename_i o os ho
    split at hl
    ·cases hl
     have hd:=h.od;have hol:=h.ol;rw[ho]at hd hol;exact⟨h.st,h.d,h.hs,h.rg,h.gv,h.ps,fun h'=>absurd h3 h',fun q hq=>by
      rcases List.mem_cons.1 hq with rfl|hq
      ·exact hol o (by simp)
      ·exact hol q (by simp[hq]),List.Pairwise.cons (fun q hq=>(List.pairwise_cons.1 hd).1 q hq) (List.pairwise_cons.1 hd).2⟩
    ·cases hl
  split at hl
  ·unfold endS at hl
   split at hl
   ·cases hl
   ·rename_i o os ho
    split at hl
    ·cases hl
     have hd:=h.od;have hol:=h.ol;rw[ho]at hd hol;exact h.put _ _ h3 (fun q hq=>by rw[List.length_set];exact hol q (by simp[hq])) (List.pairwise_cons.1 hd).2
    ·cases hl
  split at hl
  ·unfold calS at hl
   split at hl
   ·cases hn:numW false (fd f 1)with
    |none=>rw[hn]at hl;cases hl
    |some n=>rw[hn]at hl;cases hl;exact addI _ h3
   ·cases hl
  ·unfold insS at hl
   split at hl
   ·split at hl
    ·cases hl;exact addI _ h3
    ·cases hl
   ·cases hl
 ·cases hl
theorem fld_ne:∀l:List UInt8,fldS l≠[]
 |[]=>by simp[fldS]
 |c::l=>by
  unfold fldS;split
  ·simp
  ·split<;>simp
theorem fld_app:∀(a l:List UInt8),(∀c∈a,c≠32)->fldS (a++l)=(a++(fldS l).getD 0 [])::(fldS l).drop 1
 |[],l,_=>by
  cases h:fldS l with
  |nil=>exact absurd h (fld_ne l)
  |cons f fs=>simp[h]
 |c::a,l,ha=>by
  show(if c=32 then[]::fldS (a++l)else match fldS (a++l)with|[]=>[[c]]|f::fs=>(c::f)::fs)=_;rw[if_neg (ha c (by simp)),fld_app a l (fun c hc=>ha c (by simp[hc]))];rfl
theorem fld_sp(l:List UInt8):fldS (32::l)=[]::fldS l:=by simp[fldS]
theorem fld_word(a:List UInt8)(ha:∀c∈a,c≠32):fldS a=[a]:=by
 have:=fld_app a [] ha;rw[List.append_nil]at this;rw[this];simp[fldS]
theorem fld_head(a l:List UInt8)(ha:∀c∈a,c≠32)(hl:∀c,l.head?=some c->c=32):fd (fldS (a++l)) 0=a:=by
 rw[fld_app a l ha];cases l with
 |nil=>simp[fd,fldS]
 |cons c l=>
  rw[hl c rfl,fld_sp];simp[fd]
theorem fld_mem:∀(l f:List UInt8),f∈fldS l->∀c∈f,c≠32/\c∈l
 |[],f,hf=>by
  have:f=[]:=by simpa[fldS]using hf
  subst this;simp
 |c::l,f,hf=>by
  unfold fldS at hf;split at hf
  ·rcases List.mem_cons.1 hf with rfl|hf
   ·simp
   ·intro x hx;have:=fld_mem l f hf x hx;exact⟨this.1,by simp[this.2]⟩
  ·rename_i hc
   split at hf
   ·exact absurd ‹_› (fld_ne l)
   ·rename_i g gs hg
    rcases List.mem_cons.1 hf with rfl|hf
    ·intro x hx
     rcases List.mem_cons.1 hx with rfl|hx
     ·exact⟨hc,by simp⟩
     ·have:=fld_mem l g (by rw[hg];simp) x hx;exact⟨this.1,by simp[this.2]⟩
    ·intro x hx;have:=fld_mem l f (by rw[hg];simp[hf]) x hx;exact⟨this.1,by simp[this.2]⟩
theorem fld_len:∀l:List UInt8,(fldS l).length<=l.length+1
 |[]=>by simp[fldS]
 |c::l=>by
  have:=fld_len l;unfold fldS;split
  ·simp;omega
  ·split
   ·simp
   ·rename_i f fs h;rw[h]at this;simp at this⊢;omega
theorem fld_join:∀l:List UInt8,Lib.join (fldS l) [32]=l
 |[]=>rfl
 |c::l=>by
  have ih:=fld_join l;unfold fldS;split
  ·rename_i hc
   subst hc;cases h:fldS l with
   |nil=>exact absurd h (fld_ne l)
   |cons f fs=>
    rw[h,Lib.join_cons]at ih;rw[Lib.join_cons,<-ih];simp[Lib.joinTail]
  ·split
   ·exact absurd ‹_› (fld_ne l)
   ·rename_i f fs h
    rw[h,Lib.join_cons]at ih;rw[Lib.join_cons,<-ih];rfl
structure Rw where
 t:TypeId
 z:Nat
 v:Value
 n:Nat
 xs:List Value
def Rw.own(w:World)(B:Nat)(r:Rw):Prop:=w.ownsRow B r.t r.z r.v r.n r.xs
def Rw.far(a b:Rw):Prop:=∀k,a.v.ownBlock=some k->b.v.ownBlock≠some k
theorem Rw.far.symm{a b:Rw}(h:a.far b):b.far a:=fun k hb ha=>h k ha hb
structure Rws(w:World)(B:Nat)(rs:List Rw):Prop where
 own:∀(j:Nat)(r:Rw),rs[j]?=some r->r.own w B
 dis:∀(i j:Nat)(a b:Rw),i≠j->rs[i]?=some a->rs[j]?=some b->a.far b
theorem row_belowZ{w w':World}{base e size n:Nat}{v:Value}{xs:List Value}(h:w.ownsRow base e size v n xs)(hb:∀k,v.ownBlock=some k->w'.heap[k]?=w.heap[k]?):w'.ownsRow base e size v n xs:=by
 refine⟨h.1,?_⟩;rcases h.2 with h|⟨g,cap,cur,rfl,h1,h2,h3⟩
 ·exact .inl h
 ·exact .inr ⟨g,cap,cur,rfl,h1,(hb g rfl).trans h2,h3⟩
theorem Rws.keep{w w':World}{B:Nat}{rs:List Rw}(h:Rws w B rs)(hk:∀(j:Nat)(r:Rw)(k:Nat),rs[j]?=some r->r.v.ownBlock=some k->w'.heap[k]?=w.heap[k]?):Rws w' B rs:=
 ⟨fun j r hr=>row_belowZ (h.own j r hr) (fun k hkk=>hk j r k hr hkk),h.dis⟩
theorem Rws.below{w w':World}{B:Nat}{rs:List Rw}(h:Rws w B rs)(hb:Below w.heap.size w w'):Rws w' B rs:=
 h.keep fun j r k hr hk=>hb.block k ((h.own j r hr).lt k hk).2
theorem Rws.grow{w w':World}{B j:Nat}{rs:List Rw}{r r':Rw}(h:Rws w B rs)(hj:rs[j]?=some r)(hg:w.grownBy w' r.v.ownBlock)(ho:r'.own w' B)(ha:r'.v.ownBlock=r.v.ownBlock∨∃k,r'.v.ownBlock=some k/\w.heap.size<=k):Rws w' B (rs.set j r'):=by
 have hlt:j<rs.length:=(List.getElem?_eq_some_iff.1 hj).1;have at':∀(i:Nat)(q:Rw),(rs.set j r')[i]?=some q->(i=j/\q=r')∨(i≠j/\rs[i]?=some q):=fun i q hq=>by
  rw[List.getElem?_set]at hq;split at hq
  ·rename_i e
   exact .inl ⟨e.symm,(Option.some.inj hq).symm⟩
  ·rename_i e
   exact .inr ⟨fun e'=>e e'.symm,hq⟩
 have fr:∀(i:Nat)(q:Rw),i≠j->rs[i]?=some q->q.far r':=fun i q hi hq k hk hk'=>by
  rcases ha with e|⟨k',e,hl⟩
  ·rw[e]at hk';exact h.dis i j q r hi hq hj k hk hk'
  ·rw[e]at hk'
   have:=Option.some.inj hk';have:=((h.own i q hq).lt k hk).2;omega
 refine⟨fun i q hq=>?_,fun i i2 a b hne ha' hb'=>?_⟩
 ·rcases at' i q hq with⟨rfl,rfl⟩|⟨hi,hq⟩
  ·exact ho
  ·exact(h.own i q hq).kept hg (by
    cases hv:q.v.ownBlock with
    |none=>exact .inl rfl
    |some k=>exact .inr (fun e=>h.dis i j q r hi hq hj k hv e.symm))
 ·rcases at' i a ha' with⟨e1,rfl⟩|⟨h1,ha1⟩
  ·rcases at' i2 b hb' with⟨e2,_⟩|⟨h2,hb2⟩
   ·exact absurd (e1.trans e2.symm) hne
   ·exact(fr i2 b h2 hb2).symm
  ·rcases at' i2 b hb' with⟨e2,rfl⟩|⟨h2,hb2⟩
   ·exact fr i a h1 ha1
   ·exact h.dis i i2 a b hne ha1 hb2
theorem Rws.push{w:World}{B:Nat}{rs:List Rw}{r:Rw}(h:Rws w B rs)(ho:r.own w B)(hn:r.v.ownBlock=none):Rws w B (rs++[r]):=by
 have at':∀(i:Nat)(q:Rw),(rs++[r])[i]?=some q->q=r/\i=rs.length∨rs[i]?=some q:=fun i q hq=>by
  by_cases hi:i<rs.length
  ·rw[List.getElem?_append_left hi]at hq;exact .inr hq
  ·rw[List.getElem?_append_right (by omega)]at hq
   have h1:=(List.getElem?_eq_some_iff.1 hq).1;simp at h1;have e:i=rs.length:=by omega
   subst e;simp at hq;exact .inl ⟨hq.symm,rfl⟩
 refine⟨fun i q hq=>?_,fun i j a b hne ha hb k hk hk'=>?_⟩
 ·rcases at' i q hq with⟨rfl,_⟩|hq
  ·exact ho
  ·exact h.own i q hq
 ·rcases at' i a ha with⟨rfl,e1⟩|ha
  ·rw[hn]at hk;cases hk
  ·rcases at' j b hb with⟨rfl,e2⟩|hb
   ·rw[hn]at hk';cases hk'
   ·exact h.dis i j a b hne ha hb k hk hk'
theorem Rws.drop{w:World}{B:Nat}{rs:List Rw}(h:Rws w B rs)(n:Nat):Rws w B (rs.drop n):=
 ⟨fun j r hr=>h.own (n+j) r (by rwa [List.getElem?_drop]at hr),fun i j a b hne ha hb=>h.dis (n+i) (n+j) a b (by omega) (by rwa [List.getElem?_drop]at ha) (by rwa [List.getElem?_drop]at hb)⟩
structure Fm(ts:List TypeId)(B:Nat)(w w':World):Prop where
 b:Below B w w'
 k:∀(q:Nat)(o:Obj),w.heap[q]?=some o->(∀c t f,o=.cells c t f->t∉ts)->w'.heap[q]?=some o
theorem Fm.refl(ts:List TypeId)(B:Nat)(w:World):Fm ts B w w:=⟨Below.refl _ _,fun _ _ h _=>h⟩
theorem Fm.trans{ts:List TypeId}{B:Nat}{u v w:World}(h:Fm ts B u v)(g:Fm ts B v w):Fm ts B u w:=⟨h.b.trans g.b,fun q o h1 h2=>g.k q o (h.k q o h1 h2) h2⟩
theorem Fm.of_below{ts:List TypeId}{B:Nat}{w w':World}(h:Below w.heap.size w w')(hB:B<=w.heap.size):Fm ts B w w':=⟨h.mono hB,fun q _ h1 _=>(h.block q (Array.getElem?_eq_some_iff.1 h1).1).trans h1⟩
theorem Fm.below{ts:List TypeId}{B:Nat}{w u v:World}(h:Fm ts B w u)(g:Below u.heap.size u v)(hB:B<=u.heap.size):Fm ts B w v:=h.trans (Fm.of_below g hB)
theorem Fm.of_grow{ts:List TypeId}{B C:Nat}{w w':World}{e size n:Nat}{v:Value}{xs:List Value}(ho:w.ownsRow C e size v n xs)(hC:B<=C)(hg:w.grownBy w' v.ownBlock)(hB:B<=w.heap.size)(ht:e∈ts):Fm ts B w w':=by
 refine⟨(Below.refl B w).grown hg hB (fun k hk=>Nat.le_trans hC (ho.lt k hk).1),fun q o h1 h2=>?_⟩;refine(hg.block q (Array.getElem?_eq_some_iff.1 h1).1 (fun e1=>?_)).trans h1;rcases ho.2 with⟨h',_⟩|⟨g,cap,cur,rfl,_,hh,_⟩
 ·rw[h']at e1;cases e1
 ·have e2:q=g:=Option.some.inj e1
  subst e2;rw[hh]at h1;exact h2 cur e (0,0) (Option.some.inj h1).symm ht
theorem Fm.of_set{ts:List TypeId}{B:Nat}{w:World}{a:Addr}{c:Array Value}{t:TypeId}{f:Nat×Nat}(hc:w.heap[a.block]?=some (.cells c t f))(ht:t∈ts)(hB:B<=a.block)(u:Value):Fm ts B w (w.setCell a u):=by
 refine⟨(Below.refl B w).setCell hB u,fun q o h1 h2=>?_⟩;refine(Below.heap_setCell w a u q (fun e=>?_)).trans h1;subst e;rw[hc]at h1;exact h2 c t f (Option.some.inj h1).symm ht
def bodR(bv:List Value)(PL:List (List SV)):List Rw:=List.zipWith (fun v b=>⟨93,11,v,b.length,cs b⟩) bv PL
def srcR(ex:List Rw)(hs:List HS)(rg:List VV)(PL:List (List SV))(vH vR vP:Value)(bv:List Value):List Rw:=
 ex++(⟨88,3,vH,hs.length,hs.flatMap hsL⟩::⟨47,6,vR,rg.length,rg.flatMap vlL⟩::⟨68,1,vP,bv.length,bv⟩::bodR bv PL)
theorem bodR_app(ib:List Value)(ip:List (List SV))(cv:Value)(b:List SV)(h:ib.length=ip.length):bodR (ib++[cv]) (ip++[b])=bodR ib ip++[⟨93,11,cv,b.length,cs b⟩]:=by
 unfold bodR;rw[List.zipWith_append h];rfl
theorem bodR_len(ib:List Value)(ip:List (List SV))(h:ib.length=ip.length):(bodR ib ip).length=ib.length:=by
 unfold bodR;rw[List.length_zipWith];omega
theorem set_last{α:Type}(l:List α)(a b:α)(n:Nat)(h:l.length=n):(l++[a]).set n b=l++[b]:=by
 subst h;rw[List.set_append,if_neg (by omega),Nat.sub_self];rfl
theorem get_last{α:Type}(l:List α)(a:α)(n:Nat)(h:l.length=n):(l++[a])[n]?=some a:=by
 subst h;simp
theorem cs_app(a b:List SV):cs (a++b)=cs a++cs b:=by simp[cs]
theorem cs_one(s:SV):cs [s]=stL s:=by simp[cs]
theorem fm_len{α:Type}(g:α->List Value)(z:Nat)(hz:∀a,(g a).length=z)(xs:List α):(xs.flatMap g).length=xs.length*z:=by
 induction xs with
 |nil=>simp
 |cons a l ih=>rw[List.flatMap_cons,List.length_append,ih,hz,List.length_cons,Nat.add_mul];omega
theorem fm_get{α:Type}(g:α->List Value)(z:Nat)(hz:∀a,(g a).length=z):∀(xs:List α)(i j:Nat)(a:α),xs[i]?=some a->j<z->(xs.flatMap g)[i*z+j]?=(g a)[j]?
 |[],i,j,a,h,_=>by simp at h
 |x::l,0,j,a,h,hj=>by
  have:x=a:=by simpa using h
  subst this;rw[List.flatMap_cons,List.getElem?_append_left (by rw[hz];omega),Nat.zero_mul,Nat.zero_add]
 |x::l,i+1,j,a,h,hj=>by
  rw[List.flatMap_cons,List.getElem?_append_right (by rw[hz,Nat.add_mul];omega),hz,show(i+1)*z+j-z=i*z+j by rw[Nat.add_mul];omega];exact fm_get g z hz l i j a (by simpa using h) hj
theorem fm_set{α:Type}(g:α->List Value)(z:Nat)(hz:∀a,(g a).length=z):∀(xs:List α)(i j:Nat)(a b:α)(u:Value),xs[i]?=some a->j<z->(g a).set j u=g b->(xs.flatMap g).set (i*z+j) u=(xs.set i b).flatMap g
 |[],i,j,a,b,u,h,_,_=>by simp at h
 |x::l,0,j,a,b,u,h,hj,hu=>by
  have:x=a:=by simpa using h
  subst this;rw[List.flatMap_cons,List.set_append,if_pos (by rw[hz];omega),Nat.zero_mul,Nat.zero_add,hu];rfl
 |x::l,i+1,j,a,b,u,h,hj,hu=>by
  rw[List.flatMap_cons,List.set_append,if_neg (by rw[hz,Nat.add_mul];omega),hz,show(i+1)*z+j-z=i*z+j by rw[Nat.add_mul];omega,fm_set g z hz l i j a b u (by simpa using h) hj hu];rfl
theorem row_sliceZ{w:World}{base e size n:Nat}{v:Value}{xs:List Value}(h:w.ownsRow base e size v n xs):∃(ao:Option Addr)(c:Nat),v=.slice ao n c:=by
 rcases h.2 with⟨h',h0⟩|⟨g,cap,cur,rfl,_⟩
 ·subst h0;exact⟨_,_,h'⟩
 ·exact⟨_,_,rfl⟩
theorem row_someZ{w:World}{base e size n:Nat}{v:Value}{xs:List Value}(h:w.ownsRow base e size v n xs)(hn:0<n):∃(g c:Nat),v=.slice (some ⟨g,0,none⟩) n c/\base<=g/\g<w.heap.size/\n<=c:=by
 rcases h.2 with⟨h',h0⟩|⟨g,cap,cur,rfl,h1,h2,h3,_⟩
 ·omega
 ·exact⟨_,_,rfl,h1,(Array.getElem?_eq_some_iff.1 h2).1,h3⟩
def pat:List OV->List SV->List SV
 |[],L=>L
 |o::os,L=>if o.els=true then(pat os L).set o.at' {(pat os L).getD o.at' sv0 with thn:=o.th}else pat os L
theorem pat_len:∀(os:List OV)(L:List SV),(pat os L).length=L.length
 |[],L=>rfl
 |o::os,L=>by
  unfold pat;split
  ·rw[List.length_set];exact pat_len os L
  ·exact pat_len os L
theorem pat_get:∀(os:List OV)(L:List SV)(a:Nat),(∀o∈os,o.at'≠a)->(pat os L)[a]?=L[a]?
 |[],L,a,_=>rfl
 |o::os,L,a,h=>by
  unfold pat;split
  ·rw[List.getElem?_set,if_neg (h o (by simp))]
   exact pat_get os L a (fun o ho=>h o (by simp[ho]))
  ·exact pat_get os L a (fun o ho=>h o (by simp[ho]))
theorem getD_eq{α:Type}{l m:List α}{a:Nat}(d:α)(h:l[a]?=m[a]?):l.getD a d=m.getD a d:=by
 rw[List.getD_eq_getElem?_getD,List.getD_eq_getElem?_getD,h]
theorem pat_set:∀(os:List OV)(L:List SV)(a:Nat)(x:SV),(∀o∈os,o.at'≠a)->pat os (L.set a x)=(pat os L).set a x
 |[],L,a,x,_=>rfl
 |o::os,L,a,x,h=>by
  unfold pat;have ih:=pat_set os L a x (fun o ho=>h o (by simp[ho]));have hne:=h o (by simp);split
  ·rw[ih,List.set_comm _ _ hne.symm]
   congr 2
   rw[getD_eq sv0 (l:=(pat os L).set a x) (m:=pat os L) (by rw[List.getElem?_set,if_neg hne.symm])]
  ·exact ih
theorem pat_app:∀(os:List OV)(L:List SV)(x:SV),(∀o∈os,o.at'<L.length)->pat os (L++[x])=pat os L++[x]
 |[],L,x,_=>rfl
 |o::os,L,x,h=>by
  unfold pat;have ih:=pat_app os L x (fun o ho=>h o (by simp[ho]));have hlt:=h o (by simp);split
  ·rw[ih,List.set_append,if_pos (by rw[pat_len];exact hlt)]
   congr 2
   rw[getD_eq sv0 (l:=pat os L++[x]) (m:=pat os L) (List.getElem?_append_left (by rw[pat_len];exact hlt))]
  ·exact ih
theorem srcR_at(ex:List Rw)(hs:List HS)(rg:List VV)(PL:List (List SV))(vH vR vP:Value)(bv:List Value)(k:Nat):(srcR ex hs rg PL vH vR vP bv)[ex.length+k]?=((⟨88,3,vH,hs.length,hs.flatMap hsL⟩::⟨47,6,vR,rg.length,rg.flatMap vlL⟩::⟨68,1,vP,bv.length,bv⟩::bodR bv PL):List Rw)[k]?:=by
 unfold srcR;rw[List.getElem?_append_right (by omega),Nat.add_sub_cancel_left]
theorem srcR_set(ex:List Rw)(hs:List HS)(rg:List VV)(PL:List (List SV))(vH vR vP:Value)(bv:List Value)(k:Nat)(r:Rw):(srcR ex hs rg PL vH vR vP bv).set (ex.length+k) r=ex++((⟨88,3,vH,hs.length,hs.flatMap hsL⟩::⟨47,6,vR,rg.length,rg.flatMap vlL⟩::⟨68,1,vP,bv.length,bv⟩::bodR bv PL):List Rw).set k r:=by
 unfold srcR;rw[List.set_append,if_neg (by omega),Nat.add_sub_cancel_left]
theorem srcR_last{ex:List Rw}{hs:List HS}{rg:List VV}{ip:List (List SV)}{b:List SV}{vH vR vP cv:Value}{ib:List Value}(h:ib.length=ip.length):(srcR ex hs rg (ip++[b]) vH vR vP (ib++[cv]))[ex.length+(ib.length+3)]?=some ⟨93,11,cv,b.length,cs b⟩:=by
 rw[srcR_at,bodR_app ib ip cv b h];show(bodR ib ip++[_])[ib.length]?=_;exact get_last _ _ _ (bodR_len ib ip h)
theorem srcR_setL{ex:List Rw}{hs:List HS}{rg:List VV}{ip:List (List SV)}{b b':List SV}{vH vR vP cv:Value}{ib:List Value}(h:ib.length=ip.length):(srcR ex hs rg (ip++[b]) vH vR vP (ib++[cv])).set (ex.length+(ib.length+3)) ⟨93,11,cv,b'.length,cs b'⟩=srcR ex hs rg (ip++[b']) vH vR vP (ib++[cv]):=by
 rw[srcR_set,bodR_app ib ip cv b h];show ex++(_::_::_::(bodR ib ip++[_]).set ib.length _)=_;rw[set_last _ _ _ _ (bodR_len ib ip h),<-bodR_app ib ip cv b' h];rfl
theorem Rws.body{w w5:World}{B g n c:Nat}{ex:List Rw}{hs:List HS}{rg:List VV}{ip:List (List SV)}{b b':List SV}{vH vR cv v':Value}{ib:List Value}(h:Rws w B (srcR ex hs rg (ip++[b]) vH vR (.slice (some ⟨g,0,none⟩) n c) (ib++[cv])))(hl:ib.length=ip.length)(hg:w.grownBy w5 cv.ownBlock)(ho:w5.ownsRow B 93 11 v' b'.length (cs b'))(ha:v'.ownBlock=cv.ownBlock∨∃k,v'.ownBlock=some k/\w.heap.size<=k):
 Rws (w5.setCell ⟨g,ib.length,none⟩ v') B (srcR ex hs rg (ip++[b']) vH vR (.slice (some ⟨g,0,none⟩) n c) (ib++[v']))/\w5.cell? ⟨g,ib.length,none⟩=some cv/\w5.frozen? ⟨g,ib.length,none⟩=false/\B<=g/\w5.grownBy (w5.setCell ⟨g,ib.length,none⟩ v') (some g)/\w5.ownsRow B 68 1 (.slice (some ⟨g,0,none⟩) n c) (ib++[cv]).length (ib++[cv]):=by
 have h1:=h.grow (j:=ex.length+(ib.length+3)) (r:=⟨93,11,cv,b.length,cs b⟩) (r':=⟨93,11,v',b'.length,cs b'⟩) (srcR_last hl) hg ho ha;have e1:(srcR ex hs rg (ip++[b]) vH vR (.slice (some ⟨g,0,none⟩) n c) (ib++[cv])).set (ex.length+(ib.length+3)) ⟨93,11,v',b'.length,cs b'⟩=ex++(⟨88,3,vH,hs.length,hs.flatMap hsL⟩::⟨47,6,vR,rg.length,rg.flatMap vlL⟩::⟨68,1,.slice (some ⟨g,0,none⟩) n c,(ib++[cv]).length,ib++[cv]⟩::(bodR ib ip++[⟨93,11,v',b'.length,cs b'⟩])):=by
  rw[srcR_set,bodR_app ib ip cv b hl];show ex++(_::_::_::(bodR ib ip++[_]).set ib.length _)=_;rw[set_last _ _ _ _ (bodR_len ib ip hl)]
 rw[e1]at h1;have hP:(ex++((⟨88,3,vH,hs.length,hs.flatMap hsL⟩::⟨47,6,vR,rg.length,rg.flatMap vlL⟩::⟨68,1,.slice (some ⟨g,0,none⟩) n c,(ib++[cv]).length,ib++[cv]⟩::(bodR ib ip++[⟨93,11,v',b'.length,cs b'⟩])):List Rw))[ex.length+2]?=some ⟨68,1,.slice (some ⟨g,0,none⟩) n c,(ib++[cv]).length,ib++[cv]⟩:=by
  rw[List.getElem?_append_right (by omega),Nat.add_sub_cancel_left];rfl
 have oP:w5.ownsRow B 68 1 (.slice (some ⟨g,0,none⟩) n c) (ib++[cv]).length (ib++[cv]):=h1.own _ _ hP;have hn:n=(ib++[cv]).length:=by
  obtain⟨_,_,h'⟩:=row_sliceZ oP;injection h'
 subst hn;obtain⟨s1,s2⟩:=oP.stored ib.length v';rw[set_last _ _ _ _ rfl]at s1;have s1':(w5.setCell ⟨g,ib.length,none⟩ v').ownsRow B 68 1 (.slice (some ⟨g,0,none⟩) (ib++[cv]).length c) (ib++[v']).length (ib++[v']):=by
  have:(ib++[v']).length=(ib++[cv]).length:=by simp
  rw[this];exact s1
 refine⟨?_,?_,oP.frozenAt _,(oP.lt g rfl).1,s2,oP⟩
 ·have h2:=h1.grow (j:=ex.length+2) (r':=⟨68,1,.slice (some ⟨g,0,none⟩) (ib++[cv]).length c,(ib++[v']).length,ib++[v']⟩) hP s2 s1' (.inl rfl)
  rw[List.set_append,if_neg (by omega),Nat.add_sub_cancel_left]at h2;unfold srcR;rw[bodR_app ib ip v' b' hl];exact h2
 ·rw[oP.cellAt ib.length (by simp)]
  exact get_last _ _ _ rfl
theorem Rws.bodySet{w:World}{B g n c j:Nat}{ex:List Rw}{hs:List HS}{rg:List VV}{ip:List (List SV)}{b b':List SV}{vH vR vP u:Value}{ib:List Value}(h:Rws w B (srcR ex hs rg (ip++[b]) vH vR vP (ib++[.slice (some ⟨g,0,none⟩) n c])))(hl:ib.length=ip.length)(hb:b'.length=b.length)(hu:(cs b).set j u=cs b'):
 Rws (w.setCell ⟨g,j,none⟩ u) B (srcR ex hs rg (ip++[b']) vH vR vP (ib++[.slice (some ⟨g,0,none⟩) n c]))/\w.grownBy (w.setCell ⟨g,j,none⟩ u) (some g):=by
 have ho:w.ownsRow B 93 11 (.slice (some ⟨g,0,none⟩) n c) b.length (cs b):=h.own _ _ (srcR_last hl);have hn:n=b.length:=by
  obtain⟨_,_,h'⟩:=row_sliceZ ho;injection h'
 subst hn;obtain⟨s1,s2⟩:=ho.stored j u;rw[hu]at s1;refine⟨?_,s2⟩;have h1:=h.grow (j:=ex.length+(ib.length+3)) (r':=⟨93,11,.slice (some ⟨g,0,none⟩) b.length c,b'.length,cs b'⟩) (srcR_last hl) s2 (by unfold Rw.own;rw[hb];exact s1) (.inl rfl);rw[srcR_setL hl]at h1;exact h1
theorem Rws.proc{w w5:World}{B n' c':Nat}{a':Option Addr}{ex:List Rw}{hs:List HS}{rg:List VV}{PL:List (List SV)}{vH vR vP:Value}{bv:List Value}(h:Rws w B (srcR ex hs rg PL vH vR vP bv))(hl:bv.length=PL.length)(hg:w.grownBy w5 vP.ownBlock)(ho:w5.ownsRow B 68 1 (.slice a' n' c') (bv.length+1) (bv++[.slice none 0 0]))(ha:(Value.slice a' n' c').ownBlock=vP.ownBlock∨∃k,(Value.slice a' n' c').ownBlock=some k/\w.heap.size<=k):
 Rws w5 B (srcR ex hs rg (PL++[[]]) vH vR (.slice a' n' c') (bv++[.slice none 0 0])):=by
 have h1:=h.grow (j:=ex.length+2) (r:=⟨68,1,vP,bv.length,bv⟩) (r':=⟨68,1,.slice a' n' c',(bv++[Value.slice none 0 0]).length,bv++[Value.slice none 0 0]⟩) (by rw[srcR_at];rfl) hg (by unfold Rw.own;rw[List.length_append];exact ho) ha;rw[srcR_set]at h1;have h2:=h1.push (r:=⟨93,11,.slice none 0 0,0,[]⟩) (World.ownsRow_nil _ _ _ _) rfl;unfold srcR;rw[bodR_app bv PL _ _ hl];have e:(ex++((⟨88,3,vH,hs.length,hs.flatMap hsL⟩::⟨47,6,vR,rg.length,rg.flatMap vlL⟩::⟨68,1,vP,bv.length,bv⟩::bodR bv PL:List Rw).set 2 ⟨68,1,.slice a' n' c',(bv++[Value.slice none 0 0]).length,bv++[Value.slice none 0 0]⟩))++[(⟨93,11,.slice none 0 0,0,[]⟩:Rw)]=ex++(⟨88,3,vH,hs.length,hs.flatMap hsL⟩::⟨47,6,vR,rg.length,rg.flatMap vlL⟩::⟨68,1,.slice a' n' c',(bv++[Value.slice none 0 0]).length,bv++[Value.slice none 0 0]⟩::(bodR bv PL++[⟨93,11,.slice none 0 0,([]:List SV).length,cs []⟩])):=by
  rw[List.append_assoc];rfl
 rw[e]at h2;exact h2
theorem Rws.last{w:World}{B:Nat}{ex:List Rw}{hs:List HS}{rg:List VV}{PL:List (List SV)}{vH vR:Value}{aP:Option Addr}{nP cP:Nat}{bv:List Value}(h:Rws w B (srcR ex hs rg PL vH vR (.slice aP nP cP) bv))(hl:bv.length=PL.length)(hne:PL≠[]):
 ∃(ib:List Value)(g:Nat)(aB:Option Addr)(cB:Nat),bv=ib++[.slice aB (PL.getLastD []).length cB]/\PL=PL.dropLast++[PL.getLastD []]/\ib.length=PL.dropLast.length/\aP=some ⟨g,0,none⟩/\nP=ib.length+1/\nP<=cP/\w.cell? ⟨g,ib.length,none⟩=some (.slice aB (PL.getLastD []).length cB)/\g<w.heap.size:=by
 have e1:PL=PL.dropLast++[PL.getLastD []]:=by
  rw[List.getLastD_eq_getLast?,List.getLast?_eq_some_getLast hne];exact(List.dropLast_concat_getLast hne).symm
 have hbn:bv≠[]:=fun e=>by rw[e]at hl;exact hne (List.length_eq_zero_iff.1 hl.symm)
 obtain⟨ib,cv,rfl⟩:∃ib cv,bv=ib++[cv]:=⟨bv.dropLast,bv.getLast hbn,(List.dropLast_concat_getLast hbn).symm⟩
 have e2:ib.length=PL.dropLast.length:=by rw[List.length_dropLast,<-hl];simp
 have oP:w.ownsRow B 68 1 (.slice aP nP cP) (ib++[cv]).length (ib++[cv]):=h.own (ex.length+2) ⟨68,1,.slice aP nP cP,(ib++[cv]).length,ib++[cv]⟩ (by rw[srcR_at];rfl);obtain⟨g,c,h1,_,h2,h3⟩:=row_someZ oP (by simp);have oB:w.ownsRow B 93 11 cv (PL.getLastD []).length (cs (PL.getLastD [])):=by
  rw[e1]at h;have:=h.own _ _ (srcR_last (b:=PL.getLastD []) e2);exact this
 obtain⟨aB,cB,rfl⟩:=row_sliceZ oB;injection h1 with q1 q2 q3;subst q1 q2 q3;refine⟨ib,g,aB,cB,rfl,e1,e2,rfl,by simp,h3,?_,h2⟩;rw[oP.cellAt ib.length (by simp)];exact get_last _ _ _ rfl
end Go.Proofs.YtblfmpgdhpbffaaGreatDoor
