import Derived.Test.YtblfmpgdhpbffaaGreatDoorOfPzBody
namespace Go.Proofs.YtblfmpgdhpbffaaGreatDoor
open Go.RowKit
structure Bnd(S:PS)(k:Nat):Prop where
 ps:S.ps.length<=k
 bd:(bodS S).length<=k
 op:S.op.length<=k
 th:∀o∈S.op,0<=o.th/\o.th<=k
 d:S.st=0->S.d=0
theorem Bnd.zero:Bnd ps0 0:=⟨Nat.le_refl _,Nat.le_refl _,Nat.le_refl _,fun _ h=>absurd h List.not_mem_nil,fun _=>rfl⟩
theorem Bnd.same{S S':PS}{k:Nat}(h:Bnd S k)(h1:S'.ps=S.ps)(h2:S'.op=S.op)(h3:S'.st≠0∨(S'.st=S.st/\S'.d=S.d)):Bnd S' (k+1):=by
 have e:bodS S'=bodS S:=by unfold bodS;rw[h1]
 refine⟨by rw[h1];have:=h.ps;omega,by rw[e];have:=h.bd;omega,by rw[h2];have:=h.op;omega,fun o ho=>?_,fun hs=>?_⟩
 ·rw[h2]at ho
  have:=h.th o ho;omega
 ·rcases h3 with h3|⟨h3,h4⟩
  ·exact absurd hs h3
  ·rw[h4];exact h.d (by rw[<-h3];exact hs)
theorem Bnd.put{S:PS}{k:Nat}(h:Bnd S k)(hp:S.ps≠[])(h3:S.st=3)(b:List SV)(os:List OV)(hb:b.length<=k+1)(ho:os.length<=k+1)(ht:∀o∈os,0<=o.th/\o.th<=k+1):Bnd {putS S b with op:=os} (k+1):=by
 have e:bodS {putS S b with op:=os}=b:=bod_put S b;have hl:S.ps.length≠0:=fun e=>hp (List.length_eq_zero_iff.1 e)
 refine⟨?_,by rw[e];exact hb,ho,fun o q=>by have:=ht o q;omega,fun hs=>absurd (hs.symm.trans h3) (by decide)⟩;show(S.ps.dropLast++[b]).length<=k+1;rw[List.length_append,List.length_dropLast];have:=h.ps;simp;omega
theorem Bnd.line{S S':PS}{l:List UInt8}{k:Nat}(h:Bnd S k)(hI:Inv S)(hl:linS S l=some S'):Bnd S' (k+1):=by
 have addB:∀s,S.st=3->Bnd (addS S s) (k+1):=fun s h3=>h.put (hI.ps h3) h3 (bodS S++[s]) S.op (by have:=h.bd;simp;omega) (by have:=h.op;omega) (fun o ho=>by have:=h.th o ho;omega)
 unfold linS at hl;generalize fldS l=f at hl;split at hl
 ·unfold diaS at hl
  split at hl
  ·cases hd:diaW (fd f 1)with
   |none=>rw[hd]at hl;cases hl
   |some d=>rw[hd]at hl;cases hl;exact h.same rfl rfl (.inl (by show 1≠0;omega))
  ·cases hl
 split at hl
 ·unfold heapS at hl
  split at hl
  ·split at hl
   ·cases hl;exact h.same rfl rfl (.inr ⟨rfl,rfl⟩)
   ·cases hl
  ·cases hl
 split at hl
 ·unfold regS at hl
  split at hl
  ·split at hl
   ·split at hl
    ·cases hv:valS (f.drop 2)with
     |none=>rw[hv]at hl;cases hl
     |some v=>rw[hv]at hl;cases hl;exact h.same rfl rfl (.inl (by show 2≠0;omega))
    ·cases hl
   ·cases hl
  ·cases hl
 split at hl
 ·unfold procS at hl
  split at hl
  ·rename_i hc
   cases hl;refine⟨?_,?_,?_,fun o ho=>?_,fun e=>absurd e (by show¬3=0;omega)⟩
   ·show(S.ps++[[]]).length<=k+1
    have:=h.ps;simp;omega
   ·show((S.ps++[[]]).getLastD []).length<=k+1
    simp
   ·show S.op.length<=k+1
    rw[hc.2.1];simp
   ·have h9:o∈S.op:=ho
    rw[hc.2.1]at h9;exact absurd h9 List.not_mem_nil
  ·cases hl
 unfold stmS at hl;split at hl
 ·rename_i h3
  have opnB:∀k',opnS S k' f=some S'->Bnd S' (k+1):=fun k' hl=>by
   unfold opnS at hl;split at hl
   ·cases hl
    refine h.put (hI.ps h3) h3 _ _ (by have:=h.bd;simp;omega) (by have:=h.op;simp;omega) (fun o ho=>?_);rcases List.mem_cons.1 ho with rfl|ho
    ·exact⟨Int.le_refl _,by show(0:Int)<=_;omega⟩
    ·have:=h.th o ho;omega
   ·cases hl
  split at hl
  ·exact opnB _ hl
  split at hl
  ·exact opnB _ hl
  split at hl
  ·unfold elsS at hl
   split at hl
   ·cases hl
   ·rename_i o os ho
    split at hl
    ·cases hl
     have hol:=hI.ol o (by rw[ho];simp);have hth:=h.th;have hop:=h.op;have hbd:=h.bd;rw[ho]at hth hop;refine⟨by have:=h.ps;show S.ps.length<=k+1;omega,by show(bodS S).length<=k+1;omega,by simp at hop⊢;omega,fun q hq=>?_,fun hs=>absurd (hs.symm.trans h3) (by decide)⟩;rcases List.mem_cons.1 hq with rfl|hq
     ·exact⟨by show(0:Int)<=_-_-1;omega,by show((bodS S).length:Int)-_-1<=_;omega⟩
     ·have:=hth q (by simp[hq]);omega
    ·cases hl
  split at hl
  ·unfold endS at hl
   split at hl
   ·cases hl
   ·rename_i o os ho
    split at hl
    ·cases hl
     have hth:=h.th;have hop:=h.op;rw[ho]at hth hop;exact h.put (hI.ps h3) h3 _ _ (by rw[List.length_set];have:=h.bd;omega) (by simp at hop;omega) (fun q hq=>by have:=hth q (by simp[hq]);omega)
    ·cases hl
  split at hl
  ·unfold calS at hl
   split at hl
   ·cases hn:numW false (fd f 1)with
    |none=>rw[hn]at hl;cases hl
    |some n=>rw[hn]at hl;cases hl;exact addB _ h3
   ·cases hl
  ·unfold insS at hl
   split at hl
   ·split at hl
    ·cases hl;exact addB _ h3
    ·cases hl
   ·cases hl
 ·cases hl
def psLs:List (List UInt8)->Bool->PS->Nat->Nat×PS
 |[],rest,S,k=>(if rest=true then k else if S.st=3/\S.op=[]then 0 else k,S)
 |l::ls,rest,S,k=>match linS S l with
  |none=>(k,S)
  |some S'=>psLs ls rest S' (k+1)
theorem psT_nil(S:PS)(k:Nat):psT [] S k=(if S.st=3/\S.op=[]then 0 else k,S):=by rw[psT_eq];rfl
theorem psT_tail(l:List UInt8)(S:PS)(k:Nat)(h0:l≠[])(h:∀c∈l,noNl c=true):psT l S k=(k,S):=by
 have:pre noNl l=l.length:=by
  have:=pre_app noNl l [] h (by simp);rwa [List.append_nil]at this
 rw[psT_eq,dif_neg h0,dif_pos this]
theorem psT_line(l r:List UInt8)(S:PS)(k:Nat)(h:∀c∈l,noNl c=true):psT (l++10::r) S k=match linS S l with|none=>(k,S)|some S'=>psT r S' (k+1):=by
 have hp:pre noNl (l++10::r)=l.length:=pre_app noNl l (10::r) h (by intro c hc;simp at hc;subst hc;rfl);rw[psT_eq,dif_neg (by simp),dif_neg (by rw[hp];simp),hp,List.take_left' rfl,show(l++10::r).drop (l.length+1)=r by rw[List.drop_append];simp];rfl
theorem psT_split:∀(t cur:List UInt8)(S:PS)(k:Nat),(∀c∈cur,noNl c=true)->psT (cur++t) S k=psLs (splitL t cur).1 (!(splitL t cur).2.isEmpty) S k
 |[],cur,S,k,h=>by
  rw[List.append_nil];show _=psLs [] (!cur.isEmpty) S k;cases cur with
  |nil=>rw[psT_nil];rfl
  |cons a l=>rw[psT_tail (a::l) S k (by simp) h];rfl
 |c::t,cur,S,k,h=>by
  by_cases hc:c.toNat=10
  ·have:c=10:=UInt8.toNat_inj.1 hc
   subst this;rw[psT_line cur t S k h];have e:splitL (10::t) cur=(cur::(splitL t []).1,(splitL t []).2):=by
    show(if(10:UInt8).toNat=10 then _ else _)=_;rw[if_pos hc]
   rw[e];show _=psLs (cur::(splitL t []).1) _ S k;unfold psLs;cases linS S cur with
   |none=>rfl
   |some S'=>
    have ih:=psT_split t [] S' (k+1) (by simp);rw[List.nil_append]at ih;exact ih
  ·have e:splitL (c::t) cur=splitL t (cur++[c]):=by
    show(if c.toNat=10 then _ else _)=_;rw[if_neg hc]
   rw[e,<-psT_split t (cur++[c]) S k (fun q hq=>by
    rcases List.mem_append.1 hq with hq|hq
    ·exact h q hq
    ·have:q=c:=by simpa using hq
     subst this;unfold noNl;simpa using hc)]
   rw[List.append_assoc];rfl
end Go.Proofs.YtblfmpgdhpbffaaGreatDoor
