import Derived.Test.YtfpeecaaleijcaaGreatDoorOfCl
import Derived.Test.YtfpeecaaleijcaaGreatDoorOfPzBody
namespace Go.Proofs.YtfpeecaaleijcaaGreatDoor
open Go.RowKit
variable {k:Nat}
structure Ie(S:PS)(k:Nat):Prop where
 ps:S.ps.length<=k
 bd:(Ac S).length<=k
 op:S.op.length<=k
 th:∀o∈S.op,0<=o.th/\o.th<=k
 d:S.st=0->S.d=0
theorem Ie.zero:Ie ps0 0:=⟨jG,jG,jG,fun _ h=>absurd h List.not_mem_nil,fun _=>rfl⟩
theorem Ie.same{S S':PS}(h:Ie S k)(h1:S'.ps=S.ps)(h2:S'.op=S.op)(h3:S'.st≠0∨(S'.st=S.st/\S'.d=S.d)):Ie S' (k+1):=by
 have e:Ac S'=Ac S:=by unfold Ac;rw[h1]
 refine⟨by rw[h1];have:=h.ps;omega,by rw[e];have:=h.bd;omega,by rw[h2];have:=h.op;omega,fun o ho=>?_,fun hs=>?_⟩
 ·rw[h2]at ho
  have:=h.th o ho;omega
 ·rcases h3 with h3|⟨h3,h4⟩
  ·exact absurd hs h3
  ·rw[h4];exact h.d (by rw[<-h3];exact hs)
theorem Ie.put{S:PS}(h:Ie S k)(hp:S.ps≠[])(h3:S.st=3)(b:List SV)(os:List OV)(hb:b.length<=k+1)(ho:os.length<=k+1)(ht:∀o∈os,0<=o.th/\o.th<=k+1):Ie {Cv S b with op:=os} (k+1):=by
 have e:Ac {Cv S b with op:=os}=b:=IC S b;have hl:S.ps.length≠0:=fun e=>hp (List.length_eq_zero_iff.1 e)
 refine⟨?_,by rw[e];exact hb,ho,fun o q=>by have:=ht o q;omega,fun hs=>absurd (hs.symm.trans h3) (by decide)⟩;show(S.ps.dropLast++[b]).length<=k+1;rw[List.length_append,List.length_dropLast];have:=h.ps;simp;omega
theorem Ie.line{S S':PS}{l:List UInt8}(h:Ie S k)(hI:Inv S)(hl:Eb S l=some S'):Ie S' (k+1):=by
 have addB:∀s,S.st=3->Ie (Dw S s) (k+1):=fun s h3=>h.put (hI.ps h3) h3 (Ac S++[s]) S.op (by have:=h.bd;simp;omega) (by have:=h.op;omega) (fun o ho=>by have:=h.th o ho;omega)
 unfold Eb at hl;generalize Aj l=f at hl;split at hl
 ·unfold Ku at hl
  split at hl
  ·cases hd:Nn (fd f 1)with
   |none=>rw[hd]at hl;cases hl
   |some d=>rw[hd]at hl;cases hl;exact h.same rfl rfl (.inl (by show 1≠0;omega))
  ·cases hl
 split at hl
 ·unfold FC at hl
  split at hl
  ·split at hl
   ·cases hl;exact h.same rfl rfl (.inr ⟨rfl,rfl⟩)
   ·cases hl
  ·cases hl
 split at hl
 ·unfold JQ at hl
  split at hl
  ·split at hl
   ·split at hl
    ·cases hv:FK (f.drop 2)with
     |none=>rw[hv]at hl;cases hl
     |some v=>rw[hv]at hl;cases hl;exact h.same rfl rfl (.inl (by show 2≠0;omega))
    ·cases hl
   ·cases hl
  ·cases hl
 split at hl
 ·unfold Gj at hl
  split at hl
  ·rename_i hc
   cases hl;refine⟨?_,?_,?_,fun o ho=>?_,fun e=>absurd e (by show¬3=0;omega)⟩
   ·show(S.ps++[[]]).length<=k+1
    have:=h.ps;simp;omega
   ·show((S.ps++[[]]).getLastD []).length<=k+1
    simp
   ·show S.op.length<=k+1
    rw[hc.2.1];simp
   ·have h9:o∈S.op:=ho
    rw[hc.2.1]at h9;exact absurd h9 List.not_mem_nil
  ·cases hl
 unfold Vg at hl;split at hl
 ·rename_i h3
  have opnB:∀k',Ez S k' f=some S'->Ie S' (k+1):=fun k' hl=>by
   unfold Ez at hl;split at hl
   ·cases hl
    refine h.put (hI.ps h3) h3 _ _ (by have:=h.bd;simp;omega) (by have:=h.op;simp;omega) (fun o ho=>?_);rcases List.mem_cons.1 ho with rfl|ho
    ·exact⟨Int.le_refl _,by show(0:Int)<=_;omega⟩
    ·have:=h.th o ho;omega
   ·cases hl
  split at hl
  ·exact opnB _ hl
  split at hl
  ·exact opnB _ hl
  split at hl
  ·unfold JV at hl
   split at hl
   ·cases hl
   ·rename_i o os ho
    split at hl
    ·cases hl
     have hol:=hI.ol o (by rw[ho];simp);have hth:=h.th;have hop:=h.op;have hbd:=h.bd;rw[ho]at hth hop;refine⟨by have:=h.ps;show S.ps.length<=k+1;omega,by show(Ac S).length<=k+1;omega,by simp at hop⊢;omega,fun q hq=>?_,fun hs=>absurd (hs.symm.trans h3) (by decide)⟩;rcases List.mem_cons.1 hq with rfl|hq
     ·exact⟨by show(0:Int)<=_-_-1;omega,by show((Ac S).length:Int)-_-1<=_;omega⟩
     ·have:=hth q (by simp[hq]);omega
    ·cases hl
  split at hl
  ·unfold JG at hl
   split at hl
   ·cases hl
   ·rename_i o os ho
    split at hl
    ·cases hl
     have hth:=h.th;have hop:=h.op;rw[ho]at hth hop;exact h.put (hI.ps h3) h3 _ _ (by rw[List.length_set];have:=h.bd;omega) (by simp at hop;omega) (fun q hq=>by have:=hth q (by simp[hq]);omega)
    ·cases hl
  split at hl
  ·unfold NF at hl
   split at hl
   ·cases hn:Bc false (fd f 1)with
    |none=>rw[hn]at hl;cases hl
    |some n=>rw[hn]at hl;cases hl;exact addB _ h3
   ·cases hl
  ·unfold PZ at hl
   split at hl
   ·split at hl
    ·cases hl;exact addB _ h3
    ·cases hl
   ·cases hl
 ·cases hl
def jE:List (List UInt8)->Bool->PS->Nat->Nat×PS
 |[],rest,S,k=>(if rest=true then k else if S.st=3/\S.op=[]then 0 else k,S)
 |l::ls,rest,S,k=>match Eb S l with
  |none=>(k,S)
  |some S'=>jE ls rest S' (k+1)
theorem Le(S:PS)(k:Nat):psT [] S k=(if S.st=3/\S.op=[]then 0 else k,S):=by rw[Pk];rfl
theorem YE(l r:List UInt8)(S:PS)(k:Nat)(h:∀c∈l,CY c=true):psT (l++10::r) S k=match Eb S l with|none=>(k,S)|some S'=>psT r S' (k+1):=by
 have hp:pre CY (l++10::r)=l.length:=IX CY l (10::r) h (by intro c hc;simp at hc;subst hc;rfl);rw[Pk,dif_neg (by simp),dif_neg (by rw[hp];simp),hp,List.take_left' rfl,show(l++10::r).drop (l.length+1)=r by rw[List.drop_append];simp];rfl
end Go.Proofs.YtfpeecaaleijcaaGreatDoor
