import Derived.Test.YtiphbmhoifggiaaGreatDoorOfRegT
import Derived.ProofKit
import Derived.Deep.Slices
namespace Go.Proofs.YtiphbmhoifggiaaGreatDoor
open Go.ChangeShapes Go.WideShapes Go.ChangeAt Go.RowKit Go.Deep
theorem open_row{H:Type}{enc:TypeId×Value->H}{P:Program}{w:World}{base:Nat}{spare:Nat->Bool}{held:Bool}{t e:TypeId}{fuel K:Nat}{ao:Option Addr}{len cap:Nat}{x:DataW H×List MemPlace}
 (ht:P.underlying t=some (.slice e))(hK:P.cellsOf e=K)(hpos:0<K)(h:DataW.trod enc P w base spare held fuel t [.slice ao len cap]=some x):
 len<=maxLen/\∃f:Nat->Value,InRow w ao (len*K) f/\∀i,i<len->∃n y,DataW.trod enc P w base spare held n e ((List.range K).map fun j=>f (i*K+j))=some y:=by
 rcases open_slice ht h with⟨h0,_⟩|⟨a,len',cap',m,n,D,Pl,hcs,hb,hl,hm,hmm,_,hx⟩
 ·simp only[List.cons.injEq,Value.slice.injEq,and_true]at h0
  obtain⟨_,rfl,_⟩:=h0;exact⟨Nat.zero_le _,fun _=>undef,.inl (by simp),fun i hi=>by omega⟩
 ·simp only[List.cons.injEq,Value.slice.injEq,and_true]at hcs
  obtain⟨rfl,rfl,rfl⟩:=hcs;have hlm:len<=m:=by rw[hmm];split<;>omega
  refine⟨by omega,?_⟩;rw[hK]at hx;obtain⟨c,hc⟩:=choose_lt (n:=m) (p:=fun i cs'=>w.cells? base (a.add (i*K)) K=some cs'/\DataW.trod enc P w base spare held n e cs'=some (D i,Pl i)) hx;have hcell:∀i,i<m->(c i).length=K/\∀j,j<K->w.cell? (a.add (i*K+j))=(c i)[j]?:=by
   intro i hi;obtain⟨_,hlen,hce⟩:=World.cells?_some (hc i hi).1;refine⟨hlen,fun j hj=>?_⟩;rw[<-add_add];exact hce j hj
  refine⟨fun p=>(c (p/K)).getD (p%K) undef,?_,fun i hi=>⟨n,(D i,Pl i),?_⟩⟩
  ·by_cases h0:len=0
   ·subst h0;exact .inl (by simp)
   ·right
    obtain⟨b,off,spot⟩:=a;have each:∀p,p<len*K->w.cell? ((⟨b,off,spot⟩:Addr).add p)=some ((c (p/K)).getD (p%K) undef):=by
     intro p hp;have h1:p/K<len:=(Nat.div_lt_iff_lt_mul hpos).2 hp;have h2:p%K<K:=Nat.mod_lt _ hpos;obtain⟨q1,q2⟩:=hcell (p/K) (by omega);have:=q2 (p%K) h2;rw[show p/K*K+p%K=p by rw[Nat.mul_comm];exact Nat.div_add_mod p K]at this;rw[this,List.getD_eq_getElem?_getD,List.getElem?_eq_getElem (by omega)];rfl
    have hp0:0<len*K:=Nat.mul_pos (by omega) hpos;have hspot:spot=none:=by simpa[Addr.add]using World.cell?_spot (each 0 hp0)
    subst hspot;refine⟨b,off,rfl,?_,fun p hp=>?_⟩
    ·have:=each 0 hp0
     exact block_lt_of_cell this
    ·rw[<-Go.WideShapes.add_plain];exact each p hp
  ·have e1:((List.range K).map fun j=>(c ((i*K+j)/K)).getD ((i*K+j)%K) undef)=c i:=by
    obtain⟨q1,_⟩:=hcell i (by omega);apply List.ext_getElem?;intro j;by_cases hj:j<K
    ·rw[List.getElem?_map,List.getElem?_range hj]
     simp only[Option.map_some];rw[show(i*K+j)/K=i by rw[Nat.mul_comm,Nat.mul_add_div hpos,Nat.div_eq_of_lt hj];rfl,show(i*K+j)%K=j by rw[Nat.mul_comm,Nat.mul_add_mod];exact Nat.mod_eq_of_lt hj];rw[List.getD_eq_getElem?_getD,List.getElem?_eq_getElem (by omega)];rfl
    ·rw[List.getElem?_eq_none (by simp;omega),List.getElem?_eq_none (by omega)]
   rw[e1];exact(hc i (by omega)).2
end Go.Proofs.YtiphbmhoifggiaaGreatDoor
