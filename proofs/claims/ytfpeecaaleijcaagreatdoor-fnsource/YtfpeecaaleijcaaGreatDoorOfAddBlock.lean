import Derived.Test.YtfpeecaaleijcaaGreatDoorOfCl
import Derived.Test.YtfpeecaaleijcaaGreatDoorOfUnitMeasure
import Derived.Test.YtfpeecaaleijcaaGreatDoorOfUnitSpec
import Derived.Deep.QuietTactic
import Derived.BigQuiet
import Derived.Deep.RegionWith
import Derived.BigRegion
import Derived.Laws.AppendOwnNone
namespace Go.Proofs.YtfpeecaaleijcaaGreatDoor
open Go.RowKit
def CV(s:SV):List Value:=[Vi s.k,Vi s.op,Vi s.d,Vi s.a,Vi s.b,Vi s.imm,Vi s.h,Vi s.cond,Vi s.thn,Vi s.els,Vi s.proc]
def BZ(xs:List SV):List Value:=xs.flatMap CV
theorem IB(xs:List SV):(BZ xs).length=xs.length*11:=by
 induction xs with
 |nil=>rfl
 |cons a l ih=>show(CV a++BZ l).length=(l.length+1)*11;rw[List.length_append,ih];show 11+_=_;omega
theorem VJ(a b:List SV):BZ (a++b)=BZ a++BZ b:=by simp[BZ]
theorem ED(s:SV):BZ [s]=CV s:=by simp[BZ]
theorem LH(xs:List SV)(d:SV):∀p,p<xs.length*11->(BZ xs)[p]?=some (IU (fun i=>xs.getD i d) p):=by
 induction xs with
 |nil=>intro p h;simp at h
 |cons a l ih=>
  intro p h;show(CV a++BZ l)[p]?=_;by_cases hp:p<11
  ·rw[List.getElem?_append_left (by show p<11;exact hp)]
   unfold IU;rw[show p/11=0 by omega,show p%11=p by omega];match p,hp with
   |0,_=>rfl
   |1,_=>rfl
   |2,_=>rfl
   |3,_=>rfl
   |4,_=>rfl
   |5,_=>rfl
   |6,_=>rfl
   |7,_=>rfl
   |8,_=>rfl
   |9,_=>rfl
   |10,_=>rfl
  ·rw[List.getElem?_append_right (by show 11<=p;omega)]
   show(BZ l)[p-11]?=_;rw[ih (p-11) (by simp at h;omega)];unfold IU;rw[show(p-11)/11=p/11-1 by omega,show(p-11)%11=p%11 by omega];obtain⟨k,hk⟩:∃k,p/11=k+1:=⟨p/11-1,by omega⟩
   rw[hk];rfl
def WI(B:Nat->List SV)(L:Nat->SV)(i te:Nat):List SV:=
 if _h:i<te then
  if _hs:i+1+(L i).thn.toNat+(L i).els.toNat<=te then
   (if(L i).k=4 then B (L i).proc.toNat else{L i with thn:=((WI B L (i+1) (i+1+(L i).thn.toNat)).length:Int),els:=((WI B L (i+1+(L i).thn.toNat) (i+1+(L i).thn.toNat+(L i).els.toNat)).length:Int)}::(WI B L (i+1) (i+1+(L i).thn.toNat)++WI B L (i+1+(L i).thn.toNat) (i+1+(L i).thn.toNat+(L i).els.toNat)))++WI B L (i+1+(L i).thn.toNat+(L i).els.toNat) te
  else[]
 else[]
section
variable{B:Nat->List SV}{L:Nat->SV}{i te:Nat}
end
def bz(Pv:Nat->PV)(np:Nat):Nat->Nat->List SV
 |0=>fun _=>[]
 |k+1=>fun i=>if i=np-1-k then WI (bz Pv np k) (Pv (np-1-k)).L 0 (Pv (np-1-k)).n else bz Pv np k i
section
variable{Pv:Nat->PV}{np:Nat}
end
theorem BI{P:Program}{md:Region.Mode}{ops:Array Oper}{Q:Exit->Act->World->Prop}{S:World->Prop}{fuel i:Nat}{listed:Array Bool}{a:Act}{w w':World}{o:Oper}(s x:Operand){t:TypeId}{v u v':Value}(ho:ops[i]?=some o)(hw:Region.wanted o (yielded ops a.tmps)=true)
 (hop:o.op=.call {callee:=.builtin .append,args:=#[s,x],argTypes:=#[t,t]})(hs:a.eval s=v)(hx:a.eval x=u)(hr:(Builtin.append_ #[t,t] o.type #[v,u]).run P w=.ok v' w')(hS:S w')(h:S w'->wpAnyH P md ops Q S fuel (listed.setIfInBounds i true) (a.put o.dst v') w'):AllReadyH P md ops Q S fuel listed a w [i]:=
 AllReadyH.cons ho (fun K' hK=>by
  rw[if_pos hw];unfold Oper.wp execOp;simp only[hop,resolve,invoke,builtin,Sem.run_bind,Sem.run_pure,Result.andThen_ok,List.map_toArray,List.map_cons,List.map_nil,hs,hx,hr];exact hK _ _ hS h) AllReadyH.nil
end Go.Proofs.YtfpeecaaleijcaaGreatDoor
