import Derived.Test.YtblfmpgdhpbffaaGreatDoorOfPzKind
import Derived.Maps.OwnSet
namespace Go.Proofs.YtblfmpgdhpbffaaGreatDoor
open Go.RowKit Go.Proofs
def heldR(v:Value):Option (DataW Value×List MemPlace):=some (.held v,[])
def MapF(w:World)(km n:Nat)(F:List UInt8->Option Value):Prop:=
 ∃D,w.ownsMap Tryz.prog 9 heldR km n D/\Maps.IsMap D/\∀l z,D.atKey (.string l) z=((F l).map DataW.held).getD z
theorem MapF.congr{w:World}{km n:Nat}{F G:List UInt8->Option Value}(h:MapF w km n F)(e:∀l,F l=G l):MapF w km n G:=by
 have:F=G:=funext e;rw[<-this];exact h
theorem MapF.made(w:World):MapF (w.alloc (.map #[] 0)) w.heap.size 0 (fun _=>none):=⟨_,World.ownsMap_made _ _ _ _,⟨_,rfl⟩,fun _ _=>rfl⟩
theorem MapF.block{w w':World}{km n:Nat}{F:List UInt8->Option Value}(h:MapF w km n F)(e:w'.heap[km]?=w.heap[km]?):MapF w' km n F:=by
 obtain⟨D,⟨es,c,h1,h2⟩,hm,ha⟩:=h;exact⟨D,⟨es,c,e.trans h1,h2⟩,hm,ha⟩
theorem MapF.put{w:World}{km n:Nat}{F:List UInt8->Option Value}(h:MapF w km n F)(hn:n<1000)(s:ByteArray)(hs:s.size<=100)(v:Value):
 ∃w',(Instr.mapUpdate 58 (.map (some km)) (.string s) v).run Tryz.prog w=.ok () w'/\MapF w' km (n+1) (fun l=>if l=s.data.toList then some v else F l)/\w.grownBy w' (some km):=by
 obtain⟨D,h1,hm,ha⟩:=h;have hz:s.size<=maxLen:=by unfold maxLen;omega
 obtain⟨w',r1,r2,r3⟩:=h1.update (Maps.string_keyed Tryz.underlying9) Tryz.underlying58 (by unfold maxLen;omega) (val:=v) (d:=.held v) (ps:=[]) (WideMaps.keyOf_string_mk Tryz.underlying9 hz) rfl;refine⟨w',r1,⟨_,r2,?_,fun l z=>?_⟩,r3⟩
 ·obtain⟨es,rfl⟩:=hm
  exact⟨_,rfl⟩
 ·show _=((if l=s.data.toList then some v else F l).map DataW.held).getD z
  by_cases e:l=s.data.toList
  ·rw[if_pos e,e,Maps.atKey_put_same hm (show WideAt.IsKeyLit (.string s.data.toList)from trivial)]
   rfl
  ·rw[if_neg e,Maps.atKey_put_other (by intro h;injection h with h;exact e h),ha]
theorem MapF.km{w:World}{km n rb:Nat}(h:MapF w km n (kindF rb)):KM w km rb:=by
 obtain⟨D,⟨es,c,h1,h2⟩,hm,ha⟩:=h;refine⟨_,h1,fun c t f=>by simp,fun w' hw s hs=>?_⟩;have hD:w'.ownsMap Tryz.prog 9 heldR km n D:=⟨es,c,hw,h2⟩
 obtain⟨v,ps,r1,r2⟩:=hD.look_ok (Maps.string_keyed Tryz.underlying9) Tryz.underlying58 (z:=.nilFunc) (by kernel_rfl) (zd:=.held .nilFunc) (zp:=[]) rfl (WideMaps.keyOf_string_mk Tryz.underlying9 hs);rw[ha]at r2;rw[r1];cases hk:kindF rb s.data.toList with
 |none=>
  rw[hk]at r2;have hh:Maps.has D (.string s.data.toList)=false:=Maps.has_false_of_atKey (fun z=>by rw[ha,hk];rfl);rw[hh];unfold heldR at r2;have:v=.nilFunc:=by simpa using(congrArg (fun o=>o.map Prod.fst) r2)
  rw[this];rfl
 |some x=>
  rw[hk]at r2;have hh:Maps.has D (.string s.data.toList)=true:=Maps.has_true_of_atKey (y:=.held x) (fun z=>by rw[ha,hk];rfl);rw[hh];unfold heldR at r2;have:v=x:=by simpa using(congrArg (fun o=>o.map Prod.fst) r2)
  rw[this];rfl
def mth(k rb:Nat):Value:=.func (.func k) #[.pointer (some ⟨rb,0,none⟩)] #[]
def kinK(rb k:Nat)(l:List UInt8):Option Value:=
 if l=[100,105,97,108,101,99,116]then some (mth 28 rb)
 else if l=[104,101,97,112]then some (mth 29 rb)
 else if l=[114,101,103]then some (mth 30 rb)
 else if l=[112,114,111,99]then some (mth 31 rb)
 else if l=[105,102]then some (mth 32 rb)
 else if l=[119,104,105,108,101]then some (mth 33 rb)
 else if l=[101,108,115,101]then some (mth 34 rb)
 else if l=[101,110,100]then some (mth 35 rb)
 else if l=[99,97,108,108]then some (mth 36 rb)
 else if 1<=opOf l/\opOf l<=k then some (mth 37 rb)else none
def kwL:List (List UInt8):=[[100,105,97,108,101,99,116],[104,101,97,112],[114,101,103],[112,114,111,99],[105,102],[119,104,105,108,101],[101,108,115,101],[101,110,100],[99,97,108,108]]
theorem nm_kw:∀k:Nat,k<28->nmL ((k:Int)+1)∉kwL:=by decide
theorem kinK_step(rb k:Nat)(hk:k<28)(l:List UInt8):(if l=nmL ((k:Int)+1)then some (mth 37 rb)else kinK rb k l)=kinK rb (k+1) l:=by
 have h3:=(nm_all (op:=(k:Int)+1) (by omega) (by omega)).2.2;by_cases e:l=nmL ((k:Int)+1)
 ·have hn:l∉kwL:=by rw[e];exact nm_kw k hk
  have ho:opOf l=(k:Int)+1:=by rw[e];exact h3
  rw[if_pos e];simp only[kwL,List.mem_cons,List.not_mem_nil,or_false,not_or]at hn;obtain⟨a1,a2,a3,a4,a5,a6,a7,a8,a9⟩:=hn;unfold kinK;rw[if_neg a1,if_neg a2,if_neg a3,if_neg a4,if_neg a5,if_neg a6,if_neg a7,if_neg a8,if_neg a9,if_pos ⟨by omega,by omega⟩]
 ·rw[if_neg e]
  have ho:opOf l≠(k:Int)+1:=fun q=>e (by
   obtain⟨_,_,q3⟩:=op_back q (by omega);exact q3)
  have hc:(1<=opOf l/\opOf l<=(k:Int))↔(1<=opOf l/\opOf l<=((k+1:Nat):Int)):=by omega
  unfold kinK;simp only[hc]
theorem kinK_zero(rb:Nat)(l:List UInt8):
 (if l=[99,97,108,108]then some (mth 36 rb)
 else if l=[101,110,100]then some (mth 35 rb)
 else if l=[101,108,115,101]then some (mth 34 rb)
 else if l=[119,104,105,108,101]then some (mth 33 rb)
 else if l=[105,102]then some (mth 32 rb)
 else if l=[112,114,111,99]then some (mth 31 rb)
 else if l=[114,101,103]then some (mth 30 rb)
 else if l=[104,101,97,112]then some (mth 29 rb)
 else if l=[100,105,97,108,101,99,116]then some (mth 28 rb)else none)=kinK rb 0 l:=by
 by_cases a1:l=[100,105,97,108,101,99,116]
 ·subst a1;rfl
 by_cases a2:l=[104,101,97,112]
 ·subst a2;rfl
 by_cases a3:l=[114,101,103]
 ·subst a3;rfl
 by_cases a4:l=[112,114,111,99]
 ·subst a4;rfl
 by_cases a5:l=[105,102]
 ·subst a5;rfl
 by_cases a6:l=[119,104,105,108,101]
 ·subst a6;rfl
 by_cases a7:l=[101,108,115,101]
 ·subst a7;rfl
 by_cases a8:l=[101,110,100]
 ·subst a8;rfl
 by_cases a9:l=[99,97,108,108]
 ·subst a9;rfl
 unfold kinK;rw[if_neg a1,if_neg a2,if_neg a3,if_neg a4,if_neg a5,if_neg a6,if_neg a7,if_neg a8,if_neg a9,if_neg a1,if_neg a2,if_neg a3,if_neg a4,if_neg a5,if_neg a6,if_neg a7,if_neg a8,if_neg a9,if_neg (by omega)]
theorem getObj_cells{w:World}{r:Nat}{c:Array Value}{t:TypeId}{f:Nat×Nat}(h:w.heap[r]?=some (.cells c t f)):∀o u,(getObj r).run Tryz.prog w≠ .ok o u:=by intro o u;simp[getObj,Sem.run,h]
theorem ops_map{w:World}{ob:Nat}(h:OpsAt w ob):∀o,w.heap[ob]?=some o->∀c t f,o≠ .cells c t f:=by
 obtain⟨o,h1,h2⟩:=h;intro o' ho c t f e;rw[h1]at ho;cases ho;subst e;have:=h2 w h1 ⟨#[]⟩ (by decide);simp[Instr.lookup,run_underlying Tryz.underlying73,go_sem]at this;cases hg:(getObj ob).run Tryz.prog w with
 |ok o u=>exact getObj_cells h1 o u hg
 |_=>rw[hg]at this;cases this
theorem forms_map{w:World}{mb:Nat}(h:FormsAt w mb):∀o,w.heap[mb]?=some o->∀c t f,o≠ .cells c t f:=by
 obtain⟨o,h1,h2⟩:=h;intro o' ho c t f e;rw[h1]at ho;cases ho;subst e;have:=h2 w h1 0 3 (by decide);simp[Instr.lookup,run_underlying Tryz.underlying74,go_sem]at this;cases hg:(getObj mb).run Tryz.prog w with
 |ok o u=>exact getObj_cells h1 o u hg
 |_=>rw[hg]at this;cases this
end Go.Proofs.YtblfmpgdhpbffaaGreatDoor
