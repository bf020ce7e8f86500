import Derived.Test.YtiphbmhoifggiaaGreatDoorAsmParts
import Derived.Deep.QuietTactic
import Derived.Maps.Own
import Derived.Maps.Views
import Derived.DeepKeys4
set_option maxHeartbeats 800000
namespace Go.Proofs.YtiphbmhoifggiaaGreatDoor
open Go.RowKit
def FormsAt(w:World)(mb:Nat):Prop:=∃o,w.heap[mb]?=some o/\∀w':World,w'.heap[mb]?=some o->∀d h:Int,(formL.any fun x=>x.1==d&&x.2.1==h)=true->(Instr.lookup 111 (.map (some mb)) (.agg #[.int .i64 d,.int .i64 h]) false).run Tryz.prog w'=.ok (.agg #[.string (ptS d h)]) w'
theorem FormsAt.below{w w':World}{mb:Nat}(h:FormsAt w mb){B:Nat}(hb:Below B w w')(hB:mb<B):FormsAt w' mb:=by
 obtain⟨o,h1,h2⟩:=h;exact⟨o,(hb.block mb hB).trans h1,h2⟩
structure SC(w:World)(sb nb ob mb:Nat)(d:Int):Prop where
 S:w.heap[sb]?=some (.cells #[.int .i64 d,.slice (some ⟨nb,0,none⟩) 34 34,.map (some ob),.map (some mb)] 114)
 N:w.heap[nb]?=some (.cells (nmT.tail.map Value.string).toArray 9)
 M:FormsAt w mb
theorem SC.below{w w':World}{sb nb ob mb:Nat}{d:Int}(p:SC w sb nb ob mb d){B:Nat}(hb:Below B w w')(hs:sb<B)(hn:nb<B)(hm:mb<B):SC w' sb nb ob mb d:=
 ⟨(hb.block sb hs).trans p.S,(hb.block nb hn).trans p.N,p.M.below hb hm⟩
theorem partsOf_any(sb nb ob mb:Nat)(d h:Int)(w:World)(p:SC w sb nb ob mb d)(hf:(formL.any fun x=>x.1==d&&x.2.1==h)=true):
 Calls Tryz.prog 82 #[.pointer (some ⟨sb,0,none⟩),.int .i64 h] w fun e w'=>e=.returned (.string (ptS d h))/\Below w.heap.size w w':=by
 have ls:sb<w.heap.size:=(Array.getElem?_eq_some_iff.1 p.S).1
 have c0:∀w',Below w.heap.size w w'->w'.cell? ⟨sb,0,none⟩=some (.int .i64 d):=fun w' hb=>(hb.cell (p:=⟨sb,0,none⟩) ls).trans (heap_cell p.S 0)
 have c3:∀w',Below w.heap.size w w'->w'.cell? ⟨sb,3,none⟩=some (.map (some mb)):=fun w' hb=>(hb.cell (p:=⟨sb,3,none⟩) ls).trans (heap_cell p.S 3)
 have hl:∀w',Below w.heap.size w w'->(Instr.lookup 111 (.map (some mb)) (.agg #[.int .i64 d,.int .i64 h]) false).run Tryz.prog w'=.ok (.agg #[.string (ptS d h)]) w':=fun w' hb=>by
  obtain⟨o,h1,h2⟩:=p.M
  exact h2 w' ((hb.block mb (Array.getElem?_eq_some_iff.1 h1).1).trans h1) d h hf
 have hfd:∀w:World,(Instr.field 155 (.agg #[.string (ptS d h)]) 0).run Tryz.prog w=.ok (.string (ptS d h)) w:=fun w=>by kernel_rfl
 clear hf p
 go_enter Tryz.func82,Tryz.ntmps82
 go_upto_region 1 with fail
 refine wp_region_held_drew (S:=fun w'=>Below w.heap.size w w') (by kernel_rfl) (Below.refl _ _).drew (fun _=>?_)
 refine wpAnyH_tk 0 ?k1v rfl ?k1y ?k1r
 case k1y=>(intro w hSw;(try dsimp only at hSw);go_simp;try with_reducible rfl)
 try simp only[Act.put,List.getElem_toArray,List.getElem_cons_zero,List.setIfInBounds_toArray,List.set_cons_zero,List.set_cons_succ]
 refine wpAnyH_tk 1 ?k2v rfl ?k2y ?k2r
 case k2y=>(intro w hSw;(try dsimp only at hSw);go_simp;try with_reducible rfl)
 try simp only[Act.put,List.getElem_toArray,List.getElem_cons_zero,List.getElem_cons_succ,List.setIfInBounds_toArray,List.set_cons_zero,List.set_cons_succ]
 refine wpAnyH_tk 2 ?k3v rfl ?k3y ?k3r
 case k3y=>(intro w hSw;(try dsimp only at hSw);go_simp;try with_reducible rfl)
 try simp only[Act.put,List.getElem_toArray,List.getElem_cons_zero,List.getElem_cons_succ,List.setIfInBounds_toArray,List.set_cons_zero,List.set_cons_succ]
 refine wpAnyH_tk 3 ?k4v rfl ?k4y ?k4r
 case k4y=>(intro w hSw;(try dsimp only at hSw);go_simp;try with_reducible rfl)
 try simp only[Act.put,List.getElem_toArray,List.getElem_cons_zero,List.getElem_cons_succ,List.setIfInBounds_toArray,List.set_cons_zero,List.set_cons_succ]
 refine wpAnyH_tk 4 ?k5v rfl ?k5y ?k5r
 case k5y=>(intro w hSw;(try dsimp only at hSw);go_simp;try with_reducible rfl)
 try simp only[Act.put,List.getElem_toArray,List.getElem_cons_zero,List.getElem_cons_succ,List.setIfInBounds_toArray,List.set_cons_zero,List.set_cons_succ]
 refine wpAnyH_tk 5 ?k6v rfl ?k6y ?k6r
 case k6y=>(intro w hSw;(try dsimp only at hSw);go_simp;try with_reducible rfl)
 try simp only[Act.put,List.getElem_toArray,List.getElem_cons_zero,List.getElem_cons_succ,List.setIfInBounds_toArray,List.set_cons_zero,List.set_cons_succ]
 refine wpAnyH_tk 6 ?k7v rfl ?k7y ?k7r
 case k7y=>(intro w hSw;(try dsimp only at hSw);go_simp;try with_reducible rfl)
 try simp only[Act.put,List.getElem_toArray,List.getElem_cons_zero,List.getElem_cons_succ,List.setIfInBounds_toArray,List.set_cons_zero,List.set_cons_succ]
 refine wpAnyH_tk 7 ?k8v rfl ?k8y ?k8r
 case k8y=>(intro w hSw;(try dsimp only at hSw);go_simp;try with_reducible rfl)
 try simp only[Act.put,List.getElem_toArray,List.getElem_cons_zero,List.getElem_cons_succ,List.setIfInBounds_toArray,List.set_cons_zero,List.set_cons_succ]
 refine wpAnyH_tk 8 ?k9v rfl ?k9y ?k9r
 case k9y=>(intro w hSw;(try dsimp only at hSw);go_simp;try with_reducible rfl)
 try simp only[Act.put,List.getElem_toArray,List.getElem_cons_zero,List.getElem_cons_succ,List.setIfInBounds_toArray,List.set_cons_zero,List.set_cons_succ]
 refine wpAnyH_tk 9 ?k10v rfl ?k10y ?k10r
 case k10y=>(intro w hSw;(try dsimp only at hSw);go_simp;try with_reducible rfl)
 try simp only[Act.put,List.getElem_toArray,List.getElem_cons_zero,List.getElem_cons_succ,List.setIfInBounds_toArray,List.set_cons_zero,List.set_cons_succ]
 refine wpAnyH_tk 10 ?k11v rfl ?k11y ?k11r
 case k11y=>(intro w hSw;(try dsimp only at hSw);go_simp;try with_reducible rfl)
 try simp only[Act.put,List.getElem_toArray,List.getElem_cons_zero,List.getElem_cons_succ,List.setIfInBounds_toArray,List.set_cons_zero,List.set_cons_succ]
 refine wpAnyH_tk 11 ?k12v rfl ?k12y ?k12r
 case k12y=>(intro w hSw;(try dsimp only at hSw);go_simp;try with_reducible rfl)
 try simp only[Act.put,List.getElem_toArray,List.getElem_cons_zero,List.getElem_cons_succ,List.setIfInBounds_toArray,List.set_cons_zero,List.set_cons_succ]
 refine wpAnyH_tk 12 ?k13v rfl ?k13y ?k13r
 case k13y=>(intro w hSw;(try dsimp only at hSw);go_simp;try with_reducible rfl)
 try simp only[Act.put,List.getElem_toArray,List.getElem_cons_zero,List.getElem_cons_succ,List.setIfInBounds_toArray,List.set_cons_zero,List.set_cons_succ]
 refine wpAnyH_done (by kernel_rfl) ?_ _
 go_wp2_with fail
 go_ret
 exact⟨rfl,(Below.refl _ _).drew⟩
theorem pt_size(d h:Int):(ptS d h).size<=30:=by
 unfold ptS;rcases hf:formL.find? (fun x=>x.1==d&&x.2.1==h)with _|x
 ·rw[hf];decide
 ·have h1:∀y∈formL,y.2.2.size<=30:=by decide
  rw[hf];exact h1 x (List.mem_of_find?_eq_some hf)
theorem fkLaid:laidOutB Tryz.prog=true:=by kernel_rfl
theorem fkKeyed:Maps.Keyed Tryz.prog 153:=
 Maps.Keyed.of_law (deep_law_laid fkLaid (m:=3) (by omega) (of_decide_eq_true (by kernel_rfl)) (by kernel_rfl) (by kernel_rfl))
def kvK(x:Int×Int×ByteArray):Value:=.agg #[.int .i64 x.1,.int .i64 x.2.1]
def kvE(x:Int×Int×ByteArray):Value:=.agg #[.string x.2.2]
def klF(P:Program)(x:Int×Int×ByteArray):Lit:=(keyOf P 153 (kvK x)).getD (.bool false)
theorem key_all:(formL.all fun x=>(keyOf Tryz.prog 153 (kvK x)).isSome)=true:=by kernel_rfl
theorem key_of{x:Int×Int×ByteArray}(h:x∈formL):keyOf Tryz.prog 153 (kvK x)=some (klF Tryz.prog x):=by
 have h1:=List.all_eq_true.1 key_all x h;obtain⟨l,hl⟩:=Option.isSome_iff_exists.1 h1;unfold klF;rw[hl];rfl
def formR:Value->Option (DataW Unit×List MemPlace)
 |.agg ⟨[.string s]⟩=>some (.lit (.string s.data.toList),[])
 |_=>none
theorem formR_inv{v:Value}{s:ByteArray}{ps:List MemPlace}(h:formR v=some (.lit (.string s.data.toList),ps)):v=.agg #[.string s]:=by
 unfold formR at h;split at h
 ·rename_i s'
  simp only[Option.some.injEq,Prod.mk.injEq,DataW.lit.injEq,Lit.string.injEq]at h;have e:s'=s:=by
   obtain⟨⟨a⟩⟩:=s;obtain⟨⟨b⟩⟩:=s';simp at h;rw[h.1]
  rw[e]
 ·cases h
def fzd:DataW Unit:=.lit (.string [])
def FM(w:World)(mb n:Nat)(done:List (Int×Int×ByteArray)):Prop:=
 ∃D,w.ownsMap Tryz.prog 153 formR mb n D/\Maps.IsMap D/\∀x∈done,D.atKey (klF Tryz.prog x) fzd=.lit (.string x.2.2.data.toList)
theorem forms_apart:∀x∈formL,∀y∈formL,x.1=y.1->x.2.1=y.2.1->x.2.2=y.2.2:=by decide
theorem kvK_inj{x y:Int×Int×ByteArray}(h:kvK x=kvK y):x.1=y.1/\x.2.1=y.2.1:=by
 unfold kvK at h;simpa using h
theorem FM.insert{w:World}{mb n:Nat}{done:List (Int×Int×ByteArray)}(h:FM w mb n done)(hd:∀y∈done,y∈formL){x:Int×Int×ByteArray}(hx:x∈formL)(hn:n<100):
 ∃w',(Instr.mapUpdate 111 (.map (some mb)) (kvK x) (kvE x)).run Tryz.prog w=.ok () w'/\FM w' mb (n+1) (x::done)/\w.grownBy w' (some mb):=by
 obtain⟨D,h1,h2,h3⟩:=h;have hn':n<maxLen:=by unfold maxLen;omega
 obtain⟨w',r1,r2,r3⟩:=h1.update fkKeyed (t:=111) (e:=155) (by kernel_rfl) hn' (val:=kvE x) (d:=.lit (.string x.2.2.data.toList)) (ps:=[]) (key_of hx) rfl;refine⟨w',r1,⟨_,r2,?_,fun y hy=>?_⟩,r3⟩
 ·obtain⟨es,rfl⟩:=h2
  exact⟨_,rfl⟩
 ·by_cases e:klF Tryz.prog y=klF Tryz.prog x
  ·have hy':y∈formL:=by
    rcases List.mem_cons.1 hy with rfl|hy
    ·exact hx
    ·exact hd y hy
   have k1:=key_of hy';rw[e]at k1;obtain⟨e1,e2⟩:=kvK_inj (fkKeyed.inj k1 (key_of hx));have k2:=key_of hx;rw[e];generalize klF Tryz.prog x=kx at k2⊢;rw[Maps.atKey_put_same h2 (fkKeyed.key k2),forms_apart y hy' x hx e1 e2]
  ·rw[Maps.atKey_put_other e]
   rcases List.mem_cons.1 hy with rfl|hy
   ·exact absurd rfl e
   ·exact h3 y hy
theorem FM.forms{w:World}{mb n:Nat}{done:List (Int×Int×ByteArray)}(h:FM w mb n done)(hd:∀y∈formL,y∈done):FormsAt w mb:=by
 obtain⟨D,h1,h2,h3⟩:=h;obtain⟨es,clock,hb,F,hs,hD⟩:=h1;refine⟨_,hb,fun w' hw d hh hany=>?_⟩;have h1':w'.ownsMap Tryz.prog 153 formR mb n D:=⟨es,clock,hw,F,hs,hD⟩
 have hz:(zeroValue 155).run Tryz.prog w'=.ok (.agg #[.string ⟨#[]⟩]) w':=by kernel_rfl
 obtain⟨x,hx⟩:∃x,(formL.find? fun x=>x.1==d&&x.2.1==hh)=some x:=by
  rcases hf:formL.find? fun x=>x.1==d&&x.2.1==hh with _|x
  ·rw[List.find?_eq_none]at hf
   obtain⟨y,hy,hy2⟩:=List.any_eq_true.1 hany;exact absurd hy2 (hf y hy)
  ·exact⟨x,hf⟩
 have hxm:=List.mem_of_find?_eq_some hx;have hxp:=List.find?_some hx;simp only[Bool.and_eq_true,beq_iff_eq]at hxp;have ek:Value.agg #[.int .i64 d,.int .i64 hh]=kvK x:=by unfold kvK;rw[hxp.1,hxp.2]
 obtain⟨v,ps,r1,r2⟩:=h1'.lookup fkKeyed (t:=111) (e:=155) (by kernel_rfl) hz (zd:=fzd) (zp:=[]) rfl (key_of hxm);rw[h3 x (hd x hxm)]at r2;rw[ek,r1,formR_inv r2];unfold ptS;rw[hx];rfl
def fopF(f:Func):Array Oper:=match f.body with|some (.seq _ (.seq (.region _ o _) _))=>o|_=>#[]
def lst(pend:List Nat):Array Bool:=((List.range 81).map fun i=>decide (i<79)&&!pend.contains i).toArray
theorem lst_q(pend:List Nat)(j:Nat):(lst pend)[j]?=if j<81 then some (decide (j<79)&&!pend.contains j)else none:=by
 unfold lst;by_cases h:j<81
 ·rw[if_pos h];simp[h]
 ·rw[if_neg h];simp;omega
theorem lst_get(pend:List Nat)(j:Nat)(d:Bool):(lst pend).getD j d=if j<81 then(decide (j<79)&&!pend.contains j)else d:=by
 rw[Array.getD_eq_getD_getElem?,lst_q];by_cases h:j<81
 ·rw[if_pos h,if_pos h];rfl
 ·rw[if_neg h,if_neg h];rfl
theorem lst_set{pend:List Nat}{i:Nat}(hn:pend.Nodup)(h79:i<79):(lst pend).setIfInBounds i true=lst (pend.erase i):=by
 apply Array.ext_getElem?;intro j;rw[Array.getElem?_setIfInBounds,lst_q,lst_q];have hs:(lst pend).size=81:=by simp[lst]
 by_cases e:i=j
 ·subst e
  rw[if_pos rfl,if_pos (by omega),if_pos (by omega)];have:i∉pend.erase i:=fun h=>(hn.mem_erase_iff.1 h).1 rfl
  simp[h79,this]
 ·rw[if_neg e]
  have:(pend.erase i).contains j=pend.contains j:=by
   rw[Bool.eq_iff_iff];simp only[List.contains_iff_mem];rw[hn.mem_erase_iff];exact⟨fun h=>h.2,fun h=>⟨fun q=>e q.symm,h⟩⟩
  rw[this]
theorem fops_ins:((List.range 26).map fun j=>((fopF Tryz.f52)[3*j+3]?).map fun o=>(o.dst,o.guard,o.op,o.after.toList.map fun e=>e.on))=(List.range 26).map fun j=>some (none,none,Op.insert 111 (.tmp 1) (.tmp (2*j+2)) (.tmp (2*j+3)),[0,3*j+1,3*j+2]):=by kernel_rfl
theorem fops_79:(((fopF Tryz.f52)[79]?).map fun o=>(o.dst,o.guard,o.op,o.after.toList.map fun e=>(e.on,Region.binds .any e)))=some (some 54,none,Op.move (.tmp 1),(List.range 79).map fun i=>(i,true)):=by kernel_rfl
theorem fops_80:(((fopF Tryz.f52)[80]?).map fun o=>(o.dst,o.guard,o.op,o.after.toList.head?.map fun e=>(e.on,Region.binds .any e)))=some (some 0,none,Op.assign (.tmp 54),some (79,true)):=by kernel_rfl
theorem fops_size:(fopF Tryz.f52).size=81:=by kernel_rfl
theorem fops_at{j:Nat}(h:j<26):∃o,(fopF Tryz.f52)[3*j+3]?=some o/\o.dst=none/\o.guard=none/\o.op=Op.insert 111 (.tmp 1) (.tmp (2*j+2)) (.tmp (2*j+3))/\(o.after.toList.map fun e=>e.on)=[0,3*j+1,3*j+2]:=by
 have h1:=congrArg (fun l:List _=>l[j]?) fops_ins;simp only[List.getElem?_map,List.getElem?_range h,Option.map_some,Option.some.injEq]at h1;rcases ho:(fopF Tryz.f52)[3*j+3]? with _|o
 ·rw[ho]at h1;cases h1
 ·rw[ho]at h1
  simp only[Option.map_some,Option.some.injEq,Prod.mk.injEq]at h1;exact⟨o,rfl,h1.1,h1.2.1,h1.2.2.1,h1.2.2.2⟩
theorem ready_pend{pend:List Nat}{i:Nat}(hp:pend≠[])(hall:∀i∈pend,∃j,j<26/\i=3*j+3)(hi:i∈Region.ready .any (fopF Tryz.f52) (lst pend)):i∈pend:=by
 unfold Region.ready at hi;rw[List.mem_filter,List.mem_range,fops_size]at hi;obtain⟨h81,hi⟩:=hi;rw[Bool.and_eq_true,lst_get,if_pos h81]at hi;obtain⟨h1,h2⟩:=hi;by_cases h79:i<79
 ·simpa[h79]using h1
 ·exfalso
  obtain⟨p,pend',rfl⟩:∃p q,pend=p::q:=by cases pend with|nil=>exact absurd rfl hp|cons p q=>exact⟨p,q,rfl⟩
  have hp1:p<79:=by obtain⟨j,hj,rfl⟩:=hall p (by simp);omega
  obtain rfl|rfl:i=79∨i=80:=by omega
  ·have hf:=fops_79
   rcases ho:(fopF Tryz.f52)[79]? with _|o
   ·rw[ho]at hf;cases hf
   ·rw[ho]at hf h2
    simp only[Option.map_some,Option.some.injEq,Prod.mk.injEq,Option.getD_some]at hf h2;have hm:(p,true)∈o.after.toList.map fun e=>(e.on,Region.binds .any e):=by rw[hf.2.2.2];exact List.mem_map.2 ⟨p,List.mem_range.2 hp1,rfl⟩
    obtain⟨e,he,hee⟩:=List.mem_map.1 hm;simp only[Prod.mk.injEq]at hee;have:=Array.all_eq_true_iff_forall_mem.1 h2 e (by simpa using he);rw[hee.2,hee.1,lst_get,if_pos (by omega)]at this;simp at this
  ·have hf:=fops_80
   rcases ho:(fopF Tryz.f52)[80]? with _|o
   ·rw[ho]at hf;cases hf
   ·rw[ho]at hf h2
    simp only[Option.map_some,Option.some.injEq,Prod.mk.injEq,Option.getD_some]at hf h2;rcases hl:o.after.toList with _|⟨e,l⟩
    ·rw[hl]at hf;simp at hf
    ·rw[hl]at hf
     simp only[List.head?_cons,Option.map_some,Option.some.injEq,Prod.mk.injEq]at hf;have:=Array.all_eq_true_iff_forall_mem.1 h2 e (by rw[<-Array.mem_toList_iff,hl];simp);rw[hf.2.2.2.2,hf.2.2.2.1,lst_get,if_pos (by omega)]at this;simp at this
theorem ready_some{pend:List Nat}{p:Nat}(hp:p∈pend)(hall:∀i∈pend,∃j,j<26/\i=3*j+3):p∈Region.ready .any (fopF Tryz.f52) (lst pend):=by
 obtain⟨j,hj,rfl⟩:=hall p hp;obtain⟨o,ho,_,_,_,haf⟩:=fops_at hj;unfold Region.ready;rw[List.mem_filter,List.mem_range,fops_size];refine⟨by omega,?_⟩;rw[Bool.and_eq_true,lst_get,if_pos (by omega),ho];refine⟨by simp[hp],?_⟩;simp only[Option.map_some,Option.getD_some];rw[Array.all_eq_true_iff_forall_mem];intro e he;have hm:e.on∈[0,3*j+1,3*j+2]:=by rw[<-haf];exact List.mem_map.2 ⟨e,by simpa using he,rfl⟩
 have hne:e.on∉pend:=fun hq=>by
  obtain⟨k,_,hk⟩:=hall _ hq;simp only[List.mem_cons,List.mem_nil_iff,or_false]at hm;omega
 have hlt:e.on<79:=by
  simp only[List.mem_cons,List.mem_nil_iff,or_false]at hm;omega
 rw[lst_get,if_pos (by omega)];simp[hne,hlt]
theorem ready_79:Region.ready .any (fopF Tryz.f52) (lst [])=[79]:=by kernel_rfl
theorem ready_80:Region.ready .any (fopF Tryz.f52) ((lst []).setIfInBounds 79 true)=[80]:=by kernel_rfl
theorem ready_81:Region.ready .any (fopF Tryz.f52) (((lst []).setIfInBounds 79 true).setIfInBounds 80 true)=[]:=by kernel_rfl
theorem fill_end{Q:Exit->Act->World->Prop}(a:Act)(w:World)(v:Value)(ha:a.tmps.size=55)(hv:a.eval (.tmp 1)=v)(hq:Q .normal ((a.put (some 54) v).put (some 0) v) w):
 wpAnyH Tryz.prog .any (fopF Tryz.f52) Q (fun _=>True) 2 (lst []) a w:=by
 refine wpAnyH_all ready_79 (by simp) fun i hi=>?_
 obtain rfl:i=79:=by simpa using hi
 have hf:=fops_79;rcases ho:(fopF Tryz.f52)[79]? with _|o
 ·rw[ho]at hf;cases hf
 rw[ho]at hf;simp only[Option.map_some,Option.some.injEq,Prod.mk.injEq]at hf;refine wpOp_step ho fun K' hK=>?_
 rw[if_pos (by unfold Region.wanted;rw[hf.2.1])];unfold Oper.wp;simp[execOp,hf.2.2.1,hv,Oper.upon];refine hK _ _ ⟨trivial,?_⟩;rw[hf.1];refine wpAnyH_all ready_80 (by simp) fun i hi=>?_
 obtain rfl:i=80:=by simpa using hi
 have hg:=fops_80;rcases hp:(fopF Tryz.f52)[80]? with _|o'
 ·rw[hp]at hg;cases hg
 rw[hp]at hg;simp only[Option.map_some,Option.some.injEq,Prod.mk.injEq]at hg;have hv':(a.put (some 54) v).eval (.tmp 54)=v:=by
  unfold Act.put Act.eval;simp[Array.getD_eq_getD_getElem?,ha]
 refine wpOp_step hp fun K' hK=>?_
 rw[if_pos (by unfold Region.wanted;rw[hg.2.1])];unfold Oper.wp;simp[execOp,hg.2.2.1,hv',Oper.upon];refine hK _ _ ⟨trivial,?_⟩;rw[hg.1];exact wpAnyH_done ready_81 hq _
def FJ(w0:World)(mb:Nat)(pend:List Nat)(w:World):Prop:=
 ∃done,FM w mb (26-pend.length) done/\(∀y∈done,y∈formL)/\(∀j x,formL[j]?=some x->3*j+3∉pend->x∈done)/\Below mb w0 w/\mb<w.heap.size
theorem fill_any{Q:Exit->Act->World->Prop}(a:Act)(w0:World)(mb:Nat)(ha:a.tmps.size=55)(hm:a.eval (.tmp 1)=.map (some mb))
 (hk:((List.range 26).map fun j=>a.eval (.tmp (2*j+2)))=formL.map kvK)(he:((List.range 26).map fun j=>a.eval (.tmp (2*j+3)))=formL.map kvE)
 (hq:∀w,FJ w0 mb [] w->Q .normal ((a.put (some 54) (.map (some mb))).put (some 0) (.map (some mb))) w):
 ∀(n:Nat)(pend:List Nat)(w:World),pend.length=n->n<=26->pend.Nodup->(∀i∈pend,∃j,j<26/\i=3*j+3)->FJ w0 mb pend w->wpAnyH Tryz.prog .any (fopF Tryz.f52) Q (fun _=>True) (n+2) (lst pend) a w
 |0,pend,w,hl,_,_,_,hJ=>by
  obtain rfl:pend=[]:=List.length_eq_zero_iff.1 hl;exact fill_end a w _ ha hm (hq w hJ)
 |n+1,pend,w,hl,hn26,hnd,hall,hJ=>by
  have hne:pend≠[]:=by rintro rfl;simp at hl
  have hrs:Region.ready .any (fopF Tryz.f52) (lst pend)≠[]:=by
   obtain⟨p,q,rfl⟩:∃p q,pend=p::q:=by cases pend with|nil=>exact absurd rfl hne|cons p q=>exact⟨p,q,rfl⟩
   intro h0;have:=ready_some (p:=p) (by simp) hall;rw[h0]at this;cases this
  refine wpAnyH_all rfl hrs fun i hi=>?_
  have hip:=ready_pend hne hall hi;obtain⟨j,hj,rfl⟩:=hall i hip;obtain⟨o,ho,hd,hg,hop,_⟩:=fops_at hj;have h26:formL.length=26:=rfl;obtain⟨x,hx⟩:∃x,formL[j]?=some x:=⟨_,List.getElem?_eq_getElem (by omega)⟩
  have hxm:x∈formL:=List.mem_of_getElem? hx;have k1:a.eval (.tmp (2*j+2))=kvK x:=by
   have:=congrArg (fun l:List Value=>l[j]?) hk;simpa[List.getElem?_range hj,hx]using this
  have e1:a.eval (.tmp (2*j+3))=kvE x:=by
   have:=congrArg (fun l:List Value=>l[j]?) he;simpa[List.getElem?_range hj,hx]using this
  obtain⟨done,f1,f2,f3,f4,f5⟩:=hJ;obtain⟨w',hrun,hF,hgr⟩:=f1.insert f2 hxm (by omega);refine wpOp_step ho fun K' hK=>?_
  rw[if_pos (by unfold Region.wanted;rw[hg])];unfold Oper.wp;simp[execOp,hop,hm,k1,e1,hrun,Result.andThen];refine hK _ _ ⟨trivial,?_⟩;rw[hd,lst_set hnd (by omega)];have hl':(pend.erase (3*j+3)).length=n:=by rw[List.length_erase_of_mem hip];omega
  refine fill_any a w0 mb ha hm hk he hq n _ w' hl' (by omega) (hnd.erase _) (fun i hi=>hall i (List.mem_of_mem_erase hi)) ⟨x::done,?_,?_,?_,f4.grown hgr (by omega) (by intro k hk;cases hk;exact Nat.le_refl _),?_⟩
  ·rw[hl']
   have:26-pend.length+1=26-n:=by omega
   rw[<-this];exact hF
  ·intro y hy
   rcases List.mem_cons.1 hy with rfl|hy
   ·exact hxm
   ·exact f2 y hy
  ·intro j' x' hx' hn'
   by_cases e:j'=j
   ·subst e
    rw[hx]at hx';cases hx';simp
   ·refine List.mem_cons_of_mem _ (f3 j' x' hx' fun hq=>hn' (hnd.mem_erase_iff.2 ⟨by omega,hq⟩))
  ·exact Nat.lt_of_lt_of_le f5 hgr.size
end Go.Proofs.YtiphbmhoifggiaaGreatDoor
