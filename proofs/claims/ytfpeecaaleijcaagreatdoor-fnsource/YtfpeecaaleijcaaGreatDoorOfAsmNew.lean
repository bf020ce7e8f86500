import Derived.Test.YtfpeecaaleijcaaGreatDoorOfAsmForm
import Derived.Maps.Own
import Derived.Maps.Views
import Derived.DeepKeys4
import Derived.Test.YtfpeecaaleijcaaGreatDoorOfCl
import Derived.Lib.AppendStr
import Derived.Lib.LaidTab
set_option maxHeartbeats 8000000
set_option maxRecDepth 20000
namespace Go.Proofs.YtfpeecaaleijcaaGreatDoor
open Go.RowKit
variable {a:Act}{ops:Array Oper}{Q:Exit->Act->World->Prop}{pend:List Nat}{fuel i mb ob:Nat}{P:Program}{md:Region.Mode}{v:Value}{w:World}
theorem cK:laidOutB Tryz.prog=true:=by kernel_rfl
theorem LU:Maps.Keyed Tryz.prog 149:=
 Maps.Keyed.of_law (deep_law_laid cK (m:=3) (by omega) (of_decide_eq_true (by kernel_rfl)) (by kernel_rfl) (by kernel_rfl))
def Yx(x:Int×Int×ByteArray):Value:=.agg #[.int .i64 x.1,.int .i64 x.2.1]
def gM(x:Int×Int×ByteArray):Value:=.agg #[.string x.2.2]
def eD(P:Program)(x:Int×Int×ByteArray):Lit:=(keyOf P 149 (Yx x)).getD (.bool false)
theorem ZQ:(Du.all fun x=>(keyOf Tryz.prog 149 (Yx x)).isSome)=true:=by kernel_rfl
theorem Mg{x:Int×Int×ByteArray}(h:x∈Du):keyOf Tryz.prog 149 (Yx x)=some (eD Tryz.prog x):=by
 have h1:=List.all_eq_true.1 ZQ x h;obtain⟨l,hl⟩:=Option.isSome_iff_exists.1 h1;unfold eD;rw[hl];rfl
def VU:Value->Option (DataW Unit×List MemPlace)
 |.agg ⟨[.string s]⟩=>some (.lit (.string s.data.toList),[])
 |_=>none
theorem WU{s:ByteArray}{ps:List MemPlace}(h:VU v=some (.lit (.string s.data.toList),ps)):v=.agg #[.string s]:=by
 unfold VU at h;split at h
 ·rename_i s'
  simp only[Option.some.injEq,Prod.mk.injEq,DataW.lit.injEq,Lit.string.injEq]at h;have e:s'=s:=by
   obtain⟨⟨a⟩⟩:=s;obtain⟨⟨b⟩⟩:=s';simp at h;rw[h.1]
  rw[e]
 ·cases h
def iQ:DataW Unit:=.lit (.string [])
def FM(w:World)(mb n:Nat)(done:List (Int×Int×ByteArray)):Prop:=
 ∃D,w.ownsMap Tryz.prog 149 VU mb n D/\Maps.IsMap D/\∀x∈done,D.atKey (eD Tryz.prog x) iQ=.lit (.string x.2.2.data.toList)
theorem Rp:∀x∈Du,∀y∈Du,x.1=y.1->x.2.1=y.2.1->x.2.2=y.2.2:=by decide
theorem Zn{x y:Int×Int×ByteArray}(h:Yx x=Yx y):x.1=y.1/\x.2.1=y.2.1:=by
 unfold Yx at h;simpa using h
theorem FM.insert{n:Nat}{done:List (Int×Int×ByteArray)}(h:FM w mb n done)(hd:∀y∈done,y∈Du){x:Int×Int×ByteArray}(hx:x∈Du)(hn:n<100):
 ∃w',(Instr.mapUpdate 105 (.map (some mb)) (Yx x) (gM x)).run Tryz.prog w=.ok () w'/\FM w' mb (n+1) (x::done)/\w.grownBy w' (some mb):=by
 obtain⟨D,h1,h2,h3⟩:=h;have hn':n<maxLen:=by unfold maxLen;omega
 obtain⟨w',r1,r2,r3⟩:=h1.update LU (t:=105) (e:=151) (by kernel_rfl) hn' (val:=gM x) (d:=.lit (.string x.2.2.data.toList)) (ps:=[]) (Mg hx) rfl;refine⟨w',r1,⟨_,r2,?_,fun y hy=>?_⟩,r3⟩
 ·obtain⟨es,rfl⟩:=h2
  exact⟨_,rfl⟩
 ·by_cases e:eD Tryz.prog y=eD Tryz.prog x
  ·have hy':y∈Du:=by
    rcases List.mem_cons.1 hy with rfl|hy
    ·exact hx
    ·exact hd y hy
   have k1:=Mg hy';rw[e]at k1;obtain⟨e1,e2⟩:=Zn (LU.inj k1 (Mg hx));have k2:=Mg hx;rw[e];generalize eD Tryz.prog x=kx at k2⊢;rw[Maps.atKey_put_same h2 (LU.key k2),Rp y hy' x hx e1 e2]
  ·rw[Maps.atKey_put_other e]
   rcases List.mem_cons.1 hy with rfl|hy
   ·exact absurd rfl e
   ·exact h3 y hy
theorem FM.forms{n:Nat}{done:List (Int×Int×ByteArray)}(h:FM w mb n done)(hd:∀y∈Du,y∈done):GN w mb:=by
 obtain⟨D,h1,h2,h3⟩:=h;obtain⟨es,clock,hb,F,hs,hD⟩:=h1;refine⟨_,hb,fun w' hw d hh hany=>?_⟩;have h1':w'.ownsMap Tryz.prog 149 VU mb n D:=⟨es,clock,hw,F,hs,hD⟩
 have hz:(zeroValue 151).run Tryz.prog w'=.ok (.agg #[.string ⟨#[]⟩]) w':=by kernel_rfl
 obtain⟨x,hx⟩:∃x,(Du.find? fun x=>x.1==d&&x.2.1==hh)=some x:=by
  rcases hf:Du.find? fun x=>x.1==d&&x.2.1==hh with _|x
  ·rw[List.find?_eq_none]at hf
   obtain⟨y,hy,hy2⟩:=List.any_eq_true.1 hany;exact absurd hy2 (hf y hy)
  ·exact⟨x,hf⟩
 have hxm:=List.mem_of_find?_eq_some hx;have hxp:=List.find?_some hx;simp only[Bool.and_eq_true,beq_iff_eq]at hxp;have ek:Value.agg #[.int .i64 d,.int .i64 hh]=Yx x:=by unfold Yx;rw[hxp.1,hxp.2]
 obtain⟨v,ps,r1,r2⟩:=h1'.lookup LU (t:=105) (e:=151) (by kernel_rfl) hz (zd:=iQ) (zp:=[]) rfl (Mg hxm);rw[h3 x (hd x hxm)]at r2;rw[ek,r1,WU r2];unfold Kc;rw[hx];rfl
def Gc(f:Func):Array Oper:=match f.body with|some (.seq _ (.seq (.region _ o _) _))=>o|_=>#[]
def Qn(pend:List Nat):Array Bool:=((List.range 81).map fun i=>decide (i<79)&&!pend.contains i).toArray
theorem Wz(pend:List Nat)(j:Nat):(Qn pend)[j]?=if j<81 then some (decide (j<79)&&!pend.contains j)else none:=by
 unfold Qn;by_cases h:j<81
 ·rw[if_pos h];simp[h]
 ·rw[if_neg h];simp;omega
theorem J6(pend:List Nat)(j:Nat)(d:Bool):(Qn pend).getD j d=if j<81 then(decide (j<79)&&!pend.contains j)else d:=by
 rw[Array.getD_eq_getD_getElem?,Wz];by_cases h:j<81
 ·rw[if_pos h,if_pos h];rfl
 ·rw[if_neg h,if_neg h];rfl
theorem aY(hn:pend.Nodup)(h79:i<79):(Qn pend).setIfInBounds i true=Qn (pend.erase i):=by
 apply Array.ext_getElem?;intro j;rw[Array.getElem?_setIfInBounds,Wz,Wz];have hs:(Qn pend).size=81:=by simp[Qn]
 by_cases e:i=j
 ·subst e
  rw[if_pos rfl,if_pos (by omega),if_pos (by omega)];have:i∉pend.erase i:=fun h=>(hn.mem_erase_iff.1 h).1 rfl
  simp[h79,this]
 ·rw[if_neg e]
  have:(pend.erase i).contains j=pend.contains j:=by
   rw[Bool.eq_iff_iff];simp only[List.contains_iff_mem];rw[hn.mem_erase_iff];exact⟨fun h=>h.2,fun h=>⟨fun q=>e q.symm,h⟩⟩
  rw[this]
theorem Wy:((List.range 26).map fun j=>((Gc Tryz.f42)[3*j+3]?).map fun o=>(o.dst,o.guard,o.op,o.after.toList.map fun e=>e.on))=(List.range 26).map fun j=>some (none,none,Op.insert 105 (.tmp 1) (.tmp (2*j+2)) (.tmp (2*j+3)),[0,3*j+1,3*j+2]):=by kernel_rfl
theorem Vf:(((Gc Tryz.f42)[79]?).map fun o=>(o.dst,o.guard,o.op,o.after.toList.map fun e=>(e.on,Region.binds .any e)))=some (some 54,none,Op.move (.tmp 1),(List.range 79).map fun i=>(i,true)):=by kernel_rfl
theorem VE:(((Gc Tryz.f42)[80]?).map fun o=>(o.dst,o.guard,o.op,o.after.toList.head?.map fun e=>(e.on,Region.binds .any e)))=some (some 0,none,Op.assign (.tmp 54),some (79,true)):=by kernel_rfl
theorem OL:(Gc Tryz.f42).size=81:=by kernel_rfl
theorem VO{j:Nat}(h:j<26):∃o,(Gc Tryz.f42)[3*j+3]?=some o/\o.dst=none/\o.guard=none/\o.op=Op.insert 105 (.tmp 1) (.tmp (2*j+2)) (.tmp (2*j+3))/\(o.after.toList.map fun e=>e.on)=[0,3*j+1,3*j+2]:=by
 have h1:=congrArg (fun l:List _=>l[j]?) Wy;simp only[List.getElem?_map,List.getElem?_range h,Option.map_some,Option.some.injEq]at h1;rcases ho:(Gc Tryz.f42)[3*j+3]? with _|o
 ·rw[ho]at h1;cases h1
 ·rw[ho]at h1
  simp only[Option.map_some,Option.some.injEq,Prod.mk.injEq]at h1;exact⟨o,rfl,h1.1,h1.2.1,h1.2.2.1,h1.2.2.2⟩
theorem Uh(hp:pend≠[])(hall:∀i∈pend,∃j,j<26/\i=3*j+3)(hi:i∈Region.ready .any (Gc Tryz.f42) (Qn pend)):i∈pend:=by
 unfold Region.ready at hi;rw[List.mem_filter,List.mem_range,OL]at hi;obtain⟨h81,hi⟩:=hi;rw[Bool.and_eq_true,J6,if_pos h81]at hi;obtain⟨h1,h2⟩:=hi;by_cases h79:i<79
 ·simpa[h79]using h1
 ·exfalso
  obtain⟨p,pend',rfl⟩:∃p q,pend=p::q:=by cases pend with|nil=>exact absurd rfl hp|cons p q=>exact⟨p,q,rfl⟩
  have hp1:p<79:=by obtain⟨j,hj,rfl⟩:=hall p (by simp);omega
  obtain rfl|rfl:i=79∨i=80:=by omega
  ·have hf:=Vf
   rcases ho:(Gc Tryz.f42)[79]? with _|o
   ·rw[ho]at hf;cases hf
   ·rw[ho]at hf h2
    simp only[Option.map_some,Option.some.injEq,Prod.mk.injEq,Option.getD_some]at hf h2;have hm:(p,true)∈o.after.toList.map fun e=>(e.on,Region.binds .any e):=by rw[hf.2.2.2];exact List.mem_map.2 ⟨p,List.mem_range.2 hp1,rfl⟩
    obtain⟨e,he,hee⟩:=List.mem_map.1 hm;simp only[Prod.mk.injEq]at hee;have:=Array.all_eq_true_iff_forall_mem.1 h2 e (by simpa using he);rw[hee.2,hee.1,J6,if_pos (by omega)]at this;simp at this
  ·have hf:=VE
   rcases ho:(Gc Tryz.f42)[80]? with _|o
   ·rw[ho]at hf;cases hf
   ·rw[ho]at hf h2
    simp only[Option.map_some,Option.some.injEq,Prod.mk.injEq,Option.getD_some]at hf h2;rcases hl:o.after.toList with _|⟨e,l⟩
    ·rw[hl]at hf;simp at hf
    ·rw[hl]at hf
     simp only[List.head?_cons,Option.map_some,Option.some.injEq,Prod.mk.injEq]at hf;have:=Array.all_eq_true_iff_forall_mem.1 h2 e (by rw[<-Array.mem_toList_iff,hl];simp);rw[hf.2.2.2.2,hf.2.2.2.1,J6,if_pos (by omega)]at this;simp at this
theorem Td{p:Nat}(hp:p∈pend)(hall:∀i∈pend,∃j,j<26/\i=3*j+3):p∈Region.ready .any (Gc Tryz.f42) (Qn pend):=by
 obtain⟨j,hj,rfl⟩:=hall p hp;obtain⟨o,ho,_,_,_,haf⟩:=VO hj;unfold Region.ready;rw[List.mem_filter,List.mem_range,OL];refine⟨by omega,?_⟩;rw[Bool.and_eq_true,J6,if_pos (by omega),ho];refine⟨by simp[hp],?_⟩;simp only[Option.map_some,Option.getD_some];rw[Array.all_eq_true_iff_forall_mem];intro e he;have hm:e.on∈[0,3*j+1,3*j+2]:=by rw[<-haf];exact List.mem_map.2 ⟨e,by simpa using he,rfl⟩
 have hne:e.on∉pend:=fun hq=>by
  obtain⟨k,_,hk⟩:=hall _ hq;simp only[List.mem_cons,List.mem_nil_iff,or_false]at hm;omega
 have hlt:e.on<79:=by
  simp only[List.mem_cons,List.mem_nil_iff,or_false]at hm;omega
 rw[J6,if_pos (by omega)];simp[hne,hlt]
theorem Y0:Region.ready .any (Gc Tryz.f42) (Qn [])=[79]:=by kernel_rfl
theorem Xg:Region.ready .any (Gc Tryz.f42) ((Qn []).setIfInBounds 79 true)=[80]:=by kernel_rfl
theorem Yw:Region.ready .any (Gc Tryz.f42) (((Qn []).setIfInBounds 79 true).setIfInBounds 80 true)=[]:=by kernel_rfl
theorem YZ(a:Act)(w:World)(v:Value)(ha:a.tmps.size=55)(hv:a.eval (.tmp 1)=v)(hq:Q .normal ((a.put (some 54) v).put (some 0) v) w):
 wpAnyH Tryz.prog .any (Gc Tryz.f42) Q (fun _=>True) 2 (Qn []) a w:=by
 refine wpAnyH_all Y0 (by simp) fun i hi=>?_
 obtain rfl:i=79:=by simpa using hi
 have hf:=Vf;rcases ho:(Gc Tryz.f42)[79]? with _|o
 ·rw[ho]at hf;cases hf
 rw[ho]at hf;simp only[Option.map_some,Option.some.injEq,Prod.mk.injEq]at hf;refine wpOp_step ho fun K' hK=>?_
 rw[if_pos (by unfold Region.wanted;rw[hf.2.1])];unfold Oper.wp;simp[execOp,hf.2.2.1,hv,Oper.upon];refine hK _ _ ⟨trivial,?_⟩;rw[hf.1];refine wpAnyH_all Xg (by simp) fun i hi=>?_
 obtain rfl:i=80:=by simpa using hi
 have hg:=VE;rcases hp:(Gc Tryz.f42)[80]? with _|o'
 ·rw[hp]at hg;cases hg
 rw[hp]at hg;simp only[Option.map_some,Option.some.injEq,Prod.mk.injEq]at hg;have hv':(a.put (some 54) v).eval (.tmp 54)=v:=by
  unfold Act.put Act.eval;simp[Array.getD_eq_getD_getElem?,ha]
 refine wpOp_step hp fun K' hK=>?_
 rw[if_pos (by unfold Region.wanted;rw[hg.2.1])];unfold Oper.wp;simp[execOp,hg.2.2.1,hv',Oper.upon];refine hK _ _ ⟨trivial,?_⟩;rw[hg.1];exact wpAnyH_done Yw hq _
def FJ(w0:World)(mb:Nat)(pend:List Nat)(w:World):Prop:=
 ∃done,FM w mb (26-pend.length) done/\(∀y∈done,y∈Du)/\(∀j x,Du[j]?=some x->3*j+3∉pend->x∈done)/\Below mb w0 w/\mb<w.heap.size
theorem Ri(a:Act)(w0:World)(mb:Nat)(ha:a.tmps.size=55)(hm:a.eval (.tmp 1)=.map (some mb))
 (hk:((List.range 26).map fun j=>a.eval (.tmp (2*j+2)))=Du.map Yx)(he:((List.range 26).map fun j=>a.eval (.tmp (2*j+3)))=Du.map gM)
 (hq:∀w,FJ w0 mb [] w->Q .normal ((a.put (some 54) (.map (some mb))).put (some 0) (.map (some mb))) w):
 ∀(n:Nat)(pend:List Nat)(w:World),pend.length=n->n<=26->pend.Nodup->(∀i∈pend,∃j,j<26/\i=3*j+3)->FJ w0 mb pend w->wpAnyH Tryz.prog .any (Gc Tryz.f42) Q (fun _=>True) (n+2) (Qn pend) a w
 |0,pend,w,hl,_,_,_,hJ=>by
  obtain rfl:pend=[]:=List.length_eq_zero_iff.1 hl;exact YZ a w _ ha hm (hq w hJ)
 |n+1,pend,w,hl,hn26,hnd,hall,hJ=>by
  have hne:pend≠[]:=by rintro rfl;simp at hl
  have hrs:Region.ready .any (Gc Tryz.f42) (Qn pend)≠[]:=by
   obtain⟨p,q,rfl⟩:∃p q,pend=p::q:=by cases pend with|nil=>exact absurd rfl hne|cons p q=>exact⟨p,q,rfl⟩
   intro h0;have:=Td (p:=p) (by simp) hall;rw[h0]at this;cases this
  refine wpAnyH_all rfl hrs fun i hi=>?_
  have hip:=Uh hne hall hi;obtain⟨j,hj,rfl⟩:=hall i hip;obtain⟨o,ho,hd,hg,hop,_⟩:=VO hj;have h26:Du.length=26:=rfl;obtain⟨x,hx⟩:∃x,Du[j]?=some x:=⟨_,List.getElem?_eq_getElem (by omega)⟩
  have hxm:=List.mem_of_getElem? hx;have k1:a.eval (.tmp (2*j+2))=Yx x:=by
   have:=congrArg (fun l:List Value=>l[j]?) hk;simpa[List.getElem?_range hj,hx]using this
  have e1:a.eval (.tmp (2*j+3))=gM x:=by
   have:=congrArg (fun l:List Value=>l[j]?) he;simpa[List.getElem?_range hj,hx]using this
  obtain⟨done,f1,f2,f3,f4,f5⟩:=hJ;obtain⟨w',hrun,hF,hgr⟩:=f1.insert f2 hxm (by omega);refine wpOp_step ho fun K' hK=>?_
  rw[if_pos (by unfold Region.wanted;rw[hg])];unfold Oper.wp;simp[execOp,hop,hm,k1,e1,hrun,Result.andThen];refine hK _ _ ⟨trivial,?_⟩;rw[hd,aY hnd (by omega)];have hl':(pend.erase (3*j+3)).length=n:=by rw[List.length_erase_of_mem hip];omega
  refine Ri a w0 mb ha hm hk he hq n _ w' hl' (by omega) (hnd.erase _) (fun i hi=>hall i (List.mem_of_mem_erase hi)) ⟨x::done,?_,?_,?_,f4.grown hgr (by omega) (by intro k hk;cases hk;exact Nat.le_refl _),?_⟩
  ·rw[hl']
   have:26-pend.length+1=26-n:=by omega
   rw[<-this];exact hF
  ·intro y hy
   rcases List.mem_cons.1 hy with rfl|hy
   ·exact hxm
   ·exact f2 y hy
  ·intro j' x' hx' hn'
   by_cases e:j'=j
   ·subst e
    rw[hx]at hx';cases hx';simp
   ·refine List.mem_cons_of_mem _ (f3 j' x' hx' fun hq=>hn' (hnd.mem_erase_iff.2 ⟨by omega,hq⟩))
  ·exact Nat.lt_of_lt_of_le f5 hgr.size
theorem jF{T:World->Prop}(i:Nat){oi:Oper}{listed:Array Bool}{a':Act}(hi:ops[i]?=some oi)(h:wpAnyH P md ops Q T fuel (listed.setIfInBounds i true) a' w)
 (hy:∀w,T w->(execOp a.eval oi).run P w=.ok (.value v) w:=by(intro w hSw;(try dsimp only at hSw);go_simp;try with_reducible rfl))
 (ha:a.put oi.dst v=a':=by((try simp only[Act.put,List.getElem_toArray]);rfl))
 (hw:Region.wanted oi (yielded ops a.tmps)=true:=by kernel_rfl)(hs:Region.noSelect ops=true:=by kernel_rfl)(hf:Region.free md ops listed i=true:=by kernel_rfl)(hr:(Region.ready md ops listed).contains i=true:=by kernel_rfl)
 (hQ:∀c a w,Q (.panic c) (a.put oi.dst v) w->Q (.panic c) a w:=by exact fun _ _ _ h=>h)(hS:T w:=by assumption):wpAnyH P md ops Q T (fuel+1) listed a w:=by
 subst ha;exact Ad i v hi hy h hw hs hf hr hQ hS
theorem Vk{ops':Array Oper}{S:World->Prop}{fuel':Nat}{l l':Array Bool}(ho:ops=ops')(hl:l=l')(hf:fuel=fuel')(h:wpAnyH P md ops' Q S fuel' l' a w):wpAnyH P md ops Q S fuel l a w:=by
 rw[ho,hl,hf];exact h
def YQ:List Nat:=(List.range 26).map fun j=>3*j+3
theorem Nw(w:World):
 Calls Tryz.prog 42 #[] w fun e w'=>e=.returned (.map (some w.heap.size))/\Below w.heap.size w w'/\w.heap.size<w'.heap.size/\GN w' w.heap.size:=by
 go_enter Tryz.func42,Tryz.ntmps42;go_upto_region 1 with fail;refine wp_region_held_drew (S:=fun _=>True) (by kernel_rfl) trivial (fun _=>?_);refine Ad 1 ?k1v rfl ?k1y ?k1r
 case k1y=>(intro w hSw;(try dsimp only at hSw);go_simp;try with_reducible rfl)
 try simp only[Act.put,List.getElem_toArray,List.setIfInBounds_toArray]
 refine jF 2 rfl ?_;refine jF 4 rfl ?_;refine jF 5 rfl ?_;refine jF 7 rfl ?_;refine jF 8 rfl ?_;refine jF 10 rfl ?_;refine jF 11 rfl ?_;refine jF 13 rfl ?_;refine jF 14 rfl ?_;refine jF 16 rfl ?_;refine jF 17 rfl ?_;refine jF 19 rfl ?_;refine jF 20 rfl ?_;refine jF 22 rfl ?_;refine jF 23 rfl ?_;refine jF 25 rfl ?_;refine jF 26 rfl ?_;refine jF 28 rfl ?_;refine jF 29 rfl ?_;refine jF 31 rfl ?_;refine jF 32 rfl ?_;refine jF 34 rfl ?_;refine jF 35 rfl ?_;refine jF 37 rfl ?_;refine jF 38 rfl ?_;refine jF 40 rfl ?_;refine jF 41 rfl ?_;refine jF 43 rfl ?_;refine jF 44 rfl ?_;refine jF 46 rfl ?_;refine jF 47 rfl ?_;refine jF 49 rfl ?_;refine jF 50 rfl ?_;refine jF 52 rfl ?_;refine jF 53 rfl ?_;refine jF 55 rfl ?_;refine jF 56 rfl ?_;refine jF 58 rfl ?_;refine jF 59 rfl ?_;refine jF 61 rfl ?_;refine jF 62 rfl ?_;refine jF 64 rfl ?_;refine jF 65 rfl ?_;refine jF 67 rfl ?_;refine jF 68 rfl ?_;refine jF 70 rfl ?_;refine jF 71 rfl ?_;refine jF 73 rfl ?_;refine jF 74 rfl ?_;refine jF 76 rfl ?_;refine jF 77 rfl ?_;refine AO 0 rfl (fun KK hK=>?_);go_simp;rw[run_makeMap];show KK _ _;refine hK.out _ _ trivial (fun _=>?_);clear hK KK;refine Vk (ops':=(Gc Tryz.f42)) (l':=Qn YQ) (fuel':=26+2) (by kernel_rfl) (by kernel_rfl) (by kernel_rfl) ?_;refine Ri _ w w.heap.size (by kernel_rfl) (by kernel_rfl) (by kernel_rfl) (by kernel_rfl) ?_ 26 YQ _ (by rfl) (by omega) (by decide) ?_ ?_
 ·intro w' hJ
  obtain⟨done,f1,_,f3,f4,f5⟩:=hJ;simp only[Act.put,List.setIfInBounds_toArray,List.set_cons_zero,List.set_cons_succ];go_wp2_with fail;go_ret;refine⟨rfl,f4,f5,f1.forms fun y hy=>?_⟩;obtain⟨j,hj⟩:=List.mem_iff_getElem?.1 hy;exact f3 j y hj (by simp)
 ·intro i hi
  obtain⟨j,hj,rfl⟩:=List.mem_map.1 hi;exact⟨j,List.mem_range.1 hj,rfl⟩
 ·refine⟨[],⟨.map [],World.ownsMap_made _ _ _ _,⟨_,rfl⟩,fun x hx=>by cases hx⟩,fun y hy=>(by cases hy),fun j x hx hn=>?_,(Below.refl _ _).drew.alloc (Nat.le_refl _) _,by simp⟩
  have h26:Du.length=26:=rfl;have hj:j<26:=by
   have:=(List.getElem?_eq_some_iff.1 hx).1;omega
  exact absurd (List.mem_map.2 ⟨j,List.mem_range.2 hj,rfl⟩) hn
theorem Lr{S:World->Prop}{listed:Array Bool}{w':World}{o:Oper}(s x:Operand){ts:Array TypeId}{u v':Value}(ho:ops[i]?=some o)(hw:Region.wanted o (yielded ops a.tmps)=true)
 (hop:o.op=.call {callee:=.builtin .append,args:=#[s,x],argTypes:=ts})(hs:a.eval s=v)(hx:a.eval x=u)(hr:(Builtin.append_ ts o.type #[v,u]).run P w=.ok v' w')(hS:S w')(h:S w'->wpAnyH P md ops Q S fuel (listed.setIfInBounds i true) (a.put o.dst v') w'):AllReadyH P md ops Q S fuel listed a w [i]:=
 AllReadyH.cons ho (fun K' hK=>by
  rw[if_pos hw];unfold Oper.wp execOp;simp only[hop,resolve,invoke,builtin,Sem.run_bind,Sem.run_pure,Result.andThen_ok,List.map_toArray,List.map_cons,List.map_nil,hs,hx,hr];exact hK _ _ hS h) AllReadyH.nil
theorem VQ(d op:Int)(hd:d=0∨d=1)(h1:1<=op)(h2:op<=34):(Du.any fun x=>x.1==d&&x.2.1==Cz op)=true:=by
 obtain rfl|rfl|rfl|rfl|rfl|rfl|rfl|rfl|rfl|rfl|rfl|rfl|rfl|rfl|rfl|rfl|rfl|rfl|rfl|rfl|rfl|rfl|rfl|rfl|rfl|rfl|rfl|rfl|rfl|rfl|rfl|rfl|rfl|rfl:op=1∨op=2∨op=3∨op=4∨op=5∨op=6∨op=7∨op=8∨op=9∨op=10∨op=11∨op=12∨op=13∨op=14∨op=15∨op=16∨op=17∨op=18∨op=19∨op=20∨op=21∨op=22∨op=23∨op=24∨op=25∨op=26∨op=27∨op=28∨op=29∨op=30∨op=31∨op=32∨op=33∨op=34:=by omega
 all_goals(rcases hd with rfl|rfl<;>rfl)
theorem YG(op:Int)(h1:1<=op)(h2:op<=34):((Ld.tail.map Value.string).toArray)[(op-1).toNat]?=some (.string (J9 op)):=by
 obtain rfl|rfl|rfl|rfl|rfl|rfl|rfl|rfl|rfl|rfl|rfl|rfl|rfl|rfl|rfl|rfl|rfl|rfl|rfl|rfl|rfl|rfl|rfl|rfl|rfl|rfl|rfl|rfl|rfl|rfl|rfl|rfl|rfl|rfl:op=1∨op=2∨op=3∨op=4∨op=5∨op=6∨op=7∨op=8∨op=9∨op=10∨op=11∨op=12∨op=13∨op=14∨op=15∨op=16∨op=17∨op=18∨op=19∨op=20∨op=21∨op=22∨op=23∨op=24∨op=25∨op=26∨op=27∨op=28∨op=29∨op=30∨op=31∨op=32∨op=33∨op=34:=by omega
 all_goals rfl
theorem ZL(s:ByteArray):Lib.strCells s=Lib.byteCells s.data.toList:=rfl
theorem Vw(f:UInt8->ByteArray)(l:List UInt8):∀o:ByteArray,(CG f o l).data.toList=o.data.toList++(CG f ⟨#[]⟩ l).data.toList:=by
 induction l with
 |nil=>intro o;simp[CG]
 |cons c t ih=>
  intro o;have h1:=ih (o++f c);have h2:=ih (⟨#[]⟩++f c);show(CG f (o++f c) t).data.toList=o.data.toList++(CG f (⟨#[]⟩++f c) t).data.toList;rw[h1,h2];simp
structure IA(sb nb ob mb px:Nat)(d op dd a b i h:Int)(w:World):Prop where
 S:w.heap[sb]?=some (.cells #[Vi d,Vs nb 34 34,.map (some ob),.map (some mb)] 108)
 N:w.heap[nb]?=some (.cells (Ld.tail.map Value.string).toArray 9)
 X:w.heap[px]?=some (.cells #[Vi op,Vi dd,Vi a,Vi b,Vi i,Vi h] 87)
theorem IA.drew{sb nb px:Nat}{d op dd a b i h:Int}(t:IA sb nb ob mb px d op dd a b i h w):IA sb nb ob mb px d op dd a b i h w.drew:=⟨t.S,t.N,t.X⟩
theorem Qp(B n:Nat)(sv:Value)(l:List UInt8)(sb nb ob mb:Nat)(d op dd a b i h:Int)(w:World)(p:SC w sb nb ob mb d)(hd:d=0∨d=1)(h1:1<=op)(h2:op<=34)(hB:B<=w.heap.size)(ls:sb<B)(ln:nb<B)(lm:mb<B)(hown:w.ownsRow B 5 1 sv n (Lib.byteCells l))(hn:n<=90000000000000)
 (kd:dd.natAbs<1000001)(ka:a.natAbs<1000001)(kb:b.natAbs<1000001)(ki:i.natAbs<1000001)(kh:h.natAbs<1000001)(htab:Lib.TabBelow Tryz.prog B w "internal/strconv.uint64pow10" .u64 Lib.pow10Tab):
 Calls Tryz.prog 45 #[Vq sb,sv,.agg #[Vi op,Vi dd,Vi a,Vi b,Vi i,Vi h]] w fun e w'=>∃v' n',e=.returned v'/\w'.ownsRow B 5 1 v' n' (Lib.byteCells (l++(Fb d op dd a b i h++⟨#[10]⟩).data.toList))/\n'<=n+30000200/\Below B w w'/\Lib.OthersKept 5 none w w':=by
 have HN:=hxy hn;have HK:Hid (dd.natAbs<1000001/\a.natAbs<1000001/\b.natAbs<1000001/\i.natAbs<1000001/\h.natAbs<1000001):=⟨kd,ka,kb,ki,kh⟩
 have HT:=hxy htab;have HOW:=hxy hown;have HP:=hxy p;have HF:=hxy (VQ d op hd h1 h2);have HLS:=hxy (KJ d op dd a b i h h1 h2 hd);have HNC:=YG op h1 h2;have HNC':=hxy HNC;have hnz:=Mw op;obtain⟨iS,hi1,hi2,hi3,hi4⟩:∃i,Tryz.prog.info? 5=some i/\i.zero=some (.int .u8 0)/\i.size=1/\i.bytes=1:=by
  have:=Pq;rcases hh:Tryz.prog.info? 5 with _|i
  ·rw[hh]at this;simp at this
  ·rw[hh]at this;simp at this;exact⟨i,rfl,this⟩
 have HI:Hid (Tryz.prog.info? 5=some iS/\iS.zero=some (.int .u8 0)/\iS.size=1/\iS.bytes=1):=⟨hi1,hi2,hi3,hi4⟩
 clear hn kd ka kb ki kh htab hown p hd HNC hi1 hi2 hi3 hi4;go_enter Tryz.func45,Tryz.ntmps45;go_upto_region 1 with fail;obtain⟨u,hu,hbu,hpu⟩:∃v,w.alloc (.cells #[Vi op,Vi dd,Vi a,Vi b,Vi i,Vi h] 87)=v/\Below w.heap.size w v/\v.heap[w.heap.size]?=some (.cells #[Vi op,Vi dd,Vi a,Vi b,Vi i,Vi h] 87):=⟨_,rfl,Ak,Ai w _⟩
 rw[hu];clear hu;obtain⟨px,hpx⟩:=Ae w.heap.size;have OU:=hxy (Ed HOW.out hbu);have hbB:=hbu.mono hB;have SU:=hxy (HP.out.below hbB ls ln lm);have hBu:B<=u.heap.size:=Nat.le_trans hB hbu.size;have KWU:Hid (Lib.OthersKept 5 none w u):=FO hbu;rw[hpx]at hpu⊢;clear hpx hbu;have TU:IA sb nb ob mb px d op dd a b i h u:=⟨SU.out.S,SU.out.N,hpu⟩
 clear hpu;have r1:∀w',IA sb nb ob mb px d op dd a b i h w'->w'.cell? (Va sb 1)=some (Vs nb 34 34):=fun w' hh=>Ab hh.S 1
 have r2:∀w',IA sb nb ob mb px d op dd a b i h w'->w'.cell? ⟨nb,op.toNat-1,none⟩=some (.string (J9 op)):=fun w' hh=>(Ab hh.N _).trans (by rw[show op.toNat-1=(op-1).toNat by omega];exact HNC'.out)
 have x0:∀w',IA sb nb ob mb px d op dd a b i h w'->w'.cell? (Va px 0)=some (Vi op):=fun w' hh=>Ab hh.X 0
 have x1:∀w',IA sb nb ob mb px d op dd a b i h w'->w'.cell? (Va px 1)=some (Vi dd):=fun w' hh=>Ab hh.X 1
 have x2:∀w',IA sb nb ob mb px d op dd a b i h w'->w'.cell? (Va px 2)=some (Vi a):=fun w' hh=>Ab hh.X 2
 have x3:∀w',IA sb nb ob mb px d op dd a b i h w'->w'.cell? (Va px 3)=some (Vi b):=fun w' hh=>Ab hh.X 3
 have x4:∀w',IA sb nb ob mb px d op dd a b i h w'->w'.cell? (Va px 4)=some (Vi i):=fun w' hh=>Ab hh.X 4
 have x5:∀w',IA sb nb ob mb px d op dd a b i h w'->w'.cell? (Va px 5)=some (Vi h):=fun w' hh=>Ab hh.X 5
 have g0:0<=op-1:=by omega
 have g1:op-1<34:=by omega
 have g2:IntKind.i64.wrap (op-1)=op-1:=by rw[IntKind.wrap_i64];omega
 refine wp_region_held_drew (S:=fun w'=>IA sb nb ob mb px d op dd a b i h w') (by kernel_rfl) TU.drew (fun _=>?_);have TD:=TU.drew;refine AB 0 rfl ?_;refine AB 1 rfl ?_;refine AB 2 rfl ?_;refine AB 3 rfl ?_;refine AB 4 rfl ?_;refine AB 5 rfl ?_;refine AB 6 rfl ?_;refine AB 7 rfl ?_;refine AB 8 rfl ?_;refine AB 9 rfl ?_;refine AB 11 rfl ?_;refine AB 12 rfl ?_;refine AB 13 rfl ?_;refine AB 16 rfl ?_;obtain⟨t0,ht0,hbd⟩:∃v,u.drew=v/\Below u.heap.size u v:=⟨_,rfl,(Below.refl _ _).drew⟩
 rw[ht0]at TD⊢;clear ht0;have OT:=hxy (Ed OU.out hbd);have hBt:B<=t0.heap.size:=Nat.le_trans hBu hbd.size;have hBw:=hbB.trans (hbd.mono hBu);have KWT:=hxy (KWU.out.trans (FO hbd));have ST:=hxy (SU.out.below (hbd.mono hBu) ls ln lm);refine wpAnyH_ready (rs:=[10]) (by kernel_rfl) (by simp) ?_;obtain⟨v1,w1,hrun,hown1,hgrow,_⟩:=Lib.run_append_own_string (P:=Tryz.prog) t0 B 22 9 22 5 iS Tryz.underlying22 Tryz.underlying9 HI.out.1 HI.out.2.1 HI.out.2.2.1 HI.out.2.2.2 sv n (Lib.byteCells l) OT.out (J9 op) (by have:=HN.out;unfold maxLen;omega) (by have:=HN.out;omega) hBt;have hB1:Below B t0 w1:=(Below.refl _ _).grown hgrow hBt (fun k hk=>(OT.out.lt k hk).1);have T1:IA sb nb ob mb px d op dd a b i h w1:=⟨(hB1.block sb ls).trans TD.S,(hB1.block nb ln).trans TD.N,Hf OT.out hgrow (Lib.OthersKept.refl _ none _) px _ TD.X (by simp) (fun c fz=>by simp)⟩
 have KW1:=hxy (Hf OT.out hgrow KWT.out);have S1:=hxy (ST.out.below hB1 ls ln lm);have O1:Hid (w1.ownsRow B 5 1 v1 (n+(J9 op).size) (Lib.byteCells (l++(J9 op).data.toList))):=by
  have:=hown1;rw[ZL,JW]at this;exact this
 have hBw1:=hBw.trans hB1;have hz1:B<=w1.heap.size:=Nat.le_trans hBt hB1.size;refine Lr (.tmp 7) (.tmp 16) rfl (by kernel_rfl) rfl rfl rfl hrun T1 (fun _=>?_);clear hown1 hgrow hrun;try simp only[Act.put,BP,BN,BK,BQ,BS,BM]
 refine AO 14 rfl (fun KK hK=>?_);go_simp;refine(Kk op _).mono ?_;rintro e w2⟨rfl,hw2⟩;rw[hw2];clear hw2;refine hK.out _ _ T1 (fun _=>?_);clear hK KK;try simp only[Act.put,BP,BN,BK,BQ,BS,BM]
 refine AO 15 rfl (fun KK hK=>?_)
 go_simp
 refine(Ht sb nb ob mb d (Cz op) w1 S1.out HF.out).mono ?_
 rintro e w3⟨rfl,hb3⟩
 have T3:IA sb nb ob mb px d op dd a b i h w3:=⟨(hb3.block sb (by omega)).trans T1.S,(hb3.block nb (by omega)).trans T1.N,(hb3.block px (jH.1 T1.X).1).trans T1.X⟩
 refine hK.out _ _ T3 (fun _=>?_)
 clear hK KK
 try simp only[Act.put,BP,BN,BK,BQ,BS,BM]
 refine AO 17 rfl (fun KK hK=>?_)
 go_simp
 have hkk:=HK.out
 refine(Pj B (n+(J9 op).size) v1 (l++(J9 op).data.toList) (Kc d (Cz op)) op dd a b i h w3 (Nat.le_trans hz1 hb3.size) (Ed O1.out hb3) (aD _ _) (by have:=HN.out;omega) hkk.1 hkk.2.1 hkk.2.2.1 hkk.2.2.2.1 hkk.2.2.2.2 (HT.out.on (hBw1.trans (hb3.mono hz1)))).mono ?_
 rintro e w4⟨v',n',rfl,ho,hn2,hk2,hb4⟩
 have T4:IA sb nb ob mb px d op dd a b i h w4:=⟨(hb4.block sb ls).trans T3.S,(hb4.block nb ln).trans T3.N,hk2 px _ T3.X (by simp) (fun c fz=>by simp)⟩
 have O4:Hid (w4.ownsRow B 5 1 v' n' (Lib.byteCells (l++(Fb d op dd a b i h++⟨#[10]⟩).data.toList))):=by
  have e9:l++(J9 op).data.toList++(CG (Kw dd a b i h) ⟨#[]⟩ (Kc d (Cz op)).data.toList).data.toList++[10]=l++(Fb d op dd a b i h++⟨#[10]⟩).data.toList:=by
   rw[<-HLS.out]
   unfold Vd
   have:=Vw (Kw dd a b i h) (Kc d (Cz op)).data.toList (J9 op)
   simp[this]
  rw[e9]at ho
  exact ho
 have KW4:=hxy ((KW1.out.trans (FO hb3)).trans hk2)
 have HN4:Hid (n'<=n+30000200):=by show _<=_;omega
 refine hK.out _ _ T4 (fun _=>?_)
 clear hK KK ho hn2 hk2 hkk
 try simp only[Act.put,BP,BN,BK,BQ,BS,BM]
 refine AB 18 rfl ?_
 refine wpAnyH_done (by kernel_rfl) ?_ _
 go_wp2_with fail
 go_ret
 exact⟨v',n',rfl,O4.out,HN4.out,hBw1.trans ((hb3.mono hz1).trans hb4),KW4.out⟩
def eF:ByteArray:=⟨#[109,111,118,32,109,111,118,105,32,97,100,100,32,115,117,98,32,109,117,108,32,97,110,100,32,111,114,32,120,111,114,32,100,105,118,32,97,100,100,105,32,97,110,100,105,32,115,104,108,32,115,104,114,32,97,100,100,115,32,97,100,99,32,115,117,98,115,32,99,109,112,32,99,109,112,105,32,115,101,108,122,32,115,101,108,99,32,108,100,98,32,108,100,113,32,115,116,98,32,115,116,113,32,108,100,98,120,32,108,100,113,120,32,115,116,98,120,32,115,116,113,120,32,106,109,112,32,106,122,32,106,110,122,32,106,99,32,106,110,99,32,104,97,108,116]⟩
theorem Ww:(Lib.fields eF.data.toList)=Ld.tail.map fun s=>s.data.toList:=by kernel_rfl
theorem Vh:∀(j:Nat)b,eF.data.toList[j]?=some b->b.toNat<128:=by
 intro j b h;have h1:(eF.data.toList.all fun b=>decide (b.toNat<128))=true:=by kernel_rfl
 have:=List.all_eq_true.1 h1 b (List.mem_of_getElem? h);simpa using this
theorem ZI:eF.size=145:=by kernel_rfl
theorem Qf(s:ByteArray)(hs:s=eF)(w:World)(ht:Lib.TabIs Tryz.prog w "strings.asciiSpace" .u8 Lib.asciiSpaceTab):
 Calls Tryz.prog 41 #[.string s] w fun e w'=>e=.returned (Vs w.heap.size 34 34)/\w'=w.alloc (.cells (Ld.tail.map Value.string).toArray 9):=by
 subst hs;refine(EQ eF w (by rw[ZI];omega) Vh ht).mono ?_;rintro e w'⟨rfl,rfl⟩;rw[Ww];exact⟨rfl,rfl⟩
theorem Rq:∀s∈Ld.tail,s.size<=5:=by decide
theorem Lg{k:Nat}(h:k<34):∃s,s.size<=5/\s=J9 ((k:Int)+1)/\((Ld.tail.map Value.string).toArray)[k]?=some (.string s):=by
 have hl:Ld.tail.length=34:=rfl;obtain⟨s,hs⟩:∃s,Ld.tail[k]?=some s:=⟨_,List.getElem?_eq_getElem (by omega)⟩
 refine⟨s,Rq s (List.mem_of_getElem? hs),?_,by rw[List.getElem?_toArray,List.getElem?_map,hs];rfl⟩;unfold J9;rw[show((k:Int)+1).toNat=k+1 by omega,jJ];rw[List.getElem?_tail]at hs;rw[hs];rfl
def aQ:Nat->List UInt8->Int
 |0,_=>0
 |k+1,l=>if l=(J9 ((k:Int)+1)).data.toList then(k:Int)+1 else aQ k l
def Fe(w:World)(ob:Nat):Prop:=∃o,w.heap[ob]?=some o/\∀w':World,w'.heap[ob]?=some o->∀s:ByteArray,s.size<=maxLen->(Instr.lookup 104 (.map (some ob)) (.string s) false).run Tryz.prog w'=.ok (Vi (aQ 34 s.data.toList)) w'
theorem Fe.below{w':World}(h:Fe w ob){B:Nat}(hb:Below B w w')(hB:ob<B):Fe w' ob:=by
 obtain⟨o,h1,h2⟩:=h;exact⟨o,(hb.block ob hB).trans h1,h2⟩
theorem Y4{x:Int}(h0:0<=x)(h1:x<=1000):(Lit.int .i64 x).wf=true:=by
 simp[Lit.wf,IntKind.min,IntKind.max,IntKind.signed,IntKind.bits];omega
structure NS(w:World)(sb nb ob mb:Nat)(d:Int)(k:Nat)(v:World):Prop where
 sc:SC v sb nb ob mb d
 below:Below w.heap.size w v
 map:∃D,v.ownsMap Tryz.prog 9 (plainElem (H:=Unit) Tryz.prog 2) ob k D/\Maps.IsMap D/\∀l:List UInt8,D.atKey (.string l) (.lit (.int .i64 0))=.lit (.int .i64 (aQ k l))
theorem NS.step{v v':World}{sb nb k:Nat}{d:Int}{D:DataW Unit}(h:NS w sb nb ob mb d k v)(h1:nb<ob)(h2:ob<mb)(h3:mb<sb)(h4:w.heap.size<=nb)(hg:v.grownBy v' (some ob))(ho:v'.ownsMap Tryz.prog 9 (plainElem (H:=Unit) Tryz.prog 2) ob (k+1) D)(hm:Maps.IsMap D)(ha:∀l:List UInt8,D.atKey (.string l) (.lit (.int .i64 0))=.lit (.int .i64 (aQ (k+1) l))):NS w sb nb ob mb d (k+1) v':=by
 have kp:∀{q:Nat}{o:Obj},q≠ob->v.heap[q]?=some o->v'.heap[q]?=some o:=fun{q o}hq hh=>(hg.block q (Array.getElem?_eq_some_iff.1 hh).1 (by intro e;cases e;exact hq rfl)).trans hh
 refine⟨⟨kp (by omega) h.sc.S,kp (by omega) h.sc.N,?_⟩,h.below.grown hg h.below.size (by intro q e;cases e;omega),D,ho,hm,ha⟩;obtain⟨o,m1,m2⟩:=h.sc.M;exact⟨o,kp (by omega) m1,m2⟩
theorem Im(d:Int)(w:World)(ht:Lib.TabIs Tryz.prog w "strings.asciiSpace" .u8 Lib.asciiSpaceTab):
 Calls Tryz.prog 17 #[.int .i64 d] w fun e w'=>∃sb nb ob mb,e=.returned (.pointer (some ⟨sb,0,none⟩))/\SC w' sb nb ob mb d/\Below w.heap.size w w'/\sb<w'.heap.size/\nb<w'.heap.size/\mb<w'.heap.size/\ob<w'.heap.size/\Fe w' ob/\w.heap.size<=nb/\nb<ob/\ob<mb/\mb<sb:=by
 have HT:=hxy ht;clear ht;have hmk:∀w:World,(Instr.makeMap 104 none).run Tryz.prog w=.ok (.map (some w.heap.size)) (w.alloc (.map #[] 0)):=fun w=>run_makeMap _ w
 go_enter Tryz.func17,Tryz.ntmps17;go_wp2_with fail;refine(Qf _ (by kernel_rfl) w HT.out).mono ?_;rintro e w1⟨rfl,hw1⟩;have n1:w1.heap[w.heap.size]?=some (.cells (Ld.tail.map Value.string).toArray 9):=by rw[hw1];exact Ai w _
 have b1:Below w.heap.size w w1:=by rw[hw1];exact Ak
 have z1:w.heap.size<w1.heap.size:=by rw[hw1];simp
 have N1:=hxy n1;have B1:=hxy b1;clear hw1 n1 b1;go_wp2_with fail;obtain⟨w2,hw2,b2,N2,O2,z2⟩:∃v,w1.alloc (.map #[] 0)=v/\Hid (Below w.heap.size w v)/\Hid (v.heap[w.heap.size]?=some (.cells (Ld.tail.map Value.string).toArray 9))/\Hid (v.ownsMap Tryz.prog 9 (plainElem (H:=Unit) Tryz.prog 2) w1.heap.size 0 (.map []))/\w1.heap.size<v.heap.size:=
  ⟨_,rfl,B1.out.alloc (Nat.le_of_lt z1) _,(Ak:Below w1.heap.size w1 _).block _ z1|>.trans N1.out,World.ownsMap_made _ _ _ _,by simp⟩
 rw[hw2];clear hw2 N1 B1 hmk;refine(Nw w2).mono ?_;rintro e w3⟨rfl,b3,z3,f3⟩;have B3:Hid (Below w.heap.size w w3):=b2.out.trans (b3.mono (by omega));have N3:Hid (w3.heap[w.heap.size]?=some (.cells (Ld.tail.map Value.string).toArray 9)):=(b3.block _ (by omega)).trans N2.out;have O3:Hid (w3.ownsMap Tryz.prog 9 (plainElem (H:=Unit) Tryz.prog 2) w1.heap.size 0 (.map [])):=(by
  obtain⟨es,c,h1,h2⟩:=O2.out;exact⟨es,c,(b3.block _ z2).trans h1,h2⟩:w3.ownsMap Tryz.prog 9 (plainElem (H:=Unit) Tryz.prog 2) w1.heap.size 0 (.map []))
 have F3:=hxy f3;clear b2 N2 O2 b3 f3;go_upto_region 2 with fail;obtain⟨nb,hnb⟩:=Ae (w.heap.size);obtain⟨ob,hob⟩:=Ae (w1.heap.size);obtain⟨mb,hmb⟩:=Ae (w2.heap.size);obtain⟨sb,hsb⟩:=Ae (w3.heap.size);have Z:Hid (w.heap.size<=nb/\nb<ob/\ob<mb/\mb<sb):=(by omega:w.heap.size<=nb/\nb<ob/\ob<mb/\mb<sb)
 obtain⟨w4,hw4,P4,zs⟩:∃v,w3.alloc (.cells #[.int .i64 d,.slice (some ⟨w.heap.size,0,none⟩) 34 34,.map (some w1.heap.size),.map (some w2.heap.size)] 108)=v/\Hid (NS w sb nb ob mb d 0 v)/\sb<v.heap.size:=by
  refine⟨_,rfl,?_,by simp;omega⟩;have hb:Below w3.heap.size w3 (w3.alloc (.cells #[.int .i64 d,.slice (some ⟨w.heap.size,0,none⟩) 34 34,.map (some w1.heap.size),.map (some w2.heap.size)] 108)):=Ak;refine(⟨⟨?_,?_,?_⟩,?_,?_⟩:NS w sb nb ob mb d 0 _)
  ·rw[<-hsb,<-hnb,<-hob,<-hmb];exact Ai w3 _
  ·rw[<-hnb];exact(hb.block _ (by omega)).trans N3.out
  ·rw[<-hmb];exact F3.out.below hb (by omega)
  ·exact B3.out.trans (hb.mono (by omega))
  ·obtain⟨es,c,h1,h2⟩:=O3.out
   rw[<-hob];exact⟨_,⟨es,c,(hb.block _ (by omega)).trans h1,h2⟩,⟨_,rfl⟩,fun l=>rfl⟩
 rw[hw4,hnb,hob,hmb,hsb];clear hw4 B3 N3 O3 F3 z1 z2 z3;have c1:=Ab P4.out.sc.S 1;go_wp2_with fail;clear c1 hnb hob hmb hsb;go_loopw [4,5,17](fun _ _ j wr=>∃k:Nat,k<=34/\j=.int .i64 k/\NS w sb nb ob mb d k wr/\sb<wr.heap.size)(fun _ _ j _=>34-(intOf j).toNat)
 case atStart=>exact⟨0,Nat.zero_le _,rfl,P4.out,zs⟩
 case round=>
  clear P4 zs;obtain⟨k,hk,rfl,p,zs⟩:=hrel;have P:=hxy p;clear p;by_cases hlt:k<34
  rotate_left
  ·obtain rfl:k=34:=by omega
   go_wp2_with fail;go_ret;have z:=Z.out;refine⟨sb,nb,ob,mb,rfl,P.out.sc,P.out.below,by omega,by omega,by omega,by omega,?_,z.1,z.2.1,z.2.2.1,z.2.2.2⟩;obtain⟨D,hD,hM,hat⟩:=P.out.map;obtain⟨es,c,h1,h2,h3,h4⟩:=hD;refine⟨_,h1,fun w' hw s hs=>?_⟩;have hD':w'.ownsMap Tryz.prog 9 (plainElem (H:=Unit) Tryz.prog 2) ob 34 D:=⟨es,c,hw,h2,h3,h4⟩
   obtain⟨cv,r1,r2,_⟩:=hD'.lookup_int (Maps.string_keyed Tryz.underlying9) Tryz.underlying104 Tryz.underlying2 (by kernel_rfl) (WideMaps.keyOf_string_mk Tryz.underlying9 hs);rw[hat]at r2;simp only[DataW.lit.injEq,Lit.int.injEq,true_and]at r2;rw[r1,<-r2]
  obtain⟨s,hs,hsn,hc⟩:=Lg hlt;have g0:=(Ab P.out.sc.N k).trans hc;have g2:=Ab P.out.sc.S 2;have hl1:(k:Int)<34:=by omega
  obtain⟨D,hD,hM,hatk⟩:=P.out.map;have HM:=hxy hM;have HAK:=hxy hatk;have HSN:=hxy hsn;clear hM hatk hsn;have HS:=hxy hs;have HD:=hxy hD;clear hc hs hD;go_wp2_with(first|(at_mapUpdate;go_loud(refine wpList_mapUpdate_own _ rfl _ _ _ 104 rfl 9 2 (Maps.string_keyed Tryz.underlying9) Tryz.underlying104 _ ob k _ rfl HD.out (by unfold maxLen;omega) _ _ _ rfl rfl (WideMaps.keyOf_string_mk Tryz.underlying9 (by have:=HS.out;unfold maxLen;omega)) _ [] (plainElem_int Tryz.underlying2 ?cwf) ?_)))
  case cwf=>exact Y4 (by omega) (by omega)
  intro w1 hown1 hgrow1;have NX:Hid (NS w sb nb ob mb d (k+1) w1):=P.out.step Z.out.2.1 Z.out.2.2.1 Z.out.2.2.2 Z.out.1 hgrow1 hown1 (by obtain⟨es,he⟩:=HM.out;rw[he];exact⟨_,rfl⟩) (fun l=>by
   show _=DataW.lit (.int .i64 (if l=(J9 ((k:Int)+1)).data.toList then(k:Int)+1 else aQ k l));by_cases e:l=(J9 ((k:Int)+1)).data.toList
   ·rw[if_pos e,e,<-HSN.out,Maps.atKey_put_same HM.out (show WideAt.IsKeyLit (.string s.data.toList)from trivial)]
   ·rw[if_neg e,<-HAK.out l,Maps.atKey_put_other]
    intro h;rw[HSN.out]at h;exact e (by injection h))
  have z1:=hgrow1.size;clear hown1 hgrow1 g0 g2;go_wp2_with fail;go_roundw
  case rel=>exact⟨k+1,by omega,by go_num,NX.out,by omega⟩
  case measure=>simp[intOf];omega
end Go.Proofs.YtfpeecaaleijcaaGreatDoor
