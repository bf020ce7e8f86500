import Derived.Test.YtdbhgaegblclaaaDoorRdMath
namespace Go.Proofs.YtdbhgaegblclaaaDoor
open Go.RowKit
def nmL(op:Int):List UInt8:=(nmS op).data.toList
def shL(d op:Int):List UInt8:=(shpS d op).data.toList
def frL(d op:Int):List UInt8:=nmL op++(if shL d op=[]then[]else[32])
theorem ptL_shL(d op:Int)(h1:1<=op)(h2:op<=34)(hd:d=0∨d=1):ptL d (shpI op)=if shL d op=[]then[]else 32::(shL d op).map lbl:=by
 obtain rfl|rfl|rfl|rfl|rfl|rfl|rfl|rfl|rfl|rfl|rfl|rfl|rfl|rfl|rfl|rfl|rfl|rfl|rfl|rfl|rfl|rfl|rfl|rfl|rfl|rfl|rfl|rfl|rfl|rfl|rfl|rfl|rfl|rfl:op=1∨op=2∨op=3∨op=4∨op=5∨op=6∨op=7∨op=8∨op=9∨op=10∨op=11∨op=12∨op=13∨op=14∨op=15∨op=16∨op=17∨op=18∨op=19∨op=20∨op=21∨op=22∨op=23∨op=24∨op=25∨op=26∨op=27∨op=28∨op=29∨op=30∨op=31∨op=32∨op=33∨op=34:=by omega
 all_goals(rcases hd with rfl|rfl<;>rfl)
theorem nm_facts:∀k:Nat,k<34->(nmL ((k:Int)+1)).all isAz=true/\nmL ((k:Int)+1)≠[]/\opOf (nmL ((k:Int)+1))=(k:Int)+1:=by decide
theorem nm_all{op:Int}(h1:1<=op)(h2:op<=34):(∀c∈nmL op,isAz c=true)/\nmL op≠[]/\opOf (nmL op)=op:=by
 have h:=nm_facts (op-1).toNat (by omega);rw[show(((op-1).toNat:Nat):Int)+1=op by omega]at h;exact⟨fun c hc=>List.all_eq_true.1 h.1 c hc,h.2⟩
theorem op_back{n:List UInt8}{op:Int}(h:opOf n=op)(h0:op≠0):1<=op/\op<=34/\n=nmL op:=by
 unfold opOf at h;split at h
 ·rename_i hc
  have hm:n∈nmT.map fun s=>s.data.toList:=by simpa using hc
  have hl:=List.idxOf_lt_length_of_mem hm;have h35:(nmT.map fun s=>s.data.toList).length=35:=rfl;have hg:(nmT.map fun s=>s.data.toList)[(nmT.map fun s=>s.data.toList).idxOf n]'hl=n:=List.getElem_idxOf hl;have e1:(nmT.map fun s=>s.data.toList).idxOf n=op.toNat:=by omega
  refine⟨by omega,by omega,?_⟩;rw[<-hg];unfold nmL nmS;simp only[List.getElem_map,e1];have:op.toNat<nmT.length:=by have:nmT.length=35:=rfl;omega
  rw[List.getD_eq_getElem?_getD,List.getElem?_eq_getElem this];rfl
 ·exact absurd h.symm h0
theorem take_split{s f:List UInt8}(h:s.take f.length=f):s=f++s.drop f.length:=by
 have:=List.take_append_drop f.length s;rw[h]at this;exact this.symm
theorem fit_cons_lit(c:UInt8)(ps l:List UInt8)(x:NV)(h:isFd c=false):fit (c::ps) l x=match l with|[]=>none|r::l'=>if r=c then fit ps l' x else none:=by
 show(if isFd c=true then _ else _)=_;rw[if_neg (by simp[h])];cases l<;>rfl
theorem hit_same(d op:Int)(h1:1<=op)(h2:op<=34)(hd:d=0∨d=1)(s:List UInt8)(x:NV):
 (if s.take (frL d op).length=frL d op then fit (shL d op) (s.drop (frL d op).length) x else none)=if s.take (pre isAz s)=nmL op then fit (ptL d (shpI op)) (s.drop (pre isAz s)) x else none:=by
 obtain⟨hall,hne,_⟩:=nm_all h1 h2;rw[ptL_shL d op h1 h2 hd];by_cases hsh:shL d op=[]
 ·have hfr:frL d op=nmL op:=by unfold frL;rw[if_pos hsh,List.append_nil]
  rw[hfr,hsh,if_pos rfl];by_cases ht:s.take (nmL op).length=nmL op
  ·rw[if_pos ht]
   have hs:=take_split ht;by_cases hdr:s.drop (nmL op).length=[]
   ·have hp:pre isAz s=(nmL op).length:=by
     rw[hs,hdr];exact pre_app isAz _ _ hall (by simp)
    rw[hp,if_pos ht]
   ·have e1:fit [] (s.drop (nmL op).length) x=none:=by show(if _=[]then _ else _)=_;rw[if_neg hdr]
    rw[e1];split
    ·rename_i hq
     have hl:pre isAz s=(nmL op).length:=by
      have:=congrArg List.length hq;rw[List.length_take]at this;have:=pre_le isAz s;omega
     rw[hl];show none=(if _=[]then _ else _);rw[if_neg hdr]
    ·rfl
  ·rw[if_neg ht]
   split
   ·rename_i hq
    have hl:pre isAz s=(nmL op).length:=by
     have:=congrArg List.length hq;rw[List.length_take]at this;have:=pre_le isAz s;omega
    rw[hl]at hq;exact absurd hq ht
   ·rfl
 ·have hfr:frL d op=nmL op++[32]:=by unfold frL;rw[if_neg hsh]
  rw[hfr,if_neg hsh];by_cases ht:s.take (nmL op++[32]).length=nmL op++[32]
  ·rw[if_pos ht]
   have hs:=take_split ht;have hs2:s=nmL op++32::s.drop (nmL op++[32]).length:=by
    have:nmL op++32::s.drop (nmL op++[32]).length=(nmL op++[32])++s.drop (nmL op++[32]).length:=by simp
    rw[this];exact hs
   have hp:pre isAz s=(nmL op).length:=by
    rw[hs2];exact pre_app isAz _ _ hall (by intro c hc;simp at hc;subst hc;decide)
   have htk:s.take (pre isAz s)=nmL op:=by rw[hp,hs2];simp
   have hdr:s.drop (pre isAz s)=32::s.drop (nmL op++[32]).length:=by
    rw[hp];conv=>lhs;rw[hs2]
    simp
   rw[if_pos htk,hdr,fit_cons_lit 32 _ _ _ rfl];simp only[if_true];rw[fit_lbl]
  ·rw[if_neg ht]
   split
   ·rename_i hq
    rw[fit_cons_lit 32 _ _ _ rfl];have hs:=List.take_append_drop (pre isAz s) s;rw[hq]at hs;rcases hdr:s.drop (pre isAz s)with _|⟨c,r⟩
    ·rfl
    ·simp only
     split
     ·rename_i hc
      subst hc;rw[hdr]at hs;refine absurd ?_ ht;rw[<-hs];have:nmL op++32::r=(nmL op++[32])++r:=by simp
      rw[this,List.take_left'];rfl
     ·rfl
   ·rfl
def hitO(d op:Int)(s:List UInt8):Option NV:=if s.take (pre isAz s)=nmL op then fit (ptL d (shpI op)) (s.drop (pre isAz s)) nv0 else none
theorem insL_hit{d op:Int}{s:List UInt8}{x:NV}(h1:1<=op)(h2:op<=34)(h:hitO d op s=some x):insL d s=some {x with op:=op}:=by
 unfold hitO at h;split at h
 ·rename_i hq
  have ho:=(nm_all h1 h2).2.2;unfold insL;rw[hq,ho,if_neg (by omega),fit_op,h];rfl
 ·cases h
theorem insL_none{d:Int}{s:List UInt8}(h:∀op:Int,1<=op->op<=34->hitO d op s=none):insL d s=none:=by
 unfold insL;split
 ·rfl
 ·rename_i h0
  obtain⟨h1,h2,h3⟩:=op_back rfl h0;have:=h _ h1 h2;unfold hitO at this;rw[if_pos h3]at this;rw[fit_op,this];rfl
def lbF(d:Int):List UInt8:=if d=0 then[46,76]else[76]
theorem mark_same(d:Int)(hd:d=0∨d=1)(s:List UInt8):
 fit (ptL d 64) s nv0=if s.take (lbF d).length=lbF d then(match numAt (s.drop (lbF d).length)with|some (v,n)=>if s.drop ((lbF d).length+n)=[58]then some {nv0 with imm:=v}else none|none=>none)else none:=by
 have last:∀(r:List UInt8)(x:NV),fit [58] r x=if r=[58]then some x else none:=fun r x=>by
  rw[fit_cons_lit 58 _ _ _ rfl];rcases r with _|⟨c,r⟩
  ·rfl
  ·simp only
   by_cases hc:c=58
   ·subst hc
    rw[if_pos rfl];show(if r=[]then _ else _)=_;by_cases hr:r=[]
    ·subst hr;rfl
    ·rw[if_neg hr,if_neg (by simpa using hr)]
   ·rw[if_neg hc,if_neg (by intro h;exact hc (List.cons.inj h).1)]
 have num:∀(r:List UInt8),fit [78,58] r nv0=match numAt r with|some (v,n)=>if r.drop n=[58]then some {nv0 with imm:=v}else none|none=>none:=fun r=>by
  show(if isFd 78=true then(match numS ((78:UInt8)==73) r with|some (v,n)=>fit [58] (r.drop n) (setF nv0 78 v)|none=>none)else _)=_;rw[if_pos (show isFd 78=true from rfl)];have e:numS ((78:UInt8)==73) r=numAt r:=by unfold numS;rw[if_neg (by intro h;exact absurd h.1 (by decide))]
  rw[e];cases numAt r with
  |none=>rfl
  |some p=>obtain⟨v,n⟩:=p;simp only[last];rfl
 rcases hd with rfl|rfl
 ·have e:ptL 0 64=[46,76,78,58]:=rfl
  have e2:lbF 0=[46,76]:=rfl;rw[e,e2,fit_cons_lit 46 _ _ _ rfl];rcases s with _|⟨c,s⟩
  ·rfl
  ·simp only
   by_cases hc:c=46
   ·subst hc
    rw[if_pos rfl,fit_cons_lit 76 _ _ _ rfl];rcases s with _|⟨c2,s⟩
    ·rfl
    ·simp only
     by_cases hc2:c2=76
     ·subst hc2
      rw[if_pos rfl,num,if_pos (by rfl)];have:∀n,(46::76::s).drop (([46,76]:List UInt8).length+n)=s.drop n:=fun n=>by rw[Nat.add_comm];rfl
      rw[show List.drop ([46,76]:List UInt8).length (46::76::s)=s from rfl];cases numAt s with
      |none=>rfl
      |some p=>obtain⟨v,n⟩:=p;simp only[this]
     ·rw[if_neg hc2,if_neg (by intro h;simp at h;exact hc2 h)]
   ·rw[if_neg hc,if_neg (by intro h;simp at h;exact hc h.1)]
 ·have e:ptL 1 64=[76,78,58]:=rfl
  have e2:lbF 1=[76]:=rfl;rw[e,e2,fit_cons_lit 76 _ _ _ rfl];rcases s with _|⟨c,s⟩
  ·rfl
  ·simp only
   by_cases hc:c=76
   ·subst hc
    rw[if_pos rfl,num,if_pos (by rfl)];have:∀n,(76::s).drop (([76]:List UInt8).length+n)=s.drop n:=fun n=>by rw[Nat.add_comm];rfl
    rw[show List.drop ([76]:List UInt8).length (76::s)=s from rfl];cases numAt s with
    |none=>rfl
    |some p=>obtain⟨v,n⟩:=p;simp only[this]
   ·rw[if_neg hc,if_neg (by intro h;simp at h;exact hc h)]
def lbC(d:Int):UInt8:=if d=0 then 46 else 76
theorem label_head{d:Int}(hd:d=0∨d=1){s:List UInt8}(h:s.head?≠some (lbC d)):fit (ptL d 64) s nv0=none:=by
 rcases hd with rfl|rfl
 ·show fit (46::[76,78,58]) s nv0=none
  rw[fit_cons_lit 46 _ _ _ rfl];rcases s with _|⟨c,s⟩
  ·rfl
  ·simp only
   rw[if_neg (by intro e;subst e;exact h rfl)]
 ·show fit (76::[78,58]) s nv0=none
  rw[fit_cons_lit 76 _ _ _ rfl];rcases s with _|⟨c,s⟩
  ·rfl
  ·simp only
   rw[if_neg (by intro e;subst e;exact h rfl)]
theorem label_ins{d:Int}(hd:d=0∨d=1){s:List UInt8}(h:s.head?=some (lbC d)):insL d s=none:=by
 have hp:pre isAz s=0:=by
  rcases s with _|⟨c,s⟩
  ·cases h
  ·have hc:c=lbC d:=by simpa using h
   show(if isAz c=true then _ else 0)=0;rw[if_neg (by subst hc;rcases hd with rfl|rfl<;>decide)]
 unfold insL;rw[hp];rfl
def splitL:List UInt8->List UInt8->List (List UInt8)×List UInt8
 |[],cur=>([],cur)
 |c::t,cur=>if c.toNat=10 then(cur::(splitL t []).1,(splitL t []).2)else splitL t (cur++[c])
def rdLs(d:Int):List (List UInt8)->Bool->List Row->Int×List Row
 |[],b,rows=>if b=true then(2,rows)else(0,rows)
 |l::ls,b,rows=>
  match rdLine d l with
  |none=>(2,rows)
  |some (true,x)=>if(labOf rows x.imm).isSome=true then(3,rows)else rdLs d ls b (rows++[(true,x)])
  |some (false,x)=>rdLs d ls b (rows++[(false,x)])
theorem rdT_nil(d:Int)(rows:List Row):rdT d [] rows=(0,rows):=by rw[rdT_eq];rfl
theorem rdT_tail(d:Int)(l:List UInt8)(rows:List Row)(h0:l≠[])(h:∀c∈l,noNl c=true):rdT d l rows=(2,rows):=by
 have hp:pre noNl l=l.length:=by
  have:=pre_app noNl l [] h (by simp);simpa using this
 rw[rdT_eq,dif_neg h0,dif_pos hp]
theorem rdT_line(d:Int)(l r:List UInt8)(rows:List Row)(h:∀c∈l,noNl c=true):rdT d (l++10::r) rows=
 match rdLine d l with
 |none=>(2,rows)
 |some (true,x)=>if(labOf rows x.imm).isSome=true then(3,rows)else rdT d r (rows++[(true,x)])
 |some (false,x)=>rdT d r (rows++[(false,x)]):=by
 have hp:pre noNl (l++10::r)=l.length:=pre_app noNl l _ h (by intro c hc;simp at hc;subst hc;decide);have h1:(l++10::r).take l.length=l:=List.take_left' rfl;have h2:(l++10::r).drop (l.length+1)=r:=by
  rw[<-List.drop_drop,List.drop_left' rfl];rfl
 rw[rdT_eq,dif_neg (by simp),dif_neg (by rw[hp];simp),hp,h1,h2];rcases rdLine d l with _|⟨_|_,x⟩<;>rfl
theorem rdT_split(d:Int):∀(t cur:List UInt8)(rows:List Row),(∀c∈cur,noNl c=true)->rdT d (cur++t) rows=rdLs d (splitL t cur).1 (!(splitL t cur).2.isEmpty) rows
 |[],cur,rows,h=>by
  rw[List.append_nil];show _=rdLs d [] (!cur.isEmpty) rows;by_cases h0:cur=[]
  ·subst h0;rw[rdT_nil];rfl
  ·rw[rdT_tail d cur rows h0 h]
   have:cur.isEmpty=false:=by cases cur with|nil=>exact absurd rfl h0|cons a l=>rfl
   rw[this];rfl
 |c::t,cur,rows,h=>by
  by_cases hc:c.toNat=10
  ·have hc':c=10:=by
    apply UInt8.toNat_inj.1;rw[hc];rfl
   subst hc';have e:splitL (10::t) cur=(cur::(splitL t []).1,(splitL t []).2):=by show(if _ then _ else _)=_;rw[if_pos hc]
   rw[e,rdT_line d cur t rows h];show _=rdLs d (cur::(splitL t []).1) _ rows;unfold rdLs;cases rdLine d cur with
   |none=>rfl
   |some p=>
    obtain⟨b,x⟩:=p;cases b with
    |true=>
     simp only;split
     ·rfl
     ·exact rdT_split d t [] _ (by simp)
    |false=>exact rdT_split d t [] _ (by simp)
  ·have e:splitL (c::t) cur=splitL t (cur++[c]):=by show(if _ then _ else _)=_;rw[if_neg hc]
   rw[e];have e2:cur++c::t=(cur++[c])++t:=by simp
   rw[e2];refine rdT_split d t (cur++[c]) rows fun c' hc'=>?_
   rcases List.mem_append.1 hc' with h1|h1
   ·exact h c' h1
   ·have:c'=c:=by simpa using h1
    subst this;simp[noNl,hc]
theorem lost_first{rows:List Row}{k:Nat}(hk:k<rows.length)(h:∀j,j<k->lostR rows (rows.getD j (false,nv0))=false)(hl:lostR rows (rows.getD k (false,nv0))=true):lostI rows=(k:Int)+1:=by
 have e:∀j(hj:j<rows.length),rows[j]=rows.getD j (false,nv0):=fun j hj=>by rw[List.getD_eq_getElem?_getD,List.getElem?_eq_getElem hj];rfl
 have:rows.findIdx? (lostR rows)=some k:=List.findIdx?_eq_some_iff_getElem.2 ⟨hk,by rw[e k hk];exact hl,fun j hj=>by rw[e j (by omega),h j hj];simp⟩;unfold lostI;rw[this]
theorem lost_none{rows:List Row}(h:∀j,j<rows.length->lostR rows (rows.getD j (false,nv0))=false):lostI rows=0:=by
 have:rows.findIdx? (lostR rows)=none:=List.findIdx?_eq_none_iff.2 fun x hx=>by
  obtain⟨j,hj,rfl⟩:=List.getElem_of_mem hx;have:=h j hj;rw[List.getD_eq_getElem?_getD,List.getElem?_eq_getElem hj]at this;exact this
 unfold lostI;rw[this]
end Go.Proofs.YtdbhgaegblclaaaDoor
