import Derived.Test.YtblfmpgdhpbffaaGreatDoorRdMath
import Derived.Lib.ParseIntB
namespace Go.Proofs.YtblfmpgdhpbffaaGreatDoor
open Go.RowKit
def nmL(op:Int):List UInt8:=(nmS op).data.toList
def shL(d op:Int):List UInt8:=(shpS d op).data.toList
def frL(d op:Int):List UInt8:=nmL op++(if shL d op=[]then[]else[32])
theorem ptL_shL(d op:Int)(h1:1<=op)(h2:op<=34)(hd:d=0∨d=1):ptL d (shpI op)=if shL d op=[]then[]else 32::(shL d op).map lbl:=by
 obtain rfl|rfl|rfl|rfl|rfl|rfl|rfl|rfl|rfl|rfl|rfl|rfl|rfl|rfl|rfl|rfl|rfl|rfl|rfl|rfl|rfl|rfl|rfl|rfl|rfl|rfl|rfl|rfl|rfl|rfl|rfl|rfl|rfl|rfl:op=1∨op=2∨op=3∨op=4∨op=5∨op=6∨op=7∨op=8∨op=9∨op=10∨op=11∨op=12∨op=13∨op=14∨op=15∨op=16∨op=17∨op=18∨op=19∨op=20∨op=21∨op=22∨op=23∨op=24∨op=25∨op=26∨op=27∨op=28∨op=29∨op=30∨op=31∨op=32∨op=33∨op=34:=by omega
 all_goals(rcases hd with rfl|rfl<;>rfl)
theorem nm_facts:∀k:Nat,k<34->(nmL ((k:Int)+1)).all isAz=true/\nmL ((k:Int)+1)≠[]/\opOf (nmL ((k:Int)+1))=(k:Int)+1:=by decide
theorem nm_all{op:Int}(h1:1<=op)(h2:op<=34):(∀c∈nmL op,isAz c=true)/\nmL op≠[]/\opOf (nmL op)=op:=by
 have h:=nm_facts (op-1).toNat (by omega);rw[show(((op-1).toNat:Nat):Int)+1=op by omega]at h;exact⟨fun c hc=>List.all_eq_true.1 h.1 c hc,h.2⟩
theorem op_back{n:List UInt8}{op:Int}(h:opOf n=op)(h0:op≠0):1<=op/\op<=34/\n=nmL op:=by
 unfold opOf at h;split at h
 ·rename_i hc
  have hm:n∈nmT.map fun s=>s.data.toList:=by simpa using hc
  have hl:=List.idxOf_lt_length_of_mem hm;have h35:(nmT.map fun s=>s.data.toList).length=35:=rfl;have hg:(nmT.map fun s=>s.data.toList)[(nmT.map fun s=>s.data.toList).idxOf n]'hl=n:=List.getElem_idxOf hl;have e1:(nmT.map fun s=>s.data.toList).idxOf n=op.toNat:=by omega
  refine⟨by omega,by omega,?_⟩;rw[<-hg];unfold nmL nmS;simp only[List.getElem_map,e1];have:op.toNat<nmT.length:=by have:nmT.length=35:=rfl;omega
  rw[List.getD_eq_getElem?_getD,List.getElem?_eq_getElem this];rfl
 ·exact absurd h.symm h0
theorem take_split{s f:List UInt8}(h:s.take f.length=f):s=f++s.drop f.length:=by
 have:=List.take_append_drop f.length s;rw[h]at this;exact this.symm
theorem fit_cons_lit(c:UInt8)(ps l:List UInt8)(x:NV)(h:isFd c=false):fit (c::ps) l x=match l with|[]=>none|r::l'=>if r=c then fit ps l' x else none:=by
 show(if isFd c=true then _ else _)=_;rw[if_neg (by simp[h])];cases l<;>rfl
theorem hit_same(d op:Int)(h1:1<=op)(h2:op<=34)(hd:d=0∨d=1)(s:List UInt8)(x:NV):
 (if s.take (frL d op).length=frL d op then fit (shL d op) (s.drop (frL d op).length) x else none)=if s.take (pre isAz s)=nmL op then fit (ptL d (shpI op)) (s.drop (pre isAz s)) x else none:=by
 obtain⟨hall,hne,_⟩:=nm_all h1 h2;rw[ptL_shL d op h1 h2 hd];by_cases hsh:shL d op=[]
 ·have hfr:frL d op=nmL op:=by unfold frL;rw[if_pos hsh,List.append_nil]
  rw[hfr,hsh,if_pos rfl];by_cases ht:s.take (nmL op).length=nmL op
  ·rw[if_pos ht]
   have hs:=take_split ht;by_cases hdr:s.drop (nmL op).length=[]
   ·have hp:pre isAz s=(nmL op).length:=by
     rw[hs,hdr];exact pre_app isAz _ _ hall (by simp)
    rw[hp,if_pos ht]
   ·have e1:fit [] (s.drop (nmL op).length) x=none:=by show(if _=[]then _ else _)=_;rw[if_neg hdr]
    rw[e1];split
    ·rename_i hq
     have hl:pre isAz s=(nmL op).length:=by
      have:=congrArg List.length hq;rw[List.length_take]at this;have:=pre_le isAz s;omega
     rw[hl];show none=(if _=[]then _ else _);rw[if_neg hdr]
    ·rfl
  ·rw[if_neg ht]
   split
   ·rename_i hq
    have hl:pre isAz s=(nmL op).length:=by
     have:=congrArg List.length hq;rw[List.length_take]at this;have:=pre_le isAz s;omega
    rw[hl]at hq;exact absurd hq ht
   ·rfl
 ·have hfr:frL d op=nmL op++[32]:=by unfold frL;rw[if_neg hsh]
  rw[hfr,if_neg hsh];by_cases ht:s.take (nmL op++[32]).length=nmL op++[32]
  ·rw[if_pos ht]
   have hs:=take_split ht;have hs2:s=nmL op++32::s.drop (nmL op++[32]).length:=by
    have:nmL op++32::s.drop (nmL op++[32]).length=(nmL op++[32])++s.drop (nmL op++[32]).length:=by simp
    rw[this];exact hs
   have hp:pre isAz s=(nmL op).length:=by
    rw[hs2];exact pre_app isAz _ _ hall (by intro c hc;simp at hc;subst hc;decide)
   have htk:s.take (pre isAz s)=nmL op:=by rw[hp,hs2];simp
   have hdr:s.drop (pre isAz s)=32::s.drop (nmL op++[32]).length:=by
    rw[hp];conv=>lhs;rw[hs2]
    simp
   rw[if_pos htk,hdr,fit_cons_lit 32 _ _ _ rfl];simp only[if_true];rw[fit_lbl]
  ·rw[if_neg ht]
   split
   ·rename_i hq
    rw[fit_cons_lit 32 _ _ _ rfl];have hs:=List.take_append_drop (pre isAz s) s;rw[hq]at hs;rcases hdr:s.drop (pre isAz s)with _|⟨c,r⟩
    ·rfl
    ·simp only
     split
     ·rename_i hc
      subst hc;rw[hdr]at hs;refine absurd ?_ ht;rw[<-hs];have:nmL op++32::r=(nmL op++[32])++r:=by simp
      rw[this,List.take_left'];rfl
     ·rfl
   ·rfl
def hitO(d op:Int)(s:List UInt8):Option NV:=if s.take (pre isAz s)=nmL op then fit (ptL d (shpI op)) (s.drop (pre isAz s)) nv0 else none
theorem insL_hit{d op:Int}{s:List UInt8}{x:NV}(h1:1<=op)(h2:op<=34)(h:hitO d op s=some x):insL d s=some {x with op:=op}:=by
 unfold hitO at h;split at h
 ·rename_i hq
  have ho:=(nm_all h1 h2).2.2;unfold insL;rw[hq,ho,if_neg (by omega),fit_op,h];rfl
 ·cases h
theorem insL_none{d:Int}{s:List UInt8}(h:∀op:Int,1<=op->op<=34->hitO d op s=none):insL d s=none:=by
 unfold insL;split
 ·rfl
 ·rename_i h0
  obtain⟨h1,h2,h3⟩:=op_back rfl h0;have:=h _ h1 h2;unfold hitO at this;rw[if_pos h3]at this;rw[fit_op,this];rfl
def lbC(d:Int):UInt8:=if d=0 then 46 else 76
theorem label_head{d:Int}(hd:d=0∨d=1){s:List UInt8}(h:s.head?≠some (lbC d)):fit (ptL d 64) s nv0=none:=by
 rcases hd with rfl|rfl
 ·show fit (46::[76,78,58]) s nv0=none
  rw[fit_cons_lit 46 _ _ _ rfl];rcases s with _|⟨c,s⟩
  ·rfl
  ·simp only
   rw[if_neg (by intro e;subst e;exact h rfl)]
 ·show fit (76::[78,58]) s nv0=none
  rw[fit_cons_lit 76 _ _ _ rfl];rcases s with _|⟨c,s⟩
  ·rfl
  ·simp only
   rw[if_neg (by intro e;subst e;exact h rfl)]
theorem label_ins{d:Int}(hd:d=0∨d=1){s:List UInt8}(h:s.head?=some (lbC d)):insL d s=none:=by
 have hp:pre isAz s=0:=by
  rcases s with _|⟨c,s⟩
  ·cases h
  ·have hc:c=lbC d:=by simpa using h
   show(if isAz c=true then _ else 0)=0;rw[if_neg (by subst hc;rcases hd with rfl|rfl<;>decide)]
 unfold insL;rw[hp];rfl
def splitL:List UInt8->List UInt8->List (List UInt8)×List UInt8
 |[],cur=>([],cur)
 |c::t,cur=>if c.toNat=10 then(cur::(splitL t []).1,(splitL t []).2)else splitL t (cur++[c])
theorem ofN_dig(k:Nat)(h:k<10):isDg (UInt8.ofNat (48+k))=true/\((UInt8.ofNat (48+k)).toNat:Int)-48=k:=by
 have e:(UInt8.ofNat (48+k)).toNat=48+k:=by simp;omega
 refine⟨?_,by omega⟩;unfold isDg;rw[e];simp;omega
theorem dec_dig(n:Nat):∀c∈Lib.decDigits n,isDg c=true:=by
 induction n using Nat.strongRecOn with
 |ind n ih=>
  rw[Lib.decDigits];by_cases h:n<10
  ·rw[dif_pos h]
   intro c hc;have:c=UInt8.ofNat (48+n):=by simpa using hc
   subst this;exact(ofN_dig n h).1
  ·rw[dif_neg h]
   intro c hc;rcases List.mem_append.1 hc with h1|h1
   ·exact ih (n/10) (by omega) c h1
   ·have:c=UInt8.ofNat (48+n%10):=by simpa using h1
    subst this;exact(ofN_dig (n%10) (by omega)).1
theorem dec_val(n:Nat):valN (Lib.decDigits n)=n:=by
 induction n using Nat.strongRecOn with
 |ind n ih=>
  rw[Lib.decDigits];by_cases h:n<10
  ·rw[dif_pos h]
   have:=(ofN_dig n h).2;show 0*10+(((UInt8.ofNat (48+n)).toNat:Int)-48)=n;omega
  ·rw[dif_neg h,valN_snoc,ih (n/10) (by omega),(ofN_dig (n%10) (by omega)).2]
   omega
theorem dec_len:∀(k n:Nat),n<10^(k+1)->(Lib.decDigits n).length<=k+1
 |0,n,h=>by
  rw[Lib.decDigits,dif_pos (by omega)];simp
 |k+1,n,h=>by
  rw[Lib.decDigits];by_cases h1:n<10
  ·rw[dif_pos h1];simp
  ·rw[dif_neg h1]
   have:=dec_len k (n/10) (by rw[Nat.pow_succ]at h;omega);simp;omega
theorem dec_head(n:Nat)(h:1<=n):∃c l,Lib.decDigits n=c::l/\c.toNat≠48:=by
 induction n using Nat.strongRecOn with
 |ind n ih=>
  rw[Lib.decDigits];by_cases h1:n<10
  ·rw[dif_pos h1]
   refine⟨_,_,rfl,?_⟩;have:=(ofN_dig n h1).2;omega
  ·rw[dif_neg h1]
   obtain⟨c,l,e,hc⟩:=ih (n/10) (by omega) (by omega);exact⟨c,l++[UInt8.ofNat (48+n%10)],by rw[e];rfl,hc⟩
theorem dec_zero:Lib.decDigits 0=[48]:=by rw[Lib.decDigits];rfl
theorem dec_ne(n:Nat):Lib.decDigits n≠[]:=by
 rw[Lib.decDigits];split<;>simp
def numD(l:List UInt8):Option Int:=if l≠[]/\l.length<=13/\pre isDg l=l.length/\(1<l.length->(l.getD 0 0).toNat≠48)then some (valN l)else none
def numW(sg:Bool)(l:List UInt8):Option Int:=
 if sg=true/\l.head?.map UInt8.toNat=some 45 then
  match numD l.tail with
  |some v=>if v=0 then none else some (-v)
  |none=>none
 else numD l
theorem dec_back:∀(k:Nat)(l:List UInt8),l.length=k->l≠[]->(∀c∈l,isDg c=true)->(1<l.length->(l.getD 0 0).toNat≠48)->0<=valN l/\Lib.decDigits (valN l).toNat=l
 |0,l,hk,hn,_,_=>absurd (List.length_eq_zero_iff.1 hk) hn
 |k+1,l,hk,hn,hd,h0=>by
  obtain⟨l',c,rfl⟩:∃l' c,l=l'++[c]:=⟨l.dropLast,l.getLast hn,(List.dropLast_concat_getLast hn).symm⟩
  have hc:=hd c (by simp);unfold isDg at hc;simp only[Bool.and_eq_true,decide_eq_true_eq]at hc;rw[valN_snoc];have ec:UInt8.ofNat (48+(c.toNat-48))=c:=by
   rw[show 48+(c.toNat-48)=c.toNat by omega];exact UInt8.ofNat_toNat
  by_cases hl:l'=[]
  ·subst hl
   have e0:valN []=0:=rfl;rw[e0];refine⟨by omega,?_⟩;rw[Lib.decDigits,dif_pos (by omega)];show[UInt8.ofNat _]=[c];rw[show((0:Int)*10+((c.toNat:Int)-48)).toNat=c.toNat-48 by omega,ec]
  ·have hlen:l'.length≠0:=fun e=>hl (List.length_eq_zero_iff.1 e)
   have hh:(l'.getD 0 0)=((l'++[c]).getD 0 0):=by
    cases l' with
    |nil=>exact absurd rfl hl
    |cons a b=>rfl
   have hz:(l'.getD 0 0).toNat≠48:=by rw[hh];exact h0 (by simp;omega)
   obtain⟨h1,h2⟩:=dec_back k l' (by simpa using hk) hl (fun c hc=>hd c (by simp[hc])) (fun _=>hz);have hp:pre isDg l'=l'.length:=by
    have:=pre_app isDg l' [] (fun c hc=>hd c (by simp[hc])) (by simp);rwa [List.append_nil]at this
   have h3:=valN_pos l' (by omega) hz l'.length (by omega) (by omega);rw[List.take_length]at h3;refine⟨by omega,?_⟩;rw[Lib.decDigits,dif_neg (by omega),show(valN l'*10+((c.toNat:Int)-48)).toNat/10=(valN l').toNat by omega,show(valN l'*10+((c.toNat:Int)-48)).toNat%10=c.toNat-48 by omega,h2,ec]
theorem pre_iff(p:UInt8->Bool)(l:List UInt8):pre p l=l.length↔∀c∈l,p c=true:=by
 constructor
 ·intro h c hc
  obtain⟨k,hk,rfl⟩:=List.mem_iff_getElem.1 hc;have:=pre_mem p l k (by omega);rw[List.getD_eq_getElem?_getD,List.getElem?_eq_getElem hk]at this;simpa using this
 ·intro h
  have:=pre_app p l [] h (by simp);rwa [List.append_nil]at this
theorem numD_back{l:List UInt8}{v:Int}(h:numD l=some v):0<=v/\v<=9999999999999/\Lib.decDigits v.toNat=l:=by
 unfold numD at h;split at h
 ·rename_i hc
  obtain⟨h1,h2,h3,h4⟩:=hc;injection h with h;subst h;obtain⟨k1,k2⟩:=dec_back l.length l rfl h1 ((pre_iff isDg l).1 h3) h4;have hb:=(valN_bound l l.length (by omega)).2;rw[List.take_length]at hb;have hp:(10:Int)^l.length<=10^13:=by
   have:(10:Int)^l.length*10^(13-l.length)=10^13:=by rw[<-Int.pow_add];congr 1;omega
   have h1:(1:Int)<=10^(13-l.length):=by
    have:=Int.pow_pos (n:=10) (m:=13-l.length) (by decide);omega
   have h2:(0:Int)<=10^l.length:=by
    have:=Int.pow_pos (n:=10) (m:=l.length) (by decide);omega
   have:=Int.mul_le_mul_of_nonneg_left h1 h2;omega
  exact⟨k1,by omega,k2⟩
 ·cases h
theorem numD_dec(n:Nat)(h:n<=9999999999999):numD (Lib.decDigits n)=some (n:Int):=by
 unfold numD;rw[if_pos,dec_val];refine⟨dec_ne n,dec_len 12 n (by omega),(pre_iff _ _).2 (dec_dig n),fun h1=>?_⟩;by_cases hn:n=0
 ·subst hn;rw[dec_zero]at h1;simp at h1
 ·obtain⟨c,l,e3,hc⟩:=dec_head n (by omega)
  rw[e3];simpa using hc
theorem dec_not45(n:Nat):(Lib.decDigits n).head?.map UInt8.toNat≠some 45/\(Lib.decDigits n).head?.map UInt8.toNat≠some 43:=by
 rcases hd:Lib.decDigits n with _|⟨c,l⟩
 ·exact absurd hd (dec_ne _)
 ·have e2:=dec_dig n c (by rw[hd];simp)
  unfold isDg at e2;simp only[Bool.and_eq_true,decide_eq_true_eq]at e2;simp;omega
theorem numW_back{sg:Bool}{l:List UInt8}{v:Int}(h:numW sg l=some v):(if sg=true then -9999999999999 else 0)<=v/\v<=9999999999999/\Lib.itoa v=l:=by
 unfold numW at h;split at h
 ·rename_i hc
  obtain⟨rfl,hc⟩:=hc;rw[if_pos rfl];cases hd:numD l.tail with
  |none=>rw[hd]at h;cases h
  |some u=>
   rw[hd]at h;simp only at h;split at h
   ·cases h
   ·injection h with h
    obtain⟨h1,h2,h3⟩:=numD_back hd;refine⟨by omega,by omega,?_⟩;unfold Lib.itoa;rw[if_pos (by omega),show v.natAbs=u.toNat by omega,h3];cases l with
    |nil=>simp at hc
    |cons a b=>
     have:a.toNat=45:=by simpa using hc
     rw[show a=45 from UInt8.toNat_inj.1 this];rfl
 ·obtain⟨h1,h2,h3⟩:=numD_back h
  refine⟨by split<;>omega,h2,?_⟩;unfold Lib.itoa;rw[if_neg (by omega),h3]
theorem numW_itoa(sg:Bool)(v:Int)(h0:(if sg=true then -9999999999999 else 0)<=v)(h1:v<=9999999999999):numW sg (Lib.itoa v)=some v:=by
 unfold Lib.itoa numW;by_cases hv:v<0
 ·have hs:sg=true:=by
   cases sg with
   |true=>rfl
   |false=>simp at h0;omega
  subst hs;simp only[if_true]at h0;rw[if_pos hv,if_pos ⟨rfl,rfl⟩];show(match numD (Lib.decDigits v.natAbs)with|some v=>if v=0 then none else some (-v)|none=>none)=_;rw[numD_dec v.natAbs (by omega)];simp only;rw[if_neg (by omega)];congr 1
  omega
 ·rw[if_neg hv,if_neg (fun h=>(dec_not45 v.toNat).1 h.2),numD_dec v.toNat (by omega)]
  congr 1
  omega
theorem uintM_digits(M:Nat)(hM:9999999999999<=M):∀(l p:List UInt8),(∀c∈l,isDg c=true)->0<=valN p->valN (p++l)<=9999999999999->(∀k,valN p<=valN (p++l.take k))->Lib.parseUintM M (valN p).toNat l=.ok (valN (p++l)).toNat
 |[],p,_,_,_,_=>by rw[List.append_nil];rfl
 |c::l,p,hd,h0,h1,h2=>by
  have hc:=hd c (by simp);unfold isDg at hc;simp only[Bool.and_eq_true,decide_eq_true_eq]at hc;have e1:p++c::l=p++[c]++l:=by simp
  have e2:=valN_snoc p c;have mono:∀(q:List UInt8)(r:List UInt8),(∀c∈r,isDg c=true)->0<=valN q->valN q<=valN (q++r):=by
   intro q r;induction r generalizing q with
   |nil=>intro _ _;rw[List.append_nil];omega
   |cons a r ih=>
    intro hr hq;have ha:=hr a (by simp);unfold isDg at ha;simp only[Bool.and_eq_true,decide_eq_true_eq]at ha;have e3:=valN_snoc q a;have:=ih (q++[a]) (fun c hc=>hr c (by simp[hc])) (by omega);rw[show q++a::r=q++[a]++r by simp];omega
  rw[e1]at h1⊢;have h3:=mono (p++[c]) l (fun c hc=>hd c (by simp[hc])) (by omega);unfold Lib.parseUintM;rw[if_pos hc,if_neg (by omega),if_neg (by omega),show(valN p).toNat*10+(c.toNat-48)=(valN (p++[c])).toNat by omega];exact uintM_digits M hM l (p++[c]) (fun c hc=>hd c (by simp[hc])) (by omega) h1 (fun k=>mono _ _ (fun c hc=>hd c (by simp[List.mem_of_mem_take hc])) (by omega))
theorem uint_dec(n:Nat)(h:n<=9999999999999):Lib.parseUintB 64 (Lib.decDigits n)=.ok n:=by
 unfold Lib.parseUintB;rw[if_neg (dec_ne n)];have e0:(valN []).toNat=0:=rfl;have hv:=dec_val n;have hm:∀k,valN []<=valN ([]++(Lib.decDigits n).take k):=fun k=>by
  have hp:=(pre_iff isDg (Lib.decDigits n)).2 (dec_dig n);have e1:valN []=0:=rfl;rw[List.nil_append,e1];by_cases hk:k<=(Lib.decDigits n).length
  ·exact(valN_bound _ k (by omega)).1
  ·rw[List.take_of_length_le (by omega),hv];omega
 have:=uintM_digits (2^64-1) (by decide) (Lib.decDigits n) [] (dec_dig n) (by decide) (by rw[List.nil_append,hv];omega) hm;rw[List.nil_append,hv,e0]at this;rw[this];simp
theorem parse_itoa(v:Int)(h0: -9999999999999<=v)(h1:v<=9999999999999):Lib.parseIntB 64 (Lib.itoa v)=.ok v:=by
 unfold Lib.itoa;by_cases hv:v<0
 ·rw[if_pos hv]
  unfold Lib.parseIntB;dsimp only;rw[if_pos (show(45:UInt8).toNat=43∨(45:UInt8).toNat=45 from Or.inr rfl),uint_dec v.natAbs (by omega)];show(if¬((45:UInt8).toNat=45)/\2^(64-1)<=v.natAbs then Lib.NumEnd.range else if((45:UInt8).toNat=45)/\2^(64-1)<v.natAbs then .range else .ok (if((45:UInt8).toNat=45)then -(v.natAbs:Int)else v.natAbs))=.ok v;rw[if_neg (fun h=>h.1 rfl),if_neg (fun h=>by have:=h.2;omega),if_pos (show(45:UInt8).toNat=45 from rfl)];congr 1
  omega
 ·rw[if_neg hv]
  have h2:=dec_not45 v.toNat;have h3:=uint_dec v.toNat (by omega);rcases hd:Lib.decDigits v.toNat with _|⟨c,l⟩
  ·exact absurd hd (dec_ne _)
  ·rw[hd]at h2 h3
   have n1:c.toNat≠45:=by simpa using h2.1
   have n2:c.toNat≠43:=by simpa using h2.2
   unfold Lib.parseIntB;dsimp only;rw[if_neg (by omega),h3];show(if¬(c.toNat=45)/\2^(64-1)<=v.toNat then Lib.NumEnd.range else if(c.toNat=45)/\2^(64-1)<v.toNat then .range else .ok (if(c.toNat=45)then -(v.toNat:Int)else v.toNat))=.ok v;rw[if_neg (fun h=>by have:=h.2;omega),if_neg (fun h=>n1 h.1),if_neg n1];congr 1
   omega
def rdNum(low:Int)(l:List UInt8):Option Int:=
 match Lib.parseIntB 64 l with
 |.ok v=>if low<=v/\v<=9999999999999/\Lib.itoa v=l then some v else none
 |_=>none
theorem rdNum_same(sg:Bool)(l:List UInt8):rdNum (if sg=true then -9999999999999 else 0) l=numW sg l:=by
 cases h:numW sg l with
 |some v=>
  obtain⟨h1,h2,h3⟩:=numW_back h;unfold rdNum;rw[<-h3,parse_itoa v (by split at h1<;>omega) h2];simp only;rw[if_pos ⟨h1,h2,trivial⟩]
 |none=>
  unfold rdNum;split
  ·rename_i v hv
   rw[if_neg];rintro⟨h1,h2,h3⟩;have:=numW_itoa sg v h1 h2;rw[h3,h]at this;cases this
  ·rfl
end Go.Proofs.YtblfmpgdhpbffaaGreatDoor
