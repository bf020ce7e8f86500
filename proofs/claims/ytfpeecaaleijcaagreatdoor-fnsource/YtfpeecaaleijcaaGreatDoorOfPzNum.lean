import Derived.Test.YtfpeecaaleijcaaGreatDoorOfCl
import Derived.Test.YtfpeecaaleijcaaGreatDoorRdMath
import Derived.Lib.ParseIntB
namespace Go.Proofs.YtfpeecaaleijcaaGreatDoor
open Go.RowKit
def KW(op:Int):List UInt8:=(J9 op).data.toList
def iM(d op:Int):List UInt8:=(Kv d op).data.toList
theorem Zf(d op:Int)(h1:1<=op)(h2:op<=34)(hd:d=0∨d=1):H8 d (Cz op)=if iM d op=[]then[]else 32::(iM d op).map iZ:=by
 obtain rfl|rfl|rfl|rfl|rfl|rfl|rfl|rfl|rfl|rfl|rfl|rfl|rfl|rfl|rfl|rfl|rfl|rfl|rfl|rfl|rfl|rfl|rfl|rfl|rfl|rfl|rfl|rfl|rfl|rfl|rfl|rfl|rfl|rfl:op=1∨op=2∨op=3∨op=4∨op=5∨op=6∨op=7∨op=8∨op=9∨op=10∨op=11∨op=12∨op=13∨op=14∨op=15∨op=16∨op=17∨op=18∨op=19∨op=20∨op=21∨op=22∨op=23∨op=24∨op=25∨op=26∨op=27∨op=28∨op=29∨op=30∨op=31∨op=32∨op=33∨op=34:=by omega
 all_goals(rcases hd with rfl|rfl<;>rfl)
theorem Xe:∀k:Nat,k<34->(KW ((k:Int)+1)).all DF=true/\KW ((k:Int)+1)≠[]/\Cg (KW ((k:Int)+1))=(k:Int)+1:=by decide
theorem Mq{op:Int}(h1:1<=op)(h2:op<=34):(∀c∈KW op,DF c=true)/\KW op≠[]/\Cg (KW op)=op:=by
 have h:=Xe (op-1).toNat (by omega);rw[show(((op-1).toNat:Nat):Int)+1=op by omega]at h;exact⟨fun c hc=>List.all_eq_true.1 h.1 c hc,h.2⟩
theorem IL{n:List UInt8}{op:Int}(h:Cg n=op)(h0:op≠0):1<=op/\op<=34/\n=KW op:=by
 unfold Cg at h;split at h
 ·rename_i hc
  have hm:n∈Ld.map fun s=>s.data.toList:=by simpa using hc
  have hl:=List.idxOf_lt_length_of_mem hm;have h35:(Ld.map fun s=>s.data.toList).length=35:=rfl;have hg:=List.getElem_idxOf hl;have e1:(Ld.map fun s=>s.data.toList).idxOf n=op.toNat:=by omega
  refine⟨by omega,by omega,?_⟩;rw[<-hg];unfold KW J9;simp only[List.getElem_map,e1];have:op.toNat<Ld.length:=by have:Ld.length=35:=rfl;omega
  rw[jJ,List.getElem?_eq_getElem this];rfl
 ·exact absurd h.symm h0
theorem ET(c:UInt8)(ps l:List UInt8)(x:NV)(h:Er c=false):fit (c::ps) l x=match l with|[]=>none|r::l'=>if r=c then fit ps l' x else none:=by
 show(if Er c=true then _ else _)=_;rw[if_neg (by simp[h])];cases l<;>rfl
def Wx(d:Int):UInt8:=if d=0 then 46 else 76
theorem JK{d:Int}(hd:d=0∨d=1){s:List UInt8}(h:s.head?≠some (Wx d)):fit (H8 d 64) s JB=none:=by
 rcases hd with rfl|rfl
 ·show fit (46::[76,78,58]) s JB=none
  rw[ET 46 _ _ _ rfl];rcases s with _|⟨c,s⟩
  ·rfl
  ·simp only
   rw[if_neg (by intro e;subst e;exact h rfl)]
 ·show fit (76::[78,58]) s JB=none
  rw[ET 76 _ _ _ rfl];rcases s with _|⟨c,s⟩
  ·rfl
  ·simp only
   rw[if_neg (by intro e;subst e;exact h rfl)]
theorem Wj{d:Int}(hd:d=0∨d=1){s:List UInt8}(h:s.head?=some (Wx d)):KE d s=none:=by
 have hp:pre DF s=0:=by
  rcases s with _|⟨c,s⟩
  ·cases h
  ·have hc:c=Wx d:=by simpa using h
   show(if DF c=true then _ else 0)=0;rw[if_neg (by subst hc;rcases hd with rfl|rfl<;>decide)]
 unfold KE;rw[hp];rfl
theorem Jq(k:Nat)(h:k<10):Be (UInt8.ofNat (48+k))=true/\((UInt8.ofNat (48+k)).toNat:Int)-48=k:=by
 have e:(UInt8.ofNat (48+k)).toNat=48+k:=by simp;omega
 refine⟨?_,by omega⟩;unfold Be;rw[e];simp;omega
theorem EU(n:Nat):∀c∈Lib.decDigits n,Be c=true:=by
 induction n using Nat.strongRecOn with
 |ind n ih=>
  rw[Lib.decDigits];by_cases h:n<10
  ·rw[dif_pos h]
   intro c hc;have:c=UInt8.ofNat (48+n):=by simpa using hc
   subst this;exact(Jq n h).1
  ·rw[dif_neg h]
   intro c hc;rcases List.mem_append.1 hc with h1|h1
   ·exact ih (n/10) (by omega) c h1
   ·have:c=UInt8.ofNat (48+n%10):=by simpa using h1
    subst this;exact(Jq (n%10) (by omega)).1
theorem PO(n:Nat):DU (Lib.decDigits n)=n:=by
 induction n using Nat.strongRecOn with
 |ind n ih=>
  rw[Lib.decDigits];by_cases h:n<10
  ·rw[dif_pos h]
   have:=(Jq n h).2;show 0*10+(((UInt8.ofNat (48+n)).toNat:Int)-48)=n;omega
  ·rw[dif_neg h,Fz,ih (n/10) (by omega),(Jq (n%10) (by omega)).2]
   omega
theorem QI:∀(k n:Nat),n<10^(k+1)->(Lib.decDigits n).length<=k+1
 |0,n,h=>by
  rw[Lib.decDigits,dif_pos (by omega)];simp
 |k+1,n,h=>by
  rw[Lib.decDigits];by_cases h1:n<10
  ·rw[dif_pos h1];simp
  ·rw[dif_neg h1]
   have:=QI k (n/10) (by rw[Nat.pow_succ]at h;omega);simp;omega
theorem Qo(n:Nat)(h:1<=n):∃c l,Lib.decDigits n=c::l/\c.toNat≠48:=by
 induction n using Nat.strongRecOn with
 |ind n ih=>
  rw[Lib.decDigits];by_cases h1:n<10
  ·rw[dif_pos h1]
   refine⟨_,_,rfl,?_⟩;have:=(Jq n h1).2;omega
  ·rw[dif_neg h1]
   obtain⟨c,l,e,hc⟩:=ih (n/10) (by omega) (by omega);exact⟨c,l++[UInt8.ofNat (48+n%10)],by rw[e];rfl,hc⟩
theorem Sm:Lib.decDigits 0=[48]:=by rw[Lib.decDigits];rfl
theorem KL(n:Nat):Lib.decDigits n≠[]:=by
 rw[Lib.decDigits];split<;>simp
def Sg(l:List UInt8):Option Int:=if l≠[]/\l.length<=13/\pre Be l=l.length/\(1<l.length->(l.getD 0 0).toNat≠48)then some (DU l)else none
def Bc(sg:Bool)(l:List UInt8):Option Int:=
 if sg=true/\l.head?.map UInt8.toNat=some 45 then
  match Sg l.tail with
  |some v=>if v=0 then none else some (-v)
  |none=>none
 else Sg l
theorem RY:∀(k:Nat)(l:List UInt8),l.length=k->l≠[]->(∀c∈l,Be c=true)->(1<l.length->(l.getD 0 0).toNat≠48)->0<=DU l/\Lib.decDigits (DU l).toNat=l
 |0,l,hk,hn,_,_=>absurd (List.length_eq_zero_iff.1 hk) hn
 |k+1,l,hk,hn,hd,h0=>by
  obtain⟨l',c,rfl⟩:∃l' c,l=l'++[c]:=⟨l.dropLast,l.getLast hn,(List.dropLast_concat_getLast hn).symm⟩
  have hc:=hd c (by simp);unfold Be at hc;simp only[Bool.and_eq_true,decide_eq_true_eq]at hc;rw[Fz];have ec:UInt8.ofNat (48+(c.toNat-48))=c:=by
   rw[show 48+(c.toNat-48)=c.toNat by omega];exact UInt8.ofNat_toNat
  by_cases hl:l'=[]
  ·subst hl
   have e0:DU []=0:=rfl;rw[e0];refine⟨by omega,?_⟩;rw[Lib.decDigits,dif_pos (by omega)];show[UInt8.ofNat _]=[c];rw[show((0:Int)*10+((c.toNat:Int)-48)).toNat=c.toNat-48 by omega,ec]
  ·have hlen:l'.length≠0:=fun e=>hl (List.length_eq_zero_iff.1 e)
   have hh:(l'.getD 0 0)=((l'++[c]).getD 0 0):=by
    cases l' with
    |nil=>exact absurd rfl hl
    |cons a b=>rfl
   have hz:(l'.getD 0 0).toNat≠48:=by rw[hh];exact h0 (by simp;omega)
   obtain⟨h1,h2⟩:=RY k l' (by simpa using hk) hl (fun c hc=>hd c (by simp[hc])) (fun _=>hz);have hp:pre Be l'=l'.length:=by
    have:=IX Be l' [] (fun c hc=>hd c (by simp[hc])) (by simp);rwa [List.append_nil]at this
   have h3:=Ma l' (by omega) hz l'.length (by omega) (by omega);rw[List.take_length]at h3;refine⟨by omega,?_⟩;rw[Lib.decDigits,dif_neg (by omega),show(DU l'*10+((c.toNat:Int)-48)).toNat/10=(DU l').toNat by omega,show(DU l'*10+((c.toNat:Int)-48)).toNat%10=c.toNat-48 by omega,h2,ec]
theorem QC(p:UInt8->Bool)(l:List UInt8):pre p l=l.length↔∀c∈l,p c=true:=by
 constructor
 ·intro h c hc
  obtain⟨k,hk,rfl⟩:=List.mem_iff_getElem.1 hc;have:=Jd p l k (by omega);rw[jJ,List.getElem?_eq_getElem hk]at this;simpa using this
 ·intro h
  have:=IX p l [] h (by simp);rwa [List.append_nil]at this
theorem Om{l:List UInt8}{v:Int}(h:Sg l=some v):0<=v/\v<=9999999999999/\Lib.decDigits v.toNat=l:=by
 unfold Sg at h;split at h
 ·rename_i hc
  obtain⟨h1,h2,h3,h4⟩:=hc;injection h with h;subst h;obtain⟨k1,k2⟩:=RY l.length l rfl h1 ((QC Be l).1 h3) h4;have hb:=(FV l l.length (by omega)).2;rw[List.take_length]at hb;have hp:(10:Int)^l.length<=10^13:=by
   have:(10:Int)^l.length*10^(13-l.length)=10^13:=by rw[<-Int.pow_add];congr 1;omega
   have h1:(1:Int)<=10^(13-l.length):=by
    have:=Int.pow_pos (n:=10) (m:=13-l.length) (by decide);omega
   have h2:(0:Int)<=10^l.length:=by
    have:=Int.pow_pos (n:=10) (m:=l.length) (by decide);omega
   have:=Int.mul_le_mul_of_nonneg_left h1 h2;omega
  exact⟨k1,by omega,k2⟩
 ·cases h
theorem Sk(n:Nat)(h:n<=9999999999999):Sg (Lib.decDigits n)=some (n:Int):=by
 unfold Sg;rw[if_pos,PO];refine⟨KL n,QI 12 n (by omega),(QC _ _).2 (EU n),fun h1=>?_⟩;by_cases hn:n=0
 ·subst hn;rw[Sm]at h1;simp at h1
 ·obtain⟨c,l,e3,hc⟩:=Qo n (by omega)
  rw[e3];simpa using hc
theorem Od(n:Nat):(Lib.decDigits n).head?.map UInt8.toNat≠some 45/\(Lib.decDigits n).head?.map UInt8.toNat≠some 43:=by
 rcases hd:Lib.decDigits n with _|⟨c,l⟩
 ·exact absurd hd (KL _)
 ·have e2:=EU n c (by rw[hd];simp)
  unfold Be at e2;simp only[Bool.and_eq_true,decide_eq_true_eq]at e2;simp;omega
theorem OJ{sg:Bool}{l:List UInt8}{v:Int}(h:Bc sg l=some v):(if sg=true then -9999999999999 else 0)<=v/\v<=9999999999999/\Lib.itoa v=l:=by
 unfold Bc at h;split at h
 ·rename_i hc
  obtain⟨rfl,hc⟩:=hc;rw[if_pos rfl];cases hd:Sg l.tail with
  |none=>rw[hd]at h;cases h
  |some u=>
   rw[hd]at h;simp only at h;split at h
   ·cases h
   ·injection h with h
    obtain⟨h1,h2,h3⟩:=Om hd;refine⟨by omega,by omega,?_⟩;unfold Lib.itoa;rw[if_pos (by omega),show v.natAbs=u.toNat by omega,h3];cases l with
    |nil=>simp at hc
    |cons a b=>
     have:a.toNat=45:=by simpa using hc
     rw[show a=45 from UInt8.toNat_inj.1 this];rfl
 ·obtain⟨h1,h2,h3⟩:=Om h
  refine⟨by split<;>omega,h2,?_⟩;unfold Lib.itoa;rw[if_neg (by omega),h3]
theorem EK(sg:Bool)(v:Int)(h0:(if sg=true then -9999999999999 else 0)<=v)(h1:v<=9999999999999):Bc sg (Lib.itoa v)=some v:=by
 unfold Lib.itoa Bc;by_cases hv:v<0
 ·have hs:sg=true:=by
   cases sg with
   |true=>rfl
   |false=>simp at h0;omega
  subst hs;simp only[if_true]at h0;rw[if_pos hv,if_pos ⟨rfl,rfl⟩];show(match Sg (Lib.decDigits v.natAbs)with|some v=>if v=0 then none else some (-v)|none=>none)=_;rw[Sk v.natAbs (by omega)];simp only;rw[if_neg (by omega)];congr 1
  omega
 ·rw[if_neg hv,if_neg (fun h=>(Od v.toNat).1 h.2),Sk v.toNat (by omega)]
  congr 1
  omega
theorem Jg(M:Nat)(hM:9999999999999<=M):∀(l p:List UInt8),(∀c∈l,Be c=true)->0<=DU p->DU (p++l)<=9999999999999->(∀k,DU p<=DU (p++l.take k))->Lib.parseUintM M (DU p).toNat l=.ok (DU (p++l)).toNat
 |[],p,_,_,_,_=>by rw[List.append_nil];rfl
 |c::l,p,hd,h0,h1,h2=>by
  have hc:=hd c (by simp);unfold Be at hc;simp only[Bool.and_eq_true,decide_eq_true_eq]at hc;have e1:p++c::l=p++[c]++l:=by simp
  have e2:=Fz p c;have mono:∀(q:List UInt8)(r:List UInt8),(∀c∈r,Be c=true)->0<=DU q->DU q<=DU (q++r):=by
   intro q r;induction r generalizing q with
   |nil=>intro _ _;rw[List.append_nil];omega
   |cons a r ih=>
    intro hr hq;have ha:=hr a (by simp);unfold Be at ha;simp only[Bool.and_eq_true,decide_eq_true_eq]at ha;have e3:=Fz q a;have:=ih (q++[a]) (fun c hc=>hr c (by simp[hc])) (by omega);rw[show q++a::r=q++[a]++r by simp];omega
  rw[e1]at h1⊢;have h3:=mono (p++[c]) l (fun c hc=>hd c (by simp[hc])) (by omega);unfold Lib.parseUintM;rw[if_pos hc,if_neg (by omega),if_neg (by omega),show(DU p).toNat*10+(c.toNat-48)=(DU (p++[c])).toNat by omega];exact Jg M hM l (p++[c]) (fun c hc=>hd c (by simp[hc])) (by omega) h1 (fun k=>mono _ _ (fun c hc=>hd c (by simp[List.mem_of_mem_take hc])) (by omega))
theorem Sw(n:Nat)(h:n<=9999999999999):Lib.parseUintB 64 (Lib.decDigits n)=.ok n:=by
 unfold Lib.parseUintB;rw[if_neg (KL n)];have e0:(DU []).toNat=0:=rfl;have hv:=PO n;have hm:∀k,DU []<=DU ([]++(Lib.decDigits n).take k):=fun k=>by
  have hp:=(QC Be (Lib.decDigits n)).2 (EU n);have e1:DU []=0:=rfl;rw[List.nil_append,e1];by_cases hk:k<=(Lib.decDigits n).length
  ·exact(FV _ k (by omega)).1
  ·rw[List.take_of_length_le (by omega),hv];omega
 have:=Jg (2^64-1) (by decide) (Lib.decDigits n) [] (EU n) (by decide) (by rw[List.nil_append,hv];omega) hm;rw[List.nil_append,hv,e0]at this;rw[this];simp
theorem UM(v:Int)(h0: -9999999999999<=v)(h1:v<=9999999999999):Lib.parseIntB 64 (Lib.itoa v)=.ok v:=by
 unfold Lib.itoa;by_cases hv:v<0
 ·rw[if_pos hv]
  unfold Lib.parseIntB;dsimp only;rw[if_pos (show(45:UInt8).toNat=43∨(45:UInt8).toNat=45 from Or.inr rfl),Sw v.natAbs (by omega)];show(if¬((45:UInt8).toNat=45)/\2^(64-1)<=v.natAbs then Lib.NumEnd.range else if((45:UInt8).toNat=45)/\2^(64-1)<v.natAbs then .range else .ok (if((45:UInt8).toNat=45)then -(v.natAbs:Int)else v.natAbs))=.ok v;rw[if_neg (fun h=>h.1 rfl),if_neg (fun h=>by have:=h.2;omega),if_pos (show(45:UInt8).toNat=45 from rfl)];congr 1
  omega
 ·rw[if_neg hv]
  have h2:=Od v.toNat;have h3:=Sw v.toNat (by omega);rcases hd:Lib.decDigits v.toNat with _|⟨c,l⟩
  ·exact absurd hd (KL _)
  ·rw[hd]at h2 h3
   have n1:c.toNat≠45:=by simpa using h2.1
   have n2:c.toNat≠43:=by simpa using h2.2
   unfold Lib.parseIntB;dsimp only;rw[if_neg (by omega),h3];show(if¬(c.toNat=45)/\2^(64-1)<=v.toNat then Lib.NumEnd.range else if(c.toNat=45)/\2^(64-1)<v.toNat then .range else .ok (if(c.toNat=45)then -(v.toNat:Int)else v.toNat))=.ok v;rw[if_neg (fun h=>by have:=h.2;omega),if_neg (fun h=>n1 h.1),if_neg n1];congr 1
   omega
def rdNum(low:Int)(l:List UInt8):Option Int:=
 match Lib.parseIntB 64 l with
 |.ok v=>if low<=v/\v<=9999999999999/\Lib.itoa v=l then some v else none
 |_=>none
theorem FQ(sg:Bool)(l:List UInt8):rdNum (if sg=true then -9999999999999 else 0) l=Bc sg l:=by
 cases h:Bc sg l with
 |some v=>
  obtain⟨h1,h2,h3⟩:=OJ h;unfold rdNum;rw[<-h3,UM v (by split at h1<;>omega) h2];simp only;rw[if_pos ⟨h1,h2,trivial⟩]
 |none=>
  unfold rdNum;split
  ·rename_i v hv
   rw[if_neg];rintro⟨h1,h2,h3⟩;have:=EK sg v h1 h2;rw[h3,h]at this;cases this
  ·rfl
end Go.Proofs.YtfpeecaaleijcaaGreatDoor
