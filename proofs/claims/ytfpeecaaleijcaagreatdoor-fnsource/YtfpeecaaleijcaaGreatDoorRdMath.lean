import Derived.Test.YtfpeecaaleijcaaGreatDoorOfCl
import Derived.Test.YtfpeecaaleijcaaGreatDoorOfAsmProg
import Derived.Test.YtfpeecaaleijcaaGreatDoorOfInsSame
import Derived.Deep.QuietTactic
import Derived.BigQuiet
namespace Go.Proofs.YtfpeecaaleijcaaGreatDoor
open Go.RowKit
structure NV where
 op:Int
 d:Int
 a:Int
 b:Int
 imm:Int
 h:Int
def JB:NV:=⟨0,0,0,0,0,0⟩
def Be(c:UInt8):Bool:=decide (48<=c.toNat)&&decide (c.toNat<=57)
def DF(c:UInt8):Bool:=decide (97<=c.toNat)&&decide (c.toNat<=122)
def CY(c:UInt8):Bool:=decide (c.toNat≠10)
def pre(p:UInt8->Bool):List UInt8->Nat
 |[]=>0
 |c::l=>if p c=true then pre p l+1 else 0
theorem Fq(p:UInt8->Bool):∀l,pre p l<=l.length
 |[]=>jG
 |c::l=>by
  have:=Fq p l;unfold pre;split
  ·simp;omega
  ·simp
theorem Ji(p:UInt8->Bool):∀(l:List UInt8)(k:Nat),k<=pre p l->k<l.length->(p (l.getD k 0)=true->k+1<=pre p l)/\(p (l.getD k 0)=false->pre p l=k)
 |[],k,_,h=>by simp at h
 |c::l,0,_,_=>by
  unfold pre;refine⟨fun h=>?_,fun h=>?_⟩
  ·simp at h;rw[if_pos h];omega
  ·simp at h;rw[if_neg (by simp[h])]
 |c::l,k+1,h1,h2=>by
  unfold pre at h1⊢;by_cases hc:p c=true
  ·rw[if_pos hc]at h1⊢
   have:=Ji p l k (by omega) (by simpa using h2);simp only[List.getD_cons_succ];exact⟨fun h=>by have:=this.1 h;omega,fun h=>by have:=this.2 h;omega⟩
  ·rw[if_neg hc]at h1;omega
theorem U1(p:UInt8->Bool)(l:List UInt8)(k:Nat)(h:k<=pre p l)(he:k=l.length):pre p l=k:=by
 have:=Fq p l;omega
theorem Jd(p:UInt8->Bool):∀(l:List UInt8)(k:Nat),k<pre p l->p (l.getD k 0)=true
 |[],k,h=>by simp[pre]at h
 |c::l,k,h=>by
  unfold pre at h;by_cases hc:p c=true
  ·rw[if_pos hc]at h
   cases k with
   |zero=>simpa using hc
   |succ k=>simpa using Jd p l k (by omega)
  ·rw[if_neg hc]at h;omega
theorem IX(p:UInt8->Bool):∀(n r:List UInt8),(∀c∈n,p c=true)->(∀c,r.head?=some c->p c=false)->pre p (n++r)=n.length
 |[],r,_,h2=>by
  cases r with
  |nil=>rfl
  |cons c r=>show(if p c=true then _ else 0)=0;rw[if_neg (by simp[h2 c rfl])]
 |c::n,r,h1,h2=>by
  show(if p c=true then pre p (n++r)+1 else 0)=n.length+1;rw[if_pos (h1 c (by simp)),IX p n r (fun c hc=>h1 c (by simp[hc])) h2]
def DU(l:List UInt8):Int:=l.foldl (fun v c=>v*10+((c.toNat:Int)-48)) 0
theorem Fz(l:List UInt8)(c:UInt8):DU (l++[c])=DU l*10+((c.toNat:Int)-48):=by simp[DU]
theorem ZU(l:List UInt8)(k:Nat)(h:k<l.length):l.take (k+1)=l.take k++[l.getD k 0]:=by
 rw[List.take_add_one,List.getElem?_eq_getElem h];simp[h]
theorem IK(l:List UInt8)(k:Nat)(h:k<l.length):DU (l.take (k+1))=DU (l.take k)*10+(((l.getD k 0).toNat:Int)-48):=by
 rw[ZU l k h,Fz]
theorem FV(l:List UInt8):∀k,k<=pre Be l->0<=DU (l.take k)/\DU (l.take k)<10^k
 |0,_=>by simp[DU]
 |k+1,h=>by
  have hk:=Fq Be l;have ih:=FV l k (by omega);have hd:=Jd Be l k (by omega);unfold Be at hd;simp only[Bool.and_eq_true,decide_eq_true_eq]at hd;rw[IK l k (by omega),Int.pow_succ];omega
theorem Ma(l:List UInt8)(h:1<=pre Be l)(h0:(l.getD 0 0).toNat≠48):∀k,1<=k->k<=pre Be l->1<=DU (l.take k)
 |0,h1,_=>by omega
 |k+1,_,h2=>by
  have hk:=Fq Be l;have hd:=Jd Be l k (by omega);unfold Be at hd;simp only[Bool.and_eq_true,decide_eq_true_eq]at hd;rw[IK l k (by omega)];cases k with
  |zero=>
   have e:DU (l.take 0)=0:=by simp[DU]
   rw[e];omega
  |succ k=>have:=Ma l h h0 (k+1) (by omega) (by omega);omega
def DT(l:List UInt8):Option (Int×Nat):=
 if pre Be l=0∨9<pre Be l∨(1<pre Be l/\(l.getD 0 0).toNat=48)then none else some (DU (l.take (pre Be l)),pre Be l)
theorem IY{l:List UInt8}{v:Int}{n:Nat}(h:DT l=some (v,n)):0<=v/\v<1000000000/\1<=n/\n<=9/\n<=l.length/\n=pre Be l/\(v=0↔(l.getD 0 0).toNat=48):=by
 unfold DT at h;split at h
 ·cases h
 ·rename_i hc
  simp only[Option.some.injEq,Prod.mk.injEq]at h;obtain⟨rfl,rfl⟩:=h;have hb:=FV l (pre Be l) jG;have hk:=Fq Be l;have hp:(10:Int)^(pre Be l)<=10^9:=by
   have:(10:Int)^(pre Be l)*10^(9-pre Be l)=10^9:=by rw[<-Int.pow_add];congr 1;omega
   have h1:(1:Int)<=10^(9-pre Be l):=by
    have:=Int.pow_pos (n:=10) (m:=9-pre Be l) (by decide);omega
   have h2:(0:Int)<=10^(pre Be l):=by
    have:=Int.pow_pos (n:=10) (m:=pre Be l) (by decide);omega
   have:=Int.mul_le_mul_of_nonneg_left h1 h2;omega
  refine⟨hb.1,by omega,by omega,by omega,by omega,rfl,?_⟩;constructor
  ·intro hv
   by_cases h0:(l.getD 0 0).toNat=48
   ·exact h0
   ·have:=Ma l (by omega) h0 (pre Be l) (by omega) jG
    omega
  ·intro h0
   have h1:pre Be l=1:=by omega
   rw[h1];have h2:=IK l 0 (by omega);rw[h2,h0];simp[DU]
def MO(sg:Bool)(l:List UInt8):Option (Int×Nat):=
 if sg=true/\(l.head?.map UInt8.toNat)=some 45 then
  match DT l.tail with
  |some (v,n)=>if v=0 then none else some (-v,n+1)
  |none=>none
 else DT l
def Er(c:UInt8):Bool:=c==65||c==66||c==68||c==72||c==73||c==78||c==64
def setF(x:NV)(c:UInt8)(v:Int):NV:=
 if c=65 then{x with a:=v}else if c=66 then{x with b:=v}else if c=68 then{x with d:=v}else if c=72 then{x with h:=v}else{x with imm:=v}
def fit:List UInt8->List UInt8->NV->Option NV
 |[],l,x=>if l=[]then some x else none
 |c::ps,l,x=>
  if Er c=true then
   match MO (c==73) l with
   |some (v,n)=>fit ps (l.drop n) (setF x c v)
   |none=>none
  else
   match l with
   |[]=>none
   |r::l'=>if r=c then fit ps l' x else none
theorem Zi(x:NV)(c:UInt8)(v o:Int):setF {x with op:=o} c v={setF x c v with op:=o}:=by
 unfold setF;repeat' split
 all_goals rfl
theorem Tk:∀(ps l:List UInt8)(x:NV)(o:Int),fit ps l {x with op:=o}=(fit ps l x).map fun y=>{y with op:=o}
 |[],l,x,o=>by unfold fit;split<;>rfl
 |c::ps,l,x,o=>by
  unfold fit;split
  ·cases MO (c==73) l with
   |none=>rfl
   |some v=>obtain⟨v,n⟩:=v;simp only;rw[Zi,Tk]
  ·cases l with
   |nil=>rfl
   |cons r l=>simp only;split<;>first|rfl|exact Tk ps l x o
def iZ(c:UInt8):UInt8:=if c=64 then 78 else c
def Cg(n:List UInt8):Int:=if(Ld.map fun s=>s.data.toList).contains n=true then(((Ld.map fun s=>s.data.toList).idxOf n:Nat):Int)else 0
def H8(d h:Int):List UInt8:=(Kc d h).data.toList
def KE(d:Int)(l:List UInt8):Option NV:=
 if Cg (l.take (pre DF l))=0 then none else fit (H8 d (Cz (Cg (l.take (pre DF l))))) (l.drop (pre DF l)) {JB with op:=Cg (l.take (pre DF l))}
def Hq(x:NV):Bool:=Ar x.op x.d x.a x.b (if Ce x.op=true then 0 else x.imm) x.h
def Da(d:Int)(l:List UInt8):Option (Bool×NV):=
 match fit (H8 d 64) l JB with
 |some x=>some (true,x)
 |none=>
  match KE d l with
  |some x=>if Hq x=true then some (false,x)else none
  |none=>none
abbrev Row:=Bool×NV
theorem Oo{t:List UInt8}(h:¬t=[])(k:Nat):(t.drop (k+1)).length<t.length:=by
 have:t.length≠0:=fun e=>h (List.length_eq_zero_iff.1 e)
 rw[List.length_drop];omega
end Go.Proofs.YtfpeecaaleijcaaGreatDoor
