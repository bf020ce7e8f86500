import Derived.Test.YtdbhgaegblclaaaDoorAsmProg
import Derived.Test.YtdbhgaegblclaaaDoorOfFlatAny
namespace Go.Proofs.YtdbhgaegblclaaaDoor
open Go.RowKit
structure NV where
 op:Int
 d:Int
 a:Int
 b:Int
 imm:Int
 h:Int
def nv0:NV:=⟨0,0,0,0,0,0⟩
def isDg(c:UInt8):Bool:=decide (48<=c.toNat)&&decide (c.toNat<=57)
def isAz(c:UInt8):Bool:=decide (97<=c.toNat)&&decide (c.toNat<=122)
def noNl(c:UInt8):Bool:=decide (c.toNat≠10)
def pre(p:UInt8->Bool):List UInt8->Nat
 |[]=>0
 |c::l=>if p c=true then pre p l+1 else 0
theorem pre_le(p:UInt8->Bool):∀l,pre p l<=l.length
 |[]=>Nat.le_refl _
 |c::l=>by
  have:=pre_le p l;unfold pre;split
  ·simp;omega
  ·simp
theorem pre_step(p:UInt8->Bool):∀(l:List UInt8)(k:Nat),k<=pre p l->k<l.length->(p (l.getD k 0)=true->k+1<=pre p l)/\(p (l.getD k 0)=false->pre p l=k)
 |[],k,_,h=>by simp at h
 |c::l,0,_,_=>by
  unfold pre;refine⟨fun h=>?_,fun h=>?_⟩
  ·simp at h;rw[if_pos h];omega
  ·simp at h;rw[if_neg (by simp[h])]
 |c::l,k+1,h1,h2=>by
  unfold pre at h1⊢;by_cases hc:p c=true
  ·rw[if_pos hc]at h1⊢
   have:=pre_step p l k (by omega) (by simpa using h2);simp only[List.getD_cons_succ];exact⟨fun h=>by have:=this.1 h;omega,fun h=>by have:=this.2 h;omega⟩
  ·rw[if_neg hc]at h1;omega
theorem pre_all(p:UInt8->Bool)(l:List UInt8)(k:Nat)(h:k<=pre p l)(he:k=l.length):pre p l=k:=by
 have:=pre_le p l;omega
theorem pre_mem(p:UInt8->Bool):∀(l:List UInt8)(k:Nat),k<pre p l->p (l.getD k 0)=true
 |[],k,h=>by simp[pre]at h
 |c::l,k,h=>by
  unfold pre at h;by_cases hc:p c=true
  ·rw[if_pos hc]at h
   cases k with
   |zero=>simpa using hc
   |succ k=>simpa using pre_mem p l k (by omega)
  ·rw[if_neg hc]at h;omega
theorem pre_end(p:UInt8->Bool)(l:List UInt8)(h:pre p l<l.length):p (l.getD (pre p l) 0)=false:=by
 cases hc:p (l.getD (pre p l) 0)with
 |false=>rfl
 |true=>have:=(pre_step p l (pre p l) (Nat.le_refl _) h).1 hc;omega
theorem pre_app(p:UInt8->Bool):∀(n r:List UInt8),(∀c∈n,p c=true)->(∀c,r.head?=some c->p c=false)->pre p (n++r)=n.length
 |[],r,_,h2=>by
  cases r with
  |nil=>rfl
  |cons c r=>show(if p c=true then _ else 0)=0;rw[if_neg (by simp[h2 c rfl])]
 |c::n,r,h1,h2=>by
  show(if p c=true then pre p (n++r)+1 else 0)=n.length+1;rw[if_pos (h1 c (by simp)),pre_app p n r (fun c hc=>h1 c (by simp[hc])) h2]
def valN(l:List UInt8):Int:=l.foldl (fun v c=>v*10+((c.toNat:Int)-48)) 0
theorem valN_snoc(l:List UInt8)(c:UInt8):valN (l++[c])=valN l*10+((c.toNat:Int)-48):=by simp[valN]
theorem tk_snoc(l:List UInt8)(k:Nat)(h:k<l.length):l.take (k+1)=l.take k++[l.getD k 0]:=by
 rw[List.take_add_one,List.getElem?_eq_getElem h];simp[h]
theorem valN_step(l:List UInt8)(k:Nat)(h:k<l.length):valN (l.take (k+1))=valN (l.take k)*10+(((l.getD k 0).toNat:Int)-48):=by
 rw[tk_snoc l k h,valN_snoc]
theorem valN_bound(l:List UInt8):∀k,k<=pre isDg l->0<=valN (l.take k)/\valN (l.take k)<10^k
 |0,_=>by simp[valN]
 |k+1,h=>by
  have hk:=pre_le isDg l;have ih:=valN_bound l k (by omega);have hd:=pre_mem isDg l k (by omega);unfold isDg at hd;simp only[Bool.and_eq_true,decide_eq_true_eq]at hd;rw[valN_step l k (by omega),Int.pow_succ];omega
theorem valN_pos(l:List UInt8)(h:1<=pre isDg l)(h0:(l.getD 0 0).toNat≠48):∀k,1<=k->k<=pre isDg l->1<=valN (l.take k)
 |0,h1,_=>by omega
 |k+1,_,h2=>by
  have hk:=pre_le isDg l;have hd:=pre_mem isDg l k (by omega);unfold isDg at hd;simp only[Bool.and_eq_true,decide_eq_true_eq]at hd;rw[valN_step l k (by omega)];cases k with
  |zero=>
   have e:valN (l.take 0)=0:=by simp[valN]
   rw[e];omega
  |succ k=>have:=valN_pos l h h0 (k+1) (by omega) (by omega);omega
def numAt(l:List UInt8):Option (Int×Nat):=
 if pre isDg l=0∨9<pre isDg l∨(1<pre isDg l/\(l.getD 0 0).toNat=48)then none else some (valN (l.take (pre isDg l)),pre isDg l)
theorem num_bound{l:List UInt8}{v:Int}{n:Nat}(h:numAt l=some (v,n)):0<=v/\v<1000000000/\1<=n/\n<=9/\n<=l.length/\n=pre isDg l/\(v=0↔(l.getD 0 0).toNat=48):=by
 unfold numAt at h;split at h
 ·cases h
 ·rename_i hc
  simp only[Option.some.injEq,Prod.mk.injEq]at h;obtain⟨rfl,rfl⟩:=h;have hb:=valN_bound l (pre isDg l) (Nat.le_refl _);have hk:=pre_le isDg l;have hp:(10:Int)^(pre isDg l)<=10^9:=by
   have:(10:Int)^(pre isDg l)*10^(9-pre isDg l)=10^9:=by rw[<-Int.pow_add];congr 1;omega
   have h1:(1:Int)<=10^(9-pre isDg l):=by
    have:=Int.pow_pos (n:=10) (m:=9-pre isDg l) (by decide);omega
   have h2:(0:Int)<=10^(pre isDg l):=by
    have:=Int.pow_pos (n:=10) (m:=pre isDg l) (by decide);omega
   have:=Int.mul_le_mul_of_nonneg_left h1 h2;omega
  refine⟨hb.1,by omega,by omega,by omega,by omega,rfl,?_⟩;constructor
  ·intro hv
   by_cases h0:(l.getD 0 0).toNat=48
   ·exact h0
   ·have:=valN_pos l (by omega) h0 (pre isDg l) (by omega) (Nat.le_refl _)
    omega
  ·intro h0
   have h1:pre isDg l=1:=by omega
   rw[h1];have h2:=valN_step l 0 (by omega);rw[h2,h0];simp[valN]
def numS(sg:Bool)(l:List UInt8):Option (Int×Nat):=
 if sg=true/\(l.head?.map UInt8.toNat)=some 45 then
  match numAt l.tail with
  |some (v,n)=>if v=0 then none else some (-v,n+1)
  |none=>none
 else numAt l
def isFd(c:UInt8):Bool:=c==65||c==66||c==68||c==72||c==73||c==78||c==64
def setF(x:NV)(c:UInt8)(v:Int):NV:=
 if c=65 then{x with a:=v}else if c=66 then{x with b:=v}else if c=68 then{x with d:=v}else if c=72 then{x with h:=v}else{x with imm:=v}
def fit:List UInt8->List UInt8->NV->Option NV
 |[],l,x=>if l=[]then some x else none
 |c::ps,l,x=>
  if isFd c=true then
   match numS (c==73) l with
   |some (v,n)=>fit ps (l.drop n) (setF x c v)
   |none=>none
  else
   match l with
   |[]=>none
   |r::l'=>if r=c then fit ps l' x else none
theorem setF_op(x:NV)(c:UInt8)(v o:Int):setF {x with op:=o} c v={setF x c v with op:=o}:=by
 unfold setF;repeat' split
 all_goals rfl
theorem fit_op:∀(ps l:List UInt8)(x:NV)(o:Int),fit ps l {x with op:=o}=(fit ps l x).map fun y=>{y with op:=o}
 |[],l,x,o=>by unfold fit;split<;>rfl
 |c::ps,l,x,o=>by
  unfold fit;split
  ·cases numS (c==73) l with
   |none=>rfl
   |some v=>obtain⟨v,n⟩:=v;simp only;rw[setF_op,fit_op]
  ·cases l with
   |nil=>rfl
   |cons r l=>simp only;split<;>first|rfl|exact fit_op ps l x o
def lbl(c:UInt8):UInt8:=if c=64 then 78 else c
theorem fit_lbl:∀(ps l:List UInt8)(x:NV),fit (ps.map lbl) l x=fit ps l x
 |[],l,x=>rfl
 |c::ps,l,x=>by
  by_cases h:c=64
  ·subst h
   show fit (78::ps.map lbl) l x=fit (64::ps) l x;have e1:isFd 78=true:=rfl;have e2:isFd 64=true:=rfl;simp only[fit,e1,e2,if_true];have e3:((78:UInt8)==73)=((64:UInt8)==73):=rfl;rw[e3];cases numS ((64:UInt8)==73) l with
   |none=>rfl
   |some v=>obtain⟨v,n⟩:=v;exact fit_lbl ps _ _
  ·show fit (lbl c::ps.map lbl) l x=fit (c::ps) l x
   have e:lbl c=c:=by unfold lbl;rw[if_neg h]
   rw[e];unfold fit;split
   ·cases numS (c==73) l with
    |none=>rfl
    |some v=>obtain⟨v,n⟩:=v;exact fit_lbl ps _ _
   ·cases l with
    |nil=>rfl
    |cons r l=>simp only;split<;>first|rfl|exact fit_lbl ps l x
def opOf(n:List UInt8):Int:=if(nmT.map fun s=>s.data.toList).contains n=true then(((nmT.map fun s=>s.data.toList).idxOf n:Nat):Int)else 0
def ptL(d h:Int):List UInt8:=(ptS d h).data.toList
def insL(d:Int)(l:List UInt8):Option NV:=
 if opOf (l.take (pre isAz l))=0 then none else fit (ptL d (shpI (opOf (l.take (pre isAz l))))) (l.drop (pre isAz l)) {nv0 with op:=opOf (l.take (pre isAz l))}
def canS(x:NV):Bool:=implIns x.op x.d x.a x.b (if jumpB x.op=true then 0 else x.imm) x.h
def rdLine(d:Int)(l:List UInt8):Option (Bool×NV):=
 match fit (ptL d 64) l nv0 with
 |some x=>some (true,x)
 |none=>
  match insL d l with
  |some x=>if canS x=true then some (false,x)else none
  |none=>none
abbrev Row:=Bool×NV
def cntI(rows:List Row):Nat:=(rows.filter fun r=>!r.1).length
def labI:List Row->Nat->Int->Option Nat
 |[],_,_=>none
 |r::rows,at',num=>if r.1=true/\r.2.imm=num then some at' else labI rows (if r.1=true then at' else at'+1) num
def labOf(rows:List Row)(num:Int):Option Nat:=labI rows 0 num
def rdN(d:Int):Nat->List UInt8->List Row->Int×List Row
 |0,_,rows=>(0,rows)
 |n+1,t,rows=>
 if _h:t=[]then(0,rows)else
 if _hn:pre noNl t=t.length then(2,rows)else
 match rdLine d (t.take (pre noNl t))with
 |none=>(2,rows)
 |some (true,x)=>if(labOf rows x.imm).isSome=true then(3,rows)else rdN d n (t.drop (pre noNl t+1)) (rows++[(true,x)])
 |some (false,x)=>rdN d n (t.drop (pre noNl t+1)) (rows++[(false,x)])
def rdT(d:Int)(t:List UInt8)(rows:List Row):Int×List Row:=rdN d (t.length+1) t rows
theorem drop_less{t:List UInt8}(h:¬t=[])(k:Nat):(t.drop (k+1)).length<t.length:=by
 have:t.length≠0:=fun e=>h (List.length_eq_zero_iff.1 e)
 rw[List.length_drop];omega
theorem rdN_any(d:Int):∀(n m:Nat)(t:List UInt8)(rows:List Row),t.length<n->t.length<m->rdN d n t rows=rdN d m t rows
 |0,_,_,_,h,_=>absurd h (Nat.not_lt_zero _)
 |_+1,0,_,_,_,h=>absurd h (Nat.not_lt_zero _)
 |n+1,m+1,t,rows,hn,hm=>by
  by_cases h:t=[]
  ·subst h;rfl
  have l:=drop_less h (pre noNl t);have e:∀r,rdN d n (t.drop (pre noNl t+1)) r=rdN d m (t.drop (pre noNl t+1)) r:=fun r=>rdN_any d n m _ r (by omega) (by omega)
  rw[rdN,rdN];simp only[e]
theorem rdT_eq(d:Int)(t:List UInt8)(rows:List Row):rdT d t rows=
 if _h:t=[]then(0,rows)else
 if _hn:pre noNl t=t.length then(2,rows)else
 match rdLine d (t.take (pre noNl t))with
 |none=>(2,rows)
 |some (true,x)=>if(labOf rows x.imm).isSome=true then(3,rows)else rdT d (t.drop (pre noNl t+1)) (rows++[(true,x)])
 |some (false,x)=>rdT d (t.drop (pre noNl t+1)) (rows++[(false,x)]):=by
 by_cases h:t=[]
 ·subst h;rfl
 have e:∀r,rdN d t.length (t.drop (pre noNl t+1)) r=rdT d (t.drop (pre noNl t+1)) r:=fun r=>rdN_any d _ _ _ r (drop_less h _) (Nat.lt_succ_self _)
 show rdN d (t.length+1) t rows=_;rw[rdN];simp only[e]
def lostR(rows:List Row)(r:Row):Bool:=(r.1||jumpB r.2.op)&&(match labOf rows r.2.imm with|some at'=>at'==cntI rows|none=>true)
def lostI(rows:List Row):Int:=match rows.findIdx? (lostR rows)with|some i=>(i:Int)+1|none=>0
def toI(rows:List Row)(x:NV):NV:=if jumpB x.op=true then{x with imm:=(((labOf rows x.imm).getD 0:Nat):Int)}else x
def prgI(rows part:List Row):List NV:=(part.filter fun r=>!r.1).map fun r=>toI rows r.2
def nvF(x:NV):Nat->Int
 |0=>x.op
 |1=>x.d
 |2=>x.a
 |3=>x.b
 |4=>x.imm
 |_=>x.h
def prF(xs:List NV)(i j:Nat):Int:=nvF (xs.getD i nv0) j
def rdA(d:Int)(t:List UInt8):Int×Int×List NV:=
 if 100000<t.length∨inB d 0 1=false then(1,0,[])else
 if(rdT d t []).1≠0 then((rdT d t []).1,((rdT d t []).2.length:Int)+1,[])else
 if lostI (rdT d t []).2≠0 then(4,lostI (rdT d t []).2,[])else
 if flatOK (prgI (rdT d t []).2 (rdT d t []).2).length (prF (prgI (rdT d t []).2 (rdT d t []).2))=true then(0,0,prgI (rdT d t []).2 (rdT d t []).2)else(5,0,[])
end Go.Proofs.YtdbhgaegblclaaaDoor
