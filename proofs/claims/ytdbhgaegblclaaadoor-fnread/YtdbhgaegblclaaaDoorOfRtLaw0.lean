import Derived.Test.YtdbhgaegblclaaaDoorRdSpec
import Derived.Test.YtdbhgaegblclaaaDoorRdTop
import Derived.Test.YtdbhgaegblclaaaDoorOfDrawAny
import Derived.Test.YtdbhgaegblclaaaDoorAsmImpl
set_option maxHeartbeats 4000000
namespace Go.Proofs.YtdbhgaegblclaaaDoor
open Go.RowKit
theorem ofN_dig(k:Nat)(h:k<10):isDg (UInt8.ofNat (48+k))=true/\((UInt8.ofNat (48+k)).toNat:Int)-48=k:=by
 have e:(UInt8.ofNat (48+k)).toNat=48+k:=by simp;omega
 refine⟨?_,by omega⟩;unfold isDg;rw[e];simp;omega
theorem dec_dig(n:Nat):∀c∈Lib.decDigits n,isDg c=true:=by
 induction n using Nat.strongRecOn with
 |ind n ih=>
  rw[Lib.decDigits];by_cases h:n<10
  ·rw[dif_pos h]
   intro c hc;have:c=UInt8.ofNat (48+n):=by simpa using hc
   subst this;exact(ofN_dig n h).1
  ·rw[dif_neg h]
   intro c hc;rcases List.mem_append.1 hc with h1|h1
   ·exact ih (n/10) (by omega) c h1
   ·have:c=UInt8.ofNat (48+n%10):=by simpa using h1
    subst this;exact(ofN_dig (n%10) (by omega)).1
theorem dec_val(n:Nat):valN (Lib.decDigits n)=n:=by
 induction n using Nat.strongRecOn with
 |ind n ih=>
  rw[Lib.decDigits];by_cases h:n<10
  ·rw[dif_pos h]
   have:=(ofN_dig n h).2;show 0*10+(((UInt8.ofNat (48+n)).toNat:Int)-48)=n;omega
  ·rw[dif_neg h,valN_snoc,ih (n/10) (by omega),(ofN_dig (n%10) (by omega)).2]
   omega
theorem dec_len:∀(k n:Nat),n<10^(k+1)->(Lib.decDigits n).length<=k+1
 |0,n,h=>by
  rw[Lib.decDigits,dif_pos (by omega)];simp
 |k+1,n,h=>by
  rw[Lib.decDigits];by_cases h1:n<10
  ·rw[dif_pos h1];simp
  ·rw[dif_neg h1]
   have:=dec_len k (n/10) (by rw[Nat.pow_succ]at h;omega);simp;omega
theorem dec_head(n:Nat)(h:1<=n):∃c l,Lib.decDigits n=c::l/\c.toNat≠48:=by
 induction n using Nat.strongRecOn with
 |ind n ih=>
  rw[Lib.decDigits];by_cases h1:n<10
  ·rw[dif_pos h1]
   refine⟨_,_,rfl,?_⟩;have:=(ofN_dig n h1).2;omega
  ·rw[dif_neg h1]
   obtain⟨c,l,e,hc⟩:=ih (n/10) (by omega) (by omega);exact⟨c,l++[UInt8.ofNat (48+n%10)],by rw[e];rfl,hc⟩
theorem dec_zero:Lib.decDigits 0=[48]:=by rw[Lib.decDigits];rfl
theorem dec_ne(n:Nat):Lib.decDigits n≠[]:=by
 rw[Lib.decDigits];split<;>simp
theorem numAt_dec(n:Nat)(r:List UInt8)(h:n<1000000000)(hr:∀c,r.head?=some c->isDg c=false):numAt (Lib.decDigits n++r)=some ((n:Int),(Lib.decDigits n).length):=by
 have hp:pre isDg (Lib.decDigits n++r)=(Lib.decDigits n).length:=pre_app isDg _ r (dec_dig n) hr;have hl:=dec_len 8 n (by omega);have h0:(Lib.decDigits n).length≠0:=fun e=>dec_ne n (List.length_eq_zero_iff.1 e)
 unfold numAt;rw[hp,if_neg,List.take_left' rfl,dec_val];rintro(e|e|⟨e1,e2⟩)
 ·exact h0 e
 ·omega
 ·by_cases hn:n=0
  ·subst hn;rw[dec_zero]at e1;simp at e1
  ·obtain⟨c,l,e3,hc⟩:=dec_head n (by omega)
   rw[e3]at e2;exact hc (by simpa using e2)
theorem numS_itoa(sg:Bool)(v:Int)(r:List UInt8)(h:v.natAbs<1000000000)(hs:sg=true∨0<=v)(hr:∀c,r.head?=some c->isDg c=false):numS sg (Lib.itoa v++r)=some (v,(Lib.itoa v).length):=by
 unfold Lib.itoa;by_cases hv:v<0
 ·rw[if_pos hv]
  have hsg:sg=true:=by rcases hs with h1|h1;·exact h1
                       ·omega
  unfold numS;have e:(45::Lib.decDigits v.natAbs)++r=45::(Lib.decDigits v.natAbs++r):=rfl;rw[e,if_pos ⟨hsg,rfl⟩];show(match numAt (Lib.decDigits v.natAbs++r)with|some (v,n)=>if v=0 then none else some (-v,n+1)|none=>none)=_;rw[numAt_dec v.natAbs r h hr];simp only;rw[if_neg (by omega)];simp;omega
 ·rw[if_neg hv]
  unfold numS;rw[if_neg]
  ·rw[numAt_dec v.toNat r (by omega) hr]
   simp;omega
  ·rintro⟨_,e⟩
   rcases hd:Lib.decDigits v.toNat with _|⟨c,l⟩
   ·exact dec_ne _ hd
   ·rw[hd]at e
    have e1:c.toNat=45:=by simpa using e
    have e2:=dec_dig v.toNat c (by rw[hd];simp);unfold isDg at e2;rw[e1]at e2;simp at e2
def fld(x:NV)(c:UInt8):Int:=if c=65 then x.a else if c=66 then x.b else if c=68 then x.d else if c=72 then x.h else x.imm
def rbL(x:NV)(c:UInt8):List UInt8:=(rbI x.d x.a x.b x.imm x.h c).data.toList
theorem rbL_fd(x:NV)(c:UInt8)(h:isFd c=true)(hn:c≠64):rbL x c=Lib.itoa (fld x c):=by
 have hc:c=65∨c=66∨c=68∨c=72∨c=73∨c=78:=by
  unfold isFd at h;simp only[Bool.or_eq_true,beq_iff_eq]at h;rcases h with(((((h|h)|h)|h)|h)|h)|h
  ·exact .inl h
  ·exact .inr (.inl h)
  ·exact .inr (.inr (.inl h))
  ·exact .inr (.inr (.inr (.inl h)))
  ·exact .inr (.inr (.inr (.inr (.inl h))))
  ·exact .inr (.inr (.inr (.inr (.inr h))))
  ·exact absurd h hn
 rcases hc with rfl|rfl|rfl|rfl|rfl|rfl<;>rfl
theorem rbL_lit(x:NV)(c:UInt8)(h:isFd c=false):rbL x c=[c]:=by
 unfold isFd at h;simp only[Bool.or_eq_false_iff,beq_eq_false_iff_ne]at h;obtain⟨⟨⟨⟨⟨⟨h1,h2⟩,h3⟩,h4⟩,h5⟩,h6⟩,_⟩:=h;unfold rbL rbI;rw[if_neg h3,if_neg h1,if_neg h2,if_neg h5,if_neg h6,if_neg h4]
def okF:List UInt8->Bool
 |[]=>true
 |c::ps=>(!isFd c||(c !=64&&(match ps with|[]=>true|c2::_=>!isFd c2&&!isDg c2)))&&okF ps
def setA(x:NV)(ps:List UInt8)(y:NV):NV:=ps.foldl (fun y c=>if isFd c=true then setF y c (fld x c)else y) y
theorem fit_rend(x:NV):∀(ps:List UInt8)(y:NV),okF ps=true->(∀c∈ps,isFd c=true->(fld x c).natAbs<1000000000/\(c=73∨0<=fld x c))->fit ps (ps.flatMap (rbL x)) y=some (setA x ps y)
 |[],y,_,_=>rfl
 |c::ps,y,ho,hf=>by
  unfold okF at ho;rw[Bool.and_eq_true]at ho;have ih:=fun y=>fit_rend x ps y ho.2 (fun c hc=>hf c (List.mem_cons_of_mem _ hc))
  rw[List.flatMap_cons];cases hc:isFd c with
  |true=>
   have h1:=ho.1;rw[hc]at h1;simp only[Bool.not_true,Bool.false_or,Bool.and_eq_true,bne_iff_ne]at h1;obtain⟨hv,hs⟩:=hf c (by simp) hc;have hr:∀c',(ps.flatMap (rbL x)).head?=some c'->isDg c'=false:=by
    intro c' h';rcases ps with _|⟨c2,ps⟩
    ·cases h'
    ·have h2:=h1.2
     simp only[Bool.and_eq_true,Bool.not_eq_true']at h2;rw[List.flatMap_cons,rbL_lit x c2 h2.1]at h';have:c2=c':=by simpa using h'
     rw[<-this];exact h2.2
   rw[rbL_fd x c hc h1.1];have hn:=numS_itoa (c==73) (fld x c) (ps.flatMap (rbL x)) hv (hs.imp (fun e=>by simp[e]) id) hr;unfold fit;rw[if_pos hc,hn];simp only;rw[List.drop_left' rfl,ih];show _=some (setA x ps (if isFd c=true then setF y c (fld x c)else y));rw[if_pos hc]
  |false=>
   rw[rbL_lit x c hc,fit_cons_lit c _ _ _ hc];show(if c=c then fit ps (ps.flatMap (rbL x)) y else none)=_;rw[if_pos rfl,ih];show _=some (setA x ps (if isFd c=true then setF y c (fld x c)else y));rw[if_neg (by simp[hc])]
theorem rend_list(f:UInt8->ByteArray):∀(l:List UInt8)(o:ByteArray),(rendS f o l).data.toList=o.data.toList++l.flatMap fun c=>(f c).data.toList
 |[],o=>by simp[rendS]
 |c::l,o=>by
  have:rendS f o (c::l)=rendS f (o++f c) l:=rfl;rw[this,rend_list f l,List.flatMap_cons];simp
theorem form_facts:∀k:Nat,k<34->(okF (ptL 0 (shpI ((k:Int)+1)))&&okF (ptL 1 (shpI ((k:Int)+1)))&&(jumpB ((k:Int)+1)||(!(ptL 0 (shpI ((k:Int)+1))).contains 78&&!(ptL 1 (shpI ((k:Int)+1))).contains 78))&&((ptL 0 (shpI ((k:Int)+1))).head?.all (· ==32))&&((ptL 1 (shpI ((k:Int)+1))).head?.all (· ==32))&&(ptL 0 (shpI ((k:Int)+1))).all noNl&&(ptL 1 (shpI ((k:Int)+1))).all noNl&&(nmL ((k:Int)+1)).all noNl)=true:=by decide+kernel
theorem form_all{d op:Int}(h1:1<=op)(h2:op<=34)(hd:d=0∨d=1):okF (ptL d (shpI op))=true/\(jumpB op=true∨78∉ptL d (shpI op))/\(∀c,(ptL d (shpI op)).head?=some c->c=32)/\(∀c∈ptL d (shpI op),noNl c=true)/\∀c∈nmL op,noNl c=true:=by
 have h:=form_facts (op-1).toNat (by omega);rw[show(((op-1).toNat:Nat):Int)+1=op by omega]at h;simp only[Bool.and_eq_true,Bool.or_eq_true,Bool.not_eq_true',List.all_eq_true]at h;obtain⟨⟨⟨⟨⟨⟨⟨a0,a1⟩,b⟩,c0⟩,c1⟩,d0⟩,d1⟩,e⟩:=h;have hh:∀l:List UInt8,(l.head?.all (· ==32))=true->∀c,l.head?=some c->c=32:=fun l hl c hc=>by rw[hc]at hl;simpa using hl
 rcases hd with rfl|rfl
 ·exact⟨a0,b.imp id (fun b=>by simpa using b.1),hh _ c0,d0,e⟩
 ·exact⟨a1,b.imp id (fun b=>by simpa using b.2),hh _ c1,d1,e⟩
theorem set_all(d op:Int)(x:NV)(h1:1<=op)(h2:op<=34)(hd:d=0∨d=1):setA x (ptL d (shpI op)) {nv0 with op:=op}=⟨op,if bitB op 1=true then x.d else 0,if bitB op 2=true then x.a else 0,if bitB op 4=true then x.b else 0,if bitB op 8=true then x.imm else 0,if bitB op 16=true then x.h else 0⟩:=by
 obtain rfl|rfl|rfl|rfl|rfl|rfl|rfl|rfl|rfl|rfl|rfl|rfl|rfl|rfl|rfl|rfl|rfl|rfl|rfl|rfl|rfl|rfl|rfl|rfl|rfl|rfl|rfl|rfl|rfl|rfl|rfl|rfl|rfl|rfl:op=1∨op=2∨op=3∨op=4∨op=5∨op=6∨op=7∨op=8∨op=9∨op=10∨op=11∨op=12∨op=13∨op=14∨op=15∨op=16∨op=17∨op=18∨op=19∨op=20∨op=21∨op=22∨op=23∨op=24∨op=25∨op=26∨op=27∨op=28∨op=29∨op=30∨op=31∨op=32∨op=33∨op=34:=by omega
 all_goals(rcases hd with rfl|rfl<;>kernel_rfl)
theorem ins_facts{x:NV}(h:implIns x.op x.d x.a x.b x.imm x.h=true):1<=x.op/\x.op<=34/\(0<=x.d/\x.d<=7)/\(0<=x.a/\x.a<=7)/\(0<=x.b/\x.b<=7)/\(0<=x.h/\x.h<=7)/\(-1000000<=x.imm/\x.imm<=1000000)/\(jumpB x.op=true->0<=x.imm)/\(bitB x.op 1=false->x.d=0)/\(bitB x.op 2=false->x.a=0)/\(bitB x.op 4=false->x.b=0)/\(bitB x.op 8=false->x.imm=0)/\(bitB x.op 16=false->x.h=0):=by
 unfold implIns at h;simp only[Bool.and_eq_true]at h;obtain⟨⟨⟨⟨⟨h0,h1⟩,h2⟩,h3⟩,h4⟩,h5⟩:=h;have fb:∀(u:Bool)(v lo hi:Int),fieldB u v lo hi=true->(u=false->v=0)/\((lo<=v/\v<=hi)∨v=0):=fun u v lo hi hh=>by
  unfold fieldB at hh;cases u with
  |true=>simp[inB]at hh;exact⟨fun e=>(by cases e),.inl hh⟩
  |false=>simp at hh;exact⟨fun _=>hh,.inr hh⟩
 have k0:1<=x.op/\x.op<=34:=by simpa[inB]using h0
 have k1:=fb _ _ _ _ h1;have k2:=fb _ _ _ _ h2;have k3:=fb _ _ _ _ h3;have k4:=fb _ _ _ _ h4;have k5:=fb _ _ _ _ h5;have i1: -1000000<=immLo x.op/\(jumpB x.op=true->immLo x.op=0):=by
  unfold immLo jumpB;split
  ·exact⟨by omega,fun _=>rfl⟩
  ·rename_i hn
   refine⟨by omega,fun e=>?_⟩;simp only[Bool.and_eq_true,decide_eq_true_eq]at e;exact absurd (.inr (.inr (.inr e))) hn
 have i2:immHi x.op<=1000000:=by unfold immHi;split;·omega
                                 ·split<;>omega
 refine⟨k0.1,k0.2,by omega,by omega,by omega,by omega,by omega,fun e=>?_,k1.1,k2.1,k3.1,k4.1,k5.1⟩;have:=i1.2 e;omega
theorem itoa_noNl(v:Int):∀c∈Lib.itoa v,noNl c=true:=by
 have hd:∀n,∀c∈Lib.decDigits n,noNl c=true:=fun n c hc=>by
  have:=dec_dig n c hc;unfold isDg at this;simp only[Bool.and_eq_true,decide_eq_true_eq]at this;unfold noNl;rw[decide_eq_true_eq];omega
 unfold Lib.itoa;split
 ·intro c hc
  rcases List.mem_cons.1 hc with e|e
  ·subst e;decide
  ·exact hd _ c e
 ·exact hd _
theorem rend_noNl(x:NV)(ps:List UInt8)(ho:∀c∈ps,c≠64)(h:∀c∈ps,noNl c=true):∀c∈ps.flatMap (rbL x),noNl c=true:=by
 intro c hc;obtain⟨c',h1,h2⟩:=List.mem_flatMap.1 hc;cases hf:isFd c' with
 |true=>rw[rbL_fd x c' hf (ho c' h1)]at h2;exact itoa_noNl _ c h2
 |false=>rw[rbL_lit x c' hf]at h2;have:c=c':=by simpa using h2
         rw[this];exact h c' h1
theorem ok_no64:∀ps:List UInt8,okF ps=true->∀c∈ps,c≠64
 |[],_,c,hc=>by cases hc
 |c0::ps,h,c,hc=>by
  unfold okF at h;rw[Bool.and_eq_true]at h;rcases List.mem_cons.1 hc with e|e
  ·intro e2
   rw[e2]at e;rw[<-e]at h;exact absurd h.1 (by simp[isFd])
  ·exact ok_no64 ps h.2 c e
theorem ite_z{b:Bool}{v:Int}(h:b=false->v=0):(if b=true then v else 0)=v:=by
 cases b with
 |true=>rfl
 |false=>rw[h rfl];rfl
theorem ins_back(d:Int)(hd:d=0∨d=1)(x:NV)(h:implIns x.op x.d x.a x.b x.imm x.h=true):rdLine d (lineS d x.op x.d x.a x.b x.imm x.h).data.toList=some (false,x)/\∀c∈(lineS d x.op x.d x.a x.b x.imm x.h).data.toList,noNl c=true:=by
 obtain⟨h1,h2,hD,hA,hB,hH,hI,hJ,z1,z2,z4,z8,z16⟩:=ins_facts h;obtain⟨fo,fj,fh,fn,nn⟩:=form_all h1 h2 hd;obtain⟨na,nne,nop⟩:=nm_all h1 h2;rw[<-line_same d x.op x.d x.a x.b x.imm x.h h1 h2 hd];unfold lineI;have hl:(rendS (rbI x.d x.a x.b x.imm x.h) (nmS x.op) (ptS d (shpI x.op)).data.toList).data.toList=nmL x.op++(ptL d (shpI x.op)).flatMap (rbL x):=rend_list _ _ _;rw[hl];refine⟨?_,fun c hc=>?_⟩;rotate_left
 ·rcases List.mem_append.1 hc with e|e
  ·exact nn c e
  ·exact rend_noNl x _ (ok_no64 _ fo) fn c e
 have hfit:fit (ptL d (shpI x.op)) ((ptL d (shpI x.op)).flatMap (rbL x)) {nv0 with op:=x.op}=some x:=by
  rw[fit_rend x _ _ fo,set_all d x.op x h1 h2 hd]
  ·rw[ite_z z1,ite_z z2,ite_z z4,ite_z z8,ite_z z16]
  ·intro c hc hf
   unfold fld;by_cases c1:c=65
   ·rw[if_pos c1];omega
   rw[if_neg c1];by_cases c2:c=66
   ·rw[if_pos c2];omega
   rw[if_neg c2];by_cases c3:c=68
   ·rw[if_pos c3];omega
   rw[if_neg c3];by_cases c4:c=72
   ·rw[if_pos c4];omega
   rw[if_neg c4];refine⟨by omega,?_⟩;by_cases c5:c=73
   ·exact .inl c5
   ·right
    have c6:c=78:=by
     unfold isFd at hf;simp only[Bool.or_eq_true,beq_iff_eq]at hf;rcases hf with(((((hf|hf)|hf)|hf)|hf)|hf)|hf
     ·exact absurd hf c1
     ·exact absurd hf c2
     ·exact absurd hf c3
     ·exact absurd hf c4
     ·exact absurd hf c5
     ·exact hf
     ·exact absurd hf (ok_no64 _ fo c hc)
    rcases fj with fj|fj
    ·exact hJ fj
    ·exact absurd (c6▸hc) fj
 have hhead:(nmL x.op++(ptL d (shpI x.op)).flatMap (rbL x)).head?≠some (lbC d):=by
  rcases hn:nmL x.op with _|⟨c,l⟩
  ·exact absurd hn nne
  ·intro e
   have e1:c=lbC d:=by simpa using e
   have e2:=na c (by rw[hn];simp);rw[e1]at e2;rcases hd with rfl|rfl<;>exact absurd e2 (by decide)
 have hpre:pre isAz (nmL x.op++(ptL d (shpI x.op)).flatMap (rbL x))=(nmL x.op).length:=by
  refine pre_app isAz _ _ na fun c hc=>?_
  rcases hp:ptL d (shpI x.op)with _|⟨c0,ps⟩
  ·rw[hp]at hc;cases hc
  ·rw[hp]at hc
   have e0:=fh c0 (by rw[hp];rfl);subst e0;rw[List.flatMap_cons,rbL_lit x 32 rfl]at hc;have:(32:UInt8)=c:=by simpa using hc
   rw[<-this];decide
 have hins:insL d (nmL x.op++(ptL d (shpI x.op)).flatMap (rbL x))=some x:=by
  unfold insL;rw[hpre,List.take_left' rfl,List.drop_left' rfl,nop,if_neg (by omega)];exact hfit
 unfold rdLine;rw[label_head hd hhead];simp only;rw[hins];simp only;rw[if_pos];unfold canS;by_cases hj:jumpB x.op=true
 ·rw[if_pos hj]
  unfold implIns at h⊢;simp only[Bool.and_eq_true]at h⊢;refine⟨⟨h.1.1,?_⟩,h.2⟩;unfold fieldB;split
  ·have e:immLo x.op=0/\immHi x.op=1999:=by
    unfold jumpB at hj;simp only[Bool.and_eq_true,decide_eq_true_eq]at hj;unfold immLo immHi;rw[if_pos (by omega),if_neg (by omega),if_pos (by omega)];exact⟨rfl,rfl⟩
   rw[e.1,e.2];decide
  ·rfl
 ·rw[if_neg hj];exact h
theorem lab_back(d:Int)(hd:d=0∨d=1)(n:Int)(h0:0<=n)(h1:n<1000000000):rdLine d (labS d n).data.toList=some (true,{nv0 with imm:=n})/\∀c∈(labS d n).data.toList,noNl c=true:=by
 have hl:(labS d n).data.toList=(ptL d 64).flatMap (rbL {nv0 with imm:=n}):=by
  rw[<-lab_same d n hd,rend_list];rfl
 have fo:okF (ptL d 64)=true/\(ptL d 64).all noNl=true:=by rcases hd with rfl|rfl<;>exact⟨by kernel_rfl,by kernel_rfl⟩
 have fs:setA {nv0 with imm:=n} (ptL d 64) nv0={nv0 with imm:=n}:=by rcases hd with rfl|rfl<;>kernel_rfl
 rw[hl];refine⟨?_,rend_noNl _ _ (ok_no64 _ fo.1) (List.all_eq_true.1 fo.2)⟩;unfold rdLine;rw[fit_rend _ _ _ fo.1,fs];intro c hc hf;unfold fld;repeat' split
 all_goals first|exact⟨by show(0:Int).natAbs<_;decide,.inr (by show(0:Int)<=0;decide)⟩|exact⟨by show n.natAbs<_;omega,.inr h0⟩
def nvG(F:Nat->Nat->Int)(i:Nat):NV:=⟨F i 0,F i 1,F i 2,F i 3,F i 4,F i 5⟩
def rowA(len:Nat)(F:Nat->Nat->Int)(i:Nat):List Row:=(if reachB F i len=true then[(true,{nv0 with imm:=(i:Int)})]else[])++[(false,nvG F i)]
def rowsA(len:Nat)(F:Nat->Nat->Int):Nat->List Row
 |0=>[]
 |k+1=>rowsA len F k++rowA len F k
theorem cnt_app(a b:List Row):cntI (a++b)=cntI a+cntI b:=by simp[cntI]
theorem rowA_cnt(len:Nat)(F:Nat->Nat->Int)(i:Nat):cntI (rowA len F i)=1:=by
 unfold rowA;split<;>rfl
theorem rowsA_cnt(len:Nat)(F:Nat->Nat->Int):∀k,cntI (rowsA len F k)=k
 |0=>rfl
 |k+1=>by rw[rowsA,cnt_app,rowsA_cnt len F k,rowA_cnt]
theorem rowsA_lab(len:Nat)(F:Nat->Nat->Int)(num:Int):∀k:Nat,labOf (rowsA len F k) num=if 0<=num/\num<k/\reachB F num.toNat len=true then some num.toNat else none
 |0=>by
  rw[if_neg (by omega)];rfl
 |k+1=>by
  have ih:=rowsA_lab len F num k;unfold labOf at ih⊢;have hR:(if 0<=num/\num<((k+1:Nat):Int)/\reachB F num.toNat len=true then some num.toNat else none)=match labI (rowsA len F k) 0 num with|some x=>some x|none=>if reachB F k len=true/\(k:Int)=num then some k else none:=by
   rw[ih];by_cases hc:0<=num/\num<k/\reachB F num.toNat len=true
   ·have h2:0<=num/\num<((k+1:Nat):Int)/\reachB F num.toNat len=true:=⟨hc.1,by omega,hc.2.2⟩
    rw[if_pos hc,if_pos h2]
   ·rw[if_neg hc]
    by_cases hk:(k:Int)=num
    ·subst hk
     by_cases hr:reachB F k len=true
     ·have h2:(0:Int)<=(k:Int)/\(k:Int)<((k+1:Nat):Int)/\reachB F (k:Int).toNat len=true:=⟨by omega,by omega,by simpa using hr⟩
      rw[if_pos h2];simp[hr]
     ·have h2:¬((0:Int)<=(k:Int)/\(k:Int)<((k+1:Nat):Int)/\reachB F (k:Int).toNat len=true):=fun h=>hr (by simpa using h.2.2)
      rw[if_neg h2];simp[hr]
    ·have h2:¬(0<=num/\num<((k+1:Nat):Int)/\reachB F num.toNat len=true):=by
      rintro⟨e1,e2,e3⟩;exact hc ⟨e1,by omega,e3⟩
     rw[if_neg h2];simp[hk]
  rw[hR,rowsA,rowA,<-List.append_assoc,lab_app];by_cases hr:reachB F k len=true
  ·rw[if_pos hr,lab_app,rowsA_cnt]
   cases labI (rowsA len F k) 0 num with
   |some x=>rfl
   |none=>by_cases hk:(k:Int)=num<;>simp[hr,hk]
  ·rw[if_neg hr,List.append_nil]
   cases labI (rowsA len F k) 0 num with
   |some x=>rfl
   |none=>simp[hr]
theorem rowsA_mem(len:Nat)(F:Nat->Nat->Int)(r:Row):∀k,r∈rowsA len F k->∃i,i<k/\((r=(true,{nv0 with imm:=(i:Int)})/\reachB F i len=true)∨r=(false,nvG F i))
 |0,h=>by cases h
 |k+1,h=>by
  rw[rowsA]at h;rcases List.mem_append.1 h with h|h
  ·obtain⟨i,hi,h'⟩:=rowsA_mem len F r k h
   exact⟨i,by omega,h'⟩
  ·refine⟨k,by omega,?_⟩
   unfold rowA at h;rcases List.mem_append.1 h with h|h
   ·by_cases hr:reachB F k len=true
    ·rw[if_pos hr]at h
     exact .inl ⟨by simpa using h,hr⟩
    ·rw[if_neg hr]at h;cases h
   ·exact .inr (by simpa using h)
def sfx(d:Int)(len:Nat)(F:Nat->Nat->Int)(k:Nat):Nat->List UInt8
 |0=>[]
 |j+1=>lineAt d len F k++sfx d len F (k+1) j
theorem txt_sfx(d:Int)(len:Nat)(F:Nat->Nat->Int):∀(j k:Nat),txt d len F (k+j)=txt d len F k++sfx d len F k j
 |0,k=>by simp[sfx]
 |j+1,k=>by
  rw[show k+(j+1)=(k+1)+j by omega,txt_sfx d len F j (k+1),sfx,txt];simp
theorem flat_facts{len:Nat}{F:Nat->Nat->Int}(h:flatOK len F=true):1<=len/\len<=2000/\(∀i,i<len->implIns (F i 0) (F i 1) (F i 2) (F i 3) (F i 4) (F i 5)=true/\(jumpB (F i 0)=true->F i 4<len)):=by
 unfold flatOK at h;simp only[Bool.and_eq_true,decide_eq_true_eq,List.all_eq_true,List.mem_range]at h;refine⟨h.1.1.1,h.1.1.2,fun i hi=>?_⟩;have:=h.1.2 i hi;unfold flatAt insOK at this;rw[Bool.and_eq_true]at this;refine⟨this.1,fun hj=>?_⟩;have h2:=this.2;rw[hj]at h2;simp at h2;exact h2
theorem rdT_rows(d:Int)(hd:d=0∨d=1)(len:Nat)(F:Nat->Nat->Int)(h:flatOK len F=true):∀(j k:Nat),k+j=len->rdT d (sfx d len F k j) (rowsA len F k)=(0,rowsA len F len)
 |0,k,hk=>by
  obtain rfl:k=len:=by omega
  exact rdT_nil d _
 |j+1,k,hk=>by
  obtain⟨_,l2,hall⟩:=flat_facts h;have ih:=rdT_rows d hd len F h j (k+1) (by omega);obtain⟨hi1,hi2⟩:=ins_back d hd (nvG F k) (hall k (by omega)).1;have hins:∀rows,rdT d ((lineS d (F k 0) (F k 1) (F k 2) (F k 3) (F k 4) (F k 5)++⟨#[10]⟩).data.toList++sfx d len F (k+1) j) rows=rdT d (sfx d len F (k+1) j) (rows++[(false,nvG F k)]):=fun rows=>by
   have e:(lineS d (F k 0) (F k 1) (F k 2) (F k 3) (F k 4) (F k 5)++⟨#[10]⟩).data.toList++sfx d len F (k+1) j=(lineS d (F k 0) (F k 1) (F k 2) (F k 3) (F k 4) (F k 5)).data.toList++10::sfx d len F (k+1) j:=by simp
   have hi3:∀c∈(lineS d (F k 0) (F k 1) (F k 2) (F k 3) (F k 4) (F k 5)).data.toList,noNl c=true:=hi2;rw[e,rdT_line d _ _ rows hi3];rw[show rdLine d (lineS d (F k 0) (F k 1) (F k 2) (F k 3) (F k 4) (F k 5)).data.toList=some (false,nvG F k)from hi1]
  rw[sfx,lineAt,List.append_assoc];rw[rowsA,rowA]at ih;by_cases hr:reachB F k len=true
  ·rw[if_pos hr]at ih⊢
   obtain⟨hl1,hl2⟩:=lab_back d hd k (by omega) (by omega);have e:(labS d k++⟨#[10]⟩).data.toList++((lineS d (F k 0) (F k 1) (F k 2) (F k 3) (F k 4) (F k 5)++⟨#[10]⟩).data.toList++sfx d len F (k+1) j)=(labS d k).data.toList++10::((lineS d (F k 0) (F k 1) (F k 2) (F k 3) (F k 4) (F k 5)++⟨#[10]⟩).data.toList++sfx d len F (k+1) j):=by simp
   rw[e,rdT_line d _ _ _ hl2,hl1];simp only;rw[rowsA_lab,if_neg (by simp),hins,List.append_assoc];exact ih
  ·rw[if_neg hr]at ih⊢
   rw[List.nil_append,hins];rw[List.nil_append]at ih;exact ih
theorem rowsA_prg(len:Nat)(F:Nat->Nat->Int)(rows:List Row):∀k,prgI rows (rowsA len F k)=(List.range k).map fun i=>toI rows (nvG F i)
 |0=>rfl
 |k+1=>by
  have ih:=rowsA_prg len F rows k;unfold prgI at ih⊢;rw[rowsA,List.filter_append,List.map_append,ih,List.range_succ,List.map_append];congr 1
  unfold rowA;split<;>rfl
theorem flatOK_congr{len:Nat}{F G:Nat->Nat->Int}(h:∀i j,i<len->j<6->F i j=G i j):flatOK len F=flatOK len G:=by
 have e:∀i,i<len->flatAt len F i=flatAt len G i:=fun i hi=>by
  unfold flatAt insOK;rw[h i 0 hi (by omega),h i 1 hi (by omega),h i 2 hi (by omega),h i 3 hi (by omega),h i 4 hi (by omega),h i 5 hi (by omega)]
 have e2:(List.range len).all (flatAt len F)=(List.range len).all (flatAt len G):=by
  rw[Bool.eq_iff_iff,List.all_eq_true,List.all_eq_true];exact⟨fun k i hi=>(e i (List.mem_range.1 hi))▸k i hi,fun k i hi=>(e i (List.mem_range.1 hi)).symm▸k i hi⟩
 unfold flatOK;rw[e2];by_cases h1:1<=len
 ·rw[h (len-1) 0 (by omega) (by omega)]
 ·have:decide (1<=len)=false:=by simp;omega
  rw[this];simp
def prL(len:Nat)(F:Nat->Nat->Int):List NV:=(List.range len).map (nvG F)
theorem prL_len(len:Nat)(F:Nat->Nat->Int):(prL len F).length=len:=by simp[prL]
theorem prL_at(len:Nat)(F:Nat->Nat->Int)(i j:Nat)(hi:i<len)(hj:j<6):prF (prL len F) i j=F i j:=by
 unfold prF prL;rw[List.getD_eq_getElem?_getD,List.getElem?_map,List.getElem?_range hi];match j,hj with
 |0,_=>rfl
 |1,_=>rfl
 |2,_=>rfl
 |3,_=>rfl
 |4,_=>rfl
 |5,_=>rfl
theorem read_back(d:Int)(hd:d=0∨d=1)(len:Nat)(F:Nat->Nat->Int)(h:flatOK len F=true)(hl:(prT d len F).length<=100000):rdA d (prT d len F)=(0,0,prL len F):=by
 obtain⟨_,l2,hall⟩:=flat_facts h;have hin:inB d 0 1=true:=by rcases hd with rfl|rfl<;>rfl
 have ht:prT d len F=sfx d len F 0 len:=by
  unfold prT;rw[h,hin,if_pos (show(true&&true)=true from rfl)];have:=txt_sfx d len F len 0;rw[Nat.zero_add]at this;rw[this];rfl
 have h1:rdT d (prT d len F) []=(0,rowsA len F len):=by
  rw[ht];exact rdT_rows d hd len F h len 0 (by omega)
 have hlab:∀i,i<len->jumpB (F i 0)=true->labOf (rowsA len F len) (F i 4)=some (F i 4).toNat/\0<=F i 4/\F i 4<len:=fun i hi hj=>by
  have h2:=(hall i hi).2 hj;have h3:=(ins_facts (x:=nvG F i) (hall i hi).1).2.2.2.2.2.2.2.1 hj;have h3':0<=F i 4:=h3;refine⟨?_,h3',h2⟩;rw[rowsA_lab,if_pos];refine⟨h3',h2,?_⟩;unfold reachB;rw[List.any_eq_true];refine⟨i,List.mem_range.2 hi,?_⟩;rw[hj];simp;omega
 have h2:lostI (rowsA len F len)=0:=by
  refine lost_none fun j hj=>?_
  have hm:(rowsA len F len).getD j (false,nv0)∈rowsA len F len:=by
   rw[List.getD_eq_getElem?_getD,List.getElem?_eq_getElem hj];exact List.getElem_mem hj
  obtain⟨i,hi,⟨hr,hre⟩|hr⟩:=rowsA_mem len F _ len hm
  ·rw[hr]
   unfold lostR;simp only[Bool.true_or,Bool.true_and];rw[rowsA_lab,if_pos ⟨by omega,by omega,by simpa using hre⟩,rowsA_cnt];simp;omega
  ·rw[hr]
   unfold lostR;simp only[Bool.false_or];by_cases hj:jumpB (F i 0)=true
   ·obtain⟨e1,e2,e3⟩:=hlab i hi hj
    have:(nvG F i).imm=F i 4:=rfl;rw[this,e1,rowsA_cnt];simp;omega
   ·have:jumpB (nvG F i).op=false:=by show jumpB (F i 0)=false;simpa using hj
    rw[this];rfl
 have h3:prgI (rowsA len F len) (rowsA len F len)=prL len F:=by
  rw[rowsA_prg];refine List.map_congr_left fun i hi=>?_
  have hi':=List.mem_range.1 hi;unfold toI;split
  ·rename_i hj
   obtain⟨e1,e2,e3⟩:=hlab i hi' hj;have e4:(nvG F i).imm=F i 4:=rfl;rw[e4,e1];show(⟨F i 0,F i 1,F i 2,F i 3,_,F i 5⟩:NV)=_;have:(((some (F i 4).toNat).getD 0:Nat):Int)=F i 4:=by simp;omega
   rw[this];rfl
  ·rfl
 have h4:flatOK (prgI (rowsA len F len) (rowsA len F len)).length (prF (prgI (rowsA len F len) (rowsA len F len)))=true:=by
  rw[h3,prL_len,flatOK_congr fun i j hi hj=>prL_at len F i j hi hj];exact h
 have:=rdA_flat (by omega) hin h1 h2 h4;rw[this,if_pos rfl,h3]
theorem lwProg_same(b off len cap b' off' cap':Nat)(F:Nat->Nat->Int)(w:World)(hlen:len<=1048576)(hat:At w b off (len*6) (insF F))(hat':At w b' off' (len*6) (insF F)):
 Calls Tryd.prog 13 #[.slice (some ⟨b,off,none⟩) len cap,.slice (some ⟨b',off',none⟩) len cap'] w fun e w'=>e=.returned (.bool true)/\Below w.heap.size w w':=by
 have hb:=hat.lt;have hb':=hat'.lt;have HA:Hid (At w b off (len*6) (insF F)):=hat;have HA':Hid (At w b' off' (len*6) (insF F)):=hat';clear hat hat';go_enter Tryd.func13,Tryd.ntmps13;go_wp2;go_loopw [5](fun i wr=>∃k:Nat,k<=len/\i=.int .i64 k/\Below w.heap.size w wr)(fun i _=>len-(intOf i).toNat)
 case atStart=>exact⟨0,Nat.zero_le _,rfl,Below.refl _ _⟩
 case round=>
  obtain⟨k,hk,rfl,hbr⟩:=hrel;have HBR:Hid (Below w.heap.size w wr):=hbr;by_cases hlt:k<len
  ·have g0:=(hbr.cell (p:=⟨b,off+k*6,none⟩) hb).trans ((HA.out.cell (i:=k*6+0) (by omega)).trans (congrArg some (insF_at F k 0 (by omega))))
   have g1:=(hbr.cell (p:=⟨b,off+k*6+1,none⟩) hb).trans ((HA.out.cell (i:=k*6+1) (by omega)).trans (congrArg some (insF_at F k 1 (by omega))));have g2:=(hbr.cell (p:=⟨b,off+k*6+2,none⟩) hb).trans ((HA.out.cell (i:=k*6+2) (by omega)).trans (congrArg some (insF_at F k 2 (by omega))));have g3:=(hbr.cell (p:=⟨b,off+k*6+3,none⟩) hb).trans ((HA.out.cell (i:=k*6+3) (by omega)).trans (congrArg some (insF_at F k 3 (by omega))));have g4:=(hbr.cell (p:=⟨b,off+k*6+4,none⟩) hb).trans ((HA.out.cell (i:=k*6+4) (by omega)).trans (congrArg some (insF_at F k 4 (by omega))));have g5:=(hbr.cell (p:=⟨b,off+k*6+5,none⟩) hb).trans ((HA.out.cell (i:=k*6+5) (by omega)).trans (congrArg some (insF_at F k 5 (by omega))));have q0:=(hbr.cell (p:=⟨b',off'+k*6,none⟩) hb').trans ((HA'.out.cell (i:=k*6+0) (by omega)).trans (congrArg some (insF_at F k 0 (by omega))));have q1:=(hbr.cell (p:=⟨b',off'+k*6+1,none⟩) hb').trans ((HA'.out.cell (i:=k*6+1) (by omega)).trans (congrArg some (insF_at F k 1 (by omega))));have q2:=(hbr.cell (p:=⟨b',off'+k*6+2,none⟩) hb').trans ((HA'.out.cell (i:=k*6+2) (by omega)).trans (congrArg some (insF_at F k 2 (by omega))));have q3:=(hbr.cell (p:=⟨b',off'+k*6+3,none⟩) hb').trans ((HA'.out.cell (i:=k*6+3) (by omega)).trans (congrArg some (insF_at F k 3 (by omega))));have q4:=(hbr.cell (p:=⟨b',off'+k*6+4,none⟩) hb').trans ((HA'.out.cell (i:=k*6+4) (by omega)).trans (congrArg some (insF_at F k 4 (by omega))));have q5:=(hbr.cell (p:=⟨b',off'+k*6+5,none⟩) hb').trans ((HA'.out.cell (i:=k*6+5) (by omega)).trans (congrArg some (insF_at F k 5 (by omega))));have hlt':(k:Int)<(len:Int):=by omega
   go_wp2_with fail;go_quiet(fail);clear g0 g1 g2 g3 g4 g5 q0 q1 q2 q3 q4 q5;go_wp2;trace_state
   go_roundw
   case rel=>exact⟨k+1,by omega,by go_num,HBR.out.trans (below_drewN (Below.refl _ _) _)⟩
   case measure=>simp[intOf];omega
  ·go_wp2
   go_ret;exact⟨rfl,hbr⟩
theorem lwProg_nil(ao ao':Option Addr)(cap cap':Nat)(w:World):
 Calls Tryd.prog 13 #[.slice ao 0 cap,.slice ao' 0 cap'] w fun e w'=>e=.returned (.bool true)/\Below w.heap.size w w':=by
 go_enter Tryd.func13,Tryd.ntmps13;go_wp2;refine wp_loop_rounds 1 ?_;rw[rounds_succ];go_wp2;go_ret;exact⟨rfl,Below.refl _ _⟩
end Go.Proofs.YtdbhgaegblclaaaDoor
