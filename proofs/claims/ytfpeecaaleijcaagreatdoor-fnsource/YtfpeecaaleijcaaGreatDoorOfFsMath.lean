import Derived.Test.YtfpeecaaleijcaaGreatDoorOfPzNum
import Derived.Test.YtfpeecaaleijcaaGreatDoorOfAsmProg
import Derived.Test.YtfpeecaaleijcaaGreatDoorOfCl
import Derived.Test.YtfpeecaaleijcaaGreatDoorOfPsSpecB
import Derived.Test.YtfpeecaaleijcaaGreatDoorPzBnd
namespace Go.Proofs.YtfpeecaaleijcaaGreatDoor
open Go.RowKit
variable {d:Int}{fs:List (List UInt8)}{l t:List UInt8}{i te:Nat}{L:Nat->SV}{s:SV}{v:VV}
theorem OM(n:Nat)(r:List UInt8)(h:n<1000000000)(hr:∀c,r.head?=some c->Be c=false):DT (Lib.decDigits n++r)=some ((n:Int),(Lib.decDigits n).length):=by
 have hp:pre Be (Lib.decDigits n++r)=(Lib.decDigits n).length:=IX Be _ r (EU n) hr;have hl:=QI 8 n (by omega);have h0:(Lib.decDigits n).length≠0:=fun e=>KL n (List.length_eq_zero_iff.1 e)
 unfold DT;rw[hp,if_neg,List.take_left' rfl,PO];rintro(e|e|⟨e1,e2⟩)
 ·exact h0 e
 ·omega
 ·by_cases hn:n=0
  ·subst hn;rw[Sm]at e1;simp at e1
  ·obtain⟨c,l,e3,hc⟩:=Qo n (by omega)
   rw[e3]at e2;exact hc (by simpa using e2)
theorem WN(sg:Bool)(v:Int)(r:List UInt8)(h:v.natAbs<1000000000)(hs:sg=true∨0<=v)(hr:∀c,r.head?=some c->Be c=false):MO sg (Lib.itoa v++r)=some (v,(Lib.itoa v).length):=by
 unfold Lib.itoa;by_cases hv:v<0
 ·rw[if_pos hv]
  have hsg:sg=true:=by rcases hs with h1|h1;·exact h1
                       ·omega
  unfold MO;have e:(45::Lib.decDigits v.natAbs)++r=45::(Lib.decDigits v.natAbs++r):=rfl;rw[e,if_pos ⟨hsg,rfl⟩];show(match DT (Lib.decDigits v.natAbs++r)with|some (v,n)=>if v=0 then none else some (-v,n+1)|none=>none)=_;rw[OM v.natAbs r h hr];simp only;rw[if_neg (by omega)];simp;omega
 ·rw[if_neg hv]
  unfold MO;rw[if_neg]
  ·rw[OM v.toNat r (by omega) hr]
   simp;omega
  ·rintro⟨_,e⟩
   rcases hd:Lib.decDigits v.toNat with _|⟨c,l⟩
   ·exact KL _ hd
   ·rw[hd]at e
    have e1:c.toNat=45:=by simpa using e
    have e2:=EU v.toNat c (by rw[hd];simp);unfold Be at e2;rw[e1]at e2;simp at e2
def bG(x:NV)(c:UInt8):Int:=if c=65 then x.a else if c=66 then x.b else if c=68 then x.d else if c=72 then x.h else x.imm
def VN(x:NV)(c:UInt8):List UInt8:=(Kw x.d x.a x.b x.imm x.h c).data.toList
theorem YI(x:NV)(c:UInt8)(h:Er c=true)(hn:c≠64):VN x c=Lib.itoa (bG x c):=by
 have hc:c=65∨c=66∨c=68∨c=72∨c=73∨c=78:=by
  unfold Er at h;simp only[Bool.or_eq_true,beq_iff_eq]at h;rcases h with(((((h|h)|h)|h)|h)|h)|h
  ·exact .inl h
  ·exact .inr (.inl h)
  ·exact .inr (.inr (.inl h))
  ·exact .inr (.inr (.inr (.inl h)))
  ·exact .inr (.inr (.inr (.inr (.inl h))))
  ·exact .inr (.inr (.inr (.inr (.inr h))))
  ·exact absurd h hn
 rcases hc with rfl|rfl|rfl|rfl|rfl|rfl<;>rfl
theorem Jt(x:NV)(c:UInt8)(h:Er c=false):VN x c=[c]:=by
 unfold Er at h;simp only[Bool.or_eq_false_iff,beq_eq_false_iff_ne]at h;obtain⟨⟨⟨⟨⟨⟨h1,h2⟩,h3⟩,h4⟩,h5⟩,h6⟩,_⟩:=h;unfold VN Kw;rw[if_neg h3,if_neg h1,if_neg h2,if_neg h5,if_neg h6,if_neg h4]
def okF:List UInt8->Bool
 |[]=>true
 |c::ps=>(!Er c||(c !=64&&(match ps with|[]=>true|c2::_=>!Er c2&&!Be c2)))&&okF ps
def setA(x:NV)(ps:List UInt8)(y:NV):NV:=ps.foldl (fun y c=>if Er c=true then setF y c (bG x c)else y) y
theorem Sj(x:NV):∀(ps:List UInt8)(y:NV),okF ps=true->(∀c∈ps,Er c=true->(bG x c).natAbs<1000000000/\(c=73∨0<=bG x c))->fit ps (ps.flatMap (VN x)) y=some (setA x ps y)
 |[],y,_,_=>rfl
 |c::ps,y,ho,hf=>by
  unfold okF at ho;rw[Bool.and_eq_true]at ho;have ih:=fun y=>Sj x ps y ho.2 (fun c hc=>hf c (List.mem_cons_of_mem _ hc))
  rw[List.flatMap_cons];cases hc:Er c with
  |true=>
   have h1:=ho.1;rw[hc]at h1;simp only[Bool.not_true,Bool.false_or,Bool.and_eq_true,bne_iff_ne]at h1;obtain⟨hv,hs⟩:=hf c (by simp) hc;have hr:∀c',(ps.flatMap (VN x)).head?=some c'->Be c'=false:=by
    intro c' h';rcases ps with _|⟨c2,ps⟩
    ·cases h'
    ·have h2:=h1.2
     simp only[Bool.and_eq_true,Bool.not_eq_true']at h2;rw[List.flatMap_cons,Jt x c2 h2.1]at h';have:c2=c':=by simpa using h'
     rw[<-this];exact h2.2
   rw[YI x c hc h1.1];have hn:=WN (c==73) (bG x c) (ps.flatMap (VN x)) hv (hs.imp (fun e=>by simp[e]) id) hr;unfold fit;rw[if_pos hc,hn];simp only;rw[List.drop_left' rfl,ih];show _=some (setA x ps (if Er c=true then setF y c (bG x c)else y));rw[if_pos hc]
  |false=>
   rw[Jt x c hc,ET c _ _ _ hc];show(if c=c then fit ps (ps.flatMap (VN x)) y else none)=_;rw[if_pos rfl,ih];show _=some (setA x ps (if Er c=true then setF y c (bG x c)else y));rw[if_neg (by simp[hc])]
theorem KY(f:UInt8->ByteArray):∀(l:List UInt8)(o:ByteArray),(CG f o l).data.toList=o.data.toList++l.flatMap fun c=>(f c).data.toList
 |[],o=>by simp[CG]
 |c::l,o=>by
  have:CG f o (c::l)=CG f (o++f c) l:=rfl;rw[this,KY f l,List.flatMap_cons];simp
theorem Te:∀k:Nat,k<34->(okF (H8 0 (Cz ((k:Int)+1)))&&okF (H8 1 (Cz ((k:Int)+1)))&&(Ce ((k:Int)+1)||(!(H8 0 (Cz ((k:Int)+1))).contains 78&&!(H8 1 (Cz ((k:Int)+1))).contains 78))&&((H8 0 (Cz ((k:Int)+1))).head?.all (· ==32))&&((H8 1 (Cz ((k:Int)+1))).head?.all (· ==32))&&(H8 0 (Cz ((k:Int)+1))).all CY&&(H8 1 (Cz ((k:Int)+1))).all CY&&(KW ((k:Int)+1)).all CY)=true:=by decide+kernel
theorem Yz{op:Int}(h1:1<=op)(h2:op<=34)(hd:d=0∨d=1):okF (H8 d (Cz op))=true/\(Ce op=true∨78∉H8 d (Cz op))/\(∀c,(H8 d (Cz op)).head?=some c->c=32)/\(∀c∈H8 d (Cz op),CY c=true)/\∀c∈KW op,CY c=true:=by
 have h:=Te (op-1).toNat (by omega);rw[show(((op-1).toNat:Nat):Int)+1=op by omega]at h;simp only[Bool.and_eq_true,Bool.or_eq_true,Bool.not_eq_true',List.all_eq_true]at h;obtain⟨⟨⟨⟨⟨⟨⟨a0,a1⟩,b⟩,c0⟩,c1⟩,d0⟩,d1⟩,e⟩:=h;have hh:∀l:List UInt8,(l.head?.all (· ==32))=true->∀c,l.head?=some c->c=32:=fun l hl c hc=>by rw[hc]at hl;simpa using hl
 rcases hd with rfl|rfl
 ·exact⟨a0,b.imp id (fun b=>by simpa using b.1),hh _ c0,d0,e⟩
 ·exact⟨a1,b.imp id (fun b=>by simpa using b.2),hh _ c1,d1,e⟩
theorem Zp(d op:Int)(x:NV)(h1:1<=op)(h2:op<=34)(hd:d=0∨d=1):setA x (H8 d (Cz op)) {JB with op:=op}=⟨op,if DV op 1=true then x.d else 0,if DV op 2=true then x.a else 0,if DV op 4=true then x.b else 0,if DV op 8=true then x.imm else 0,if DV op 16=true then x.h else 0⟩:=by
 obtain rfl|rfl|rfl|rfl|rfl|rfl|rfl|rfl|rfl|rfl|rfl|rfl|rfl|rfl|rfl|rfl|rfl|rfl|rfl|rfl|rfl|rfl|rfl|rfl|rfl|rfl|rfl|rfl|rfl|rfl|rfl|rfl|rfl|rfl:op=1∨op=2∨op=3∨op=4∨op=5∨op=6∨op=7∨op=8∨op=9∨op=10∨op=11∨op=12∨op=13∨op=14∨op=15∨op=16∨op=17∨op=18∨op=19∨op=20∨op=21∨op=22∨op=23∨op=24∨op=25∨op=26∨op=27∨op=28∨op=29∨op=30∨op=31∨op=32∨op=33∨op=34:=by omega
 all_goals(rcases hd with rfl|rfl<;>kernel_rfl)
theorem Hy{x:NV}(h:Ar x.op x.d x.a x.b x.imm x.h=true):1<=x.op/\x.op<=34/\(0<=x.d/\x.d<=7)/\(0<=x.a/\x.a<=7)/\(0<=x.b/\x.b<=7)/\(0<=x.h/\x.h<=7)/\(-1000000<=x.imm/\x.imm<=1000000)/\(Ce x.op=true->0<=x.imm)/\(DV x.op 1=false->x.d=0)/\(DV x.op 2=false->x.a=0)/\(DV x.op 4=false->x.b=0)/\(DV x.op 8=false->x.imm=0)/\(DV x.op 16=false->x.h=0):=by
 unfold Ar at h;simp only[Bool.and_eq_true]at h;obtain⟨⟨⟨⟨⟨h0,h1⟩,h2⟩,h3⟩,h4⟩,h5⟩:=h;have fb:∀(u:Bool)(v lo hi:Int),C8 u v lo hi=true->(u=false->v=0)/\((lo<=v/\v<=hi)∨v=0):=fun u v lo hi hh=>by
  unfold C8 at hh;cases u with
  |true=>simp[Ec]at hh;exact⟨fun e=>(by cases e),.inl hh⟩
  |false=>simp at hh;exact⟨fun _=>hh,.inr hh⟩
 have k0:1<=x.op/\x.op<=34:=by simpa[Ec]using h0
 have k1:=fb _ _ _ _ h1;have k2:=fb _ _ _ _ h2;have k3:=fb _ _ _ _ h3;have k4:=fb _ _ _ _ h4;have k5:=fb _ _ _ _ h5;have i1: -1000000<=CX x.op/\(Ce x.op=true->CX x.op=0):=by
  unfold CX Ce;split
  ·exact⟨by omega,fun _=>rfl⟩
  ·rename_i hn
   refine⟨by omega,fun e=>?_⟩;simp only[Bool.and_eq_true,decide_eq_true_eq]at e;exact absurd (.inr (.inr (.inr e))) hn
 have i2:Ca x.op<=1000000:=by unfold Ca;split;(·omega);split<;>omega
 refine⟨k0.1,k0.2,by omega,by omega,by omega,by omega,by omega,fun e=>?_,k1.1,k2.1,k3.1,k4.1,k5.1⟩;have:=i1.2 e;omega
theorem Vz(v:Int):∀c∈Lib.itoa v,CY c=true:=by
 have hd:∀n,∀c∈Lib.decDigits n,CY c=true:=fun n c hc=>by
  have:=EU n c hc;unfold Be at this;simp only[Bool.and_eq_true,decide_eq_true_eq]at this;unfold CY;rw[decide_eq_true_eq];omega
 unfold Lib.itoa;split
 ·intro c hc
  rcases List.mem_cons.1 hc with e|e
  ·subst e;decide
  ·exact hd _ c e
 ·exact hd _
theorem Vx(x:NV)(ps:List UInt8)(ho:∀c∈ps,c≠64)(h:∀c∈ps,CY c=true):∀c∈ps.flatMap (VN x),CY c=true:=by
 intro c hc;obtain⟨c',h1,h2⟩:=List.mem_flatMap.1 hc;cases hf:Er c' with
 |true=>rw[YI x c' hf (ho c' h1)]at h2;exact Vz _ c h2
 |false=>rw[Jt x c' hf]at h2;have:c=c':=by simpa using h2
         rw[this];exact h c' h1
theorem Pz:∀ps:List UInt8,okF ps=true->∀c∈ps,c≠64
 |[],_,c,hc=>by cases hc
 |c0::ps,h,c,hc=>by
  unfold okF at h;rw[Bool.and_eq_true]at h;rcases List.mem_cons.1 hc with e|e
  ·intro e2
   rw[e2]at e;rw[<-e]at h;exact absurd h.1 (by simp[Er])
  ·exact Pz ps h.2 c e
theorem Rv{b:Bool}{v:Int}(h:b=false->v=0):(if b=true then v else 0)=v:=by
 cases b with
 |true=>rfl
 |false=>rw[h rfl];rfl
theorem Yn(d:Int)(hd:d=0∨d=1)(x:NV)(h:Ar x.op x.d x.a x.b x.imm x.h=true):Da d (Fb d x.op x.d x.a x.b x.imm x.h).data.toList=some (false,x)/\∀c∈(Fb d x.op x.d x.a x.b x.imm x.h).data.toList,CY c=true:=by
 obtain⟨h1,h2,hD,hA,hB,hH,hI,hJ,z1,z2,z4,z8,z16⟩:=Hy h;obtain⟨fo,fj,fh,fn,nn⟩:=Yz h1 h2 hd;obtain⟨na,nne,nop⟩:=Mq h1 h2;rw[<-KJ d x.op x.d x.a x.b x.imm x.h h1 h2 hd];unfold Vd;have hl:(CG (Kw x.d x.a x.b x.imm x.h) (J9 x.op) (Kc d (Cz x.op)).data.toList).data.toList=KW x.op++(H8 d (Cz x.op)).flatMap (VN x):=KY _ _ _;rw[hl];refine⟨?_,fun c hc=>?_⟩;rotate_left
 ·rcases List.mem_append.1 hc with e|e
  ·exact nn c e
  ·exact Vx x _ (Pz _ fo) fn c e
 have hfit:fit (H8 d (Cz x.op)) ((H8 d (Cz x.op)).flatMap (VN x)) {JB with op:=x.op}=some x:=by
  rw[Sj x _ _ fo,Zp d x.op x h1 h2 hd]
  ·rw[Rv z1,Rv z2,Rv z4,Rv z8,Rv z16]
  ·intro c hc hf
   unfold bG;by_cases c1:c=65
   ·rw[if_pos c1];omega
   rw[if_neg c1];by_cases c2:c=66
   ·rw[if_pos c2];omega
   rw[if_neg c2];by_cases c3:c=68
   ·rw[if_pos c3];omega
   rw[if_neg c3];by_cases c4:c=72
   ·rw[if_pos c4];omega
   rw[if_neg c4];refine⟨by omega,?_⟩;by_cases c5:c=73
   ·exact .inl c5
   ·right
    have c6:c=78:=by
     unfold Er at hf;simp only[Bool.or_eq_true,beq_iff_eq]at hf;rcases hf with(((((hf|hf)|hf)|hf)|hf)|hf)|hf
     ·exact absurd hf c1
     ·exact absurd hf c2
     ·exact absurd hf c3
     ·exact absurd hf c4
     ·exact absurd hf c5
     ·exact hf
     ·exact absurd hf (Pz _ fo c hc)
    rcases fj with fj|fj
    ·exact hJ fj
    ·exact absurd (c6▸hc) fj
 have hhead:(KW x.op++(H8 d (Cz x.op)).flatMap (VN x)).head?≠some (Wx d):=by
  rcases hn:KW x.op with _|⟨c,l⟩
  ·exact absurd hn nne
  ·intro e
   have e1:c=Wx d:=by simpa using e
   have e2:=na c (by rw[hn];simp);rw[e1]at e2;rcases hd with rfl|rfl<;>exact absurd e2 (by decide)
 have hpre:pre DF (KW x.op++(H8 d (Cz x.op)).flatMap (VN x))=(KW x.op).length:=by
  refine IX DF _ _ na fun c hc=>?_
  rcases hp:H8 d (Cz x.op)with _|⟨c0,ps⟩
  ·rw[hp]at hc;cases hc
  ·rw[hp]at hc
   have e0:=fh c0 (by rw[hp];rfl);subst e0;rw[List.flatMap_cons,Jt x 32 rfl]at hc;have:(32:UInt8)=c:=by simpa using hc
   rw[<-this];decide
 have hins:KE d (KW x.op++(H8 d (Cz x.op)).flatMap (VN x))=some x:=by
  unfold KE;rw[hpre,List.take_left' rfl,List.drop_left' rfl,nop,if_neg (by omega)];exact hfit
 unfold Da;rw[JK hd hhead];simp only;rw[hins];simp only;rw[if_pos];unfold Hq;by_cases hj:Ce x.op=true
 ·rw[if_pos hj]
  unfold Ar at h⊢;simp only[Bool.and_eq_true]at h⊢;refine⟨⟨h.1.1,?_⟩,h.2⟩;unfold C8;split
  ·have e:CX x.op=0/\Ca x.op=1999:=by
    unfold Ce at hj;simp only[Bool.and_eq_true,decide_eq_true_eq]at hj;unfold CX Ca;rw[if_pos (by omega),if_neg (by omega),if_pos (by omega)];exact⟨rfl,rfl⟩
   rw[e.1,e.2];decide
  ·rfl
 ·rw[if_neg hj];exact h
def Kr(t:List UInt8)(S S':PS):Prop:=∀(r:List UInt8)(k:Nat),∃k',psT (t++r) S k=psT r S' k'
theorem Kr.nil(S:PS):Kr [] S S:=fun _ k=>⟨k,rfl⟩
theorem Kr.app{t':List UInt8}{S S' S'':PS}(h:Kr t S S')(h':Kr t' S' S''):Kr (t++t') S S'':=fun r k=>by
 obtain⟨k1,e1⟩:=h (t'++r) k;obtain⟨k2,e2⟩:=h' r k1;exact⟨k2,by rw[List.append_assoc,e1,e2]⟩
theorem Kr.line{S S':PS}(ht:t=l++[10])(hn:∀c∈l,CY c=true)(h:Eb S l=some S'):Kr t S S':=fun r k=>⟨k+1,by
 rw[ht,List.append_assoc,List.singleton_append,YE l r S k hn,h]⟩
theorem Ml:∀(w l:List UInt8),(∀c∈w,c≠32)->Aj (w++32::l)=w::Aj l
 |[],l,_=>by simp[Aj]
 |c::w,l,h=>by
  have h0:=h c (List.mem_cons_self ..);have ih:=Ml w l fun q hq=>h q (List.mem_cons_of_mem _ hq)
  rw[List.cons_append,Aj,if_neg h0,ih]
theorem VY:∀(w:List UInt8),(∀c∈w,c≠32)->Aj w=[w]
 |[],_=>rfl
 |c::w,h=>by
  have h0:=h c (List.mem_cons_self ..);have ih:=VY w fun q hq=>h q (List.mem_cons_of_mem _ hq)
  rw[Aj,if_neg h0,ih]
def Wd(w:List UInt8):Prop:=∀c∈w,c≠32/\CY c=true
theorem Wd.no{w:List UInt8}(h:Wd w):∀c∈w,c≠32:=fun c hc=>(h c hc).1
theorem Xp{c:UInt8}(h:Be c=true):c≠32/\CY c=true:=by
 unfold Be at h;simp only[Bool.and_eq_true,decide_eq_true_eq]at h;refine⟨fun e=>?_,?_⟩
 ·subst e;exact absurd h.1 (by decide)
 ·unfold CY;rw[decide_eq_true_eq];omega
theorem Ev(v:Int):Wd (Lib.itoa v):=by
 unfold Lib.itoa;split
 ·intro c hc
  rcases List.mem_cons.1 hc with e|e
  ·subst e;decide
  ·exact Xp (EU _ c e)
 ·exact fun c hc=>Xp (EU _ c hc)
theorem Po(s:Bool):Wd (CP s):=by cases s<;>(unfold Wd CP;decide)
def WA:List (List UInt8)->List UInt8
 |[]=>[]
 |[w]=>w
 |w::f::fs=>w++32::WA (f::fs)
theorem QK:∀(fs:List (List UInt8)),fs≠[]->(∀w∈fs,Wd w)->Aj (WA fs)=fs/\∀c∈WA fs,CY c=true
 |[],h,_=>absurd rfl h
 |[w],_,h=>⟨VY w (h w (List.mem_cons_self ..)).no,fun c hc=>(h w (List.mem_cons_self ..) c hc).2⟩
 |w::f::fs,_,h=>by
  obtain⟨i1,i2⟩:=QK (f::fs) (by simp) fun q hq=>h q (List.mem_cons_of_mem _ hq)
  have hw:=h w (List.mem_cons_self ..);refine⟨by rw[WA,Ml _ _ hw.no,i1],fun c hc=>?_⟩;rw[WA]at hc;rcases List.mem_append.1 hc with e|e
  ·exact(hw c e).2
  ·rcases List.mem_cons.1 e with e|e
   ·subst e;decide
   ·exact i2 c e
theorem Kr.words{S S':PS}(ht:t=WA fs++[10])(hn:fs≠[])(hw:∀w∈fs,Wd w)(h:∀l,Aj l=fs->Eb S l=some S'):Kr t S S':=
 .line ht (QK fs hn hw).2 (h _ (QK fs hn hw).1)
theorem Mc(s:Bool):Di (CP s)=some s:=by cases s<;>rfl
theorem Zy(hd:d=0∨d=1):Kr (Ea d) ps0 {ps0 with d:=d,st:=1}:=by
 rcases hd with rfl|rfl
 ·refine .words (fs:=[[100,105,97,108,101,99,116],[103,97,115]]) rfl (by simp) (by unfold Wd;decide) fun l hl=>?_
  simp[Eb,hl,fd,Ku,Nn,ps0]
 ·refine .words (fs:=[[100,105,97,108,101,99,116],[109,97,115,109]]) rfl (by simp) (by unfold Wd;decide) fun l hl=>?_
  simp[Eb,hl,fd,Ku,Nn,ps0]
theorem Zz{S:PS}(h1:S.st=1)(h8:S.hs.length≠8){x:HS}(hx:1<=x.size/\x.size<=4096):Kr (heapT x) S {S with hs:=S.hs++[x]}:=by
 obtain⟨z,s,b⟩:=x;refine .words (fs:=[[104,101,97,112],Lib.itoa z,CP s,if b=true then[119,114,105,116,101]else[114,101,97,100]]) ?_ (by simp) ?_ fun l hl=>?_
 ·cases b<;>simp[heapT,WA]
 ·intro w hw
  simp only[List.mem_cons,List.not_mem_nil,or_false]at hw;rcases hw with rfl|rfl|rfl|rfl
  ·unfold Wd;decide
  ·exact Ev _
  ·exact Po _
  ·cases b<;>(unfold Wd;decide)
 ·simp only at hx
  have n:=EK false z (by simp;omega) (by omega);have e:Jr (if b=true then[119,114,105,116,101]else[114,101,97,100])=some b:=by cases b<;>rfl
  have e1:Eb S l=FC S (Aj l):=by simp[Eb,hl,fd]
  rw[e1,hl];unfold FC;rw[if_pos ⟨h1,rfl,h8⟩];show(match Bc false (Lib.itoa z),Di (CP s),Jr (if b=true then[119,114,105,116,101]else[114,101,97,100])with|some a,some b,some c=>some ({S with hs:=S.hs++[(⟨a,b,c⟩:HS)]}:PS)|_,_,_=>none)=_;rw[n,Mc,e]
theorem Rj{S:PS}(h1:S.st=1)(h0:S.hs=[])(X:Nat->HS):∀n,n<=8->(∀i,i<n->1<=(X i).size/\(X i).size<=4096)->Kr (EF (fun i=>heapT (X i)) n) S {S with hs:=(List.range n).map X}
 |0,_,_=>by have:S={S with hs:=(List.range 0).map X}:=by cases S;simp only at h0;simp[h0]
            rw[<-this];exact .nil _
 |n+1,hn,h=>by
  have:=(Rj h1 h0 X n (by omega) fun i hi=>h i (by omega)).app (Zz (S:={S with hs:=(List.range n).map X}) h1 (by simp;omega) (h n (by omega)));rw[List.range_succ,List.map_append];exact this
theorem set_mid{α:Type}(A B:List α)(x y:α):(A++x::B).set A.length y=A++y::B:=by simp
theorem YC{n:Int}(g:CO v n=true)(h:v.k=1):v=⟨1,false,0,v.h,v.lo,v.hi⟩/\0<=v.h/\v.h<n/\ -1099511627776<=v.lo/\v.lo<=v.hi/\v.hi<=1099511627776:=by
 unfold CO at g;rw[if_neg (by omega)]at g;obtain⟨h1,h2,h3,h4⟩:=of_decide_eq_true g;obtain⟨a,b,c,d,e,f⟩:=v;simp only at *;subst h1 h2 h3;exact⟨rfl,h4⟩
theorem YL{n:Int}(g:CO v n=true)(h:v.k≠1):v=⟨0,v.s,v.m,0,0,0⟩/\ -1<=v.m/\v.m<=1099511627776:=by
 unfold CO at g;split at g
 ·rename_i k
  obtain⟨h1,h2,h3,h4,h5⟩:=of_decide_eq_true g;obtain⟨a,b,c,d,e,f⟩:=v;simp only at *;subst k h3 h4 h5;exact⟨rfl,h1,h2⟩
 ·exact absurd (of_decide_eq_true g).1 h
theorem Xm{v:Int}:Lib.itoa v≠[97,110,121]:=fun e=>by
 have h:∀c∈Lib.itoa v,c=45∨Be c=true:=by
  unfold Lib.itoa;split
  ·intro c hc
   rcases List.mem_cons.1 hc with e|e
   ·exact .inl e
   ·exact .inr (EU _ c e)
  ·exact fun c hc=>.inr (EU _ c hc)
 rw[e]at h;rcases h 97 (by simp)with h|h
 ·exact absurd h (by decide)
 ·exact absurd h (by decide)
theorem Qk{S:PS}{a:List UInt8}(hl:Aj l=[114,101,103]::a::fs):Eb S l=JQ S ([114,101,103]::a::fs):=by simp[Eb,hl,fd]
theorem Pw{S:PS}{k:Nat}(hs:S.st=1∨S.st=2)(hk:k<8)(hg:S.gv.getD k false=false)(hv:FK fs=some v):JQ S ([114,101,103]::Lib.itoa (k:Int)::fs)=some {S with st:=2,rg:=S.rg.set k v,gv:=S.gv.set k true}:=by
 unfold JQ;rw[if_pos ⟨hs,by simp⟩];show(match Bc false (Lib.itoa (k:Int))with|some n=>if n<8/\S.gv.getD n.toNat false=false then(FK fs).map fun v=>{S with st:=2,rg:=S.rg.set n.toNat v,gv:=S.gv.set n.toNat true}else none|none=>none)=_;rw[EK false (k:Int) (by simp) (by omega)];dsimp only;rw[if_pos ⟨by omega,by rw[Int.toNat_natCast];exact hg⟩,hv];rfl
theorem dN{S:PS}(hs:S.st=1∨S.st=2){k:Nat}(hk:k<8)(hg:S.gv.getD k false=false){n:Nat}(hn:n<=8)(g:CO v (n:Int)=true):Kr (Db k v) S {S with st:=2,rg:=S.rg.set k v,gv:=S.gv.set k true}:=by
 have w3:Wd [114,101,103]:=by unfold Wd;decide
 by_cases h1:v.k=1
 ·obtain⟨ev,a1,a2,a3,a4,a5⟩:=YC g h1
  refine .words (fs:=[[114,101,103],Lib.itoa (k:Int),[112,116,114],Lib.itoa v.h,Lib.itoa v.lo,Lib.itoa v.hi]) ?_ (by simp) ?_ fun l hl=>?_
  ·unfold Db;rw[if_pos h1];simp[WA]
  ·intro w hw
   simp only[List.mem_cons,List.not_mem_nil,or_false]at hw;rcases hw with rfl|rfl|rfl|rfl|rfl|rfl
   ·exact w3
   ·exact Ev _
   ·unfold Wd;decide
   ·exact Ev _
   ·exact Ev _
   ·exact Ev _
  ·rw[Qk hl]
   refine Pw hs hk hg ?_;unfold FK;rw[if_neg (by simp),if_pos ⟨rfl,rfl⟩];show(match Bc false (Lib.itoa v.h),Bc true (Lib.itoa v.lo),Bc true (Lib.itoa v.hi)with|some h,some lo,some hi=>some (⟨1,false,0,h,lo,hi⟩:VV)|_,_,_=>none)=_;rw[EK false v.h (by simp;omega) (by omega),EK true v.lo (by simp;omega) (by omega),EK true v.hi (by simp;omega) (by omega)];exact congrArg some ev.symm
 ·obtain⟨ev,a1,a2⟩:=YL g h1
  by_cases h2:v.m= -1
  ·refine .words (fs:=[[114,101,103],Lib.itoa (k:Int),[97,110,121],CP v.s]) ?_ (by simp) ?_ fun l hl=>?_
   ·unfold Db;rw[if_neg h1,if_pos h2];simp[WA]
   ·intro w hw
    simp only[List.mem_cons,List.not_mem_nil,or_false]at hw;rcases hw with rfl|rfl|rfl|rfl
    ·exact w3
    ·exact Ev _
    ·unfold Wd;decide
    ·exact Po _
   ·rw[Qk hl]
    refine Pw hs hk hg ?_;unfold FK;rw[if_pos (by rfl:([[97,110,121],CP v.s]:List (List UInt8)).length=2)];show(match(if([97,110,121]:List UInt8)=[97,110,121]then some (-1)else Bc false [97,110,121]),Di (CP v.s)with|some m,some s=>some (⟨0,s,m,0,0,0⟩:VV)|_,_=>none)=_;rw[if_pos rfl,Mc];rw[h2]at ev;exact congrArg some ev.symm
  ·refine .words (fs:=[[114,101,103],Lib.itoa (k:Int),Lib.itoa v.m,CP v.s]) ?_ (by simp) ?_ fun l hl=>?_
   ·unfold Db;rw[if_neg h1,if_neg h2];simp[WA]
   ·intro w hw
    simp only[List.mem_cons,List.not_mem_nil,or_false]at hw;rcases hw with rfl|rfl|rfl|rfl
    ·exact w3
    ·exact Ev _
    ·exact Ev _
    ·exact Po _
   ·rw[Qk hl]
    refine Pw hs hk hg ?_;unfold FK;rw[if_pos (by rfl:([Lib.itoa v.m,CP v.s]:List (List UInt8)).length=2)];show(match(if Lib.itoa v.m=[97,110,121]then some (-1)else Bc false (Lib.itoa v.m)),Di (CP v.s)with|some m,some s=>some (⟨0,s,m,0,0,0⟩:VV)|_,_=>none)=_;rw[if_neg Xm,Mc,EK false v.m (by simp;omega) (by omega)];exact congrArg some ev.symm
def atR(S:PS)(V:Nat->VV)(k:Nat):PS:={S with st:=if k=0 then S.st else 2,rg:=(List.range k).map V++List.replicate (8-k) dR,gv:=List.replicate k true++List.replicate (8-k) false}
theorem VK{S:PS}(h1:S.st=1)(hr:S.rg=List.replicate 8 dR)(hg:S.gv=List.replicate 8 false){V:Nat->VV}{n:Nat}(hn:n<=8)(g:∀i,i<8->CO (V i) (n:Int)=true):∀k,k<=8->Kr (EF (fun i=>Db i (V i)) k) S (atR S V k)
 |0,_=>by
  have:S=atR S V 0:=by cases S;simp only at hr hg;simp[atR,hr,hg]
  rw[<-this];exact .nil _
 |k+1,hk=>by
  have e:8-k=(8-(k+1))+1:=by omega
  have st:(atR S V k).st=1∨(atR S V k).st=2:=by
   unfold atR;by_cases k0:k=0
   ·exact .inl (by simp[k0,h1])
   ·exact .inr (by simp[k0])
  have gk:(atR S V k).gv.getD k false=false:=by
   unfold atR;simp only[jJ];rw[List.getElem?_append_right (by simp),e,List.replicate_succ];simp
  have:=(VK h1 hr hg hn g k (by omega)).app (dN st (by omega) gk hn (g k (by omega)));have e2:({atR S V k with st:=2,rg:=(atR S V k).rg.set k (V k),gv:=(atR S V k).gv.set k true}:PS)=atR S V (k+1):=by
   have r1:((List.range k).map V++List.replicate (8-k) dR).set k (V k)=(List.range (k+1)).map V++List.replicate (8-(k+1)) dR:=by
    rw[e,List.replicate_succ];have:=set_mid ((List.range k).map V) (List.replicate (8-(k+1)) dR) dR (V k);rw[List.length_map,List.length_range]at this;rw[this,List.range_succ,List.map_append,List.append_assoc];rfl
   have r2:(List.replicate k true++List.replicate (8-k) false).set k true=List.replicate (k+1) true++List.replicate (8-(k+1)) false:=by
    rw[e,List.replicate_succ];have:=set_mid (List.replicate k true) (List.replicate (8-(k+1)) false) false true;rw[List.length_replicate]at this;rw[this,List.replicate_succ',List.append_assoc];rfl
   unfold atR;simp only[r1,r2,Nat.add_one_ne_zero,if_false]
  rw[e2]at this;exact this
def Fs(L:Nat->SV)(i te:Nat):List SV:=(List.range (te-i)).map fun j=>L (i+j)
theorem QY(L:Nat->SV)(i te:Nat):(Fs L i te).length=te-i:=by simp[Fs]
theorem LG(h:¬i<te):Fs L i te=[]:=by
 unfold Fs;rw[show te-i=0 by omega];rfl
theorem MI(h:i<te):Fs L i te=L i::Fs L (i+1) te:=by
 unfold Fs;rw[show te-i=(te-(i+1))+1 by omega,List.range_succ_eq_map,List.map_cons,List.map_map];simp only[Nat.add_zero,List.cons.injEq,true_and];apply List.map_congr_left;intro j _;simp only[Function.comp_apply];congr 1
 omega
theorem Uz{j:Nat}(h:i<=j)(h2:j<=te):Fs L i te=Fs L i j++Fs L j te:=by
 obtain⟨m,rfl⟩:∃m,j=i+m:=⟨j-i,by omega⟩
 clear h;induction m generalizing i with
 |zero=>rw[LG (te:=i+0) (by omega)];rfl
 |succ m ih=>
  rw[MI (by omega:i<te),MI (by omega:i<i+(m+1)),List.cons_append];congr 1
  have:=ih (i:=i+1) (by omega);rw[show i+1+m=i+(m+1)by omega]at this;exact this
theorem NC:∀k:Nat,k<28->((H8 1 (Cz ((k:Int)+1))).head?==some 32&&(KW ((k:Int)+1)).all (fun c=>c !=32)&&!([[100,105,97,108,101,99,116],[104,101,97,112],[114,101,103],[112,114,111,99],[105,102],[119,104,105,108,101],[101,108,115,101],[101,110,100],[99,97,108,108]]:List (List UInt8)).contains (KW ((k:Int)+1)))=true:=by decide+kernel
theorem S9(h:Ar s.op s.d s.a s.b s.imm s.h=true)(h29:s.op<29):
 KE 1 (Ey s)=some ⟨s.op,s.d,s.a,s.b,s.imm,s.h⟩/\(∀c∈Ey s,CY c=true)/\fd (Aj (Ey s)) 0=KW s.op:=by
 obtain⟨b1,b2⟩:=Yn 1 (.inr rfl) ⟨s.op,s.d,s.a,s.b,s.imm,s.h⟩ h;obtain⟨h1,h2,_⟩:=Hy (x:=⟨s.op,s.d,s.a,s.b,s.imm,s.h⟩) h;simp only at h1 h2 b1 b2;refine⟨?_,b2,?_⟩
 ·change Da 1 (Ey s)=_ at b1
  unfold Da at b1;split at b1
  ·cases b1
  ·split at b1
   ·rename_i x hx
    split at b1
    ·simp only[Option.some.injEq,Prod.mk.injEq,true_and]at b1
     rw[hx,b1]
    ·cases b1
   ·cases b1
 ·have hf:=NC (s.op-1).toNat (by omega)
  rw[show(((s.op-1).toNat:Nat):Int)+1=s.op by omega]at hf;simp only[Bool.and_eq_true,beq_iff_eq,List.all_eq_true,bne_iff_ne]at hf;obtain⟨⟨f1,f2⟩,_⟩:=hf;have e:Ey s=KW s.op++(H8 1 (Cz s.op)).flatMap (VN ⟨s.op,s.d,s.a,s.b,s.imm,s.h⟩):=by
   unfold Ey;rw[<-KJ 1 s.op s.d s.a s.b s.imm s.h h1 h2 (.inr rfl)];exact KY _ _ _
  cases hp:H8 1 (Cz s.op)with
  |nil=>rw[hp]at f1;cases f1
  |cons c p=>
   rw[hp]at f1 e;have:c=32:=by simpa using f1
   subst this;rw[e,List.flatMap_cons,Jt _ 32 (by decide),List.singleton_append,Ml _ _ (fun c hc=>f2 c hc)];rfl
theorem Zt{S:PS}(h3:S.st=3)(hk:s.k=1)(hi:Ar s.op s.d s.a s.b s.imm s.h=true)(h29:s.op<29)(hz:s.cond=0/\s.thn=0/\s.els=0/\s.proc=0):Eb S (Ey s)=some (Dw S s):=by
 obtain⟨e1,_,e3⟩:=S9 hi h29;have hf:=NC (s.op-1).toNat (by have:=(Hy (x:=⟨s.op,s.d,s.a,s.b,s.imm,s.h⟩) hi).1;simp only at this;omega);rw[show(((s.op-1).toNat:Nat):Int)+1=s.op by have:=(Hy (x:=⟨s.op,s.d,s.a,s.b,s.imm,s.h⟩) hi).1;simp only at this;omega]at hf;simp only[Bool.and_eq_true,Bool.not_eq_true',List.contains_eq_mem,decide_eq_false_iff_not,List.mem_cons,List.not_mem_nil,or_false,not_or]at hf;obtain⟨_,n1,n2,n3,n4,n5,n6,n7,n8,n9⟩:=hf;unfold Eb;rw[e3,if_neg n1,if_neg n2,if_neg n3,if_neg n4];unfold Vg;rw[if_pos h3,e3,if_neg n5,if_neg n6,if_neg n7,if_neg n8,if_neg n9];unfold PZ;rw[e1];dsimp only;rw[if_pos ⟨hi,h29⟩];obtain⟨k,op,d,a,b,imm,hh,cond,thn,els,proc⟩:=s;simp only at hk hz;obtain⟨rfl,rfl,rfl,rfl⟩:=hz;subst hk;rfl
def Il(S:PS)(b:List SV)(os:List OV):PS:={S with ps:=S.ps.dropLast++[b],op:=os}
theorem QV(S:PS)(b:List SV)(os:List OV):Ac (Il S b os)=b:=by simp[Ac,Il]
theorem ZM(S:PS)(b c:List SV)(os os':List OV):({Cv (Il S b os) c with op:=os'}:PS)=Il S c os':=by simp[Cv,Il]
theorem Tx(S:PS)(b:List SV)(os:List OV)(s:SV):Dw (Il S b os) s=Il S (b++[s]) os:=by
 unfold Dw;rw[QV];exact ZM S b (b++[s]) os os
theorem Jz{S:PS}(h3:S.st=3){w:List UInt8}(hl:Aj l=w::fs)(n1:w≠[100,105,97,108,101,99,116])(n2:w≠[104,101,97,112])(n3:w≠[114,101,103])(n4:w≠[112,114,111,99]):
 Eb S l=if w=[105,102]then Ez S 2 (w::fs)else if w=[119,104,105,108,101]then Ez S 3 (w::fs)
 else if w=[101,108,115,101]then JV S (w::fs)else if w=[101,110,100]then JG S (w::fs)
 else if w=[99,97,108,108]then NF S (w::fs)else PZ S l:=by
 have e:fd (Aj l) 0=w:=by rw[hl];rfl
 unfold Eb;rw[e,if_neg n1,if_neg n2,if_neg n3,if_neg n4];unfold Vg;rw[if_pos h3,e,hl]
theorem ZW{S:PS}(h3:S.st=3)(hk:s.k=4)(hn:GI s)(hz:s.cond=0/\s.thn=0/\s.els=0)(hp:0<=s.proc/\s.proc<=100):Kr (EZ s) S (Dw S s):=by
 refine .words (fs:=[[99,97,108,108],Lib.itoa s.proc]) (by simp[EZ,WA]) (by simp) ?_ fun l hl=>?_
 ·intro w hw
  simp only[List.mem_cons,List.not_mem_nil,or_false]at hw;rcases hw with rfl|rfl
  ·unfold Wd;decide
  ·exact Ev _
 ·rw[Jz h3 hl (by decide) (by decide) (by decide) (by decide),if_neg (by decide),if_neg (by decide),if_neg (by decide),if_neg (by decide),if_pos rfl]
  unfold NF;rw[if_pos (by rfl:([[99,97,108,108],Lib.itoa s.proc]:List (List UInt8)).length=2)];show(Bc false (Lib.itoa s.proc)).map (fun n=>Dw S {sv0 with k:=4,proc:=n})=_;rw[EK false s.proc (by simp;omega) (by omega)];obtain⟨k,op,d,a,b,imm,hh,cond,thn,els,proc⟩:=s;simp only[GI]at hk hz hn;obtain⟨rfl,rfl,rfl⟩:=hz;obtain⟨rfl,rfl,rfl,rfl,rfl,rfl⟩:=hn;subst hk;rfl
theorem XP{c:Int}(h1:1<=c)(h2:c<=4):Ju (EP c)=c/\Wd (EP c):=by
 obtain rfl|rfl|rfl|rfl:c=1∨c=2∨c=3∨c=4:=by omega
 all_goals exact⟨rfl,by unfold Wd;decide⟩
theorem Z7{S:PS}(h3:S.st=3)(hk:s.k=2∨s.k=3)(h1:1<=s.cond)(h2:s.cond<=4)(b:List SV)(os:List OV):Kr (Gy s) (Il S b os) (Il S (b++[{sv0 with k:=s.k,cond:=s.cond}]) (⟨b.length,0,false⟩::os)):=by
 obtain⟨c1,c2⟩:=XP h1 h2;have key:∀k w,Ez (Il S b os) k [w,EP s.cond]=some (Il S (b++[{sv0 with k:=k,cond:=s.cond}]) (⟨b.length,0,false⟩::os)):=fun k w=>by
  unfold Ez;rw[if_pos ⟨rfl,by show Ju (EP s.cond)≠0;rw[c1];omega⟩];show some ({Dw (Il S b os) {sv0 with k:=k,cond:=Ju (EP s.cond)}with op:=⟨(Ac (Il S b os)).length,0,false⟩::os}:PS)=_;rw[c1,Tx,QV];rfl
 have h3':(Il S b os).st=3:=h3;rcases hk with hk|hk
 ·refine .words (fs:=[[105,102],EP s.cond]) (by simp[Gy,hk,WA]) (by simp) ?_ fun l hl=>?_
  ·intro w hw
   simp only[List.mem_cons,List.not_mem_nil,or_false]at hw;rcases hw with rfl|rfl
   ·unfold Wd;decide
   ·exact c2
  ·rw[Jz h3' hl (by decide) (by decide) (by decide) (by decide),if_pos rfl,key,hk]
 ·refine .words (fs:=[[119,104,105,108,101],EP s.cond]) (by simp[Gy,hk,WA]) (by simp) ?_ fun l hl=>?_
  ·intro w hw
   simp only[List.mem_cons,List.not_mem_nil,or_false]at hw;rcases hw with rfl|rfl
   ·unfold Wd;decide
   ·exact c2
  ·rw[Jz h3' hl (by decide) (by decide) (by decide) (by decide),if_neg (by decide),if_pos rfl,key,hk]
theorem Un(b X:List SV)(s:SV):(b++s::X).getD b.length sv0=s:=by simp
theorem aJ{S:PS}(h3:S.st=3)(b X:List SV)(hk:s.k=2)(os:List OV):Kr Dc (Il S (b++s::X) (⟨b.length,0,false⟩::os)) (Il S (b++s::X) (⟨b.length,(X.length:Int),true⟩::os)):=by
 refine .words (fs:=[[101,108,115,101]]) rfl (by simp) (by unfold Wd;decide) fun l hl=>?_
 rw[Jz (S:=Il S (b++s::X) (⟨b.length,0,false⟩::os)) h3 hl (by decide) (by decide) (by decide) (by decide),if_neg (by decide),if_neg (by decide),if_pos rfl];show(if[[101,108,115,101]].length=1/\false=false/\((Ac (Il S (b++s::X) (⟨b.length,0,false⟩::os))).getD b.length sv0).k=2 then some ({Il S (b++s::X) (⟨b.length,0,false⟩::os)with op:=⟨b.length,((Ac (Il S (b++s::X) (⟨b.length,0,false⟩::os))).length:Int)-b.length-1,true⟩::os}:PS)else none)=_;rw[QV,Un,if_pos ⟨rfl,rfl,hk⟩];have:((b++s::X).length:Int)-b.length-1=(X.length:Int):=by simp;omega
 rw[this];rfl
theorem dm(S:PS)(b X:List SV)(s:SV)(th:Int)(e:Bool)(os:List OV){f:List (List UInt8)}(hf:f.length=1):JG (Il S (b++s::X) (⟨b.length,th,e⟩::os)) f=some (Il S (b++(if e=true then{s with thn:=th,els:=(X.length:Int)-th}else{s with thn:=(X.length:Int)})::X) os):=by
 have ho:(Il S (b++s::X) (⟨b.length,th,e⟩::os)).op=⟨b.length,th,e⟩::os:=rfl;have l1:((b++s::X).length:Int)-b.length-1=(X.length:Int):=by simp;omega
 unfold JG;rw[ho];dsimp only;rw[if_pos hf,QV,Un,l1,set_mid];exact congrArg some (ZM S _ _ _ os)
theorem YD{S:PS}(h3:S.st=3)(b X:List SV)(s:SV)(th:Int)(e:Bool)(os:List OV):Kr EO (Il S (b++s::X) (⟨b.length,th,e⟩::os)) (Il S (b++(if e=true then{s with thn:=th,els:=(X.length:Int)-th}else{s with thn:=(X.length:Int)})::X) os):=by
 refine .words (fs:=[[101,110,100]]) rfl (by simp) (by unfold Wd;decide) fun l hl=>?_
 rw[Jz (S:=Il S (b++s::X) (⟨b.length,th,e⟩::os)) h3 hl (by decide) (by decide) (by decide) (by decide),if_neg (by decide),if_neg (by decide),if_neg (by decide),if_pos rfl];exact dm S b X s th e os rfl
theorem Pf(L:Nat->SV)(me procs deep:Int)(hpr:procs<=100)(S:PS)(h3:S.st=3):∀(m i te:Nat)(depth:Int)(b:List SV)(os:List OV),te-i<=m->i<=te->(CZ L me procs deep i te depth).1=0->Kr (Dm L i te) (Il S b os) (Il S (b++Fs L i te) os)
 |m,i,te,depth,b,os,hm,hit,hc=>by
  by_cases hlt:i<te
  rotate_left
  ·rw[J5 hlt,LG hlt,List.append_nil];exact .nil _
  match m with
  |0=>omega
  |m+1=>
  obtain⟨ok,hs,c1,c2,c3⟩:=Gv hc hlt;have R3:=fun b=>Pf L me procs deep hpr S h3 m (i+1+(L i).thn.toNat+(L i).els.toNat) te depth b os (by omega) hs c3
  have cut:∀X,Fs L (i+1) (i+1+(L i).thn.toNat+(L i).els.toNat)=X->b++L i::X++Fs L (i+1+(L i).thn.toNat+(L i).els.toNat) te=b++Fs L i te:=fun X hX=>by
   rw[MI hlt,Uz (i:=i+1) (j:=i+1+(L i).thn.toNat+(L i).els.toNat) (te:=te) (by omega) hs,hX,List.append_assoc,List.cons_append]
  unfold BG at ok;by_cases k1:(L i).k=1
  ·rw[if_pos k1,Bool.and_eq_true]at ok
   obtain⟨oi,od⟩:=ok;obtain⟨o1,o2,o3,o4,o5⟩:=of_decide_eq_true od;have R:=R3 (b++[L i]);rw[<-cut [] (by rw[o3,o4];exact LG (by simp))];rw[U3 hlt hs k1];refine Kr.app (.line rfl (S9 oi o1).2.1 (Zt (S:=Il S b os) h3 k1 oi o1 ⟨o2,o3,o4,o5⟩)) ?_;rw[Tx];exact R
  rw[if_neg k1]at ok;by_cases k4:(L i).k=4
  ·rw[if_neg (by omega),if_neg (by omega),if_pos k4]at ok
   obtain⟨o1,o2,o3,o4,o5,o6⟩:=of_decide_eq_true ok;have R:=R3 (b++[L i]);rw[<-cut [] (by rw[o3,o4];exact LG (by simp))];rw[U9 hlt hs k4];refine Kr.app (ZW (S:=Il S b os) h3 k4 o1 ⟨o2,o3,o4⟩ ⟨o5,by omega⟩) ?_;rw[Tx];exact R
  have hk:(L i).k=2∨(L i).k=3:=by
   by_cases q2:(L i).k=2
   ·exact .inl q2
   ·rw[if_neg q2]at ok
    by_cases q3:(L i).k=3
    ·exact .inr q3
    ·rw[if_neg q3,if_neg k4]at ok;cases ok
  have fac:GI (L i)/\1<=(L i).cond/\(L i).cond<=4/\0<=(L i).thn/\0<=(L i).els/\(L i).proc=0/\(0<(L i).els->(L i).k=2):=by
   rcases hk with q|q
   ·rw[if_pos q]at ok
    obtain⟨a1,a2,a3,a4,a5,a6⟩:=of_decide_eq_true ok;exact⟨a1,a2,a3,a4,a5,a6,fun _=>q⟩
   ·rw[if_neg (by omega),if_pos q]at ok
    obtain⟨a1,a2,a3,a4,a5,a6⟩:=of_decide_eq_true ok;exact⟨a1,a2,a3,a4,by omega,a6,fun h=>by omega⟩
  obtain⟨a1,a2,a3,a4,a5,a6,a7⟩:=fac;have li:∀t e:Int,t=(L i).thn->e=(L i).els->({sv0 with k:=(L i).k,cond:=(L i).cond,thn:=t,els:=e}:SV)=L i:=fun t e ht he=>by
   subst ht he;generalize L i=s at *;obtain⟨k,op,d,a,b,imm,hh,cond,thn,els,proc⟩:=s;simp only[GI]at a1 a6;obtain⟨rfl,rfl,rfl,rfl,rfl,rfl⟩:=a1;subst a6;rfl
  have R0:=Z7 h3 hk a2 a3 b os;have R1:=Pf L me procs deep hpr S h3 m (i+1) (i+1+(L i).thn.toNat) (depth+1) (b++[{sv0 with k:=(L i).k,cond:=(L i).cond}]) (⟨b.length,0,false⟩::os) (by omega) (by omega) c1;have lx:(Fs L (i+1) (i+1+(L i).thn.toNat)).length=(L i).thn.toNat:=by rw[QY];omega
  rw[Oy hlt hs hk];rw[List.append_assoc b,List.singleton_append]at R1;by_cases he:0<(L i).els
  ·have k2:=a7 he
   have R2:=Pf L me procs deep hpr S h3 m (i+1+(L i).thn.toNat) (i+1+(L i).thn.toNat+(L i).els.toNat) (depth+1) (b++{sv0 with k:=(L i).k,cond:=(L i).cond}::Fs L (i+1) (i+1+(L i).thn.toNat)) (⟨b.length,((Fs L (i+1) (i+1+(L i).thn.toNat)).length:Int),true⟩::os) (by omega) (by omega) c2;rw[List.append_assoc b,List.cons_append,<-Uz (i:=i+1) (j:=i+1+(L i).thn.toNat) (by omega) (by omega)]at R2;have RE:=aJ (S:=S) h3 b (Fs L (i+1) (i+1+(L i).thn.toNat)) (s:={sv0 with k:=(L i).k,cond:=(L i).cond}) k2 os;have RZ:=YD (S:=S) h3 b (Fs L (i+1) (i+1+(L i).thn.toNat+(L i).els.toNat)) {sv0 with k:=(L i).k,cond:=(L i).cond} ((Fs L (i+1) (i+1+(L i).thn.toNat)).length:Int) true os;rw[if_pos rfl]at RZ;rw[show({({sv0 with k:=(L i).k,cond:=(L i).cond}:SV)with thn:=((Fs L (i+1) (i+1+(L i).thn.toNat)).length:Int),els:=((Fs L (i+1) (i+1+(L i).thn.toNat+(L i).els.toNat)).length:Int)-((Fs L (i+1) (i+1+(L i).thn.toNat)).length:Int)}:SV)=L i from li _ _ (by rw[lx];omega) (by rw[lx,QY];omega)]at RZ;have R:=R3 (b++L i::Fs L (i+1) (i+1+(L i).thn.toNat+(L i).els.toNat));rw[cut _ rfl]at R;rw[if_pos he];exact(((R0.app R1).app (RE.app R2)).app RZ).app R
  ·have e0:(L i).els=0:=by omega
   have en:(L i).els.toNat=0:=by omega
   have RZ:=YD (S:=S) h3 b (Fs L (i+1) (i+1+(L i).thn.toNat)) {sv0 with k:=(L i).k,cond:=(L i).cond} 0 false os;rw[if_neg (by decide)]at RZ;rw[show({({sv0 with k:=(L i).k,cond:=(L i).cond}:SV)with thn:=((Fs L (i+1) (i+1+(L i).thn.toNat)).length:Int)}:SV)=L i from li _ 0 (by rw[lx];omega) e0.symm]at RZ;have R:=R3 (b++L i::Fs L (i+1) (i+1+(L i).thn.toNat));rw[cut _ (by rw[en];rfl)]at R;rw[if_neg he,List.append_nil];exact((R0.app R1).app RZ).app R
def YO(S:PS)(Pv:Nat->PV)(k:Nat):PS:={S with st:=if k=0 then S.st else 3,ps:=(List.range k).map fun i=>Fs (Pv i).L 0 (Pv i).n}
theorem aK{S:PS}(h0:S.st≠0)(ho:S.op=[]){p:PV}{me procs:Int}(hpr:procs<=100)(hc:(CZ p.L me procs 16 0 p.n 0).1=0):Kr (EB p) S {S with st:=3,ps:=S.ps++[Fs p.L 0 p.n]}:=by
 have R0:Kr [112,114,111,99,10] S {S with st:=3,ps:=S.ps++[[]]}:=by
  refine .words (fs:=[[112,114,111,99]]) rfl (by simp) (by unfold Wd;decide) fun l hl=>?_
  have e1:Eb S l=Gj S (Aj l):=by simp[Eb,hl,fd]
  rw[e1,hl];unfold Gj;rw[if_pos ⟨h0,ho,rfl⟩]
 have e:∀b,Il {S with st:=3,ps:=S.ps++[[]]} b []={S with st:=3,ps:=S.ps++[b]}:=fun b=>by
  unfold Il;simp[ho]
 have R1:=Pf p.L me procs 16 hpr {S with st:=3,ps:=S.ps++[[]]} rfl p.n 0 p.n 0 [] [] (by omega) (by omega) hc;rw[e,e,List.nil_append]at R1;exact R0.app R1
theorem Qw{S:PS}(h0:S.st≠0)(ho:S.op=[])(hp:S.ps=[]){Pv:Nat->PV}{procs:Int}(hpr:procs<=100){np:Nat}(hc:∀i,i<np->(CZ (Pv i).L (i:Int) procs 16 0 (Pv i).n 0).1=0):∀k,k<=np->Kr (EF (fun i=>EB (Pv i)) k) S (YO S Pv k)
 |0,_=>by
  have:S=YO S Pv 0:=by cases S;simp only at hp;simp[YO,hp]
  rw[<-this];exact .nil _
 |k+1,hk=>by
  have z:(YO S Pv k).st≠0:=by
   unfold YO;by_cases k0:k=0
   ·simpa[k0]using h0
   ·simp[k0]
  have:=(Qw h0 ho hp hpr hc k (by omega)).app (aK (S:=YO S Pv k) z ho hpr (hc k (by omega)));have e2:({YO S Pv k with st:=3,ps:=(YO S Pv k).ps++[Fs (Pv k).L 0 (Pv k).n]}:PS)=YO S Pv (k+1):=by
   unfold YO;simp only[List.range_succ,List.map_append,Nat.add_one_ne_zero,if_false];rfl
  rw[e2]at this;exact this
theorem Ya{nH nR np:Nat}{S:Nat->HS}{V:Nat->VV}{Pv:Nat->PV}(hd:d=0∨d=1)(g:WE nH S nR V np Pv)(h1:1<=np):
 psT (JD d nH S V np Pv) ps0 1=(0,⟨3,d,(List.range nH).map S,(List.range 8).map V,List.replicate 8 true,(List.range np).map fun i=>Fs (Pv i).L 0 (Pv i).n,[]⟩):=by
 have A:=Zy hd;have B:=A.app (Rj (S:={ps0 with d:=d,st:=1}) rfl rfl S nH g.h8 g.hs);have C:=B.app (VK (S:={({ps0 with d:=d,st:=1}:PS)with hs:=(List.range nH).map S}) rfl rfl rfl g.h8 g.rs 8 jG);have D:=C.app (Qw (S:=atR {({ps0 with d:=d,st:=1}:PS)with hs:=(List.range nH).map S} V 8) (by simp[atR]) rfl rfl (procs:=(np:Int)) (by have:=g.p20;omega) (fun i hi=>(g.ps i hi).2) np jG);obtain⟨k,e⟩:=D [] 1;rw[List.append_nil]at e;unfold JD;rw[e,Le];have n0:np≠0:=by omega
 unfold YO atR;simp[ps0,n0]
end Go.Proofs.YtfpeecaaleijcaaGreatDoor
