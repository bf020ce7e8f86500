import Derived.Test.YtdbhgaegblclaaaDoorFnText
import Derived.ArgAppend
set_option maxHeartbeats 16000000
set_option maxRecDepth 20000
namespace Go.Proofs.YtdbhgaegblclaaaDoor
open Go.RowKit
theorem itoa_len(x:Int)(h:x.natAbs<10000000):(Lib.itoa x).length<=8:=by
 unfold Lib.itoa;split
 ·have:=dec_len 6 x.natAbs (by omega)
  simp;omega
 ·have:=dec_len 6 x.toNat (by omega)
  omega
theorem digS_len(x:Int)(h:x.natAbs<10000000):(digS x).size<=8:=by
 have:=itoa_len x h;simpa[digS,ByteArray.size]using this
theorem line_len(d:Int)(x:NV)(h:implIns x.op x.d x.a x.b x.imm x.h=true):(lineS d x.op x.d x.a x.b x.imm x.h).size<=260:=by
 obtain⟨h1,h2,hD,hA,hB,hH,hI,_⟩:=ins_facts h;have hf:∀c,(rbS x.d x.a x.b x.imm x.h c).size<=8:=fun c=>by
  unfold rbS;repeat' apply ite_size
  ·exact digS_len _ (by omega)
  ·exact digS_len _ (by omega)
  ·exact digS_len _ (by omega)
  ·exact digS_len _ (by omega)
  ·exact digS_len _ (by omega)
  ·exact digS_len _ (by omega)
  ·show 1<=8;omega
 have h3:=rend_size (rbS x.d x.a x.b x.imm x.h) 8 hf (shpS d x.op).data.toList (begS d x.op);have h4:=shpS_size d x.op;have h5:=nmS_size x.op;have h6:(begS d x.op).size<=11:=by
  unfold begS;apply ite_size
  ·omega
  ·simp only[ByteArray.size_append]
   show(nmS x.op).size+1<=11;omega
 have h7:(shpS d x.op).data.toList.length=(shpS d x.op).size:=rfl;unfold lineS;omega
theorem lab_len(d n:Int)(h:n.natAbs<10000000):(labS d n).size<=11:=by
 have:=digS_len n h;unfold labS;simp only[ByteArray.size_append];have h1:(if d=0 then(⟨#[46,76]⟩:ByteArray)else⟨#[76]⟩).size<=2:=by split<;>decide
 have h2:(⟨#[58]⟩:ByteArray).size=1:=rfl;omega
theorem txt_len(d:Int){len:Nat}{F:Nat->Nat->Int}(h:flatOK len F=true):∀k,k<=len->(txt d len F k).length<=k*300
 |0,_=>by simp[txt]
 |k+1,hk=>by
  obtain⟨_,l2,hall⟩:=flat_facts h;have ih:=txt_len d h k (by omega);have h1:=line_len d (nvG F k) (hall k (by omega)).1;have h1':(lineS d (F k 0) (F k 1) (F k 2) (F k 3) (F k 4) (F k 5)).size<=260:=h1;have h2:=lab_len d k (by omega);have e:∀s:ByteArray,(s++⟨#[10]⟩).data.toList.length=s.size+1:=fun s=>by
   show(s++⟨#[10]⟩).size=_;rw[ByteArray.size_append];rfl
  rw[txt,lineAt,List.length_append,List.length_append,e];have h3:(if reachB F k len=true then(labS d k++⟨#[10]⟩).data.toList else[]).length<=12:=by
   split
   ·rw[e];omega
   ·simp
  omega
theorem prT_len(d:Int)(len:Nat)(F:Nat->Nat->Int):(prT d len F).length<=len*300:=by
 unfold prT;split
 ·rename_i h
  rw[Bool.and_eq_true]at h;exact txt_len d h.1 len (Nat.le_refl _)
 ·simp
structure ByR(w:World)(B g o cap:Nat)(t:List UInt8):Prop where
 lt:B<=g
 A:At w g o t.length (numF .u8 (bF t))
 le:t.length<=cap
structure ByS(w:World)(B g o cap:Nat)(t:List UInt8):Prop where
 R:ByR w B g o cap t
 sp:∀j,t.length<=j->j<cap->(w.cell? ⟨g,o+j,none⟩).isSome=true/\w.frozen? ⟨g,o+j,none⟩=false
theorem ByR.below{w w':World}{B C g o cap:Nat}{t:List UInt8}(h:ByR w B g o cap t)(hb:Below C w w')(hg:g<C):ByR w' B g o cap t:=⟨h.lt,h.A.below hb hg,h.le⟩
theorem ByR.fw{p:Nat}{w w':World}{B g o cap:Nat}{t:List UInt8}(h:ByR w B g o cap t)(f:Fw p w w')(hp:p<B):ByR w' B g o cap t:=
 ⟨h.lt,⟨Nat.lt_of_lt_of_le h.A.lt f.size,fun i hi=>(f.cell h.A.lt (by have:=h.lt;omega)).trans (h.A.cell hi)⟩,h.le⟩
theorem ByS.fw{p:Nat}{w w':World}{B g o cap:Nat}{t:List UInt8}(h:ByS w B g o cap t)(f:Fw p w w')(hp:p<B):ByS w' B g o cap t:=
 ⟨h.R.fw f hp,fun j h1 h2=>by
   have hg:=h.R.A.lt;have hne:g≠p:=by have:=h.R.lt;omega
   rw[f.cell hg hne,f.frozen hg hne];exact h.sp j h1 h2⟩
theorem ByS.below{w w':World}{B C g o cap:Nat}{t:List UInt8}(h:ByS w B g o cap t)(hb:Below C w w')(hg:g<C):ByS w' B g o cap t:=
 ⟨h.R.below hb hg,fun j h1 h2=>by rw[hb.cell (p:=⟨g,o+j,none⟩) hg,hb.frozen (p:=⟨g,o+j,none⟩) hg];exact h.sp j h1 h2⟩
theorem ByR.mono{w:World}{B C g o cap:Nat}{t:List UInt8}(h:ByR w B g o cap t)(hc:C<=B):ByR w C g o cap t:=⟨Nat.le_trans hc h.lt,h.A,h.le⟩
theorem ByS.mono{w:World}{B C g o cap:Nat}{t:List UInt8}(h:ByS w B g o cap t)(hc:C<=B):ByS w C g o cap t:=⟨h.R.mono hc,h.sp⟩
theorem bF_drop(t:List UInt8)(k i:Nat):bF (t.drop k) i=bF t (k+i):=by simp[bF,List.getD_eq_getElem?_getD,List.getElem?_drop]
theorem bF_take(t:List UInt8)(k i:Nat)(h:i<k):bF (t.take k) i=bF t i:=by simp[bF,List.getD_eq_getElem?_getD,h]
theorem ByR.drop{w:World}{B g o cap:Nat}{t:List UInt8}(h:ByR w B g o cap t)(k:Nat)(hk:k<=t.length):ByR w B g (o+k) (cap-k) (t.drop k):=
 ⟨h.lt,⟨h.A.lt,fun i hi=>by
   rw[List.length_drop]at hi;have:=h.A.cell (i:=k+i) (by omega);rw[<-Nat.add_assoc]at this;rw[this];show some (Value.int .u8 (bF t (k+i)))=some (Value.int .u8 (bF (t.drop k) i));rw[bF_drop]⟩,by rw[List.length_drop];have:=h.le;omega⟩
theorem ByR.take{w:World}{B g o cap:Nat}{t:List UInt8}(h:ByR w B g o cap t)(k:Nat)(hk:k<=t.length):ByR w B g o cap (t.take k):=
 ⟨h.lt,⟨h.A.lt,fun i hi=>by
   rw[List.length_take]at hi;have:=h.A.cell (i:=i) (by omega);rw[this];show some (Value.int .u8 (bF t i))=some (Value.int .u8 (bF (t.take k) i));rw[bF_take t k i (by omega)]⟩,by rw[List.length_take];have:=h.le;omega⟩
theorem ByR.nil{w:World}{B g o cap:Nat}(h:g<w.heap.size)(hB:B<=g):ByR w B g o cap []:=⟨hB,⟨h,fun i hi=>by simp at hi⟩,Nat.zero_le _⟩
theorem ByR.cells{w:World}{B g o cap:Nat}{t:List UInt8}(h:ByR w B g o cap t):∀j u,(Lib.byteCells t)[j]?=some u->w.cell? ⟨g,o+j,none⟩=some u:=fun j u hu=>by
 have hj:j<t.length:=by
  have:=(List.getElem?_eq_some_iff.1 hu).1;simpa[Lib.byteCells]using this
 rw[h.A.cell hj,<-bc_at t j hj,hu]
theorem bcl(t:List UInt8):(Lib.byteCells t).length=t.length*1:=by simp[Lib.byteCells]
theorem bc_one(t:List UInt8):∀u∈Lib.byteCells t,u.oneCell'=true:=by
 intro u hu;simp only[Lib.byteCells,List.mem_map]at hu;obtain⟨b,_,rfl⟩:=hu;rfl
theorem bc_app(a b:List UInt8):Lib.byteCells (a++b)=Lib.byteCells a++Lib.byteCells b:=by simp[Lib.byteCells]
theorem ByS.of_row{w:World}{B e g cap:Nat}{t:List UInt8}(h:w.ownsRow B e 1 (.slice (some ⟨g,0,none⟩) t.length cap) t.length (Lib.byteCells t)):ByS w B g 0 cap t:=by
 rcases h.2 with⟨h',_⟩|⟨g',cap',cur,h',h1,h2,h3,h4,h5,h6⟩
 ·simp at h'
 ·simp only[Value.slice.injEq,Option.some.injEq,Addr.mk.injEq,and_true,true_and]at h'
  obtain⟨rfl,rfl⟩:=h';refine⟨⟨h1,⟨(h.lt g rfl).2,fun i hi=>?_⟩,h3⟩,fun j _ hj=>⟨?_,?_⟩⟩
  ·rw[Nat.zero_add,h.cellAt i (by omega),bc_at t i hi]
  ·rw[Nat.zero_add,hp_cell h2 j]
   have:j<cur.size:=by omega
   simp[this]
  ·rw[Nat.zero_add];exact hp_free h2 j
theorem row_nz{w:World}{B e n:Nat}{v:Value}{t:List UInt8}(h:w.ownsRow B e 1 v n (Lib.byteCells t))(ht:t≠[]):∃g cap,v=.slice (some ⟨g,0,none⟩) t.length cap/\ByS w B g 0 cap t:=by
 obtain⟨g,cap,hv,_,_,hn⟩:=row_by h ht;subst hv hn;exact⟨g,cap,rfl,ByS.of_row h⟩
theorem bF_left(a b:List UInt8)(i:Nat)(h:i<a.length):bF (a++b) i=bF a i:=by simp[bF,List.getD_eq_getElem?_getD,List.getElem?_append_left h]
theorem bF_right(a b:List UInt8)(i:Nat)(h:a.length<=i):bF (a++b) i=bF b (i-a.length):=by simp[bF,List.getD_eq_getElem?_getD,List.getElem?_append_right h]
theorem wpList_append_by{P:Program}(w:World){ops:Array Oper}{rest:List Oper}{o:Oper}{a:Act}{Q:Exit->Act->World->Prop}
 (hg:o.guard=none)(s x:Operand)(t:TypeId)(hop:o.op=Op.call {callee:=Callee.builtin Builtin.append,args:=#[s,x],argTypes:=#[t,t]})
 (e:TypeId)(i:TypeInfo)(z:Value)(h1:P.underlying t=some (.slice e))(h2:P.info? e=some i)(h3:i.zero=some z)(h4:i.size=1)(h5:i.bytes=1)(h6:z.cells.size=1)
 (B b off cap nl:Nat)(l:List UInt8)(hs:a.eval s=.slice (some ⟨b,off,none⟩) nl cap)(hnl:l.length=nl)(hl:ByS w B b off cap l)(hB:B<=w.heap.size)
 (C b' off' c nl':Nat)(l':List UInt8)(hx:a.eval x=.slice (some ⟨b',off',none⟩) nl' c)(hnl':l'.length=nl')(hl':ByR w C b' off' c l')(hz:nl+nl'<=1000000)
 (hK:∀g' o' c' w',ByS w' B g' o' c' (l++l')->Below B w w'->wpList P ops Q rest (a.put o.dst (.slice (some ⟨g',o',none⟩) (nl+nl') c')) w'):
 wpList P ops Q (o::rest) a w:=by
 subst hnl hnl';have hlen:(l++l').length=l.length+l'.length:=List.length_append;refine wpList_append_arg w hg s x t hop e i z 1 1 h1 h2 h3 h4 h5 h6 (by omega) b off l.length cap (Lib.byteCells l) hs (bcl l) hl.R.cells ⟨b',off',none⟩ l'.length c (Lib.byteCells l') hx (bcl l')
  (fun j u hu=>by
    have e2:(⟨b',off',none⟩:Addr).add j=⟨b',off'+j,none⟩:=by unfold Addr.add;split<;>simp_all
    rw[e2];exact hl'.cells j u hu) (bc_one l') (fun hr j hj=>?_) (by unfold maxLen;omega) (by omega) (fun hr=>?_) (fun hr v' w' ho hgb=>?_)
 ·rw[bcl]at hj
  rw[Nat.mul_one,Nat.add_assoc];exact hl.sp (l.length+j) (by omega) (by omega)
 ·refine hK b off cap _ ?_ (below_setCells hl.R.lt _ _ (Below.refl _ _))
  have hin:∀j,j<l'.length->(w.setCells b (off+l.length*1) (Lib.byteCells l')).cell? ⟨b,off+l.length*1+j,none⟩=(Lib.byteCells l')[j]?:=fun j hj=>by
   have hj':j<(Lib.byteCells l').length:=by rw[bcl];omega
   rw[World.cell?_setCells_in b (Lib.byteCells l') (off+l.length*1) w (fun k hk=>by
    rw[bcl]at hk;have:=(hl.sp (l.length+k) (by omega) (by omega)).1;rw[<-Nat.add_assoc]at this;rw[Nat.mul_one];exact this) j hj']
   rw[List.getElem?_eq_getElem hj']
  have hout:∀j,j<l.length∨l.length+l'.length<=j->(w.setCells b (off+l.length*1) (Lib.byteCells l')).cell? ⟨b,off+j,none⟩=w.cell? ⟨b,off+j,none⟩:=fun j hj=>by
   refine World.cell?_setCells_out b _ _ w ⟨b,off+j,none⟩ (fun _ _=>?_);rw[bcl];simp only;omega
  refine⟨⟨hl.R.lt,⟨by rw[size_setCells];exact hl.R.A.lt,fun k hk=>?_⟩,by rw[hlen];exact hr⟩,fun j hj1 hj2=>?_⟩
  ·rw[hlen]at hk
   by_cases hkl:k<l.length
   ·rw[hout k (.inl hkl),hl.R.A.cell hkl]
    show some (Value.int .u8 (bF l k))=some (Value.int .u8 (bF (l++l') k));rw[bF_left l l' k hkl]
   ·have:=hin (k-l.length) (by omega)
    rw[show off+l.length*1+(k-l.length)=off+k by omega]at this;rw[this,bc_at l' (k-l.length) (by omega)];show some (Value.int .u8 (bF l' (k-l.length)))=some (Value.int .u8 (bF (l++l') k));rw[bF_right l l' k (by omega)]
  ·rw[hlen]at hj1
   rw[hout j (.inr hj1),World.frozen?_setCells];exact hl.sp j (by omega) hj2
 ·have hne:l++l'≠[]:=fun e=>by
   have h0:l.length+l'.length=0:=by rw[<-hlen,e];rfl
   omega
  rw[<-bc_app]at ho;obtain⟨g',c',hv',hby⟩:=row_nz ho hne;subst hv';rw[hlen];exact hK g' 0 c' w' (hby.mono hB) ((Below.refl _ _).grown hgb hB (by intro k hk;cases hk))
theorem specPrint_nil(b off len cap:Nat)(F:Nat->Nat->Int)(d:Int)(w:World)(hm:len<=1048576)(hat:At w b off (len*6) (insF F))(hok:(flatOK len F&&inB d 0 1)=false):
 Calls Tryd.prog 11 #[.slice (some ⟨b,off,none⟩) len cap,.int .i64 d] w fun e w'=>e=.returned (.slice (some ⟨w.heap.size,0,none⟩) 0 0)/\w.heap.size<w'.heap.size/\Below w.heap.size w w':=by
 have hb:=hat.lt;have HA:Hid (At w b off (len*6) (insF F)):=hat;clear hat;go_enter Tryd.func11,Tryd.ntmps11;go_upto_region 2 with fail;obtain⟨u,hu,hbu,hz⟩:∃v,w.alloc (.cells #[] 5)=v/\Below w.heap.size w v/\w.heap.size<v.heap.size:=⟨_,rfl,(Below.refl _ _).alloc (Nat.le_refl _) _,by simp⟩
 rw[hu];clear hu;cases hf:flatOK len F with
 |false=>
  clear hok;go_wp2_with(first|(go_at_call 9;refine(specFlat_any b off len cap F _ hm (HA.out.below hbu hb)).mono ?_;rintro e w1⟨rfl,hb1⟩;rw[hf]));go_ret;exact⟨rfl,Nat.lt_of_lt_of_le hz hb1.size,hbu.trans (hb1.mono hbu.size)⟩
 |true=>
  have hin:inB d 0 1=false:=by simpa[hf]using hok
  clear hok;go_wp2_with(first|(go_at_call 9;refine(specFlat_any b off len cap F _ hm (HA.out.below hbu hb)).mono ?_;rintro e w1⟨rfl,hb1⟩;rw[hf])|(go_at_call 39;refine(in_any _ _ _ _).mono ?_;rintro e w2⟨rfl,hw2⟩;rw[hw2,hin];clear hw2));go_ret;exact⟨rfl,Nat.lt_of_lt_of_le hz hb1.size,hbu.trans (hb1.mono hbu.size)⟩
theorem specPrint_by(b off len cap:Nat)(F:Nat->Nat->Int)(d:Int)(w:World)(hm:len<=1048576)(hat:At w b off (len*6) (insF F)):
 Calls Tryd.prog 11 #[.slice (some ⟨b,off,none⟩) len cap,.int .i64 d] w fun e w'=>∃g c t,e=.returned (.slice (some ⟨g,0,none⟩) t.length c)/\t.length<=len*300/\ByR w' w.heap.size g 0 c t/\Below w.heap.size w w':=by
 by_cases ht:prT d len F=[]
 ·have hok:(flatOK len F&&inB d 0 1)=false:=by
   cases h:(flatOK len F&&inB d 0 1)with
   |false=>rfl
   |true=>
    unfold prT at ht;rw[if_pos h]at ht;rw[Bool.and_eq_true]at h;exact absurd ht (txt_ne d len F len (flat_facts h.1).1)
  refine(specPrint_nil b off len cap F d w hm hat hok).mono ?_;rintro e w'⟨rfl,hz,hb⟩;exact⟨w.heap.size,0,[],rfl,Nat.zero_le _,.nil hz (Nat.le_refl _),hb⟩
 ·refine(specPrint_any b off len cap F d w hm hat).mono ?_
  rintro e w'⟨v,n,rfl,ho,hb⟩;obtain⟨g,c,rfl,hby⟩:=row_nz ho ht;exact⟨g,c,_,rfl,prT_len d len F,hby.R,hb⟩
def shortS:Value->Bool
 |.string s=>decide (s.size<=20)
 |_=>false
theorem pick_cells(w:World)(cs:Array Value)(T:TypeId)(m:Nat)(hm:cs.size=m)(h:cs.toList.all shortS=true):∀i,i<m->∃s:ByteArray,s.size<=20/\(w.alloc (.cells cs T)).cell? ⟨w.heap.size,i,none⟩=some (.string s):=fun i hi=>by
 subst hm;rw[hp_cell (heap_alloc_newB w (.cells cs T)) i,Array.getElem?_eq_getElem hi];have h1:=List.all_eq_true.1 h cs[i] (by simp);rcases hv:cs[i]with _|_|_|_|_;all_goals(rw[hv]at h1;first|(cases h1;done)|exact⟨_,by simpa[shortS]using h1,rfl⟩)
theorem l2Pick_any(p:Nat)(ao:Option Addr)(n cap q m:Nat)(w:World)(hc:Cur w p ao n cap)(h1:1<=m)(h2:m<=100)(hq:∀i,i<m->∃s:ByteArray,s.size<=20/\w.cell? ⟨q,i,none⟩=some (.string s))(hqp:q≠p)(hql:q<w.heap.size):
 Calls Tryd.prog 48 #[.pointer (some ⟨p,0,none⟩),.slice (some ⟨q,0,none⟩) m m] w fun e w'=>∃s:ByteArray,e=.returned (.string s)/\s.size<=20/\Fw p w w'/\Cur w' p ao n cap:=by
 have HC:Hid (Cur w p ao n cap):=hc;have HQ:Hid (∀i,i<m->∃s:ByteArray,s.size<=20/\w.cell? ⟨q,i,none⟩=some (.string s)):=hq;clear hc hq;go_enter Tryd.func48,Tryd.ntmps48;go_wp2_with fail;refine(l1Below_any p ao n cap (m:Int) _ (by omega) HC.out).mono ?_;rintro e w1⟨x,rfl,x0,x1,f1,k1⟩;obtain⟨j,rfl⟩:∃j:Nat,x=(j:Int):=⟨x.toNat,by omega⟩
 obtain⟨s,hs,hcell⟩:=HQ.out j (by omega);have c1:w1.cell? ⟨q,j,none⟩=some (.string s):=(f1.cell hql hqp).trans hcell;have F1:Hid (Fw p w w1/\Cur w1 p ao n cap):=⟨f1,k1⟩
 have HS:Hid (s.size<=20):=hs;clear f1 k1 hcell hs;go_wp2;go_ret;exact⟨s,rfl,HS.out,F1.out.1,F1.out.2⟩
theorem conv_by(W:World)(s:ByteArray):∃cp W2,(convert 9 22 (.string s)).run Tryd.prog W=.ok (.slice (some ⟨W.heap.size,0,none⟩) s.size cp) W2/\Below W.heap.size W W2/\ByS W2 W.heap.size W.heap.size 0 cp s.data.toList:=by
 refine⟨_,_,run_bytes_of_string W 9 22 5 s Tryd.underlying9 Tryd.underlying22 Tryd.underlying5,(Below.refl _ _).drew.alloc (Nat.le_refl _) _,?_⟩;have hge:=grownCap_ge W s.size 0 5;obtain⟨cp,hcp⟩:∃c,grownCap W s.size 0 5=c:=⟨_,rfl⟩
 rw[hcp]at hge⊢;have h2:=heap_alloc_newB W.drew (.cells (bytesRow s cp) 5 ((bytesRow s cp).size,(bytesRow s cp).size+1));have h3:W.drew.heap.size=W.heap.size:=rfl;rw[h3]at h2;have hsz:(bytesRow s cp).size=cp:=by
  simp only[bytesRow,Array.size_append,Array.size_map,Array.size_replicate];show s.size+(cp-s.size)=cp;omega
 refine⟨⟨Nat.le_refl _,⟨?_,fun i hi=>?_⟩,hge⟩,fun j _ hj=>⟨?_,?_⟩⟩
 ·show W.heap.size<(W.drew.alloc _).heap.size
  simp
 ·have hi':i<s.data.size:=by simpa using hi
  rw[Nat.zero_add,hp_cell h2 i,bytesRow_at s cp i hi'];show some (Value.int .u8 _)=some (Value.int .u8 (bF s.data.toList i));unfold bF;rw[List.getD_eq_getElem?_getD,List.getElem?_eq_getElem (by simpa using hi')];simp
 ·rw[Nat.zero_add,hp_cell h2 j]
  have:j<(bytesRow s cp).size:=by omega
  simp[this]
 ·rw[Nat.zero_add]
  unfold World.frozen?;rw[h2];simp;omega
structure TS(w1:World)(p:Nat)(ao:Option Addr)(n cap g o c:Nat)(t:List UInt8)(v:World):Prop where
 F:Fw p w1 v
 K:Cur v p ao n cap
 T:ByR v w1.heap.size g o c t
 pw:p<w1.heap.size
theorem TS.fw{w1 v v':World}{p n cap g o c:Nat}{ao:Option Addr}{t:List UInt8}(h:TS w1 p ao n cap g o c t v)(f:Fw p v v')(k:Cur v' p ao n cap):TS w1 p ao n cap g o c t v':=⟨h.F.trans f,k,h.T.fw f h.pw,h.pw⟩
theorem TS.below{w1 v v':World}{p n cap g o c:Nat}{ao:Option Addr}{t:List UInt8}(h:TS w1 p ao n cap g o c t v)(f:Below v.heap.size v v'):TS w1 p ao n cap g o c t v':=h.fw (.of_below f) (h.K.below f)
theorem Cur.belowB{w w':World}{p n cap B:Nat}{ao:Option Addr}(h:Cur w p ao n cap)(hb:Below B w w')(hp:p<B):Cur w' p ao n cap:=by
 obtain⟨i,hh,q0,q1,q2,q3⟩:=h.cs;refine⟨Nat.lt_of_lt_of_le h.lt hb.size,fun i=>(hb.frozen (p:=⟨p,i,none⟩) hp).trans (h.fz i),⟨i,hh,q0,(hb.cell (p:=⟨p,0,none⟩) hp).trans q1,(hb.cell (p:=⟨p,1,none⟩) hp).trans q2,(hb.cell (p:=⟨p,2,none⟩) hp).trans q3⟩,?_,h.ln⟩;rcases h.row with h|⟨b,off,h1,h2,h3⟩
 ·exact .inl h
 ·exact .inr ⟨b,off,h1,h2,fun i hi=>by obtain⟨v,q1,q2,q3⟩:=h3 i hi;exact⟨v,q1,q2,(hb.cell (p:=⟨b,off+i,none⟩) (by simp;omega)).trans q3⟩⟩
theorem Fw.belowB{p B:Nat}{a b c:World}(h:Fw p a b)(hb:Below B b c)(hB:a.heap.size<=B):Fw p a c:=
 ⟨hb.os.trans h.os,hb.tape.trans h.tape,hb.output.trans h.output,Nat.le_trans h.size hb.size,fun k hk hn=>(hb.block k (by omega)).trans (h.block k hk hn)⟩
theorem TS.other{w1 v v':World}{p n cap g o c g' o' c' B:Nat}{ao:Option Addr}{t t':List UInt8}(h:TS w1 p ao n cap g o c t v)(hb:Below B v v')(hB:w1.heap.size<=B)(ht:ByR v' w1.heap.size g' o' c' t'):TS w1 p ao n cap g' o' c' t' v':=
 ⟨h.F.belowB hb hB,h.K.belowB hb (by have:=h.pw;omega),ht,h.pw⟩
theorem drawRead_any(ao:Option Addr)(n cap:Nat)(w:World)(hn:n<=1048576)(hr:Bytes0 w w.heap.size ao n):
 Calls Tryd.prog 14 #[.slice ao n cap] w fun e w'=>∃g o c t d,e=.returned (.tuple #[.slice (some ⟨g,o,none⟩) t.length c,.int .i64 d])/\t.length<=200000/\ByR w' w.heap.size g o c t/\Below w.heap.size w w':=by
 have HR:Hid (Bytes0 w w.heap.size ao n):=hr
 obtain⟨iS,hi,hz0,hz1,hz2⟩:=info_parts info_u8
 have HIS:Hid (Tryd.prog.info? 5=some iS/\iS.zero=some (.int .u8 0)/\iS.size=1/\iS.bytes=1):=⟨hi,hz0,hz1,hz2⟩
 clear hr hi hz0 hz1 hz2
 go_enter Tryd.func14,Tryd.ntmps14
 go_wp2_with fail
 refine(l1New_any ao n cap w hn HR.out).mono ?_
 rintro e w1⟨p,rfl,lp,hb1,c1⟩
 have B1:Hid (Below w.heap.size w w1):=hb1
 have K1:Hid (Cur w1 p ao n cap):=c1
 have pw:=c1.lt
 clear hb1 c1 HR
 go_wp2_with fail
 refine(l1Below_any p ao n cap 14 _ (by omega) K1.out).mono ?_
 rintro e w2⟨m,rfl,m0,m1,f,c⟩
 have F2:Hid (Fw p w1 w2):=f
 have K2:Hid (Cur w2 p ao n cap):=c
 clear f c K1
 go_wp2_with fail
 refine(l1DrawFlat_any p ao n cap (1+m) _ (by omega) (by omega) K2.out).mono ?_
 rintro e w3⟨v,ys,rfl,hyl,fw⟩
 obtain⟨gp,gc,rfl⟩:=fw.nn (by omega)
 have W3:Hid (FW w1 p ao n cap (.slice (some ⟨gp,0,none⟩) ys.length gc) ys w3):=fw.down F2.out pw
 have hy:ys.length<=15:=by omega
 clear fw F2 K2 hyl
 go_wp2_with fail
 refine(l1Below_any p ao n cap 2 _ (by omega) W3.out.K).mono ?_
 rintro e w4⟨d,rfl,d0,d1,f,c⟩
 have W4:Hid (FW w1 p ao n cap (.slice (some ⟨gp,0,none⟩) ys.length gc) ys w4):=W3.out.fw f c
 clear f c W3
 go_wp2_with fail
 refine(specPrint_by gp 0 ys.length gc (icF ys) d w4 (by omega) (row_at W4.out.O)).mono ?_
 rintro e w5⟨g,tc,t,rfl,tl,hby,hb5⟩
 have T5:Hid (TS w1 p ao n cap g 0 tc t w5):=⟨W4.out.F.trans (.of_below hb5),W4.out.K.below hb5,hby.mono W4.out.F.size,pw⟩
 have tl':t.length<=10000:=by omega
 clear hby hb5 W4 tl hy m0 m1
 go_wp2_with fail
 refine(l1Below_any p ao n cap 9 _ (by omega) T5.out.K).mono ?_
 rintro e w6⟨k,rfl,k0,k1,f,c⟩
 have T6:Hid (TS w1 p ao n cap g 0 tc t w6):=T5.out.fw f c
 clear f c T5
 go_upto_region 6 with fail
 go_cut [4,6,7,8,33](fun s4 s6 s7 s8 z wx=>s4=.pointer (some ⟨p,0,none⟩)/\s8=.int .i64 k/\s6=.int .i64 d/\s7=.slice (some ⟨g,0,none⟩) t.length tc/\(∃y:Bool,z=.bool y/\(y=true->1<=t.length))/\wx=w6)
 case first=>
  by_cases h1:k<4
  ·by_cases h2:(0:Int)<t.length
   ·go_wp2_with fail
    go_meet
    exact⟨rfl,rfl,rfl,rfl,⟨_,rfl,fun _=>by omega⟩,rfl⟩
   ·go_wp2_with fail
    go_meet
    exact⟨rfl,rfl,rfl,rfl,⟨_,rfl,fun h=>by simp at h;omega⟩,rfl⟩
  ·go_wp2_with fail
   go_meet
   exact⟨rfl,rfl,rfl,rfl,⟨_,rfl,fun h=>by simp at h⟩,rfl⟩
 case rest=>
  obtain⟨rfl,rfl,rfl,rfl,⟨z,rfl,hz⟩,hwc⟩:=hcut
  rw[hwc]
  clear hwc
  go_upto_if 33 with fail
  go_cut [4,6,7,8](fun s4 s6 s7 s8 wx=>s4=.pointer (some ⟨p,0,none⟩)/\s8=.int .i64 k/\(∃d:Int,s6=.int .i64 d)/\∃g o tc t tn,s7=.slice (some ⟨g,o,none⟩) tn tc/\t.length=tn/\tn<=30000/\TS w1 p ao n cap g o tc t wx)
  case first=>
   cases z with
   |false=>
    go_wp2_with fail
    go_meet
    exact⟨rfl,rfl,⟨_,rfl⟩,g,0,tc,t,_,rfl,rfl,by omega,T6.out⟩
   |true=>
    have hl1:=hz rfl
    clear hz
    go_wp2_with fail
    refine(l1Below_any p ao n cap (t.length:Int) _ (by omega) T6.out.K).mono ?_
    rintro e w7⟨x,rfl,x0,x1,f,c⟩
    obtain⟨a,rfl⟩:∃a:Nat,x=(a:Int):=⟨x.toNat,by omega⟩
    have T7:Hid (TS w1 p ao n cap g 0 tc t w7):=T6.out.fw f c
    have hat:a<t.length:=by omega
    have hcp:=T7.out.T.le
    clear f c T6 x0 x1
    obtain⟨tn,htn⟩:∃l,t.length=l:=⟨_,rfl⟩
    have HTN:Hid (t.length=tn):=htn
    rw[htn]at hat hl1 hcp tl'⊢
    clear htn
    go_wp2_with fail
    refine(l1Once_any p ao n cap 2 _ (by omega) T7.out.K).mono ?_
    rintro e w8⟨z,rfl,f,c⟩
    have T8:Hid (TS w1 p ao n cap g 0 tc t w8):=T7.out.fw f c
    clear f c T7
    go_upto_if 42 with fail
    go_cut [4,6,7,8,9,10](fun s4 s6 s7 s8 s9 s10 wx=>s4=.pointer (some ⟨p,0,none⟩)/\s8=.int .i64 k/\s6=.int .i64 d/\s7=.slice (some ⟨g,0,none⟩) tn tc/\s9=.int .i64 (a:Int)/\(∃o' c' r rn,s10=.slice (some ⟨g,o',none⟩) rn c'/\r.length=rn/\rn<=10000/\ByR w8 w1.heap.size g o' c' r)/\wx=w8)
    case first=>
     have D8:Hid (ByR w8 w1.heap.size g a (tc-a) (t.drop a)):=(by have:=T8.out.T.drop a (by have:=HTN.out;omega);rw[Nat.zero_add]at this;exact this:ByR w8 w1.heap.size g a (tc-a) (t.drop a))
     have HDL:Hid ((t.drop a).length=tn-a):=(by rw[List.length_drop,HTN.out]:(t.drop a).length=tn-a)
     cases z with
     |false=>
      go_wp2_with fail
      go_meet
      exact⟨rfl,rfl,rfl,rfl,rfl,⟨_,_,t.drop a,_,rfl,HDL.out,by omega,D8.out⟩,rfl⟩
     |true=>
      obtain⟨r,hr⟩:∃l,tn-a=l+1:=⟨tn-a-1,by omega⟩
      obtain⟨rc,hrc⟩:∃l,tc-a=l+1:=⟨tc-a-1,by omega⟩
      have hrr:r<=rc:=by omega
      have hr9:r<=10000:=by omega
      have HR2:Hid (tc-a=rc+1):=hrc
      have HR1:Hid (tn-a=r+1):=hr
      rw[hr,hrc]
      clear hr hrc
      by_cases hrc:rc=0
      ·subst hrc
       obtain rfl:r=0:=by omega
       go_wp2_with fail
       go_meet
       exact⟨rfl,rfl,rfl,rfl,rfl,⟨_,_,[],_,rfl,rfl,by omega,.nil D8.out.A.lt D8.out.lt⟩,rfl⟩
      ·have hrc':1<rc+1:=by omega
       have D9:Hid (ByR w8 w1.heap.size g (a+1) rc ((t.drop a).drop 1)):=(by
        have:=D8.out.drop 1 (by rw[HDL.out,HR1.out];omega)
        rw[HR2.out]at this
        exact this:ByR w8 w1.heap.size g (a+1) rc ((t.drop a).drop 1))
       have HD9:Hid (((t.drop a).drop 1).length=r):=(by rw[List.length_drop,HDL.out,HR1.out];rfl:((t.drop a).drop 1).length=r)
       go_wp2_with fail
       go_meet
       exact⟨rfl,rfl,rfl,rfl,rfl,⟨_,_,(t.drop a).drop 1,_,rfl,HD9.out,by omega,D9.out⟩,rfl⟩
    case rest=>
     obtain⟨rfl,rfl,rfl,rfl,rfl,⟨ro,rc,r,rn,rfl,hrn,hr9,hbr⟩,hwc⟩:=hcut
     rw[hwc]
     have R8:Hid (ByR w8 w1.heap.size g ro rc r):=hbr
     have HRN:Hid (r.length=rn):=hrn
     clear hwc hbr hrn
     go_wp2_with fail
     refine(l2Pick_any p ao n cap _ 21 _ (T8.out.below ((Below.refl _ _).alloc (Nat.le_refl _) _)).K (by omega) (by omega) ?hq (by have:=T8.out.K.lt;omega) (by simp)).mono ?_
     case hq=>
      refine pick_cells w8 _ _ 21 rfl ?_
      decide
     rintro e w9⟨s,rfl,hs,f,c⟩
     have F9:Hid (Fw p w8 w9):=(Fw.of_below ((Below.refl _ _).alloc (Nat.le_refl _) _)).trans f
     have T9:Hid (TS w1 p ao n cap g 0 tc t w9):=T8.out.fw F9.out c
     have R9:Hid (ByR w9 w1.heap.size g ro rc r):=R8.out.fw F9.out T8.out.pw
     clear f c T8 R8 F9
     have gl9:=T9.out.T.A.lt
     have BU9:Hid (∀x,Below w9.heap.size w9 (w9.alloc x)):=fun x=>(Below.refl _ _).alloc (Nat.le_refl _) _
     have TA:Hid (∀x,ByR (w9.alloc x) w1.heap.size g 0 tc (t.take a)):=fun x=>(T9.out.T.take a (by have:=HTN.out;omega)).below (BU9.out x) gl9
     have HTA:Hid ((t.take a).length=a):=(by rw[List.length_take,HTN.out];omega:(t.take a).length=a)
     have L9:Hid (ByS (w9.alloc (.cells #[] 5)) w9.heap.size w9.heap.size 0 0 []):=⟨.nil (by simp) (Nat.le_refl _),fun j h1 h2=>by omega⟩
     have zu9:∀x,w9.heap.size<=(w9.alloc x).heap.size:=fun x=>(BU9.out x).size
     have hw9:w1.heap.size<=w9.heap.size:=T9.out.F.size
     have ha9:0+a<=1000000:=by omega
     go_wp2_with(first|(at_builtin;refine wpList_append_by _ rfl _ _ 22 rfl 5 iS _ Tryd.underlying22 HIS.out.1 HIS.out.2.1 HIS.out.2.2.1 HIS.out.2.2.2 rfl w9.heap.size w9.heap.size 0 0 0 [] rfl rfl L9.out (zu9 _) w1.heap.size g 0 tc a (t.take a) rfl HTA.out (TA.out _) ha9 ?_))
     intro g1 o1 c1 w10 hby1 hb10
     try rw[Nat.zero_add]
     obtain⟨cp,w11,hrun,hb11,hby11⟩:=conv_by w10 s
     have B10:Hid (Below w9.heap.size w9 w10):=(BU9.out _).trans hb10
     have B11:Hid (Below w9.heap.size w9 w11):=B10.out.trans (hb11.mono B10.out.size)
     have L11:Hid (ByS w11 w9.heap.size g1 o1 c1 ([]++t.take a)):=hby1.below hb11 hby1.R.A.lt
     have S11:Hid (ByR w11 w10.heap.size w10.heap.size 0 cp s.data.toList):=hby11.R
     have z11:w9.heap.size<=w11.heap.size:=B11.out.size
     have HTB:Hid ((([]:List UInt8)++t.take a).length=a):=HTA.out
     have has:a+s.size<=1000000:=by omega
     clear hby1 hb10 hb11 hby11 L9 TA zu9 BU9 ha9
     go_wp2_with(first|(at_builtin;refine wpList_append_by _ rfl _ _ 22 rfl 5 iS _ Tryd.underlying22 HIS.out.1 HIS.out.2.1 HIS.out.2.2.1 HIS.out.2.2.2 rfl w9.heap.size g1 o1 c1 a ([]++t.take a) rfl HTB.out L11.out z11 w10.heap.size w10.heap.size 0 cp s.size s.data.toList rfl rfl S11.out has ?_))
     intro g2 o2 c2 w12 hby2 hb12
     have B12:Hid (Below w9.heap.size w9 w12):=B11.out.trans hb12
     have L12:Hid (ByS w12 w9.heap.size g2 o2 c2 ((([]:List UInt8)++t.take a)++s.data.toList)):=hby2
     have R12:Hid (ByR w12 w1.heap.size g ro rc r):=R9.out.below B12.out gl9
     have z12:w9.heap.size<=w12.heap.size:=B12.out.size
     have HTC:Hid (((([]:List UInt8)++t.take a)++s.data.toList).length=a+s.size):=(by rw[List.length_append,HTB.out];rfl:((([]:List UInt8)++t.take a)++s.data.toList).length=a+s.size)
     have har:a+s.size+rn<=1000000:=by omega
     clear hby2 hb12 hrun B10 B11 L11 S11 z11
     go_wp2_with(first|(at_builtin;refine wpList_append_by _ rfl _ _ 22 rfl 5 iS _ Tryd.underlying22 HIS.out.1 HIS.out.2.1 HIS.out.2.2.1 HIS.out.2.2.2 rfl w9.heap.size g2 o2 c2 (a+s.size) ((([]:List UInt8)++t.take a)++s.data.toList) rfl HTC.out L12.out z12 w1.heap.size g ro rc rn r rfl HRN.out R12.out har ?_))
     intro g3 o3 c3 w13 hby3 hb13
     have B13:Hid (Below w9.heap.size w9 w13):=B12.out.trans hb13
     have T13:Hid (TS w1 p ao n cap g3 o3 c3 (((([]:List UInt8)++t.take a)++s.data.toList)++r) w13):=T9.out.other B13.out hw9 (by simpa[List.append_assoc]using hby3.R.mono hw9)
     have HTE:Hid ((((([]:List UInt8)++t.take a)++s.data.toList)++r).length=a+s.size+rn):=(by rw[List.length_append,HTC.out,HRN.out]:(((([]:List UInt8)++t.take a)++s.data.toList)++r).length=a+s.size+rn)
     clear hby3 hb13
     go_wp2_with fail
     go_meet
     exact⟨rfl,rfl,⟨_,rfl⟩,g3,o3,c3,_,_,rfl,HTE.out,by omega,T13.out⟩
  case rest=>
   clear T6 hz z tl' d0 d1 d t tc g
   obtain⟨rfl,rfl,⟨d,rfl⟩,g,o,tc,t,tn,rfl,htn,tl,ts⟩:=hcut
   have T6:Hid (TS w1 p ao n cap g o tc t wc):=ts
   have HTN:Hid (t.length=tn):=htn
   clear ts htn
   generalize wc=w6 at T6⊢
   go_upto_if 59 with fail
   go_cut [4,6,7,8](fun s4 s6 s7 s8 wx=>s4=.pointer (some ⟨p,0,none⟩)/\s8=.int .i64 k/\(∃d:Int,s6=.int .i64 d)/\∃g o tc t tn,s7=.slice (some ⟨g,o,none⟩) tn tc/\t.length=tn/\tn<=50000/\TS w1 p ao n cap g o tc t wx)
   case first=>
    by_cases hk:k=4
    rotate_left
    ·have hk':(k==4)=false:=by rw[beq_eq_false_iff_ne];exact hk
     go_wp2_with fail
     go_meet
     exact⟨rfl,rfl,⟨_,rfl⟩,g,o,tc,t,_,rfl,HTN.out,by omega,T6.out⟩
    subst hk
    go_wp2_with fail
    refine(l2Pick_any p ao n cap _ 7 _ (T6.out.below ((Below.refl _ _).alloc (Nat.le_refl _) _)).K (by omega) (by omega) ?hq (by have:=T6.out.K.lt;omega) (by simp)).mono ?_
    case hq=>
     refine pick_cells w6 _ _ 7 rfl ?_
     decide
    rintro e w7⟨s,rfl,hs,f,c⟩
    have T7:Hid (TS w1 p ao n cap g o tc t w7):=T6.out.fw ((Fw.of_below ((Below.refl _ _).alloc (Nat.le_refl _) _)).trans f) c
    clear f c T6
    obtain⟨cp,w8,hrun,hb8,hby8⟩:=conv_by w7 s
    have gl7:=T7.out.T.A.lt
    have hw7:w1.heap.size<=w7.heap.size:=T7.out.F.size
    have B8:Hid (Below w7.heap.size w7 w8):=hb8
    have L8:Hid (ByS w8 w7.heap.size w7.heap.size 0 cp s.data.toList):=hby8
    have T8:Hid (ByR w8 w1.heap.size g o tc t):=T7.out.T.below hb8 gl7
    have z8:=hb8.size
    have hst:s.size+tn<=1000000:=by omega
    clear hb8 hby8
    go_wp2_with(first|(at_builtin;refine wpList_append_by _ rfl _ _ 22 rfl 5 iS _ Tryd.underlying22 HIS.out.1 HIS.out.2.1 HIS.out.2.2.1 HIS.out.2.2.2 rfl w7.heap.size w7.heap.size 0 cp s.size s.data.toList rfl rfl L8.out z8 w1.heap.size g o tc tn t rfl HTN.out T8.out hst ?_))
    intro g2 o2 c2 w9 hby9 hb9
    have B9:Hid (Below w7.heap.size w7 w9):=B8.out.trans hb9
    have L9:Hid (ByS w9 w1.heap.size g2 o2 c2 (s.data.toList++t)):=hby9.mono hw7
    have T9:Hid (TS w1 p ao n cap g2 o2 c2 (s.data.toList++t) w9):=T7.out.other B9.out hw7 L9.out.R
    have HT9:Hid ((s.data.toList++t).length=s.size+tn):=(by rw[List.length_append,HTN.out];rfl:(s.data.toList++t).length=s.size+tn)
    clear hby9 hb9 hrun B8 L8 T8 z8 T7 B9
    go_wp2_with fail
    refine(l1Once_any p ao n cap 3 _ (by omega) T9.out.K).mono ?_
    rintro e w10⟨y,rfl,f,c⟩
    have T10:Hid (TS w1 p ao n cap g2 o2 c2 (s.data.toList++t) w10):=T9.out.fw f c
    have L10:Hid (ByS w10 w1.heap.size g2 o2 c2 (s.data.toList++t)):=L9.out.fw f T9.out.pw
    clear f c T9 L9
    cases y with
    |false=>
     go_wp2_with fail
     go_meet
     exact⟨rfl,rfl,⟨_,rfl⟩,g2,o2,c2,_,_,rfl,HT9.out,by omega,T10.out⟩
    |true=>
     go_wp2_with fail
     refine(l2Pick_any p ao n cap _ 5 _ (T10.out.below ((Below.refl _ _).alloc (Nat.le_refl _) _)).K (by omega) (by omega) ?hq (by have:=T10.out.K.lt;omega) (by simp)).mono ?_
     case hq=>
      refine pick_cells w10 _ _ 5 rfl ?_
      decide
     rintro e w11⟨s2,rfl,hs2,f,c⟩
     have FF:Hid (Fw p w10 w11):=(Fw.of_below ((Below.refl _ _).alloc (Nat.le_refl _) _)).trans f
     have T11:Hid (TS w1 p ao n cap g2 o2 c2 (s.data.toList++t) w11):=T10.out.fw FF.out c
     have L11:Hid (ByS w11 w1.heap.size g2 o2 c2 (s.data.toList++t)):=L10.out.fw FF.out T10.out.pw
     clear f c T10 L10 FF
     obtain⟨cq,w12,hrun,hb12,hby12⟩:=conv_by w11 s2
     have L12:Hid (ByS w12 w1.heap.size g2 o2 c2 (s.data.toList++t)):=L11.out.below hb12 L11.out.R.A.lt
     have T12:Hid (TS w1 p ao n cap g2 o2 c2 (s.data.toList++t) w12):=T11.out.below hb12
     have S12:Hid (ByR w12 w11.heap.size w11.heap.size 0 cq s2.data.toList):=hby12.R
     have z12:w1.heap.size<=w12.heap.size:=T12.out.F.size
     have hst2:s.size+tn+s2.size<=1000000:=by omega
     clear hb12 hby12 T11 L11
     go_wp2_with(first|(at_builtin;refine wpList_append_by _ rfl _ _ 22 rfl 5 iS _ Tryd.underlying22 HIS.out.1 HIS.out.2.1 HIS.out.2.2.1 HIS.out.2.2.2 rfl w1.heap.size g2 o2 c2 (s.size+tn) (s.data.toList++t) rfl HT9.out L12.out z12 w11.heap.size w11.heap.size 0 cq s2.size s2.data.toList rfl rfl S12.out hst2 ?_))
     intro g3 o3 c3 w13 hby13 hb13
     have T13:Hid (TS w1 p ao n cap g3 o3 c3 ((s.data.toList++t)++s2.data.toList) w13):=T12.out.other hb13 (Nat.le_refl _) (by simpa[List.append_assoc]using hby13.R)
     have HT13:Hid (((s.data.toList++t)++s2.data.toList).length=s.size+tn+s2.size):=(by rw[List.length_append,HT9.out];rfl:((s.data.toList++t)++s2.data.toList).length=s.size+tn+s2.size)
     clear hby13 hb13 hrun
     go_wp2_with fail
     go_meet
     exact⟨rfl,rfl,⟨_,rfl⟩,g3,o3,c3,_,_,rfl,HT13.out,by omega,T13.out⟩
   case rest=>
    clear T6 HTN tl
    obtain⟨rfl,rfl,⟨d,rfl⟩,g,o,tc,t,tn,rfl,htn,tl,ts⟩:=hcut
    have T6:Hid (TS w1 p ao n cap g o tc t wc):=ts
    have HTN:Hid (t.length=tn):=htn
    clear ts htn
    generalize wc=w6 at T6⊢
    go_upto_region 18 with fail
    go_cut [4,6,7,8,81](fun s4 s6 s7 s8 z wx=>s4=.pointer (some ⟨p,0,none⟩)/\s8=.int .i64 k/\s6=.int .i64 d/\s7=.slice (some ⟨g,o,none⟩) tn tc/\(∃y:Bool,z=.bool y/\(y=true->1<=tn))/\wx=w6)
    case first=>
     by_cases h1:k=5
     ·subst h1
      by_cases h2:(0:Int)<tn
      ·go_wp2_with fail
       go_meet
       exact⟨rfl,rfl,rfl,rfl,⟨_,rfl,fun _=>by omega⟩,rfl⟩
      ·go_wp2_with fail
       go_meet
       exact⟨rfl,rfl,rfl,rfl,⟨_,rfl,fun h=>by simp at h;omega⟩,rfl⟩
     ·have h1':(k==5)=false:=by rw[beq_eq_false_iff_ne];exact h1
      go_wp2_with fail
      go_meet
      exact⟨rfl,rfl,rfl,rfl,⟨_,rfl,fun h=>by simp at h⟩,rfl⟩
    case rest=>
     obtain⟨rfl,rfl,rfl,rfl,⟨z,rfl,hz⟩,hwc⟩:=hcut
     rw[hwc]
     clear hwc
     go_upto_if 81 with fail
     go_cut [4,6,7,8](fun s4 s6 s7 s8 wx=>s4=.pointer (some ⟨p,0,none⟩)/\s8=.int .i64 k/\(∃d:Int,s6=.int .i64 d)/\∃g o tc t tn,s7=.slice (some ⟨g,o,none⟩) tn tc/\t.length=tn/\tn<=50000/\TS w1 p ao n cap g o tc t wx)
     case first=>
      cases z with
      |false=>
       go_wp2_with fail
       go_meet
       exact⟨rfl,rfl,⟨_,rfl⟩,g,o,tc,t,_,rfl,HTN.out,by omega,T6.out⟩
      |true=>
       obtain⟨m,rfl⟩:∃m,tn=m+1:=⟨tn-1,by have:=hz rfl;omega⟩
       have hle:m+1<=tc:=by have:=T6.out.T.le;have:=HTN.out;omega
       have hm':(m:Int)<=tc:=by omega
       have T7:Hid (TS w1 p ao n cap g o tc (t.take m) w6):=⟨T6.out.F,T6.out.K,T6.out.T.take m (by have:=HTN.out;omega),T6.out.pw⟩
       have HT7:Hid ((t.take m).length=m):=(by rw[List.length_take,HTN.out];omega:(t.take m).length=m)
       clear hz
       go_wp2_with fail
       go_meet
       exact⟨rfl,rfl,⟨_,rfl⟩,g,o,tc,_,_,rfl,HT7.out,by omega,T7.out⟩
     case rest=>
      clear T6 HTN tl hz z
      obtain⟨rfl,rfl,⟨d,rfl⟩,g,o,tc,t,tn,rfl,htn,tl,ts⟩:=hcut
      have T6:Hid (TS w1 p ao n cap g o tc t wc):=ts
      have HTN:Hid (t.length=tn):=htn
      clear ts htn
      generalize wc=w6 at T6⊢
      go_wp2_with fail
      refine(l1Once_any p ao n cap 12 _ (by omega) T6.out.K).mono ?_
      rintro e w7⟨y,rfl,f,c⟩
      have T7:Hid (TS w1 p ao n cap g o tc t w7):=T6.out.fw f c
      clear f c T6
      go_upto_if 88 with fail
      go_cut [4,6,7,8](fun s4 s6 s7 s8 wx=>s4=.pointer (some ⟨p,0,none⟩)/\s8=.int .i64 k/\(∃d:Int,s6=.int .i64 d)/\∃g o tc t tn,s7=.slice (some ⟨g,o,none⟩) tn tc/\t.length=tn/\tn<=50000/\TS w1 p ao n cap g o tc t wx)
      case first=>
       cases y with
       |false=>
        go_wp2_with fail
        go_meet
        exact⟨rfl,rfl,⟨_,rfl⟩,g,o,tc,t,_,rfl,HTN.out,by omega,T7.out⟩
       |true=>
        go_wp2_with fail
        refine(l2Dialect_any p ao n cap _ T7.out.K).mono ?_
        rintro e w8⟨d2,rfl,_,_,f,c⟩
        have T8:Hid (TS w1 p ao n cap g o tc t w8):=T7.out.fw f c
        clear f c T7
        go_wp2_with fail
        go_meet
        exact⟨rfl,rfl,⟨_,rfl⟩,g,o,tc,t,_,rfl,HTN.out,by omega,T8.out⟩
      case rest=>
       clear T7 HTN tl
       obtain⟨rfl,rfl,⟨d,rfl⟩,g,o,tc,t,tn,rfl,htn,tl,ts⟩:=hcut
       have T6:Hid (TS w1 p ao n cap g o tc t wc):=ts
       have HTN:Hid (t.length=tn):=htn
       clear ts htn
       generalize wc=w6 at T6⊢
       go_wp2_with fail
       refine(l1Once_any p ao n cap 60 _ (by omega) T6.out.K).mono ?_
       rintro e w7⟨y,rfl,f,c⟩
       have T7:Hid (TS w1 p ao n cap g o tc t w7):=T6.out.fw f c
       clear f c T6
       cases y with
       |false=>
        go_wp2_with fail
        refine bodyPost_ret (v:=.tuple #[.slice (some ⟨g,o,none⟩) tn tc,.int .i64 d]) (by simp[results,Tryd.results14,go_sem]) rfl ?_
        exact⟨g,o,tc,t,d,by rw[HTN.out],by have:=HTN.out;omega,T7.out.T.mono B1.out.size,T7.out.F.below B1.out lp B1.out.size⟩
       |true=>
        go_wp2_with fail
        refine(l1Below_any p ao n cap 2 _ (by omega) T7.out.K).mono ?_
        rintro e w8⟨x,rfl,x0,x1,f,c⟩
        have T8:Hid (TS w1 p ao n cap g o tc t w8):=T7.out.fw f c
        clear f c T7
        obtain rfl|rfl:x=0∨x=1:=by omega
        ·go_wp2_with(first|(at_make;refine wpList_make_full _ rfl _ _ 22 rfl w8.heap.size 5 iS _ 1 Tryd.underlying22 HIS.out.1 HIS.out.2.1 HIS.out.2.2.1 .i64 .i64 _ _ 100000 rfl rfl ?c1 ?c2 ?c3 ?c4 ?c5 ?_)|go_in)
         case c1=>rfl
         case c2=>rfl
         case c3=>rw[HIS.out.2.2.2];omega
         case c4=>unfold maxLen;omega
         case c5=>exact Nat.le_refl _
         intro w9 hown hgrow
         have hb9:Below w8.heap.size w8 w9:=(Below.refl _ _).grown hgrow (Nat.le_refl _) (by intro k hk;cases hk)
         have ha9:Arr w9 w8.heap.size (100000*1) (fun _=>.int .u8 0):=Arr.made hown fun i hi=>by
          rw[made_get _ 100000 i (by omega)]
          simp[Nat.mod_one]
         have T9:Hid (TS w1 p ao n cap w8.heap.size 0 100000 (List.replicate 100000 0) w9):=T8.out.other hb9 T8.out.F.size ⟨T8.out.F.size,⟨ha9.lt,fun i hi=>by
          rw[List.length_replicate]at hi
          rw[Nat.zero_add,ha9.cell (by omega)]
          show some (Value.int .u8 0)=some (Value.int .u8 (bF (List.replicate 100000 0) i))
          unfold bF
          rw[List.getD_eq_getElem?_getD,List.getElem?_replicate,if_pos hi]
          rfl⟩,by rw[List.length_replicate];exact Nat.le_refl _⟩
         clear hown hgrow hb9 ha9
         go_wp2_with fail
         refine bodyPost_ret (v:=.tuple #[.slice (some ⟨w8.heap.size,0,none⟩) 100000 100000,.int .i64 d]) (by simp[results,Tryd.results14,go_sem]) rfl ?_
         exact⟨w8.heap.size,0,100000,List.replicate 100000 0,d,by rw[List.length_replicate],by rw[List.length_replicate];omega,T9.out.T.mono B1.out.size,T9.out.F.below B1.out lp B1.out.size⟩
        ·go_wp2_with(first|(at_make;refine wpList_make_full _ rfl _ _ 22 rfl w8.heap.size 5 iS _ 1 Tryd.underlying22 HIS.out.1 HIS.out.2.1 HIS.out.2.2.1 .i64 .i64 _ _ 100001 rfl rfl ?c1 ?c2 ?c3 ?c4 ?c5 ?_)|go_in)
         case c1=>rfl
         case c2=>rfl
         case c3=>rw[HIS.out.2.2.2];omega
         case c4=>unfold maxLen;omega
         case c5=>exact Nat.le_refl _
         intro w9 hown hgrow
         have hb9:Below w8.heap.size w8 w9:=(Below.refl _ _).grown hgrow (Nat.le_refl _) (by intro k hk;cases hk)
         have ha9:Arr w9 w8.heap.size (100001*1) (fun _=>.int .u8 0):=Arr.made hown fun i hi=>by
          rw[made_get _ 100001 i (by omega)]
          simp[Nat.mod_one]
         have T9:Hid (TS w1 p ao n cap w8.heap.size 0 100001 (List.replicate 100001 0) w9):=T8.out.other hb9 T8.out.F.size ⟨T8.out.F.size,⟨ha9.lt,fun i hi=>by
          rw[List.length_replicate]at hi
          rw[Nat.zero_add,ha9.cell (by omega)]
          show some (Value.int .u8 0)=some (Value.int .u8 (bF (List.replicate 100001 0) i))
          unfold bF
          rw[List.getD_eq_getElem?_getD,List.getElem?_replicate,if_pos hi]
          rfl⟩,by rw[List.length_replicate];exact Nat.le_refl _⟩
         clear hown hgrow hb9 ha9
         go_wp2_with fail
         refine bodyPost_ret (v:=.tuple #[.slice (some ⟨w8.heap.size,0,none⟩) 100001 100001,.int .i64 d]) (by simp[results,Tryd.results14,go_sem]) rfl ?_
         exact⟨w8.heap.size,0,100001,List.replicate 100001 0,d,by rw[List.length_replicate],by rw[List.length_replicate];omega,T9.out.T.mono B1.out.size,T9.out.F.below B1.out lp B1.out.size⟩
end Go.Proofs.YtdbhgaegblclaaaDoor
