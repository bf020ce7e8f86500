import Derived.Test.YtdbhgaegblclaaaDoorRdAdd
set_option maxHeartbeats 3200000
set_option maxRecDepth 20000
namespace Go.Proofs.YtdbhgaegblclaaaDoor
open Go.RowKit
structure QX(w0:World)(B rb mb n:Nat)(lv:Value)(rows:List Row)(sb nb ob mf:Nat)(d:Int)(b o:Nat)(t:List UInt8)(v:World):Prop where
 W:RW v B rb mb n lv rows
 S:SC v sb nb ob mf d
 O:OpsAt v ob
 T:At v b o t.length (numF .u8 (bF t))
 bel:Below B w0 v
 own:∀k,lv.ownBlock=some k->w0.heap.size<=k
theorem QX.below{w0 v v':World}{B rb mb n:Nat}{lv:Value}{rows:List Row}{sb nb ob mf:Nat}{d:Int}{b o:Nat}{t:List UInt8}(h:QX w0 B rb mb n lv rows sb nb ob mf d b o t v)(hb:Below v.heap.size v v')(hB:B<=v.heap.size):QX w0 B rb mb n lv rows sb nb ob mf d b o t v':=by
 obtain⟨om,m1,m2⟩:=h.S.M;obtain⟨oo,o1,o2⟩:=h.O;exact⟨h.W.below hb,h.S.below hb (Array.getElem?_eq_some_iff.1 h.S.S).1 (Array.getElem?_eq_some_iff.1 h.S.N).1 (Array.getElem?_eq_some_iff.1 m1).1,h.O.below hb (Array.getElem?_eq_some_iff.1 o1).1,h.T.below hb h.T.lt,h.bel.trans (hb.mono hB),h.own⟩
def Far(w0:World)(rb mb k:Nat):Prop:=k≠rb/\k≠mb/\k<w0.heap.size
theorem QX.step{w0 v v':World}{B rb mb n n':Nat}{lv lv':Value}{rows rows':List Row}{sb nb ob mf:Nat}{d:Int}{b o:Nat}{t:List UInt8}(h:QX w0 B rb mb n lv rows sb nb ob mf d b o t v)(hf:Far w0 rb mb sb/\Far w0 rb mb nb/\Far w0 rb mb ob/\Far w0 rb mb mf/\Far w0 rb mb b)(hw:RW v' B rb mb n' lv' rows')(hb:Below B v v')(hk:Kp v v' rb mb lv lv')(hz:w0.heap.size<=v.heap.size):QX w0 B rb mb n' lv' rows' sb nb ob mf d b o t v':=by
 obtain⟨f1,f2,f3,f4,f5⟩:=hf;have kp:∀{k:Nat}{ob:Obj},Far w0 rb mb k->v.heap[k]?=some ob->v'.heap[k]?=some ob:=fun{k ob}hf hh=>hk.1 k ob hh hf.1 hf.2.1 (fun e=>by have:=h.own k e;have:=hf.2.2;omega)
 obtain⟨om,m1,m2⟩:=h.S.M;obtain⟨oo,o1,o2⟩:=h.O;refine⟨hw,⟨kp f1 h.S.S,kp f2 h.S.N,⟨om,kp f4 m1,m2⟩⟩,⟨oo,kp f3 o1,o2⟩,?_,h.bel.trans hb,fun k e=>?_⟩
 ·have hbl:∃ob,v.heap[b]?=some ob:=⟨_,Array.getElem?_eq_getElem h.T.lt⟩
  obtain⟨obj,hob⟩:=hbl;have e1:v'.heap[b]?=v.heap[b]?:=(kp f5 hob).trans hob.symm;exact⟨(Array.getElem?_eq_some_iff.1 (kp f5 hob)).1,fun i hi=>(World.cell?_of_block (a:=⟨b,o+i,none⟩) e1).trans (h.T.2 i hi)⟩
 ·rcases hk.2 k e with h1|h1
  ·exact h.own k h1
  ·omega
theorem rdT_step(d:Int)(t:List UInt8)(rows:List Row)(h0:t≠[])(hn:¬pre noNl t=t.length):rdT d t rows=if(addE rows (rdLine d (t.take (pre noNl t)))).1=0 then rdT d (t.drop (pre noNl t+1)) (addE rows (rdLine d (t.take (pre noNl t)))).2 else addE rows (rdLine d (t.take (pre noNl t))):=by
 rw[rdT_eq,dif_neg h0,dif_neg hn];rcases rdLine d (t.take (pre noNl t))with _|⟨_|_,x⟩
 ·rfl
 ·simp[addE]
 ·unfold addE
  by_cases hl:(labOf rows x.imm).isSome=true
  ·simp[hl]
  ·simp[hl]
def LinR(d:Int)(t:List UInt8)(B rb mb:Nat)(w:World)(e:Ending)(w':World):Prop:=
 ∃n lv,e=.returned (.int .i64 (rdT d t []).1)/\RW w' B rb mb n lv (rdT d t []).2/\Below B w w'/\((rdT d t []).2.length:Int)<=100000
theorem readLines_any(hRL:RLSpec)(B rb mb:Nat)(sb nb ob mf:Nat)(d:Int)(b o cap:Nat)(t:List UInt8)(w:World)(hd:d=0∨d=1)(ht:(t.length:Int)<=100000)(hcap:t.length<=cap)(hB:B<=w.heap.size)(hq:QX w B rb mb 0 (.slice none 0 0) [] sb nb ob mf d b o t w)
 (hf:Far w rb mb sb/\Far w rb mb nb/\Far w rb mb ob/\Far w rb mb mf/\Far w rb mb b)(hwk:∀(l:List UInt8)r,rdLine d l=some r->(Lit.int .i64 r.2.imm).wf=true)(hop:∀(l:List UInt8)x,rdLine d l=some (false,x)->x.op≠0):
 Calls Tryd.prog 42 #[.pointer (some ⟨rb,0,none⟩),.pointer (some ⟨sb,0,none⟩),.slice (some ⟨b,o,none⟩) t.length cap] w fun e w'=>LinR d t B rb mb w e w':=by
 have HRL:Hid RLSpec:=hRL;have HD:Hid (d=0∨d=1):=hd;have Q0:Hid (QX w B rb mb 0 (.slice none 0 0) [] sb nb ob mf d b o t w):=hq;have HF:Hid (Far w rb mb sb/\Far w rb mb nb/\Far w rb mb ob/\Far w rb mb mf/\Far w rb mb b):=hf;have HWK:Hid (∀(l:List UInt8)r,rdLine d l=some r->(Lit.int .i64 r.2.imm).wf=true):=hwk;have HOP:Hid (∀(l:List UInt8)x,rdLine d l=some (false,x)->x.op≠0):=hop;clear hRL hd hq hf hwk hop;go_enter Tryd.func42,Tryd.ntmps42;go_wp2_with fail;go_loopw [2,7,8](fun tv _ _ wr=>∃(o' cap' n:Nat)(t':List UInt8)(lv:Value)(rows:List Row),tv=.slice (some ⟨b,o',none⟩) t'.length cap'/\t'.length<=cap'/\QX w B rb mb n lv rows sb nb ob mf d b o' t' wr/\rdT d t []=rdT d t' rows/\n<=rows.length/\rows.length+t'.length<=t.length/\w.heap.size<=wr.heap.size)(fun tv _ _ _=>match tv with|.slice _ k _=>k|_=>0)
 case atStart=>exact⟨o,cap,0,t,.slice none 0 0,[],rfl,hcap,Q0.out,rfl,Nat.zero_le _,by simp,Nat.le_refl _⟩
 case round=>
  clear Q0;obtain⟨o',cap',n,t',lv,rows,rfl,hc',hqx,hrd,hnr,hlen,hz⟩:=hrel;have Q:Hid (QX w B rb mb n lv rows sb nb ob mf d b o' t' wr):=hqx;have HRD:Hid (rdT d t []=rdT d t' rows):=hrd;have hBr:B<=wr.heap.size:=Nat.le_trans hB hz;clear hqx hrd;by_cases h0:t'=[]
  ·subst h0
   have HR:Hid (rdT d t []=(0,rows)):=(by rw[HRD.out,rdT_nil]:rdT d t []=(0,rows))
   have hl0:¬(0:Int)<(([]:List UInt8).length:Int):=by simp
   go_wp2_with fail;go_ret;unfold LinR;rw[HR.out];exact⟨n,lv,rfl,Q.out.W,Q.out.bel,by show(rows.length:Int)<=_;omega⟩
  have hl0n:0<t'.length:=by cases t' with|nil=>exact absurd rfl h0|cons a l=>simp
  have hl0:(0:Int)<(t'.length:Int):=by omega
  have H0:Hid (t'≠[]):=h0;clear h0;go_upto_region 2 with fail;go_wp2_with fail;refine(indexByte_any b o' cap' t' wr Q.out.T).mono ?_;rintro e w2⟨rfl,hw2⟩;rw[hw2];clear hw2;by_cases hp:pre noNl t'=t'.length
  ·rw[if_pos hp]
   have HR:Hid (rdT d t []=(2,rows)):=(by rw[HRD.out,rdT_eq,dif_neg H0.out,dif_pos hp]:rdT d t []=(2,rows))
   clear hp;go_wp2_with fail;go_ret;unfold LinR;rw[HR.out];exact⟨n,lv,rfl,Q.out.W,Q.out.bel,by show(rows.length:Int)<=_;omega⟩
  rw[if_neg hp];obtain⟨k,hk⟩:∃k,pre noNl t'=k:=⟨_,rfl⟩
  have hkl:k<t'.length:=by have:=pre_le noNl t';omega
  obtain⟨lo,hlo⟩:∃lo,rdLine d (t'.take k)=lo:=⟨_,rfl⟩
  have HST:Hid (rdT d t []=if(addE rows lo).1=0 then rdT d (t'.drop (k+1)) (addE rows lo).2 else addE rows lo):=(by
   have:=rdT_step d t' rows H0.out hp;rw[hk,hlo]at this;rw[HRD.out,this]:rdT d t []=if(addE rows lo).1=0 then rdT d (t'.drop (k+1)) (addE rows lo).2 else addE rows lo)
  have HLO:Hid (rdLine d (t'.take k)=lo):=hlo;rw[hk];have hk0:¬(k:Int)<0:=by omega
  have hkc:(k:Int)<=cap':=by omega
  have etk:(t'.take k).length=k:=by rw[List.length_take];omega
  have RLC:Hid (Calls Tryd.prog 72 #[.pointer (some ⟨sb,0,none⟩),.slice (some ⟨b,o',none⟩) k cap'] wr fun e w'=>e=.returned (.agg (lnA lo))/\Below wr.heap.size wr w'):=(by
   have h1:=HRL.out sb nb ob mf d b o' cap' (t'.take k) wr Q.out.S Q.out.O HD.out (by rw[etk];omega) (by rw[etk];omega) (at_take Q.out.T k);rw[etk,hlo]at h1;exact h1:Calls Tryd.prog 72 #[.pointer (some ⟨sb,0,none⟩),.slice (some ⟨b,o',none⟩) k cap'] wr fun e w'=>e=.returned (.agg (lnA lo))/\Below wr.heap.size wr w')
  clear hk hlo hp etk;go_upto_region 5 with fail;go_wp2_with fail;refine RLC.out.mono ?_;rintro e w3⟨rfl,hb3⟩;have Q3:Hid (QX w B rb mb n lv rows sb nb ob mf d b o' t' w3):=Q.out.below hb3 hBr;have hz3:w.heap.size<=w3.heap.size:=Nat.le_trans hz hb3.size;clear hb3;go_wp2_with fail;refine(addLine_any B rb mb n lv rows lo w3 Q3.out.W (Nat.le_trans hB hz3) (by omega) (by omega) (fun r h=>HWK.out _ r (HLO.out.trans h)) (fun x h=>HOP.out _ x (HLO.out.trans h))).mono ?_;rintro e w4⟨n',lv',rfl,hW4,hn4,hb4,hk4⟩;have Q4:Hid (QX w B rb mb n' lv' (addE rows lo).2 sb nb ob mf d b o' t' w4):=Q3.out.step HF.out hW4 hb4 hk4 hz3;have hz4:w.heap.size<=w4.heap.size:=Nat.le_trans hz3 hb4.size;have hln:n'<=n+1:=hn4;have hrl:(addE rows lo).2.length<=rows.length+1:=by
   unfold addE;cases lo with
   |none=>simp
   |some r=>simp only;split<;>simp
  have hr0:(addE rows lo).1=0->(addE rows lo).2.length=rows.length+1:=by
   unfold addE;cases lo with
   |none=>intro h;cases h
   |some r=>simp only;split<;>simp
  obtain⟨er,her⟩:∃x,(addE rows lo).1=x:=⟨_,rfl⟩
  obtain⟨rows',hrw⟩:∃x,(addE rows lo).2=x:=⟨_,rfl⟩
  rw[her,hrw]at hr0;rw[hrw]at hrl Q4;have HST2:Hid (rdT d t []=if er=0 then rdT d (t'.drop (k+1)) rows' else(er,rows')):=(by rw[HST.out,her,hrw];congr 1;rw[<-her,<-hrw]:rdT d t []=if er=0 then rdT d (t'.drop (k+1)) rows' else(er,rows'))
  rw[her];clear hW4 hb4 hk4 her hrw hn4;by_cases he0:er=0
  ·have e1:(er !=0)=false:=by rw[he0];rfl
   have HRD2:Hid (rdT d t []=rdT d (t'.drop (k+1)) rows'):=(by rw[HST2.out,if_pos he0]:rdT d t []=rdT d (t'.drop (k+1)) rows')
   have hr1:=hr0 he0;have edr:(t'.drop (k+1)).length=t'.length-(k+1):=List.length_drop;clear hr0 he0;have hk1:IntKind.i64.wrap ((k:Int)+1)=(k:Int)+1:=i64_idR (by omega) (by omega);have HDR:Hid ((t'.drop (k+1)).length=t'.length-(k+1)):=edr;have HR1:Hid (rows'.length=rows.length+1):=hr1;clear edr hr1;by_cases hcx:k+1=cap'
   ·have hc1:(k:Int)+1=cap':=by omega
    have N:Hid (QX w B rb mb n' lv' rows' sb nb ob mf d b o' (t'.drop (k+1)) w4):=(⟨Q4.out.W,Q4.out.S,Q4.out.O,⟨Q4.out.T.1,fun i hi=>by have:=HDR.out;omega⟩,Q4.out.bel,Q4.out.own⟩:QX w B rb mb n' lv' rows' sb nb ob mf d b o' (t'.drop (k+1)) w4)
    have ez:t'.length-(k+1)=0:=by omega
    have HEZ:Hid (t'.length-(k+1)=0):=ez;clear ez;go_wp2_with fail;go_roundw
    case rel=>
     refine⟨o',0,n',t'.drop (k+1),lv',rows',?_,?_,N.out,HRD2.out,?_,?_,hz4⟩
     ·rw[HDR.out,HEZ.out]
     ·rw[HDR.out,HEZ.out];exact Nat.le_refl _
     ·have:=HR1.out;omega
     ·have:=HR1.out;have:=HDR.out;omega
    case measure=>simp;omega
   ·have hc1:¬(k:Int)+1=cap':=by omega
    have hk2:(k:Int)+1<=cap':=by omega
    have hk3:(k:Int)+1<=t'.length:=by omega
    have N:Hid (QX w B rb mb n' lv' rows' sb nb ob mf d b (o'+(k+1)) (t'.drop (k+1)) w4):=(⟨Q4.out.W,Q4.out.S,Q4.out.O,at_drop Q4.out.T (k+1) (by omega),Q4.out.bel,Q4.out.own⟩:QX w B rb mb n' lv' rows' sb nb ob mf d b (o'+(k+1)) (t'.drop (k+1)) w4)
    go_wp2_with fail;go_roundw
    case rel=>
     refine⟨o'+(k+1),cap'-(k+1),n',t'.drop (k+1),lv',rows',?_,?_,N.out,HRD2.out,?_,?_,hz4⟩
     ·rw[HDR.out]
     ·rw[HDR.out];omega
     ·have:=HR1.out;omega
     ·have:=HR1.out;have:=HDR.out;omega
    case measure=>simp;omega
  ·have e1:(er !=0)=true:=by rw[bne_iff_ne];exact he0
   have HR:Hid (rdT d t []=(er,rows')):=(by rw[HST2.out,if_neg he0]:rdT d t []=(er,rows'))
   clear he0 hr0;go_wp2_with fail;go_ret;unfold LinR;rw[HR.out];exact⟨n',lv',rfl,Q4.out.W,Q4.out.bel,by show(rows'.length:Int)<=_;omega⟩
end Go.Proofs.YtdbhgaegblclaaaDoor
