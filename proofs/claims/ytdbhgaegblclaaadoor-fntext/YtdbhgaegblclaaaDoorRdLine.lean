import Derived.Test.YtdbhgaegblclaaaDoorRdPass0
import Derived.Test.YtdbhgaegblclaaaDoorAsmIns
set_option maxHeartbeats 6400000
set_option maxRecDepth 20000
namespace Go.Proofs.YtdbhgaegblclaaaDoor
open Go.RowKit
theorem pt_64(d op:Int)(hd:d=0∨d=1)(h1:1<=op)(h2:op<=34):(∀c∈(ptS d (shpI op)).data.toList,c≠64)/\((ptS d (shpI op)).size:Int)<=100:=by
 obtain rfl|rfl|rfl|rfl|rfl|rfl|rfl|rfl|rfl|rfl|rfl|rfl|rfl|rfl|rfl|rfl|rfl|rfl|rfl|rfl|rfl|rfl|rfl|rfl|rfl|rfl|rfl|rfl|rfl|rfl|rfl|rfl|rfl|rfl:op=1∨op=2∨op=3∨op=4∨op=5∨op=6∨op=7∨op=8∨op=9∨op=10∨op=11∨op=12∨op=13∨op=14∨op=15∨op=16∨op=17∨op=18∨op=19∨op=20∨op=21∨op=22∨op=23∨op=24∨op=25∨op=26∨op=27∨op=28∨op=29∨op=30∨op=31∨op=32∨op=33∨op=34:=by omega
 all_goals(rcases hd with rfl|rfl<;>exact⟨by decide,by decide⟩)
theorem pt_lab(d:Int)(hd:d=0∨d=1):(∀c∈(ptS d 64).data.toList,c≠64)/\((ptS d 64).size:Int)<=100/\0<(ptS d 64).size/\∀h,(ptS d 64)[0]'h=lbC d:=by
 rcases hd with rfl|rfl<;>exact⟨by decide,by decide,by decide,fun _=>rfl⟩
theorem fin_lab(d:Int)(hd:d=0∨d=1)(l:List UInt8)(h:l.head?=some (lbC d)):fin true (fit (ptS d 64).data.toList l nv0)=rdLine d l:=by
 unfold rdLine;rw[label_ins hd h];show fin true (fit (ptL d 64) l nv0)=_;cases fit (ptL d 64) l nv0<;>rfl
theorem fin_ins(d:Int)(hd:d=0∨d=1)(l:List UInt8)(h:l.head?≠some (lbC d)):rdLine d l=if opOf (l.take (pre isAz l))=0 then none else fin false (fit (ptS d (shpI (opOf (l.take (pre isAz l))))).data.toList (l.drop (pre isAz l)) {nv0 with op:=opOf (l.take (pre isAz l))}):=by
 unfold rdLine insL;rw[label_head hd h];simp only;by_cases h0:opOf (l.take (pre isAz l))=0
 ·rw[if_pos h0,if_pos h0]
 ·rw[if_neg h0,if_neg h0]
  show _=fin false (fit (ptL d _) _ _);cases fit (ptL d (shpI (opOf (l.take (pre isAz l))))) (l.drop (pre isAz l)) {nv0 with op:=opOf (l.take (pre isAz l))}with
  |none=>rfl
  |some x=>simp[fin]
theorem readLine_any:RLSpec:=by
 intro sb nb ob mf d b o cap l w hS hO hd hl hcap hA;have HS:Hid (SC w sb nb ob mf d):=hS;have HO:Hid (OpsAt w ob):=hO;have HD:Hid (d=0∨d=1):=hd;have HT:Hid (LT w b o cap l):=(⟨hA,hcap,hl⟩:LT w b o cap l)
 obtain⟨tot,htot⟩:∃t,rdLine d l=t:=⟨_,rfl⟩
 rw[htot];have HTOT:Hid (rdLine d l=tot):=htot;clear hS hO hd hl hcap hA htot;go_enter Tryd.func72,Tryd.ntmps72;go_wp2_with fail;obtain⟨p,hp⟩:∃p,w.heap.size=p:=⟨_,rfl⟩
 rw[hp];have HP:Hid (w.heap.size=p):=hp;have hq:w.heap.size<=p+1:=by omega
 have hpq:p≠p+1:=by omega
 have hp1:w.heap.size<=p:=by omega
 refine wp_scope_many (rlG Tryd.f72) (LJ w p (p+1) b tot) muL (fun l' a' v' h'=>?_) ?first (fun l' a' v' h'=>?_)
 ·have key:∀k,k=0∨k=1∨k=2∨k=3∨k=4->findLabel (rlF Tryd.f72) k=some (rlG Tryd.f72 k):=by
   intro k hk;unfold rlG rlF Tryd.f72;rcases hk with rfl|rfl|rfl|rfl|rfl<;>(dsimp only;rfl)
  have hk:l'=0∨l'=1∨l'=2∨l'=3∨l'=4:=by
   match l',h' with
   |0,_=>omega
   |1,_=>omega
   |2,_=>omega
   |3,_=>omega
   |4,_=>omega
   |_+5,h=>exact h.elim
  have:=key l' hk;unfold rlF Tryd.f72 at this;dsimp only at this;exact this
 ·go_upto_region 5 with fail
  obtain⟨u,hu,GX0⟩:∃v,(w.alloc (.cells #[.bool false,.int .i64 0,.int .i64 0,.int .i64 0,.int .i64 0,.int .i64 0,.int .i64 0] 109)).alloc (.cells #[.bool false,.int .i64 0,.int .i64 0,.int .i64 0,.int .i64 0,.int .i64 0,.int .i64 0] 109)=v/\Hid (GotX w p (p+1) false nv0 v):=by
   refine⟨_,rfl,?_⟩;obtain⟨ob1,hob1⟩:∃ob1,Obj.cells #[.bool false,.int .i64 0,.int .i64 0,.int .i64 0,.int .i64 0,.int .i64 0,.int .i64 0] 109=ob1:=⟨_,rfl⟩
   rw[hob1];have h1:Below w.heap.size w (w.alloc ob1):=(Below.refl _ _).alloc (Nat.le_refl _) _;have h2:Below (w.alloc ob1).heap.size (w.alloc ob1) ((w.alloc ob1).alloc ob1):=(Below.refl _ _).alloc (Nat.le_refl _) _;have e1:(w.alloc ob1).heap.size=p+1:=by simp[HP.out]
   refine(⟨h1.trans (h2.mono h1.size),?_,?_⟩:GotX w p (p+1) false nv0 _)
   ·rw[h2.block p (by omega),<-HP.out];refine(heap_alloc_newB w _).trans ?_;rw[<-hob1];rfl
   ·rw[<-e1];refine(heap_alloc_newB _ _).trans ?_;rw[<-hob1];rfl
  rw[hu];clear hu hp;have sc:∀{v':World},Below w.heap.size w v'->SC v' sb nb ob mf d:=fun{v'}hb=>by
   obtain⟨om,m1,m2⟩:=HS.out.M;exact HS.out.below hb (Array.getElem?_eq_some_iff.1 HS.out.S).1 (Array.getElem?_eq_some_iff.1 HS.out.N).1 (Array.getElem?_eq_some_iff.1 m1).1
  have HSC:Hid (∀{v':World},Below w.heap.size w v'->SC v' sb nb ob mf d):=sc;have HOP:Hid (∀{v':World},Below w.heap.size w v'->OpsAt v' ob):=(fun{v'}hb=>by
   obtain⟨oo,o1,o2⟩:=HO.out;exact HO.out.below hb (Array.getElem?_eq_some_iff.1 o1).1:∀{v':World},Below w.heap.size w v'->OpsAt v' ob)
  clear sc;go_wp2_with fail;refine(partsOf_any sb nb ob mf d 64 u (HSC.out GX0.out.bel) (by rcases HD.out with rfl|rfl<;>rfl)).mono ?_;rintro e v1⟨rfl,hb1⟩;have GX1:Hid (GotX w p (p+1) false nv0 v1):=GX0.out.below hb1;clear hb1 GX0;obtain⟨hl64,hlsz,hls0,hlc⟩:=pt_lab d HD.out;have HL64:Hid (∀c∈(ptS d 64).data.toList,c≠64):=hl64;obtain⟨s,hs⟩:∃s,ptS d 64=s:=⟨_,rfl⟩
  obtain⟨c0,hc0⟩:∃c,lbC d=c:=⟨_,rfl⟩
  rw[hs]at hlsz hls0 hlc⊢;rw[hc0]at hlc;have HSS:Hid (ptS d 64=s):=hs;have HC0:Hid (lbC d=c0):=hc0;clear hl64 hs hc0;obtain⟨m,hm⟩:∃m,decide (l.head?=some c0)=m:=⟨_,rfl⟩
  have HM:Hid (decide (l.head?=some c0)=m):=hm;clear hm;go_upto_region 6 with fail;go_cut [24]from 14 to 23(fun bv wx=>bv=.bool m/\GotX w p (p+1) false nv0 wx)
  case first=>
   cases l with
   |nil=>
    have e:Hid (false=m):=(by rw[<-HM.out];simp:false=m)
    go_quiet(fail);go_wp2_with fail;go_meet;exact⟨congrArg Value.bool e.out,GX1.out.below (below_drewN (Below.refl _ _) _)⟩
   |cons r l'=>
    have g0:v1.cell? ⟨b,o,none⟩=some (.int .u8 (r.toNat:Int)):=by
     have:=at_byte HT.out.A (k:=0) (by simp);exact(GX1.out.bel.cell (p:=⟨b,o,none⟩) HT.out.A.1).trans this
    have hl1:(0:Int)<(l'.length:Int)+1:=by omega
    have hrm:((r.toNat:Int)==(c0.toNat:Int))=m:=by
     rw[<-HM.out,Bool.eq_iff_iff];simp only[beq_iff_eq,List.head?_cons,Option.some.injEq,decide_eq_true_eq];exact⟨fun h=>UInt8.toNat_inj.1 (by omega),fun h=>by rw[h]⟩
    go_quiet(fail);go_wp2_with fail;go_meet;exact⟨rfl,GX1.out.below (below_drewN (Below.refl _ _) _)⟩
  case rest=>
   obtain⟨rfl,hX⟩:=hcut;have GX2:Hid (GotX w p (p+1) false nv0 wc):=hX;clear hX GX1 hlc;cases m with
   |true=>
    have q0:wc.cell? ⟨p+1,0,none⟩=some (.bool false):=hp_cell GX2.out.X 0;have qf:wc.frozen? ⟨p+1,0,none⟩=false:=hp_free GX2.out.X 0;have HR:Hid (fin true (fit s.data.toList l nv0)=tot):=(by
     rw[<-HTOT.out,<-HSS.out];exact fin_lab d HD.out l (by rw[HC0.out];simpa using HM.out):fin true (fit s.data.toList l nv0)=tot)
    go_wp2_with fail;go_step3;exact⟨_,_,true,nv0,o,cap,l,s,⟨rfl,rfl,rfl,rfl,rfl,rfl,rfl,rfl⟩,HT.out,GX2.out.put hq hpq rfl,by rw[<-HSS.out];exact HL64.out,HR.out,hlsz⟩
   |false=>
    have HHD:Hid (l.head?≠some (lbC d)):=(by rw[HC0.out];simpa using HM.out:l.head?≠some (lbC d))
    have HR0:Hid (_):=fin_ins d HD.out l HHD.out;go_wp2_with fail;refine(takeName_any sb nb ob mf d b o cap l wc (HSC.out GX2.out.bel) (HOP.out GX2.out.bel) HT.out.n HT.out.c (HT.out.A.below GX2.out.bel HT.out.A.1)).mono ?_;rintro e v2⟨⟨o2,rfl,ho2⟩,hb2⟩;have HPL:Hid (pre isAz l<=l.length):=pre_le isAz l;have HT2:Hid (LT w b o2 (cap-pre isAz l) (l.drop (pre isAz l))):=HT.out.drop _ o2 HPL.out ho2;have GX3:Hid (GotX w p (p+1) false nv0 v2):=GX2.out.below hb2;have q1:v2.cell? ⟨p+1,1,none⟩=some (.int .i64 0):=hp_cell GX3.out.X 1;have qf:v2.frozen? ⟨p+1,1,none⟩=false:=hp_free GX3.out.X 1;clear hb2 ho2 GX2;obtain⟨op,hop⟩:∃op,opOf (l.take (pre isAz l))=op:=⟨_,rfl⟩
    have HOPE:Hid (opOf (l.take (pre isAz l))=op):=hop;rw[hop]at HR0⊢;clear hop;obtain⟨k,hk⟩:∃k,pre isAz l=k:=⟨_,rfl⟩
    rw[hk]at HR0 HT2 HPL⊢;clear hk;rw[show l.length-k=(l.drop k).length from(List.length_drop ..).symm];obtain⟨l2,hl2⟩:∃l2,l.drop k=l2:=⟨_,rfl⟩
    rw[hl2]at HR0 HT2⊢;clear hl2;rw[HTOT.out]at HR0;go_upto_region 9 with fail;obtain⟨v3,hv3,GX4⟩:∃v3,v2.setCell ⟨p+1,1,none⟩ (.int .i64 op)=v3/\Hid (GotX w p (p+1) false {nv0 with op:=op} v3):=⟨_,rfl,GX3.out.put hq hpq rfl⟩
    rw[hv3];clear hv3 q1 qf GX3;have q1:v3.cell? ⟨p+1,1,none⟩=some (.int .i64 op):=hp_cell GX4.out.X 1;by_cases h0:op=0
    ·subst h0
     have HR:Hid (tot=none):=(by rw[HR0.out,if_pos rfl]:tot=none)
     go_wp2_with fail;go_step3;exact⟨_,_,_,_,false,_,⟨rfl,rfl,rfl,rfl,rfl,rfl,rfl,rfl⟩,GX4.out,HR.out⟩
    ·have hop0:(op==0)=false:=by rw[beq_eq_false_iff_ne];exact h0
     have HR:Hid (fin false (fit (ptS d (shpI op)).data.toList l2 {nv0 with op:=op})=tot):=(by rw[HR0.out,if_neg h0]:fin false (fit (ptS d (shpI op)).data.toList l2 {nv0 with op:=op})=tot)
     have HBK:Hid (1<=op/\op<=34):=⟨(op_back HOPE.out h0).1,(op_back HOPE.out h0).2.1⟩
     clear h0;go_wp2_with fail;refine(shapeOf_any op v3).mono ?_;rintro e w4⟨rfl,hw4⟩;rw[hw4];clear hw4;go_wp2_with fail;refine(partsOf_any sb nb ob mf d (shpI op) v3 (HSC.out GX4.out.bel) (form_in d op HD.out HBK.out.1 HBK.out.2)).mono ?_;rintro e v5⟨rfl,hb5⟩;have GX5:Hid (GotX w p (p+1) false {nv0 with op:=op} v5):=GX4.out.below hb5;clear hb5 GX4 q1;obtain⟨h64,hsz⟩:=pt_64 d op HD.out HBK.out.1 HBK.out.2;have H64:Hid (∀c∈(ptS d (shpI op)).data.toList,c≠64):=h64;obtain⟨s2,hs2⟩:∃s2,ptS d (shpI op)=s2:=⟨_,rfl⟩
     rw[hs2]at HR H64 hsz⊢;clear hs2 h64;go_wp2_with fail;rename_i KK hKK
     go_step3;refine hKK _ _ ?_;refine wp_of_eq (c:=(rlH Tryd.f72)) ?_ (pass0R w p (p+1) b tot _ hq hpq _ v5 ⟨_,_,false,{nv0 with op:=op},o2,cap-k,l2,s2,⟨rfl,rfl,rfl,rfl,rfl,rfl,rfl,rfl⟩,HT2.out,GX5.out,H64.out,HR.out,hsz⟩ (fun _ _ _ h2 _=>h2));unfold rlH rlF Tryd.f72;dsimp only;rfl
 ·have hQ:∀(a:Act)(v':World)v5 v6 v7 v9 v10,Frm a (.pointer (some ⟨p,0,none⟩)) v5 v6 v7 v9 v10->v'.heap[p]?=some (.cells (lnA tot) 109)->Below w.heap.size w v'->bodyPost Tryd.prog Tryd.f72 (fun e w'=>e=.returned (.agg (lnA tot))/\Below w.heap.size w w') .ret a v':=by
   intro a v' v5 v6 v7 v9 v10 hF hh hb;obtain⟨r,hr⟩:∃r,lnA tot=(lnV r).toArray:=⟨_,rfl⟩
   rw[hr]at hh⊢;have HB:Hid (Below w.heap.size w v'):=hb;have p0:=hp_cell hh 0;have p1:=hp_cell hh 1;have p2:=hp_cell hh 2;have p3:=hp_cell hh 3;have p4:=hp_cell hh 4;have p5:=hp_cell hh 5;have p6:=hp_cell hh 6;simp only[lnV,List.getElem?_toArray,List.getElem?_cons_zero,List.getElem?_cons_succ]at p0 p1 p2 p3 p4 p5 p6;obtain⟨u,rfl⟩:=hF.open;clear hF hh hr hb hq hpq hp1 hp HT HS HO HD HTOT HP;exact bodyPost_ret (v:=.agg (lnV r).toArray) (by simp[results,Tryd.results72,go_sem,lnV, *]) rfl ⟨rfl,HB.out⟩
  match l',h' with
  |0,h=>exact pass0 w p (p+1) b tot _ hq hpq a' v' h (fun l2 a2 v2 h2 h3=>⟨h2,h3⟩)
  |1,h=>refine pass1 w p (p+1) b tot _ hp1 ?_ a' v' h;exact hQ
  |2,h=>refine pass2 w p (p+1) b tot _ hp1 hpq ?_ a' v' h;exact hQ
  |3,h=>exact pass3 w p (p+1) b tot _ a' v' h (fun l2 a2 v2 h2 h3=>⟨h2,h3⟩)
  |4,h=>exact pass4 w p (p+1) b tot _ hq hpq a' v' h (fun l2 a2 v2 h2 h3=>⟨h2,h3⟩)
  |_+5,h=>exact h.elim
end Go.Proofs.YtdbhgaegblclaaaDoor
