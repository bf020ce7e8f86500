import Derived.Test.YtdbhgaegblclaaaDoorOfRtLaw0
set_option maxHeartbeats 8000000
set_option maxRecDepth 20000
namespace Go.Proofs.YtdbhgaegblclaaaDoor
open Go.RowKit
theorem txt_ne(d:Int)(len:Nat)(F:Nat->Nat->Int):∀k,1<=k->txt d len F k≠[]
 |0,h=>by omega
 |k+1,_=>by
  rw[txt,lineAt];intro e;have:=congrArg List.length e;simp at this
theorem prT_ne{d:Int}{len:Nat}{F:Nat->Nat->Int}(hd:d=0∨d=1)(h:flatOK len F=true):prT d len F≠[]:=by
 have hin:inB d 0 1=true:=by rcases hd with rfl|rfl<;>rfl
 unfold prT;rw[h,hin,if_pos (show(true&&true)=true from rfl)];exact txt_ne d len F len (flat_facts h).1
theorem prT_no{d:Int}{len:Nat}{F:Nat->Nat->Int}(h:flatOK len F=false):prT d len F=[]:=by
 unfold prT;rw[h];rfl
theorem row_by{w:World}{base e n:Nat}{v:Value}{l:List UInt8}(h:w.ownsRow base e 1 v n (Lib.byteCells l))(hl:l≠[]):∃g cap,v=.slice (some ⟨g,0,none⟩) l.length cap/\l.length<=cap/\At w g 0 l.length (numF .u8 (bF l))/\n=l.length:=by
 obtain⟨hn,ao,cap,hv,hw,_⟩:=row_wr h;have h0:l.length≠0:=fun e=>hl (List.length_eq_zero_iff.1 e)
 rcases hw with e|⟨b,hb,ha⟩
 ·exact absurd e h0
 ·subst hb
  refine⟨b,cap,hv,?_,ha.at,hn⟩;rcases h.2 with⟨h',_⟩|⟨g',cap',cur,h',_,_,hc,_⟩
  ·rw[hv]at h';simp at h'
  ·rw[hv]at h'
   simp only[Value.slice.injEq]at h';omega
theorem lawText_walk(ao:Option Addr)(n cap:Nat)(w:World)(hn:n<=1048576)(hr:Bytes0 w w.heap.size ao n)
 (ht1:Lib.TabIs Tryd.prog w "internal/strconv.uint64pow10" .u64 Lib.pow10Tab)(ht2:Lib.TabIs Tryd.prog w "strings.asciiSpace" .u8 Lib.asciiSpaceTab):
 Calls Tryd.prog 3 #[.slice ao n cap] w fun e w'=>e=.returned (.bool true)/\Below w.heap.size w w':=by
 have HR:Hid (Bytes0 w w.heap.size ao n):=hr;have T1:Hid (Lib.TabBelow Tryd.prog w.heap.size w "internal/strconv.uint64pow10" .u64 Lib.pow10Tab):=Lib.tabBelow_of_tabIs ht1;have T2:Hid (Lib.TabBelow Tryd.prog w.heap.size w "strings.asciiSpace" .u8 Lib.asciiSpaceTab):=Lib.tabBelow_of_tabIs ht2;clear hr ht1 ht2;have hn':(n:Int)<=1048576:=by omega
 go_enter Tryd.func3,Tryd.ntmps3;go_wp2_with fail;refine(drawPrint_any ao n cap w hn HR.out).mono ?_;rintro e w2⟨g,gc,ys,dd,rfl,hy,ho,hb2⟩;have B2:Hid (Below w.heap.size w w2):=hb2;have A2:Hid (At w2 g 0 (ys.length*6) (insF (icF ys))):=row_at ho;obtain⟨len,hlen⟩:∃l,ys.length=l:=⟨_,rfl⟩
 obtain⟨F,hF⟩:∃F,icF ys=F:=⟨_,rfl⟩
 rw[hlen]at A2 hy⊢;rw[hF]at A2;clear hb2 ho hlen hF HR;obtain⟨fo,hfo⟩:∃b,flatOK len F=b:=⟨_,rfl⟩
 have HFO:Hid (flatOK len F=fo):=hfo;have hlen:len<=1048576:=by omega
 clear hfo;go_wp2_with fail;go_loopw [5](fun dv wr=>∃d:Int,0<=d/\d<=2/\dv=.int .i64 d/\Below w2.heap.size w2 wr)(fun dv _=>(2-intOf dv).toNat)
 case atStart=>exact⟨0,by omega,by omega,rfl,Below.refl _ _⟩
 case round=>
  obtain⟨d,d0,d2,hdv,hbr⟩:=hrel;subst hdv;have AR:Hid (At wr g 0 (len*6) (insF F)):=A2.out.below hbr A2.out.lt;have BR:Hid (Below w2.heap.size w2 wr):=hbr;have BW:Hid (Below w.heap.size w wr):=B2.out.trans (hbr.mono B2.out.size);clear hbr;by_cases hd:d<2
  rotate_left
  ·go_wp2_with fail
   go_ret;exact⟨rfl,BW.out⟩
  have HD:Hid (d=0∨d=1):=(by omega:d=0∨d=1)
  go_wp2_with fail;refine(implPrint_any _ _ _ _ F d _ hlen AR.out (T1.out _ BW.out) (T2.out _ BW.out)).mono ?_;rintro e w4⟨vg,ng,rfl,ho4,hng,hb4⟩;obtain⟨t,ht⟩:∃t,prT d len F=t:=⟨_,rfl⟩
  have HT:Hid (prT d len F=t):=ht;rw[ht]at ho4;obtain⟨hnl,aog,cg,hvg,hg4,_⟩:=row_wr ho4;subst hvg;have hl:(t.length:Int)<=1099511627776:=by omega
  have A4:Hid (At w4 g 0 (len*6) (insF F)):=AR.out.below hb4 AR.out.lt;have B4:Hid (Below w2.heap.size w2 w4):=BR.out.trans (hb4.mono BR.out.size);have W4:Hid (Below w.heap.size w w4):=BW.out.trans (hb4.mono BW.out.size);have O4:Hid (w4.ownsRow wr.heap.size 5 1 (.slice aog t.length cg) ng (Lib.byteCells t)):=ho4;clear ho4 hb4 hg4 ht AR BR BW hnl hng;go_wp2_with fail;refine(specFlat_any _ _ _ _ F _ hlen A4.out).mono ?_;rintro e w5⟨rfl,hb5⟩;rw[HFO.out];have A5:Hid (At w5 g 0 (len*6) (insF F)):=A4.out.below hb5 A4.out.lt;have B5:Hid (Below w2.heap.size w2 w5):=B4.out.trans (hb5.mono B4.out.size);have W5:Hid (Below w.heap.size w w5):=W4.out.trans (hb5.mono W4.out.size);have O5:Hid (w5.ownsRow wr.heap.size 5 1 (.slice aog t.length cg) ng (Lib.byteCells t)):=row_belowB O4.out hb5;clear hb5 A4 B4 W4 O4;cases fo with
  |false=>
   have ht0:t.length=0:=by rw[<-HT.out,prT_no HFO.out];rfl
   rw[ht0];clear ht0;go_wp2_with fail;refine(implFlat_any _ _ _ _ F _ hlen A5.out).mono ?_;rintro e w6⟨rfl,hb6⟩;rw[HFO.out];have B6:Hid (Below w2.heap.size w2 w6):=B5.out.trans (hb6.mono B5.out.size);clear hb6;go_wp2_with fail;go_roundw
   case rel=>exact⟨d+1,by omega,by omega,by go_num,B6.out⟩
   case measure=>simp[intOf];omega
  |true=>
   go_wp2_with fail;refine(specPrint_any _ _ _ _ F d _ hlen A5.out).mono ?_;rintro e w6⟨vs,ns,rfl,ho6,hb6⟩;rw[HT.out]at ho6;obtain⟨_,aos,cs,hvs,_,_⟩:=row_wr ho6;subst hvs;have A6:Hid (At w6 g 0 (len*6) (insF F)):=A5.out.below hb6 A5.out.lt;have B6:Hid (Below w2.heap.size w2 w6):=B5.out.trans (hb6.mono B5.out.size);have W6:Hid (Below w.heap.size w w6):=W5.out.trans (hb6.mono W5.out.size);have O6:Hid (w6.ownsRow wr.heap.size 5 1 (.slice aog t.length cg) ng (Lib.byteCells t)):=row_belowB O5.out hb6;clear hb6 ho6 A5 B5 W5 O5;by_cases hlt:(t.length:Int)<=100000
   rotate_left
   ·go_wp2_with fail
    go_roundw
    case rel=>exact⟨d+1,by omega,by omega,by go_num,B6.out⟩
    case measure=>simp[intOf];omega
   have hne:t≠[]:=by rw[<-HT.out];exact prT_ne HD.out HFO.out
   obtain⟨gb,cb,hvb,hcb,hab,_⟩:=row_by O6.out hne;simp only[Value.slice.injEq]at hvb;obtain⟨rfl,_,rfl⟩:=hvb;have HAB:Hid (At w6 gb 0 t.length (numF .u8 (bF t))):=hab;have HRB:Hid (rdA d t=(0,0,prL len F)):=(by
    have:=read_back d HD.out len F HFO.out (by rw[HT.out];omega);rw[HT.out]at this;exact this:rdA d t=(0,0,prL len F))
   clear hab hne;go_wp2_with fail;refine(implRead_any readLine_any _ _ _ t d _ (by omega) hcb HAB.out (T2.out _ W6.out)).mono ?_;rintro e w7⟨hr7,hb7⟩;rw[HRB.out]at hr7;obtain⟨rv,rfl,ho7⟩:=hr7;simp only at ho7;rw[prL_len]at ho7;obtain⟨gr,cr,rfl⟩:=row_some2 ho7 (by have:=(flat_facts HFO.out).1;omega);have R7:Hid (At w7 gr 0 (len*6) (insF F)):=⟨(ho7.lt gr rfl).2,fun i hi=>by
    rw[Nat.zero_add,ho7.cellAt i hi,ci_get _ i (by rw[prL_len];exact hi)];unfold insF;rw[prL_at len F (i/6) (i%6) (by omega) (by omega)]⟩
   have A7:Hid (At w7 g 0 (len*6) (insF F)):=A6.out.below hb7 A6.out.lt;have B7:Hid (Below w2.heap.size w2 w7):=B6.out.trans (hb7.mono B6.out.size);clear ho7 hb7 A6 B6 W6 O6 HAB HRB HT T1 T2;simp only;go_upto_region 13 with fail;obtain⟨u7,hu,bu,pu⟩:∃v,w7.alloc (.cells #[.int .i64 0,.int .i64 0,.slice (some ⟨gr,0,none⟩) len cr] 29)=v/\Below w7.heap.size w7 v/\v.heap[w7.heap.size]?=some (.cells #[.int .i64 0,.int .i64 0,.slice (some ⟨gr,0,none⟩) len cr] 29):=⟨_,rfl,(Below.refl _ _).alloc (Nat.le_refl _) _,heap_alloc_newB _ _⟩
   rw[hu];clear hu;have RU:Hid (At u7 gr 0 (len*6) (insF F)):=R7.out.below bu R7.out.lt;have AU:Hid (At u7 g 0 (len*6) (insF F)):=A7.out.below bu A7.out.lt;have BU:Hid (Below w2.heap.size w2 u7):=B7.out.trans (bu.mono B7.out.size);have r0:=hp_cell pu 0;have r1:=hp_cell pu 1;have r2:=hp_cell pu 2;simp only[List.getElem?_toArray,List.getElem?_cons_zero,List.getElem?_cons_succ]at r0 r1 r2;obtain⟨pr,hpr⟩:∃p,w7.heap.size=p:=⟨_,rfl⟩
   rw[hpr]at r0 r1 r2⊢;clear bu pu hpr R7 A7 B7;go_wp2_with fail;refine(lwProg_same _ _ _ _ _ _ _ F _ hlen RU.out AU.out).mono ?_;rintro e w8⟨rfl,hb8⟩;have B8:Hid (Below w2.heap.size w2 w8):=BU.out.trans (hb8.mono BU.out.size);clear hb8 r0 r1 r2;go_wp2_with fail;go_roundw
   case rel=>exact⟨d+1,by omega,by omega,by go_num,B8.out⟩
   case measure=>simp[intOf];omega
end Go.Proofs.YtdbhgaegblclaaaDoor
