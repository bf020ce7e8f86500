import Derived.Test.YtdbhgaegblclaaaDoorOfDrawRead
import Derived.Test.YtdbhgaegblclaaaDoorOpenRow
import Derived.Test.YtdbhgaegblclaaaDoorCards
import Derived.Test.YtdbhgaegblclaaaDoorTie
import Derived.OpenShut
import Derived.ChangeOld
import Derived.Below
import Derived.ProofKit
import Derived.LaidMore
import Derived.Lay
import Derived.SevenTiedAt
import Derived.Stop.Joined
set_option maxHeartbeats 8000000
set_option maxRecDepth 100000
namespace Go.Proofs.YtdbhgaegblclaaaDoor
open Go.RowKit
theorem lwProg_rows{b1 b2:Nat}{v v':Value}(xs:List NV)(w:World)(hlen:xs.length<=1048576)(h:w.ownsRow b1 56 6 v xs.length (ci xs))(h':w.ownsRow b2 56 6 v' xs.length (ci xs)):
 Calls Tryd.prog 13 #[v,v'] w fun e w'=>e=.returned (.bool true)/\Below w.heap.size w w':=by
 by_cases h0:xs.length=0
 ·obtain⟨ao,c,rfl⟩:=rowI_zero h h0
  obtain⟨ao',c',rfl⟩:=rowI_zero h' h0;exact lwProg_nil ao ao' c c' w
 ·obtain⟨g,c,rfl⟩:=row_some2 h (by omega)
  obtain⟨g',c',rfl⟩:=row_some2 h' (by omega);exact lwProg_same g 0 xs.length c g' 0 c' _ w hlen (rowI_arr h).at (rowI_arr h').at
theorem rdA_zero{d:Int}{t:List UInt8}{er ln:Int}{xs:List NV}(h:rdA d t=(er,ln,xs))(h0:er=0):ln=0/\flatOK xs.length (prF xs)=true/\inB d 0 1=true:=by
 unfold rdA at h;split at h
 ·rename_i hc
  simp only[Prod.mk.injEq]at h;omega
 ·rename_i hc
  split at h
  ·rename_i h1
   simp only[Prod.mk.injEq]at h;exact absurd (h.1.trans h0) h1
  ·split at h
   ·simp only[Prod.mk.injEq]at h
    omega
   ·split at h
    ·rename_i h3
     simp only[Prod.mk.injEq]at h;obtain⟨_,h4,h5⟩:=h;refine⟨h4.symm,by rw[<-h5];exact h3,?_⟩;cases hi:inB d 0 1 with
     |true=>rfl
     |false=>exact absurd (.inr hi) hc
    ·simp only[Prod.mk.injEq]at h
     omega
theorem nvG_prF(xs:List NV)(i:Nat)(hi:i<xs.length):nvG (prF xs) i=xs[i]:=by
 unfold nvG prF;rw[List.getD_eq_getElem?_getD,List.getElem?_eq_getElem hi];rfl
theorem prL_prF(xs:List NV):prL xs.length (prF xs)=xs:=by
 refine List.ext_getElem? fun i=>?_
 unfold prL;rw[List.getElem?_map];by_cases hi:i<xs.length
 ·rw[List.getElem?_range hi,List.getElem?_eq_getElem hi]
  show some (nvG (prF xs) i)=_;rw[nvG_prF xs i hi]
 ·rw[List.getElem?_eq_none (by simp;omega),List.getElem?_eq_none (by omega)]
  rfl
theorem lawFnRead_walk(ao:Option Addr)(n cap:Nat)(w:World)(hn:n<=1048576)(hr:Bytes0 w w.heap.size ao n)
 (ht1:Lib.TabIs Tryd.prog w "internal/strconv.uint64pow10" .u64 Lib.pow10Tab)(ht2:Lib.TabIs Tryd.prog w "strings.asciiSpace" .u8 Lib.asciiSpaceTab):
 Calls Tryd.prog 4 #[.slice ao n cap] w fun e w'=>e=.returned (.bool true)/\Below w.heap.size w w':=by
 have HR:Hid (Bytes0 w w.heap.size ao n):=hr;have T1:Hid (Lib.TabBelow Tryd.prog w.heap.size w "internal/strconv.uint64pow10" .u64 Lib.pow10Tab):=Lib.tabBelow_of_tabIs ht1;have T2:Hid (Lib.TabBelow Tryd.prog w.heap.size w "strings.asciiSpace" .u8 Lib.asciiSpaceTab):=Lib.tabBelow_of_tabIs ht2;clear hr ht1 ht2;have hn':(n:Int)<=1048576:=by omega
 go_enter Tryd.func4,Tryd.ntmps4;go_wp2_with fail;refine(drawRead_any ao n cap w hn HR.out).mono ?_;rintro e w1⟨g,o,c,t,d,rfl,hl,hby,hb1⟩;have B1:Hid (Below w.heap.size w w1):=hb1;have A1:Hid (ByR w1 w.heap.size g o c t):=hby;have hlt:(t.length:Int)<=1048576:=by omega
 have hlc:=hby.le;obtain⟨er,ln,xs,hA⟩:∃er ln xs,rdA d t=(er,ln,xs):=⟨_,_,_,rfl⟩
 have HA:Hid (rdA d t=(er,ln,xs)):=hA;have hxl:xs.length<=1048576:=by
  have:=rdA_len d t;rw[hA]at this;have h2:xs.length<=100000:=this;omega
 clear hb1 hby hA HR hl;go_wp2_with fail;refine(specRead_any _ _ _ t d _ hlt A1.out.A).mono ?_;rintro e w2⟨hr2,hb2⟩;rw[HA.out]at hr2;obtain⟨sv,rfl,ho2⟩:=hr2;obtain⟨aos,cs,rfl⟩:=row_sl ho2;have B2:Hid (Below w.heap.size w w2):=B1.out.trans (hb2.mono B1.out.size);have A2:Hid (ByR w2 w.heap.size g o c t):=A1.out.below hb2 A1.out.A.lt;have S2:Hid (w2.ownsRow w1.heap.size 56 6 (.slice aos xs.length cs) xs.length (ci xs)):=ho2;clear hb2 ho2 A1 B1;go_wp2_with fail;obtain⟨u2,hu,bu,pu⟩:∃v,w2.alloc (.cells #[.int .i64 er,.int .i64 ln,.slice aos xs.length cs] 29)=v/\Below w2.heap.size w2 v/\v.heap[w2.heap.size]?=some (.cells #[.int .i64 er,.int .i64 ln,.slice aos xs.length cs] 29):=⟨_,rfl,(Below.refl _ _).alloc (Nat.le_refl _) _,heap_alloc_newB _ _⟩
 rw[hu];obtain⟨p2,hp⟩:∃p,w2.heap.size=p:=⟨_,rfl⟩
 rw[hp]at pu⊢;have P2:Hid (u2.heap[p2]?=some (.cells #[.int .i64 er,.int .i64 ln,.slice aos xs.length cs] 29)):=pu;have BU:Hid (Below w.heap.size w u2):=B2.out.trans (bu.mono B2.out.size);have AU:Hid (ByR u2 w.heap.size g o c t):=A2.out.below bu A2.out.A.lt;have SU:Hid (u2.ownsRow w1.heap.size 56 6 (.slice aos xs.length cs) xs.length (ci xs)):=row_belowB S2.out bu;clear hu bu pu hp B2 A2 S2;refine(implRead_any readLine_any _ _ _ t d _ hlt hlc AU.out.A (T2.out _ BU.out)).mono ?_;rintro e w4⟨hr4,hb4⟩;rw[HA.out]at hr4;obtain⟨gv,rfl,ho4⟩:=hr4;obtain⟨aog,cg,rfl⟩:=row_sl ho4;have B4:Hid (Below w.heap.size w w4):=BU.out.trans (hb4.mono BU.out.size);have S4:Hid (w4.ownsRow w1.heap.size 56 6 (.slice aos xs.length cs) xs.length (ci xs)):=row_belowB SU.out hb4;have Q4:Hid (w4.heap[p2]?=some (.cells #[.int .i64 er,.int .i64 ln,.slice aos xs.length cs] 29)):=obj_below P2.out hb4;have G4:Hid (w4.ownsRow u2.heap.size 56 6 (.slice aog xs.length cg) xs.length (ci xs)):=ho4;clear ho4 hb4 SU P2 AU BU;go_upto_region 6 with fail;obtain⟨u4,hu,bu,pu⟩:∃v,w4.alloc (.cells #[.int .i64 er,.int .i64 ln,.slice aog xs.length cg] 29)=v/\Below w4.heap.size w4 v/\v.heap[w4.heap.size]?=some (.cells #[.int .i64 er,.int .i64 ln,.slice aog xs.length cg] 29):=⟨_,rfl,(Below.refl _ _).alloc (Nat.le_refl _) _,heap_alloc_newB _ _⟩
 rw[hu];obtain⟨p4,hp⟩:∃p,w4.heap.size=p:=⟨_,rfl⟩
 rw[hp]at pu⊢;have P5:Hid (u4.heap[p4]?=some (.cells #[.int .i64 er,.int .i64 ln,.slice aog xs.length cg] 29)):=pu;have B5:Hid (Below w.heap.size w u4):=B4.out.trans (bu.mono B4.out.size);have S5:Hid (u4.ownsRow w1.heap.size 56 6 (.slice aos xs.length cs) xs.length (ci xs)):=row_belowB S4.out bu;have G5:Hid (u4.ownsRow u2.heap.size 56 6 (.slice aog xs.length cg) xs.length (ci xs)):=row_belowB G4.out bu;have Q5:Hid (u4.heap[p2]?=some (.cells #[.int .i64 er,.int .i64 ln,.slice aos xs.length cs] 29)):=obj_below Q4.out bu;clear hu bu pu hp B4 S4 G4 Q4;have q0:=hp_cell Q5.out 0;have q1:=hp_cell Q5.out 1;have q2:=hp_cell Q5.out 2;have g0:=hp_cell P5.out 0;have g1:=hp_cell P5.out 1;have g2:=hp_cell P5.out 2;simp only[List.getElem?_toArray,List.getElem?_cons_zero,List.getElem?_cons_succ]at q0 q1 q2 g0 g1 g2;go_wp2_with fail;refine(lwProg_rows xs _ hxl G5.out S5.out).mono ?_;rintro e w6⟨rfl,hb6⟩;have B6:Hid (Below w.heap.size w w6):=B5.out.trans (hb6.mono B5.out.size);have S6:Hid (w6.ownsRow w1.heap.size 56 6 (.slice aos xs.length cs) xs.length (ci xs)):=row_belowB S5.out hb6;have G6:Hid (w6.ownsRow u2.heap.size 56 6 (.slice aog xs.length cg) xs.length (ci xs)):=row_belowB G5.out hb6;have Q6:Hid (w6.heap[p2]?=some (.cells #[.int .i64 er,.int .i64 ln,.slice aos xs.length cs] 29)):=obj_below Q5.out hb6;have P6:Hid (w6.heap[p4]?=some (.cells #[.int .i64 er,.int .i64 ln,.slice aog xs.length cg] 29)):=obj_below P5.out hb6;clear hb6 q0 q1 q2 g0 g1 g2 B5 S5 G5 Q5 P5;have q0:=hp_cell Q6.out 0;have q1:=hp_cell Q6.out 1;have q2:=hp_cell Q6.out 2;have g0:=hp_cell P6.out 0;have g1:=hp_cell P6.out 1;have g2:=hp_cell P6.out 2;simp only[List.getElem?_toArray,List.getElem?_cons_zero,List.getElem?_cons_succ]at q0 q1 q2 g0 g1 g2;by_cases h0:er=0
 rotate_left
 ·have h0':(er !=0)=true:=by rw[bne_iff_ne];exact h0
  go_wp2_with fail;go_ret;exact⟨rfl,B6.out⟩
 subst h0;have hz:=rdA_zero HA.out rfl;have HFO:Hid (flatOK xs.length (prF xs)=true):=hz.2.1;have HD:Hid (1-d=0∨1-d=1):=(by
  have:=hz.2.2;unfold inB at this;simp only[Bool.and_eq_true,decide_eq_true_eq]at this;omega:1-d=0∨1-d=1)
 have hd1: -1<=d:=by have:=HD.out;omega
 have hd2:d<=2:=by have:=HD.out;omega
 have hx1:1<=xs.length:=(flat_facts hz.2.1).1;have hx2:xs.length<=2000:=(flat_facts hz.2.1).2.1;obtain⟨gg,cgg,hgv⟩:=row_some2 G6.out (by omega);simp only[Value.slice.injEq,true_and]at hgv;obtain⟨rfl,rfl⟩:=hgv;have A6:Hid (At w6 gg 0 (xs.length*6) (insF (prF xs))):=(rowI_arr G6.out).at;obtain⟨d',hd'⟩:∃y:Int,1-d=y:=⟨_,rfl⟩
 rw[hd']at HD;clear hz;go_wp2_with fail;refine(implPrint_any _ _ _ _ (prF xs) d' _ hxl A6.out (T1.out _ B6.out) (T2.out _ B6.out)).mono ?_;rintro e w7⟨vp,np,rfl,ho7,hnp,hb7⟩;obtain⟨t2,ht2⟩:∃t,prT d' xs.length (prF xs)=t:=⟨_,rfl⟩
 have HT:Hid (prT d' xs.length (prF xs)=t2):=ht2;rw[ht2]at ho7;have hne:t2≠[]:=by rw[<-ht2];exact prT_ne HD.out HFO.out
 have hl2:t2.length<=600000:=by
  have:=prT_len d' xs.length (prF xs);rw[ht2]at this;omega
 obtain⟨gb,cb,rfl,hcb,hab,_⟩:=row_by ho7 hne;have B7:Hid (Below w.heap.size w w7):=B6.out.trans (hb7.mono B6.out.size);have S7:Hid (w7.ownsRow w1.heap.size 56 6 (.slice aos xs.length cs) xs.length (ci xs)):=row_belowB S6.out hb7;have A7:Hid (At w7 gg 0 (xs.length*6) (insF (prF xs))):=A6.out.below hb7 A6.out.lt;have Q7:Hid (w7.heap[p2]?=some (.cells #[.int .i64 0,.int .i64 ln,.slice aos xs.length cs] 29)):=obj_below Q6.out hb7;have P7:Hid (w7.heap[p4]?=some (.cells #[.int .i64 0,.int .i64 ln,.slice (some ⟨gg,0,none⟩) xs.length cg] 29)):=obj_below P6.out hb7;have HAB:Hid (At w7 gb 0 t2.length (numF .u8 (bF t2))):=hab;clear hb7 ho7 hab hnp ht2 hne S6 G6 Q6 P6 A6 q0 q1 q2 g0 g1 g2 B6;obtain⟨er2,ln2,xs2,hA2⟩:∃er ln xs,rdA d' t2=(er,ln,xs):=⟨_,_,_,rfl⟩
 have HA2:Hid (rdA d' t2=(er2,ln2,xs2)):=hA2;clear hA2;have hx3:xs2.length<=1048576:=by
  have:=rdA_len d' t2;rw[HA2.out]at this;have h2:xs2.length<=100000:=this;omega
 go_wp2_with fail;refine(implRead_any readLine_any _ _ _ t2 d' _ (by omega) hcb HAB.out (T2.out _ B7.out)).mono ?_;rintro e w8⟨hr8,hb8⟩;rw[HA2.out]at hr8;obtain⟨av,rfl,ho8⟩:=hr8;obtain⟨aoa,ca,rfl⟩:=row_sl ho8;have B8:Hid (Below w.heap.size w w8):=B7.out.trans (hb8.mono B7.out.size);have S8:Hid (w8.ownsRow w1.heap.size 56 6 (.slice aos xs.length cs) xs.length (ci xs)):=row_belowB S7.out hb8;have A8:Hid (At w8 gg 0 (xs.length*6) (insF (prF xs))):=A7.out.below hb8 A7.out.lt;have Q8:Hid (w8.heap[p2]?=some (.cells #[.int .i64 0,.int .i64 ln,.slice aos xs.length cs] 29)):=obj_below Q7.out hb8;have P8:Hid (w8.heap[p4]?=some (.cells #[.int .i64 0,.int .i64 ln,.slice (some ⟨gg,0,none⟩) xs.length cg] 29)):=obj_below P7.out hb8;have O8:Hid (w8.ownsRow w7.heap.size 56 6 (.slice aoa xs2.length ca) xs2.length (ci xs2)):=ho8;clear hb8 ho8 S7 A7 Q7 P7 HAB B7;go_upto_region 11 with fail;obtain⟨u8,hu,bu,pu⟩:∃v,w8.alloc (.cells #[.int .i64 er2,.int .i64 ln2,.slice aoa xs2.length ca] 29)=v/\Below w8.heap.size w8 v/\v.heap[w8.heap.size]?=some (.cells #[.int .i64 er2,.int .i64 ln2,.slice aoa xs2.length ca] 29):=⟨_,rfl,(Below.refl _ _).alloc (Nat.le_refl _) _,heap_alloc_newB _ _⟩
 rw[hu];obtain⟨p8,hp⟩:∃p,w8.heap.size=p:=⟨_,rfl⟩
 rw[hp]at pu⊢;have R9:Hid (u8.heap[p8]?=some (.cells #[.int .i64 er2,.int .i64 ln2,.slice aoa xs2.length ca] 29)):=pu;have B9:Hid (Below w.heap.size w u8):=B8.out.trans (bu.mono B8.out.size);have S9:Hid (u8.ownsRow w1.heap.size 56 6 (.slice aos xs.length cs) xs.length (ci xs)):=row_belowB S8.out bu;have O9:Hid (u8.ownsRow w7.heap.size 56 6 (.slice aoa xs2.length ca) xs2.length (ci xs2)):=row_belowB O8.out bu;have A9:Hid (At u8 gg 0 (xs.length*6) (insF (prF xs))):=A8.out.below bu A8.out.lt;have Q9:Hid (u8.heap[p2]?=some (.cells #[.int .i64 0,.int .i64 ln,.slice aos xs.length cs] 29)):=obj_below Q8.out bu;have P9:Hid (u8.heap[p4]?=some (.cells #[.int .i64 0,.int .i64 ln,.slice (some ⟨gg,0,none⟩) xs.length cg] 29)):=obj_below P8.out bu;clear hu bu pu hp B8 S8 O8 A8 Q8 P8;have g2:=hp_cell P9.out 2;simp only[List.getElem?_toArray,List.getElem?_cons_zero,List.getElem?_cons_succ]at g2;go_wp2_with fail;refine(specFlat_any _ _ _ _ (prF xs) _ hxl A9.out).mono ?_;rintro e w10⟨rfl,hb10⟩;rw[HFO.out];have B10:Hid (Below w.heap.size w w10):=B9.out.trans (hb10.mono B9.out.size);have S10:Hid (w10.ownsRow w1.heap.size 56 6 (.slice aos xs.length cs) xs.length (ci xs)):=row_belowB S9.out hb10;have O10:Hid (w10.ownsRow w7.heap.size 56 6 (.slice aoa xs2.length ca) xs2.length (ci xs2)):=row_belowB O9.out hb10;have A10:Hid (At w10 gg 0 (xs.length*6) (insF (prF xs))):=A9.out.below hb10 A9.out.lt;have Q10:Hid (w10.heap[p2]?=some (.cells #[.int .i64 0,.int .i64 ln,.slice aos xs.length cs] 29)):=obj_below Q9.out hb10;have P10:Hid (w10.heap[p4]?=some (.cells #[.int .i64 0,.int .i64 ln,.slice (some ⟨gg,0,none⟩) xs.length cg] 29)):=obj_below P9.out hb10;have R10:Hid (w10.heap[p8]?=some (.cells #[.int .i64 er2,.int .i64 ln2,.slice aoa xs2.length ca] 29)):=obj_below R9.out hb10;clear hb10 g2 B9 S9 O9 A9 Q9 P9 R9;have g2:=hp_cell P10.out 2;simp only[List.getElem?_toArray,List.getElem?_cons_zero,List.getElem?_cons_succ]at g2;go_wp2_with fail;refine(specPrint_any _ _ _ _ (prF xs) d' _ hxl A10.out).mono ?_;rintro e w11⟨vs,ns,rfl,ho11,hb11⟩;rw[HT.out]at ho11;obtain⟨_,aob,cb2,hvs,_,_⟩:=row_wr ho11;subst hvs;have B11:Hid (Below w.heap.size w w11):=B10.out.trans (hb11.mono B10.out.size);have S11:Hid (w11.ownsRow w1.heap.size 56 6 (.slice aos xs.length cs) xs.length (ci xs)):=row_belowB S10.out hb11;have O11:Hid (w11.ownsRow w7.heap.size 56 6 (.slice aoa xs2.length ca) xs2.length (ci xs2)):=row_belowB O10.out hb11;have Q11:Hid (w11.heap[p2]?=some (.cells #[.int .i64 0,.int .i64 ln,.slice aos xs.length cs] 29)):=obj_below Q10.out hb11;have R11:Hid (w11.heap[p8]?=some (.cells #[.int .i64 er2,.int .i64 ln2,.slice aoa xs2.length ca] 29)):=obj_below R10.out hb11;clear hb11 ho11 g2 B10 S10 O10 A10 Q10 P10 R10;have q2:=hp_cell Q11.out 2;have r2:=hp_cell R11.out 2;simp only[List.getElem?_toArray,List.getElem?_cons_zero,List.getElem?_cons_succ]at q2 r2;by_cases hl3:(100000:Int)<t2.length
 ·go_wp2_with fail
  go_ret;exact⟨rfl,B11.out⟩
 ·have HX:Hid (xs2=xs):=(by
   have h1:=read_back d' HD.out xs.length (prF xs) HFO.out (by rw[HT.out];omega);rw[HT.out,HA2.out,prL_prF]at h1;simp only[Prod.mk.injEq]at h1;exact h1.2.2:xs2=xs)
  have O12:Hid (w11.ownsRow w7.heap.size 56 6 (.slice aoa xs2.length ca) xs.length (ci xs)):=(by have:=O11.out;rw[HX.out]at this⊢;exact this:w11.ownsRow w7.heap.size 56 6 (.slice aoa xs2.length ca) xs.length (ci xs))
  clear O11;go_wp2_with fail;refine(lwProg_rows xs _ hxl O12.out S11.out).mono ?_;rintro e w12⟨rfl,hb12⟩;go_wp2_with fail;go_ret;exact⟨rfl,B11.out.trans (hb12.mono B11.out.size)⟩
end Go.Proofs.YtdbhgaegblclaaaDoor
namespace Go.Proofs.YtdbhgaegblclaaaDoor
open Go.ChangeShapes Go.WideShapes Go.ChangeAt Go.RowKit Go.Deep
theorem fnRead_own:ownKnob Tryd.prog.godebug=none:=by kernel_rfl
theorem fnRead_laidOut:laidOutB Tryd.prog=true:=by kernel_rfl
theorem fnRead_great(ao:Option Addr)(len cap:Nat)(w:World)(h:1048576<len)(hm:len<=maxLen):
 Calls Tryd.prog 4 #[.slice ao len cap] w fun e w'=>e=.returned (.bool true)/\Below w.heap.size w w':=by
 unfold maxLen at hm;have h':(1048576:Int)<len:=by omega
 go_enter Tryd.func4,Tryd.ntmps4;go_wp2;go_ret;exact⟨rfl,Below.refl _ _⟩
theorem tabFnRead_laid{name:String}{k:IntKind}{zs:List Int}{dd:DataW Unit}(hd:dd=Lib.tabData k zs){W:World}(h:laidMetH Tryd.prog Rows.fnReadRow.laid W)(hx:(Rows.fnReadRow.laid.filter fun x=>x.1==name)=[(name,dd)]){g:Nat}{t e:TypeId}{n:Nat}
 (hg:Tryd.prog.globalNamed name=some g)(hty:(Tryd.prog.globals[g]?).map (·.type)=some t)(ht:Tryd.prog.underlying t=some (.array n e))(he:Tryd.prog.underlying e=some (.int k))(hce:Tryd.prog.cellsOf e=1)(hct:Tryd.prog.cellsOf t=n):
 Lib.TabIs Tryd.prog W name k zs:=by
 rw[MakeChecks.laidMetH_plain _ _ _ (by kernel_rfl)]at h;have h1:=laidMet.filter (fun x=>x.1==name) h;rw[hx,hd]at h1;exact Lib.tabIs_of_head hg hty ht he hce hct h1
theorem fnRead_u8:Tryd.prog.cellsOf 5=1:=by kernel_rfl
theorem fnRead_wf{n:Int}(h:(Lit.int .u8 n).wf=true):0<=n/\n<=255:=by
 simpa[Lit.wf,IntKind.min,IntKind.max,IntKind.signed,IntKind.bits]using h
theorem fnRead_open{H:Type}{enc:TypeId×Value->H}{w:World}{base:Nat}{spare:Nat->Bool}{held:Bool}{fuel:Nat}{ao:Option Addr}{len cap:Nat}{x:DataW H×List MemPlace}
 (h:DataW.trod enc Tryd.prog w base spare held fuel 22 [.slice ao len cap]=some x):len<=maxLen/\Bytes0 w w.heap.size ao len:=by
 obtain⟨hm,f,hin,hel⟩:=open_row Tryd.underlying22 fnRead_u8 (by omega) h;refine⟨hm,?_⟩;rw[Nat.mul_one]at hin;rcases hin with h0|⟨b,off,h1,h2⟩
 ·exact .inl h0
 ·refine .inr ⟨b,off,h1,h2.lt,fun i hi=>?_⟩
  obtain⟨n,y,hy⟩:=hel i hi;simp[List.range,List.range.loop]at hy;obtain⟨r,e1,_,wb⟩:=DataW.trod_int Tryd.underlying5 hy;simp at e1;exact⟨r,(fnRead_wf wb).1,(fnRead_wf wb).2,by rw[h2.cell hi,e1]⟩
theorem fnRead_lifted(os:Os)(started:os.Started)(H:Type)(enc:TypeId×Value->H):
 ReturnsInHanded {} Tryd.checked os 4 .any (fun w args=>(Rows.fnReadSpec.pre enc Tryd.prog Tryd.f4 Rows.fnReadRow.domain false w args/\laidMetH Tryd.prog Rows.fnReadRow.laid w)/\sizedMet enc Tryd.prog Tryd.f4 (OpenSpec.ofChange Rows.fnReadSpec) false w args)
  (Rows.fnReadSpec.post enc Tryd.prog Tryd.f4 false true false false):=by
 refine returnsInHanded_of_change_and (C:=Tryd.checked) (X:=fun w _=>laidMetH Tryd.prog Rows.fnReadRow.laid w) (fun _ _ _ hh h=>h.of_heap hh) fnRead_own started (by kernel_rfl) Tryd.func4
  (ChangeSpec.witness_shaped (enc:=enc) (C:=Tryd.checked) (os:=os) (X:=fun w _=>laidMetH Tryd.prog Rows.fnReadRow.laid w) false (World.laidAll Tryd.prog os Rows.fnReadRow.laid) #[.slice none 0 0] 8 (World.laidAll_os _ _ _)
    (World.shaped_of_ZipB (by kernel_rfl) (by kernel_rfl)) (by kernel_rfl) (by kernel_rfl) (by kernel_rfl)
    (by rw[MakeChecks.laidMetH_plain _ _ _ (by kernel_rfl)];exact laidMet_laidAll _ (by kernel_rfl) (by kernel_rfl))) ?_
 intro W base args ds gs before hval0 hW hc _ hL _;have hval:∀(j:Nat)t v,Tryd.f4.params[j]?=some t->args[j]?=some v->Value.okWide Tryd.prog W .any base t v:=hval0;have hW':=hW;obtain⟨p,q,hA0,hV,rfl,_,_⟩:=hW;have hA:DataW.TrodAll enc Tryd.prog W 0 (fun _=>true) true Tryd.f4.params.toList args.toList ds p:=hA0;rw[Tryd.params4]at hA hval;obtain⟨v0,d0,rfl,rfl,h0⟩:=trodAll_one hA;obtain⟨rfl,rfl⟩:=trodVars_none hV;obtain⟨ao,len,cap,rfl⟩:=okWide_slice Tryd.underlying22 (hval 0 22 v0 rfl rfl);have k0:=h0;have lt0:∀x∈p,x.block<W.heap.size:=by obtain⟨m,hm⟩:=k0;exact DataW.trod_lt m _ _ _ hm
 obtain⟨fuel,hf⟩:=h0;obtain⟨hm,hin⟩:=fnRead_open (by simpa[Value.cells]using hf);clear hA0 hval0;have t1:Lib.TabIs Tryd.prog W "internal/strconv.uint64pow10" .u64 Lib.pow10Tab:=tabFnRead_laid (by rfl) hL (by kernel_rfl) (g:=3) (t:=162) (e:=150) (n:=20) (by kernel_rfl) (by kernel_rfl) (by kernel_rfl) (by kernel_rfl) (by kernel_rfl) (by kernel_rfl);have t2:Lib.TabIs Tryd.prog W "strings.asciiSpace" .u8 Lib.asciiSpaceTab:=tabFnRead_laid (by rfl) hL (by kernel_rfl) (g:=0) (t:=116) (e:=5) (n:=256) (by kernel_rfl) (by kernel_rfl) (by kernel_rfl) (by kernel_rfl) (by kernel_rfl) (by kernel_rfl);have fin:∀(e:Ending)(W':World),e=.returned (.bool true)/\Below W.heap.size W W'->∃v,e=.returned v/\Rows.fnReadSpec.post enc Tryd.prog Tryd.f4 false true false false W #[.slice ao len cap] v W':=by
  rintro e W'⟨he,bel⟩;subst he;exact⟨_,rfl,_,_,_,[],_,[],hW',trodAll_mk1 (shut_bool Tryd.underlying4 _),trodAll_mk1 (Below.trod fnRead_laidOut (by kernel_rfl) (of_decide_eq_true (by kernel_rfl)) k0 bel lt0),rfl,bel.frame _,fun h=>by cases h⟩
 by_cases hl:len<=1048576
 ·exact(lawFnRead_walk ao len cap W hl hin t1 t2).mono fin
 ·exact(fnRead_great ao len cap W (by omega) hm).mono fin
theorem fnReadRow_holds:Rows.FnReadSaid:=
 OpenClaim.holds_of_wide 4 Tryd.f4 rfl rfl rfl rfl rfl rfl rfl ⟨rfl,rfl,rfl,rfl,rfl⟩ rfl rfl rfl rfl rfl (by kernel_rfl) Tryd.func4 (by kernel_rfl)
  (of_decide_eq_true (by kernel_rfl)) (by unfold Func.isWrapper;first|(rw[if_pos (by decide+kernel)];kernel_rfl)|(rw[if_neg (by decide+kernel)];exact⟨rfl,rfl⟩))
  (fun os started H enc _=>fnRead_lifted os started H enc)
theorem fnRead_holds:Rows.FnReadCardSaid:=
 Claim7.holds_tied_plain_at .later [] [.data,.data,.data,.listed,.data] true (true,"526a9e8472aaa462521bd2fe3cf1c21a57e56d06059a78feaaf6406b119f1658") false fnReadRow_holds (fun _ h=>by cases h) (by kernel_rfl) (fun _ h=>by cases h) fnRead_row_tie rfl ⟨rfl,rfl⟩ (by kernel_rfl) rfl
  (fun f fn hf hfn=>by
    obtain rfl:f=4:=Option.some.inj ((show Tryd.prog.funcNamed "loop.example/s01319/laws.FnRead" =some 4 by kernel_rfl).symm.trans hf)|>.symm;obtain rfl:fn=Tryd.f4:=(Option.some.inj (Tryd.func4.symm.trans hfn)).symm;exact⟨by kernel_rfl,fun j t ht=>by
     rw[Tryd.params4]at ht;have hm:t∈[22]:=by simpa using Array.mem_of_getElem? ht
     have hall:([22].all fun u=>!Tryd.prog.wantsStandIn u)=true:=by kernel_rfl
     exact(show Tryd.prog.wantsStandIn t=false by simpa using List.all_eq_true.1 hall t hm)⟩)
  (by kernel_rfl)
end Go.Proofs.YtdbhgaegblclaaaDoor
