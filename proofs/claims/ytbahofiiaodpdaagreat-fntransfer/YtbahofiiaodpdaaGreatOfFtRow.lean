import Derived.Test.YtbahofiiaodpdaaGreatOfFtLaw0
import Derived.Test.YtbahofiiaodpdaaGreatOfFtDraw
import Derived.Test.YtbahofiiaodpdaaGreatOfFtLr
import Derived.Test.YtbahofiiaodpdaaGreatMachSpec
import Derived.Test.YtbahofiiaodpdaaGreatOfCl
import Derived.OpenShut
import Derived.ChangeOld
import Derived.Below
set_option maxHeartbeats 16000000
set_option maxRecDepth 100000
namespace Go.Proofs.YtbahofiiaodpdaaGreat
open Go.RowKit Go.Deep
structure TL(w u:World)(b bH cH nH:Nat)(S:Nat->HS)(bR cR nR:Nat)(V0:Nat->VV)(bA cA:Nat)(V:Nat->VV)(z c:Int)(x:IV):Prop where
 bel:Below w.heap.size w u
 QS:u.heap[b]?=some (.cells #[.slice (some ⟨bH,0,none⟩) nH cH,.slice (some ⟨bR,0,none⟩) nR cR] 26)
 QA:u.heap[b+1]?=some (.cells #[.slice (some ⟨bA,0,none⟩) 8 cA,.int .i64 z,.int .i64 c] 28)
 QX:Ib u (b+1+1) x
 G:SigCp u bH nH S bR nR V0
 A:Arr u bA (8*6) (vF V)
theorem TL.below{w u:World}{b bH cH nH:Nat}{S:Nat->HS}{bR cR nR:Nat}{V0:Nat->VV}{bA cA:Nat}{V:Nat->VV}{z c:Int}{x:IV}(h:TL w u b bH cH nH S bR cR nR V0 bA cA V z c x){u':World}(hb:Below u.heap.size u u'):TL w u' b bH cH nH S bR cR nR V0 bA cA V z c x:=
 ⟨h.bel.trans (hb.mono h.bel.size),hq_below h.QS hb,hq_below h.QA hb,h.QX.below hb,h.G.below hb,h.A.below hb h.A.lt⟩
theorem TL.cs{w u:World}{b bH cH nH:Nat}{S:Nat->HS}{bR cR nR:Nat}{V0:Nat->VV}{bA cA:Nat}{V:Nat->VV}{z c:Int}{x:IV}(h:TL w u b bH cH nH S bR cR nR V0 bA cA V z c x):u.cell? ⟨b,0,none⟩=some (.slice (some ⟨bH,0,none⟩) nH cH)/\u.cell? ⟨b,1,none⟩=some (.slice (some ⟨bR,0,none⟩) nR cR)/\b<u.heap.size:=⟨(hq_cell h.QS 0).trans rfl,(hq_cell h.QS 1).trans rfl,hq_lt h.QS⟩
theorem TL.ca{w u:World}{b bH cH nH:Nat}{S:Nat->HS}{bR cR nR:Nat}{V0:Nat->VV}{bA cA:Nat}{V:Nat->VV}{z c:Int}{x:IV}(h:TL w u b bH cH nH S bR cR nR V0 bA cA V z c x):u.cell? ⟨b+1,0,none⟩=some (.slice (some ⟨bA,0,none⟩) 8 cA)/\u.cell? ⟨b+1,1,none⟩=some (.int .i64 z)/\u.cell? ⟨b+1,2,none⟩=some (.int .i64 c)/\b+1<u.heap.size:=⟨(hq_cell h.QA 0).trans rfl,(hq_cell h.QA 1).trans rfl,(hq_cell h.QA 2).trans rfl,hq_lt h.QA⟩
theorem TL.new{w u:World}{bH cH nH:Nat}{S:Nat->HS}{bR cR nR:Nat}{V0:Nat->VV}{bA cA:Nat}{V:Nat->VV}{z c:Int}{x:IV}(hb:Below w.heap.size w u)(hg:SigCp u bH nH S bR nR V0)(ha:Arr u bA (8*6) (vF V)):
 ∃y,((u.alloc (.cells #[.slice (some ⟨bH,0,none⟩) nH cH,.slice (some ⟨bR,0,none⟩) nR cR] 26)).alloc (.cells #[.slice (some ⟨bA,0,none⟩) 8 cA,.int .i64 z,.int .i64 c] 28)).alloc (.cells #[.int .i64 x.o,.int .i64 x.d,.int .i64 x.a,.int .i64 x.b,.int .i64 x.i,.int .i64 x.h] 30)=y/\TL w y u.heap.size bH cH nH S bR cR nR V0 bA cA V z c x:=by
 generalize he:u.alloc (.cells #[.slice (some ⟨bH,0,none⟩) nH cH,.slice (some ⟨bR,0,none⟩) nR cR] 26)=a;have sa:a.heap.size=u.heap.size+1:=by rw[<-he];simp
 have ea:a.heap[u.heap.size]?=some (.cells #[.slice (some ⟨bH,0,none⟩) nH cH,.slice (some ⟨bR,0,none⟩) nR cR] 26):=by rw[<-he];exact hq_new _ _
 have ba:Below u.heap.size u a:=by rw[<-he];exact(Below.refl _ _).alloc (Nat.le_refl _) _
 generalize hf:a.alloc (.cells #[.slice (some ⟨bA,0,none⟩) 8 cA,.int .i64 z,.int .i64 c] 28)=d;have sd:d.heap.size=u.heap.size+1+1:=by rw[<-hf];simp[sa]
 have bd:Below a.heap.size a d:=by rw[<-hf];exact(Below.refl _ _).alloc (Nat.le_refl _) _
 have ed:d.heap[u.heap.size+1]?=some (.cells #[.slice (some ⟨bA,0,none⟩) 8 cA,.int .i64 z,.int .i64 c] 28):=by rw[<-hf,<-sa];exact hq_new _ _
 have be:Below d.heap.size d (d.alloc (.cells #[.int .i64 x.o,.int .i64 x.d,.int .i64 x.a,.int .i64 x.b,.int .i64 x.i,.int .i64 x.h] 30)):=(Below.refl _ _).alloc (Nat.le_refl _) _;have bt:Below u.heap.size u (d.alloc (.cells #[.int .i64 x.o,.int .i64 x.d,.int .i64 x.a,.int .i64 x.b,.int .i64 x.i,.int .i64 x.h] 30)):=(ba.trans (bd.mono ba.size)).trans (be.mono (by omega));exact⟨_,rfl,hb.trans (bt.mono hb.size),hq_below (hq_below ea bd) be,hq_below ed be,by unfold Ib;rw[<-sd];exact hq_new _ _,hg.below bt,ha.below bt ha.lt⟩
theorem tr_form{w w':World}{e:Ending}{er:Int}{V:Nat->VV}{z c:Int}(h:TrAns w w' e er V z c):∃(ao:Option Addr)(k cap:Nat)(z1 c1:Int),e=.returned (.agg #[.int .i64 er,.slice ao k cap,.int .i64 z1,.int .i64 c1]):=by
 rcases h with⟨_,h⟩|⟨h0,g,cg,_,h,_⟩
 ·exact⟨_,_,_,_,_,h⟩
 ·rw[h0];exact⟨_,_,_,_,_,h⟩
theorem prg2_arr(u:World)(x:IV):Arr (u.alloc (.cells #[.int .i64 x.o,.int .i64 x.d,.int .i64 x.a,.int .i64 x.b,.int .i64 x.i,.int .i64 x.h,.int .i64 34,.int .i64 0,.int .i64 0,.int .i64 0,.int .i64 0,.int .i64 0] 30)) u.heap.size (2*6) (insF (prg2 x)):=by
 have h:=hq_new u (.cells #[.int .i64 x.o,.int .i64 x.d,.int .i64 x.a,.int .i64 x.b,.int .i64 x.i,.int .i64 x.h,.int .i64 34,.int .i64 0,.int .i64 0,.int .i64 0,.int .i64 0,.int .i64 0] 30);refine⟨hq_lt h,hq_free h,fun i hi=>(hq_cell h i).trans ?_⟩;have:i=0∨i=1∨i=2∨i=3∨i=4∨i=5∨i=6∨i=7∨i=8∨i=9∨i=10∨i=11:=by omega
 rcases this with rfl|rfl|rfl|rfl|rfl|rfl|rfl|rfl|rfl|rfl|rfl|rfl<;>rfl
theorem lawTr_walk(ao:Option Addr)(n cap:Nat)(ao':Option Addr)(n' cap':Nat)(w:World)(hn:n<=1048576)(hn':n'<=1048576)(hr:Bytes0 w w.heap.size ao n)(hr':Bytes0 w w.heap.size ao' n'):
 Calls Tryz.prog 3 #[.slice ao n cap,.slice ao' n' cap'] w fun e w'=>e=.returned (.bool true)/\Below w.heap.size w w':=by
 have HR:Hid (Bytes0 w w.heap.size ao n):=hr;have HR':Hid (Bytes0 w w.heap.size ao' n'):=hr';have q1:¬(1048576:Int)<(n:Int):=by omega
 have q2:¬(1048576:Int)<(n':Int):=by omega
 clear hr hr';go_enter Tryz.func3,Tryz.ntmps3;go_wp2_with fail;refine(DrawTransfer_any ao n cap w hn HR.out).mono ?_;rintro e w1⟨bH,cH,nH,S,bR,cR,nR,V0,bA,cA,V,z,c,x,rfl,n4,n8,hg,ha,b1⟩;have G1:Hid (SigCp w1 bH nH S bR nR V0):=hg;have A1:Hid (Arr w1 bA (8*6) (vF V)):=ha;have B1:Hid (Below w.heap.size w w1):=b1;clear hg ha b1 HR;unfold IV.c;go_upto_region 4 with fail;obtain⟨w2,hw2,t2⟩:=TL.new (cH:=cH) (cR:=cR) (cA:=cA) (z:=z) (c:=c) (x:=x) B1.out G1.out A1.out;rw[hw2];obtain⟨b,hb⟩:∃y,w1.heap.size=y:=⟨_,rfl⟩
 rw[hb]at t2⊢;have T2:Hid (TL w w2 b bH cH nH S bR cR nR V0 bA cA V z c x):=t2;clear hw2 hb t2 B1 G1 A1;obtain⟨s0,s1,sl⟩:=T2.out.cs;obtain⟨a0,a1,a2,al⟩:=T2.out.ca;obtain⟨i0,i1,i2,i3,i4,i5,jf,jl⟩:=T2.out.QX.cells;go_wp2_with fail;refine(specTx_any bH cH nH S bR cR nR V0 bA cA 8 V z c x.o x.d x.a x.b x.i x.h w2 (by omega) (by omega) (by omega) T2.out.G T2.out.A).mono ?_;rintro e w3⟨V1,z1,c1,hx,b3⟩;obtain⟨er,her⟩:∃y,trE nH S nR V0 8 V z c x.o x.d x.a x.b x.i x.h=y:=⟨_,rfl⟩
 rw[her]at hx;have HER:Hid (trE nH S nR V0 8 V z c x.o x.d x.a x.b x.i x.h=er):=her;obtain⟨ao1,k1,cp1,zz1,cc1,rfl⟩:=tr_form hx;have T3:Hid (TL w w3 b bH cH nH S bR cR nR V0 bA cA V z c x):=T2.out.below b3;clear b3 hx her T2;clear s0 s1 sl a0 a1 a2 al i0 i1 i2 i3 i4 i5 jf jl;go_upto_region 5 with fail;obtain⟨w4,hw4,b4,q4⟩:∃y,w3.alloc (.cells #[.int .i64 er,.slice ao1 k1 cp1,.int .i64 zz1,.int .i64 cc1] 34)=y/\Below w3.heap.size w3 y/\y.heap[w3.heap.size]?=some (.cells #[.int .i64 er,.slice ao1 k1 cp1,.int .i64 zz1,.int .i64 cc1] 34):=⟨_,rfl,(Below.refl _ _).alloc (Nat.le_refl _) _,hq_new _ _⟩
 rw[hw4];obtain⟨b8,hb8⟩:∃y,w3.heap.size=y:=⟨_,rfl⟩
 have T4:Hid (TL w w4 b bH cH nH S bR cR nR V0 bA cA V z c x):=T3.out.below b4;rw[hb8]at q4;rw[hb8];have Q4:Hid (w4.heap[b8]?=some (.cells #[.int .i64 er,.slice ao1 k1 cp1,.int .i64 zz1,.int .i64 cc1] 34)):=q4;clear hw4 b4 q4 hb8 T3;obtain⟨s0,s1,sl⟩:=T4.out.cs;obtain⟨a0,a1,a2,al⟩:=T4.out.ca;obtain⟨i0,i1,i2,i3,i4,i5,jf,jl⟩:=T4.out.QX.cells;go_wp2_with fail;refine(implTransfer_any bH cH nH S bR cR nR V0 bA cA 8 V z c x.o x.d x.a x.b x.i x.h w4 (by omega) (by omega) (by omega) T4.out.G T4.out.A).mono ?_;rintro e w5⟨hx,b5⟩;rw[HER.out]at hx;have T5:Hid (TL w w5 b bH cH nH S bR cR nR V0 bA cA V z c x):=T4.out.below b5;have Q5:Hid (w5.heap[b8]?=some (.cells #[.int .i64 er,.slice ao1 k1 cp1,.int .i64 zz1,.int .i64 cc1] 34)):=hq_below Q4.out b5;clear b5 T4 Q4;clear s0 s1 sl a0 a1 a2 al i0 i1 i2 i3 i4 i5 jf jl;by_cases e0:er=0
 rotate_left
 ·rcases hx with⟨_,rfl⟩|⟨h0,_⟩
  rotate_left
  ·exact absurd h0 e0
  go_upto_region 6 with fail;obtain⟨w6,hw6,b6,q6⟩:∃y,w5.alloc (.cells #[.int .i64 er,.slice none 0 0,.int .i64 0,.int .i64 0] 34)=y/\Below w5.heap.size w5 y/\y.heap[w5.heap.size]?=some (.cells #[.int .i64 er,.slice none 0 0,.int .i64 0,.int .i64 0] 34):=⟨_,rfl,(Below.refl _ _).alloc (Nat.le_refl _) _,hq_new _ _⟩
  rw[hw6];have BB:Hid (Below w.heap.size w w6):=T5.out.bel.trans (b6.mono T5.out.bel.size);have Q6:=hq_below Q5.out b6;have m0:=(hq_cell Q6 0).trans rfl;have ml:=hq_lt Q6;have r0:=(hq_cell q6 0).trans rfl;have r1:=(hq_cell q6 1).trans rfl;have rl:=hq_lt q6;have ee:(er !=er)=false:=by simp
  have e1:(er !=0)=true:=by simp[e0]
  clear Q6 b6 q6 hw6 T5 Q5;go_wp2;go_ret;exact⟨rfl,BB.out⟩
 rcases hx with⟨h0,_⟩|⟨_,g,cg,hgw,rfl,hAr⟩
 ·exact absurd e0 h0
 subst e0;obtain⟨W1,hW1⟩:∃y,trW S V z c x.o x.d x.a x.b x.i x.h=y:=⟨_,rfl⟩
 obtain⟨z2,hz2⟩:∃y,trZ V z c x.o x.a x.b z=y:=⟨_,rfl⟩
 obtain⟨c2,hc2⟩:∃y,trZ V z c x.o x.a x.b c=y:=⟨_,rfl⟩
 rw[hW1]at hAr;rw[hz2,hc2];have HWZ:Hid (trW S V z c x.o x.d x.a x.b x.i x.h=W1/\trZ V z c x.o x.a x.b z=z2/\trZ V z c x.o x.a x.b c=c2):=⟨hW1,hz2,hc2⟩
 have HAR:Hid (Arr w5 g (8*6) (vF W1)):=hAr;clear hW1 hz2 hc2 hAr hgw;go_upto_region 6 with fail;obtain⟨w6,hw6,b6,q6⟩:∃y,w5.alloc (.cells #[.int .i64 0,.slice (some ⟨g,0,none⟩) 8 cg,.int .i64 z2,.int .i64 c2] 34)=y/\Below w5.heap.size w5 y/\y.heap[w5.heap.size]?=some (.cells #[.int .i64 0,.slice (some ⟨g,0,none⟩) 8 cg,.int .i64 z2,.int .i64 c2] 34):=⟨_,rfl,(Below.refl _ _).alloc (Nat.le_refl _) _,hq_new _ _⟩
 rw[hw6];obtain⟨b9,hb9⟩:∃y,w5.heap.size=y:=⟨_,rfl⟩
 have T6:Hid (TL w w6 b bH cH nH S bR cR nR V0 bA cA V z c x):=T5.out.below b6;have A6:Hid (Arr w6 g (8*6) (vF W1)):=HAR.out.below b6 HAR.out.lt;have Q6:Hid (w6.heap[b8]?=some (.cells #[.int .i64 0,.slice ao1 k1 cp1,.int .i64 zz1,.int .i64 cc1] 34)):=hq_below Q5.out b6;rw[hb9]at q6;rw[hb9];have R6:Hid (w6.heap[b9]?=some (.cells #[.int .i64 0,.slice (some ⟨g,0,none⟩) 8 cg,.int .i64 z2,.int .i64 c2] 34)):=q6;have m0:=(hq_cell Q6.out 0).trans rfl;have ml:=hq_lt Q6.out;have r0:=(hq_cell q6 0).trans rfl;have rl:=hq_lt q6;clear hw6 b6 q6 hb9 T5 Q5 HAR;obtain⟨s0,s1,sl⟩:=T6.out.cs;obtain⟨a0,a1,a2,al⟩:=T6.out.ca;obtain⟨i0,i1,i2,i3,i4,i5,jf,jl⟩:=T6.out.QX.cells;obtain⟨hok,hik,o28⟩:=trE_zero HER.out;have HOK:Hid (absOK nH S nR V0 8 V z c=true/\implIns x.o x.d x.a x.b x.i x.h=true/\x.o<=28):=⟨hok,hik,o28⟩
 clear hok hik o28;have R2:Hid (Bytes0 w6 w6.heap.size ao' n'):=by
  rcases HR'.out with h|⟨b,off,h1,h2,h3⟩
  ·exact .inl h
  ·exact .inr ⟨b,off,h1,Nat.lt_of_lt_of_le h2 T6.out.bel.size,fun i hi=>by obtain⟨v,q1,q2,q3⟩:=h3 i hi;exact⟨v,q1,q2,(T6.out.bel.cell (p:=⟨b,off+i,none⟩) h2).trans q3⟩⟩
 clear HR';go_wp2_with fail;refine(DrawFor_any ao' n' cap' bH cH nH S bA cA V z c w6 hn' R2.out T6.out.G.h T6.out.A (by omega) (sig_sizes (abs_iff.1 HOK.out.1).1).2 (abs_iff.1 HOK.out.1).2.2.1).mono ?_;rintro e w7⟨ra,rc,rs,ha,hcp,hs,bz,bc,rfl,hfl,hml,b7⟩;obtain⟨fz,hfz⟩:∃y,decide (0<z)=y:=⟨_,rfl⟩
 obtain⟨fc,hfc⟩:∃y,decide (0<c)=y:=⟨_,rfl⟩
 rw[hfz,hfc]at hml;rw[hfz,hfc];have HAS:Hid (AsV nH S V z c (forM rs hs bz bc fz fc)):=by
  have h:=forM_as (bz:=bz) (bc:=bc) hfl (abs_iff.1 HOK.out.1).2.2.2.1.1 (abs_iff.1 HOK.out.1).2.2.2.2.1;rw[hfz,hfc]at h;exact h
 have HFL:Hid (FitL rs hs nH S V):=hfl;have HML:Hid (ML w6.heap.size ⟨.slice ra rs.length rc,bz,bc,fz,fc,.slice ha hs.length hcp,0,0,.slice none 0 0,rs,hs,[]⟩ w7):=hml;have T7:Hid (TL w w7 b bH cH nH S bR cR nR V0 bA cA V z c x):=T6.out.below b7;have A7:Hid (Arr w7 g (8*6) (vF W1)):=A6.out.below b7 A6.out.lt;have R7:Hid (w7.heap[b9]?=some (.cells #[.int .i64 0,.slice (some ⟨g,0,none⟩) 8 cg,.int .i64 z2,.int .i64 c2] 34)):=hq_below R6.out b7;have w67:=b7.size;clear hfl hml b7 hfz hfc T6 A6 R6 Q6 R2 m0 ml r0 rl;clear s0 s1 sl a0 a1 a2 al i0 i1 i2 i3 i4 i5 jf jl;go_upto_region 11 with fail;obtain⟨w8,hw8,b8',q8⟩:∃y,w7.alloc (.cells #[.slice ra rs.length rc,.bool bz,.bool bc,.bool fz,.bool fc,.slice ha hs.length hcp,.int .i64 0,.int .i64 0,.slice none 0 0] 40)=y/\Below w7.heap.size w7 y/\y.heap[w7.heap.size]?=some (.cells #[.slice ra rs.length rc,.bool bz,.bool bc,.bool fz,.bool fc,.slice ha hs.length hcp,.int .i64 0,.int .i64 0,.slice none 0 0] 40):=⟨_,rfl,(Below.refl _ _).alloc (Nat.le_refl _) _,hq_new _ _⟩
 rw[hw8];obtain⟨bm,hbm⟩:∃y,w7.heap.size=y:=⟨_,rfl⟩
 have T8:Hid (TL w w8 b bH cH nH S bR cR nR V0 bA cA V z c x):=T7.out.below b8';have A8:Hid (Arr w8 g (8*6) (vF W1)):=A7.out.below b8' A7.out.lt;have R8:Hid (w8.heap[b9]?=some (.cells #[.int .i64 0,.slice (some ⟨g,0,none⟩) 8 cg,.int .i64 z2,.int .i64 c2] 34)):=hq_below R7.out b8';have ML8:Hid (ML w6.heap.size ⟨.slice ra rs.length rc,bz,bc,fz,fc,.slice ha hs.length hcp,0,0,.slice none 0 0,rs,hs,[]⟩ w8):=HML.out.below b8'
 rw[hbm]at q8
 rw[hbm]
 have Q8:Hid (w8.heap[bm]?=some (.cells #[.slice ra rs.length rc,.bool bz,.bool bc,.bool fz,.bool fc,.slice ha hs.length hcp,.int .i64 0,.int .i64 0,.slice none 0 0] 40)):=q8
 clear hw8 b8' q8 hbm T7 A7 R7 HML
 obtain⟨gR,gH,gO,hmg⟩:=ML.g (oa:=none) (oc:=0) (os:=[]) ML8.out T8.out.A
 have MG:Hid (MachG w8 ra rc gR rs.length (rL rs) ha hcp gH hs.length (hL hs) (aL hs) (cL hs) none 0 gO 0 (kL []) (vL [])):=hmg
 have SM:Hid (Small rs.length hs.length (hL hs) 0):=ML8.out.small (by show rs.length<=8;have:=HFL.out.nr;omega) (by show hs.length<=8;have:=HFL.out.nh;omega) (by show(0:Nat)<=2;omega)
 have IR:Hid (InRange (rL rs) hs.length (hL hs)):=ML8.out.range
 clear hmg ML8
 obtain⟨x0,x1,x2,x3,x4,x5,x6,x7,x8⟩:=q9 Q8.out
 have xz:=hq_lt Q8.out
 go_wp2_with fail
 refine(specMach_any ra rc gR rs.length bz bc fz fc (rL rs) ha hcp gH hs.length (hL hs) (aL hs) (cL hs) 0 0 none 0 gO 0 (kL []) (vL []) w8 SM.out IR.out.base MG.out).mono ?_
 rintro e w9⟨rfl,b9'⟩
 obtain⟨mb,hmb⟩:∃y,machOK rs.length bz bc fz fc hs.length (hL hs) 0 0 0 (kL [])=y:=⟨_,rfl⟩
 rw[hmb]
 have HMB:Hid (machOK rs.length bz bc fz fc hs.length (hL hs) 0 0 0 (kL [])=mb):=hmb
 have T9:Hid (TL w w9 b bH cH nH S bR cR nR V0 bA cA V z c x):=T8.out.below b9'
 have A9:Hid (Arr w9 g (8*6) (vF W1)):=A8.out.below b9' A8.out.lt
 have R9:Hid (w9.heap[b9]?=some (.cells #[.int .i64 0,.slice (some ⟨g,0,none⟩) 8 cg,.int .i64 z2,.int .i64 c2] 34)):=hq_below R8.out b9'
 have Q9:Hid (w9.heap[bm]?=some (.cells #[.slice ra rs.length rc,.bool bz,.bool bc,.bool fz,.bool fc,.slice ha hs.length hcp,.int .i64 0,.int .i64 0,.slice none 0 0] 40)):=hq_below Q8.out b9'
 have MG9:Hid (MachG w9 ra rc gR rs.length (rL rs) ha hcp gH hs.length (hL hs) (aL hs) (cL hs) none 0 gO 0 (kL []) (vL [])):=MG.out.below b9' (Nat.le_refl _)
 clear hmb b9' T8 A8 R8 Q8 MG x0 x1 x2 x3 x4 x5 x6 x7 x8 xz
 cases mb with
 |false=>
  go_wp2
  go_ret
  exact⟨rfl,T9.out.bel⟩
 |true=>
 obtain⟨s0,s1,sl⟩:=T9.out.cs
 obtain⟨a0,a1,a2,al⟩:=T9.out.ca
 obtain⟨i0,i1,i2,i3,i4,i5,jf,jl⟩:=T9.out.QX.cells
 obtain⟨wa,hwa,ba,pa⟩:∃y,w9.alloc (.cells #[.int .i64 x.o,.int .i64 x.d,.int .i64 x.a,.int .i64 x.b,.int .i64 x.i,.int .i64 x.h,.int .i64 34,.int .i64 0,.int .i64 0,.int .i64 0,.int .i64 0,.int .i64 0] 30)=y/\Below w9.heap.size w9 y/\Arr y w9.heap.size (2*6) (insF (prg2 x)):=⟨_,rfl,(Below.refl _ _).alloc (Nat.le_refl _) _,prg2_arr _ _⟩
 obtain⟨x0,x1,x2,x3,x4,x5,x6,x7,x8⟩:=q9 (hq_below Q9.out ba)
 have xz:=hq_lt (hq_below Q9.out ba)
 go_wp2_with fail
 try rw[hwa]
 have TA:Hid (TL w wa b bH cH nH S bR cR nR V0 bA cA V z c x):=T9.out.below ba
 have AA:Hid (Arr wa g (8*6) (vF W1)):=A9.out.below ba A9.out.lt
 have RA:Hid (wa.heap[b9]?=some (.cells #[.int .i64 0,.slice (some ⟨g,0,none⟩) 8 cg,.int .i64 z2,.int .i64 c2] 34)):=hq_below R9.out ba
 have MGA:Hid (MachG wa ra rc gR rs.length (rL rs) ha hcp gH hs.length (hL hs) (aL hs) (cL hs) none 0 gO 0 (kL []) (vL [])):=MG9.out.below ba (Nat.le_refl _)
 clear x0 x1 x2 x3 x4 x5 x6 x7 x8 xz T9 A9 R9 Q9 MG9
 clear s0 s1 sl a0 a1 a2 al i0 i1 i2 i3 i4 i5 jf jl
 refine(implStep_any w9.heap.size 2 2 (prg2 x) ra rc gR rs.length (rL rs) bz bc fz fc ha hcp gH hs.length (hL hs) (aL hs) (cL hs) 0 0 none 0 gO 0 (kL []) (vL []) wa (by omega) pa SM.out IR.out MGA.out).mono ?_
 rintro e wb⟨v,rfl,bb,hans⟩
 obtain⟨hst,hmo,has⟩:=step_two (M:=forM rs hs bz bc fz fc) HER.out (mach_ok HMB.out IR.out) HAS.out rfl rfl
 obtain⟨M,hM⟩:∃y,stepM 2 (prg2 x) (forM rs hs bz bc fz fc)=y:=⟨_,rfl⟩
 have hstep:stepA 2 (prg2 x) rs.length (forM rs hs bz bc fz fc)=some M:=by
  unfold stepA
  rw[prg2_ok HOK.out.2.1 HOK.out.2.2]
  show(if(true&&machOK rs.length bz bc fz fc hs.length (hL hs) 0 0 0 (kL []))=true then some (if(0:Int)=0 then stepM 2 (prg2 x) (forM rs hs bz bc fz fc)else _)else none)=_
  rw[HMB.out,hM]
  rfl
 have hans2:Ans wb wa.heap.size v (some M):=by rw[<-hstep];exact hans
 rw[hM,HWZ.out.1,HWZ.out.2.1,HWZ.out.2.2]at has
 rw[hM]at hst hmo
 obtain⟨pl,rfl,hmem⟩:=hans2
 have HM:Hid (Mem wb wa.heap.size pl M):=hmem
 have HO:Hid (M.Ok):=hmo
 have HV:Hid (AsV nH S W1 z2 c2 M):=has
 have TB:Hid (TL w wb b bH cH nH S bR cR nR V0 bA cA V z c x):=TA.out.below bb
 have AB:Hid (Arr wb g (8*6) (vF W1)):=AA.out.below bb AA.out.lt
 have RB:Hid (wb.heap[b9]?=some (.cells #[.int .i64 0,.slice (some ⟨g,0,none⟩) 8 cg,.int .i64 z2,.int .i64 c2] 34)):=hq_below RA.out bb
 have HNO:Hid (absOK nH S nR V0 8 W1 z2 c2=true):=by
  have h:=out_ok HOK.out.1 HOK.out.2.1 HOK.out.2.2
  rw[HWZ.out.1,HWZ.out.2.1,HWZ.out.2.2]at h
  exact h
 obtain⟨Bs,hBs⟩:∃y,wa.heap.size=y:=⟨_,rfl⟩
 rw[hBs]at HM
 have HST:Hid (M.st=0):=hst
 clear hans hstep hM hmo has hmem bb TA AA RA MGA HAS HFL SM IR HMB HWZ ba pa hwa hBs hst HER
 unfold mVal
 go_upto_region 14 with fail
 obtain⟨wc,hwc,bc',qc⟩:∃y,wb.alloc (.cells #[.slice (some ⟨pl.bR,0,none⟩) 8 pl.cR,.bool M.z,.bool M.c,.bool M.hz,.bool M.hc,.slice pl.aH M.nH pl.cH,.int .i64 M.pc,.int .i64 M.st,.slice pl.aO M.nO pl.cO] 40)=y/\Below wb.heap.size wb y/\y.heap[wb.heap.size]?=some (.cells #[.slice (some ⟨pl.bR,0,none⟩) 8 pl.cR,.bool M.z,.bool M.c,.bool M.hz,.bool M.hc,.slice pl.aH M.nH pl.cH,.int .i64 M.pc,.int .i64 M.st,.slice pl.aO M.nO pl.cO] 40):=⟨_,rfl,(Below.refl _ _).alloc (Nat.le_refl _) _,hq_new _ _⟩
 rw[hwc]
 obtain⟨bn,hbn⟩:∃y,wb.heap.size=y:=⟨_,rfl⟩
 have TC:Hid (TL w wc b bH cH nH S bR cR nR V0 bA cA V z c x):=TB.out.below bc'
 have AC:Hid (Arr wc g (8*6) (vF W1)):=AB.out.below bc' AB.out.lt
 have RC:Hid (wc.heap[b9]?=some (.cells #[.int .i64 0,.slice (some ⟨g,0,none⟩) 8 cg,.int .i64 z2,.int .i64 c2] 34)):=hq_below RB.out bc'
 have MC:Hid (Mem wc Bs pl M):=HM.out.below bc'
 rw[hbn]at qc
 rw[hbn]
 have QC:Hid (wc.heap[bn]?=some (.cells #[.slice (some ⟨pl.bR,0,none⟩) 8 pl.cR,.bool M.z,.bool M.c,.bool M.hz,.bool M.hc,.slice pl.aH M.nH pl.cH,.int .i64 M.pc,.int .i64 M.st,.slice pl.aO M.nO pl.cO] 40)):=qc
 clear hwc bc' qc hbn TB AB RB HM
 obtain⟨x0,x1,x2,x3,x4,x5,x6,x7,x8⟩:=q9 QC.out
 have xz:=hq_lt QC.out
 have r1:=(hq_cell RC.out 1).trans rfl
 have r2:=(hq_cell RC.out 2).trans rfl
 have r3:=(hq_cell RC.out 3).trans rfl
 have rl:=hq_lt RC.out
 obtain⟨s0,s1,sl⟩:=TC.out.cs
 obtain⟨a0,a1,a2,al⟩:=TC.out.ca
 obtain⟨i0,i1,i2,i3,i4,i5,jf,jl⟩:=TC.out.QX.cells
 have est:(M.st==0)=true:=by simp[HST.out]
 go_wp2_with fail
 have hlr:=lwRegs_any g cg W1 z2 c2 Bs pl M nH S wc AC.out MC.out (fun i hi=>by rw[HV.out.nh];exact(abs_iff.1 HNO.out).2.2.1 i hi) HV.out HO.out.reg (fun i hi=>⟨(HO.out.heap i hi).1,by have:=(HO.out.heap i hi).2.2.2;have:=(HO.out.heap i hi).2.1;omega⟩)
 unfold mA at hlr
 refine hlr.mono ?_
 rintro e wd⟨rfl,bd⟩
 have TD:Hid (TL w wd b bH cH nH S bR cR nR V0 bA cA V z c x):=TC.out.below bd
 have AD:Hid (Arr wd g (8*6) (vF W1)):=AC.out.below bd AC.out.lt
 have RD:Hid (wd.heap[b9]?=some (.cells #[.int .i64 0,.slice (some ⟨g,0,none⟩) 8 cg,.int .i64 z2,.int .i64 c2] 34)):=hq_below RC.out bd
 clear hlr bd x0 x1 x2 x3 x4 x5 x6 x7 x8 xz r1 r2 r3 rl TC AC RC MC QC
 clear s0 s1 sl a0 a1 a2 al i0 i1 i2 i3 i4 i5 jf jl
 have r1:=(hq_cell RD.out 1).trans rfl
 have r2:=(hq_cell RD.out 2).trans rfl
 have r3:=(hq_cell RD.out 3).trans rfl
 have rl:=hq_lt RD.out
 obtain⟨s0,s1,sl⟩:=TD.out.cs
 obtain⟨a0,a1,a2,al⟩:=TD.out.ca
 obtain⟨i0,i1,i2,i3,i4,i5,jf,jl⟩:=TD.out.QX.cells
 go_wp2_with fail
 refine(specAbs_any bH cH nH S bR cR nR V0 g cg 8 W1 z2 c2 wd (by omega) (by omega) (by omega) TD.out.G AD.out).mono ?_
 rintro e we⟨rfl,be⟩
 rw[HNO.out]
 have BE:Hid (Below w.heap.size w we):=TD.out.bel.trans (be.mono TD.out.bel.size)
 clear be
 go_wp2
 go_ret
 exact⟨rfl,BE.out⟩
end Go.Proofs.YtbahofiiaodpdaaGreat
namespace Go.Proofs.YtbahofiiaodpdaaGreat
open Go.ChangeShapes Go.WideShapes Go.ChangeAt Go.RowKit Go.Deep
theorem lawTr_great(ao:Option Addr)(n cap:Nat)(ao':Option Addr)(n' cap':Nat)(w:World)(h:1048576<n∨1048576<n')(hm:n<=maxLen)(hm':n'<=maxLen):
 Calls Tryz.prog 3 #[.slice ao n cap,.slice ao' n' cap'] w fun e w'=>e=.returned (.bool true)/\Below w.heap.size w w':=by
 unfold maxLen at hm hm';by_cases h1:1048576<n
 ·have h':(1048576:Int)<n:=by omega
  clear h;go_enter Tryz.func3,Tryz.ntmps3;go_wp2;go_ret;exact⟨rfl,Below.refl _ _⟩
 ·have h2:¬(1048576:Int)<n:=by omega
  have h':(1048576:Int)<n':=by omega
  clear h;go_enter Tryz.func3,Tryz.ntmps3;go_wp2;go_ret;exact⟨rfl,Below.refl _ _⟩
theorem fr_u8:Tryz.prog.cellsOf 5=1:=by kernel_rfl
theorem fr_wf{n:Int}(h:(Lit.int .u8 n).wf=true):0<=n/\n<=255:=by
 simpa[Lit.wf,IntKind.min,IntKind.max,IntKind.signed,IntKind.bits]using h
theorem fr_open{H:Type}{enc:TypeId×Value->H}{w:World}{base:Nat}{spare:Nat->Bool}{held:Bool}{fuel:Nat}{ao:Option Addr}{len cap:Nat}{x:DataW H×List MemPlace}
 (h:DataW.trod enc Tryz.prog w base spare held fuel 22 [.slice ao len cap]=some x):len<=maxLen/\Bytes0 w w.heap.size ao len:=by
 obtain⟨hm,f,hin,hel⟩:=open_row Tryz.underlying22 fr_u8 (by omega) h;refine⟨hm,?_⟩;rw[Nat.mul_one]at hin;rcases hin with h0|⟨b,off,h1,h2⟩
 ·exact .inl h0
 ·refine .inr ⟨b,off,h1,h2.lt,fun i hi=>?_⟩
  obtain⟨n,y,hy⟩:=hel i hi;simp[List.range,List.range.loop]at hy;obtain⟨r,e1,_,wb⟩:=DataW.trod_int Tryz.underlying5 hy;simp at e1;exact⟨r,(fr_wf wb).1,(fr_wf wb).2,by rw[h2.cell hi,e1]⟩
theorem fnTransfer_lifted(os:Os)(started:os.Started)(H:Type)(enc:TypeId×Value->H):
 ReturnsInHanded {} Tryz.checked os 3 .any (Rows.fnTransferSpec.pre6 enc Tryz.prog Tryz.f3 Rows.fnTransferRow.domain false) (Rows.fnTransferSpec.post enc Tryz.prog Tryz.f3 false true false false):=by
 refine returnsInHanded_of_change (C:=Tryz.checked) (by kernel_rfl:ownKnob Tryz.prog.godebug=none) started (by kernel_rfl) Tryz.func3
  (ChangeSpec.witness6 (enc:=enc) (C:=Tryz.checked) false ⟨#[],#[.slice none 0 0,.slice none 0 0],[]⟩ 8 (by kernel_rfl) (by kernel_rfl) (by kernel_rfl) (by kernel_rfl)) ?_
 intro W base args ds gs before hval0 hW _ _;have hval:∀(j:Nat)t v,Tryz.f3.params[j]?=some t->args[j]?=some v->Value.okWide Tryz.prog W .any base t v:=hval0;have hW':=hW;obtain⟨p,q,hA0,hV,rfl,_,_⟩:=hW;have hA:DataW.TrodAll enc Tryz.prog W 0 (fun _=>true) true Tryz.f3.params.toList args.toList ds p:=hA0;rw[Tryz.params3]at hA hval;obtain⟨v0,v1,d0,d1,p0,p1,rfl,rfl,rfl,h0,h1⟩:=trodAll_two hA;obtain⟨rfl,rfl⟩:=trodVars_none hV;obtain⟨ao0,n0,cap0,rfl⟩:=okWide_slice Tryz.underlying22 (hval 0 22 v0 rfl rfl);obtain⟨ao1,n1,cap1,rfl⟩:=okWide_slice Tryz.underlying22 (hval 1 22 v1 rfl rfl);have k0:=h0;have lt0:∀x∈p0,x.block<W.heap.size:=by obtain⟨m,hm⟩:=k0;exact DataW.trod_lt m _ _ _ hm
 obtain⟨fuel0,hf0⟩:=h0;obtain⟨m0,b0⟩:=fr_open (by simpa[Value.cells]using hf0);have k1:=h1;have lt1:∀x∈p1,x.block<W.heap.size:=by obtain⟨m,hm⟩:=k1;exact DataW.trod_lt m _ _ _ hm
 obtain⟨fuel1,hf1⟩:=h1;obtain⟨m1,b1⟩:=fr_open (by simpa[Value.cells]using hf1);clear hA0 hval0;have fin:∀(e:Ending)(W':World),e=.returned (.bool true)/\Below W.heap.size W W'->∃v,e=.returned v/\Rows.fnTransferSpec.post enc Tryz.prog Tryz.f3 false true false false W #[.slice ao0 n0 cap0,.slice ao1 n1 cap1] v W':=by
  rintro e W'⟨he,bel⟩;subst he;exact⟨_,rfl,_,_,_,[],_,[],hW',trodAll_mk1 (shut_bool Tryz.underlying4 _),trodAll_mk2 (Below.trod (by kernel_rfl:laidOutB Tryz.prog=true) (by kernel_rfl) (of_decide_eq_true (by kernel_rfl)) k0 bel lt0) (Below.trod (by kernel_rfl:laidOutB Tryz.prog=true) (by kernel_rfl) (of_decide_eq_true (by kernel_rfl)) k1 bel lt1),rfl,bel.frame _,fun h=>by cases h⟩
 by_cases hl:n0<=1048576/\n1<=1048576
 ·exact(lawTr_walk ao0 n0 cap0 ao1 n1 cap1 W hl.1 hl.2 b0 b1).mono fin
 ·exact(lawTr_great ao0 n0 cap0 ao1 n1 cap1 W (by omega) m0 m1).mono fin
theorem fnTransfer_holds:Rows.FnTransferSaid:=
 OpenClaim.holds_of_wide 3 Tryz.f3 rfl rfl rfl rfl rfl rfl rfl ⟨rfl,rfl,rfl,rfl,rfl⟩ rfl rfl rfl rfl rfl (by kernel_rfl) Tryz.func3 (by kernel_rfl)
  (of_decide_eq_true (by kernel_rfl)) (by unfold Func.isWrapper;first|(rw[if_pos (by decide+kernel)];kernel_rfl)|(rw[if_neg (by decide+kernel)];exact⟨rfl,rfl⟩))
  (fun os started H enc _=>fnTransfer_lifted os started H enc)
end Go.Proofs.YtbahofiiaodpdaaGreat
