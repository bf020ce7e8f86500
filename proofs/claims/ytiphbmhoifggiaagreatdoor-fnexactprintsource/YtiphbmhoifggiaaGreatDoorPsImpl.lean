import Derived.Test.YtiphbmhoifggiaaGreatDoorOfPsTree
import Derived.Test.YtiphbmhoifggiaaGreatDoorUnitCheck
set_option maxHeartbeats 32000000
set_option maxRecDepth 20000
namespace Go.Proofs.YtiphbmhoifggiaaGreatDoor
open Go.RowKit
theorem addP_any(w0:World)(pb sb nb ob mb:Nat)(L:Nat->SV)(me procs deep:Int)(S:Nat->Prop)(hlb:w0.heap.size<=pb)(sc:SC w0 sb nb ob mb 1)(ls:sb<pb)(lnb:nb<pb)(lmb:mb<pb)(tb:TB pb w0)(hpr:procs<=100):∀(m i te:Nat)(depth:Int)(tv:Value),RepN L m w0 S tv i te->i<=te->te<=500->(chk L me procs deep i te depth).1=0->AddP w0 pb sb L i te tv:=by
 intro m;induction m with
 |zero=>
  intro i te depth tv hr hit hte hck;obtain⟨h1,rfl⟩:=hr;obtain rfl:i=te:=by omega
  exact addP_go w0 pb sb nb ob mb L 0 i i me procs deep depth (.slice none 0 0) S hlb sc ls lnb lmb tb ⟨[],⟨World.ownsRow_nil _ _ _ _,fun b h=>by cases h⟩,by rw[tops_end (by omega)];rfl,fun k x p h=>by simp at h⟩ hit hpr hte hck (fun i' te' d v h1 h2 h3=>by omega)
 |succ m ih=>
  intro i te depth tv hr hit hte hck;exact addP_go w0 pb sb nb ob mb L m i te me procs deep depth tv S hlb sc ls lnb lmb tb hr hit hpr hte hck (fun i' te' d v h1 h2 h3 h4 h5=>ih i' te' d v h5 h2 (by omega) h4)
theorem row_base{w:World}{B B' e n:Nat}{v:Value}{xs:List Value}(h:w.ownsRow B e 1 v n xs)(hb:B'<=B):w.ownsRow B' e 1 v n xs:=by
 refine⟨h.1,?_⟩;rcases h.2 with h'|⟨g,cap,cur,h1,h2,h3⟩
 ·exact .inl h'
 ·exact .inr ⟨g,cap,cur,h1,Nat.le_trans hb h2,h3⟩
theorem dial_line(d:Int)(h:d=0∨d=1):lnT [bs [100,105,97,108,101,99,116],bs (if d=1 then[109,97,115,109]else[103,97,115])]=headT d:=by
 rw[lnT2];rcases h with rfl|rfl<;>rfl
theorem heap_line(h:HS):lnT [bs [104,101,97,112],bs (Lib.itoa h.size),bs (wordT h.s),bs (if h.w=true then[119,114,105,116,101]else[114,101,97,100])]=heapT h:=by
 rw[lnT4];unfold heapT;cases h.w<;>simp
theorem implSrc_bad(bH cH nH:Nat)(S:Nat->HS)(bR cR nR:Nat)(V:Nat->VV)(bp np cp:Nat)(Pv:Nat->PV)(blk:Nat->Nat)(d:Int)(w:World)(lH:nH<=1048576)(lR:nR<=1048576)(ln:np<=1048576)(lb:∀i,i<np->(Pv i).n<=1048576)(h1:SigCp w bH nH S bR nR V)(h2:PCp w bp np Pv blk)(hok:srcOK d nH S nR V np Pv=false):
 Calls Tryz.prog 7 #[.agg #[.int .i64 d,.slice (some ⟨bH,0,none⟩) nH cH,.slice (some ⟨bR,0,none⟩) nR cR,.slice (some ⟨bp,0,none⟩) np cp]] w fun e w'=>∃v,e=.returned v/\w'.ownsRow w.heap.size 5 1 v (([]:List UInt8)).length (Lib.byteCells (([]:List UInt8)))/\Below w.heap.size w w':=by
 go_enter Tryz.func7,Tryz.ntmps7;go_upto_region 1 with fail;obtain⟨u,hu,hbu,hsb⟩:∃x,w.alloc (.cells #[.int .i64 d,.slice (some ⟨bH,0,none⟩) nH cH,.slice (some ⟨bR,0,none⟩) nR cR,.slice (some ⟨bp,0,none⟩) np cp] 38)=x/\Below w.heap.size w x/\SB x w.heap.size d bH cH nH S bR cR nR V bp np cp Pv blk:=⟨_,rfl,(Below.refl _ _).alloc (Nat.le_refl _) _,Cl.new,h1.below ((Below.refl _ _).alloc (Nat.le_refl _) _),h2.below ((Below.refl _ _).alloc (Nat.le_refl _) _)⟩
 rw[hu];clear hu h1 h2;obtain⟨sb,hsz⟩:∃x,w.heap.size=x:=⟨_,rfl⟩
 rw[hsz]at hsb⊢;have HSB:Hid (SB u sb d bH cH nH S bR cR nR V bp np cp Pv blk):=hsb;have BU:Hid (Below w.heap.size w u):=hbu;have LB:Hid (∀i,i<np->(Pv i).n<=1048576):=lb;have HSZ:Hid (w.heap.size=sb):=hsz;obtain⟨q0,q1,q2,q3⟩:=sb_c hsb;have sl:=hsb.c.1;clear hbu hsb lb hsz;have fin:∀w1,Below w.heap.size w w1->(∃v,Ending.returned (.slice (some ⟨w1.heap.size,0,none⟩) 0 0)=.returned v/\(w1.alloc (.cells #[] 5)).ownsRow w.heap.size 5 1 v ([]:List UInt8).length (Lib.byteCells [])/\Below w.heap.size w (w1.alloc (.cells #[] 5))):=fun w1 h1=>
  ⟨_,rfl,⟨rfl,Or.inr ⟨_,0,#[],rfl,h1.size,heap_alloc_newB w1 _,Nat.le_refl _,Nat.zero_le _,rfl,rfl⟩⟩,h1.alloc h1.size _⟩
 have FIN:Hid _:=fin;clear fin;have HOK:Hid (srcOK d nH S nR V np Pv=false):=hok;clear hok;cases hd:inB d 0 1 with
 |false=>
  go_wp2_with fail;refine(isDialect_any _ _).mono ?_;rintro e w2⟨rfl,hw2⟩;rw[hw2,hd];clear hw2 hd;go_wp2_with fail;go_ret;exact FIN.out _ BU.out
 |true=>
  have HD:Hid (decide ((0:Int)<=d/\d<=1)=true):=(by unfold inB at hd;simp at hd⊢;exact hd:decide ((0:Int)<=d/\d<=1)=true)
  go_wp2_with fail;refine(isDialect_any _ _).mono ?_;rintro e w2⟨rfl,hw2⟩;rw[hw2,hd];clear hw2 hd;go_wp2_with fail;refine(implSig_any bH cH nH S bR cR nR V _ lH lR HSB.out.s).mono ?_;rintro e w3⟨rfl,hb3⟩;have B3:Hid (Below w.heap.size w w3):=BU.out.trans (hb3.mono BU.out.size);have HS3:Hid (SB w3 sb d bH cH nH S bR cR nR V bp np cp Pv blk):=HSB.out.below hb3;clear hb3 q0 q1 q2 q3;obtain⟨q0,q1,q2,q3⟩:=sb_c HS3.out;cases hs:sigOK nH S nR V with
  |false=>
   clear hs;go_wp2_with fail;go_ret;exact FIN.out _ B3.out
  |true=>
   have HSG:Hid (sigOK nH S nR V=true):=hs;clear hs;go_wp2_with fail;refine(checkUnit_any bp np cp Pv blk _ ln LB.out HS3.out.p).mono ?_;rintro e w4⟨aot,kt,ct,aoz,kz,cz,rfl,hb4,_⟩;have B4:Hid (Below w.heap.size w w4):=B3.out.trans (hb4.mono B3.out.size);clear hb4 q0 q1 q2 q3;have hne:((unitR Pv np).1 !=0)=true:=by
    have:=HOK.out;unfold srcOK at this;rw[HD.out,HSG.out]at this;simpa using this
   go_upto_region 4 with fail;obtain⟨w5,hw5,hb5,hc5⟩:∃y,w4.alloc (.cells #[.int .i64 (unitR Pv np).1,.int .i64 (unitR Pv np).2.1,.int .i64 (unitR Pv np).2.2,.slice aot kt ct,.slice aoz kz cz] 68)=y/\Below w4.heap.size w4 y/\y.heap[w4.heap.size]?=some (.cells #[.int .i64 (unitR Pv np).1,.int .i64 (unitR Pv np).2.1,.int .i64 (unitR Pv np).2.2,.slice aot kt ct,.slice aoz kz cz] 68):=⟨_,rfl,(Below.refl _ _).alloc (Nat.le_refl _) _,heap_new _ _⟩
   rw[hw5];have B5:Hid (Below w.heap.size w w5):=B4.out.trans (hb5.mono B4.out.size);have c0:=heap_cell hc5 0;clear hw5 hb5 hc5;go_wp2_with fail;go_ret;exact FIN.out _ B5.out
theorem implSrc_ok(bH cH nH:Nat)(S:Nat->HS)(bR cR nR:Nat)(V:Nat->VV)(bp np cp:Nat)(Pv:Nat->PV)(blk:Nat->Nat)(d:Int)(w:World)(lH:nH<=1048576)(lR:nR<=1048576)(ln:np<=1048576)(lb:∀i,i<np->(Pv i).n<=1048576)(h1:SigCp w bH nH S bR nR V)(h2:PCp w bp np Pv blk)(hok:srcOK d nH S nR V np Pv=true)(ht1:Lib.TabIs Tryz.prog w "internal/strconv.uint64pow10" .u64 Lib.pow10Tab)(ht2:Lib.TabIs Tryz.prog w "strings.asciiSpace" .u8 Lib.asciiSpaceTab):
 Calls Tryz.prog 7 #[.agg #[.int .i64 d,.slice (some ⟨bH,0,none⟩) nH cH,.slice (some ⟨bR,0,none⟩) nR cR,.slice (some ⟨bp,0,none⟩) np cp]] w fun e w'=>∃v,e=.returned v/\w'.ownsRow w.heap.size 5 1 v (srcT d nH S V np Pv).length (Lib.byteCells (srcT d nH S V np Pv))/\Below w.heap.size w w':=by
 have T1:Hid (Lib.TabBelow Tryz.prog w.heap.size w "internal/strconv.uint64pow10" .u64 Lib.pow10Tab):=Lib.tabBelow_of_tabIs ht1;have T2:Hid (Lib.TabBelow Tryz.prog w.heap.size w "strings.asciiSpace" .u8 Lib.asciiSpaceTab):=Lib.tabBelow_of_tabIs ht2;clear ht1 ht2;obtain⟨R,hR⟩:∃x,srcT d nH S V np Pv=x:=⟨_,rfl⟩
 rw[hR];have HR:Hid (srcT d nH S V np Pv=R):=hR;clear hR;go_enter Tryz.func7,Tryz.ntmps7;go_upto_region 1 with fail;obtain⟨u,hu,hbu,hsb⟩:∃x,w.alloc (.cells #[.int .i64 d,.slice (some ⟨bH,0,none⟩) nH cH,.slice (some ⟨bR,0,none⟩) nR cR,.slice (some ⟨bp,0,none⟩) np cp] 38)=x/\Below w.heap.size w x/\SB x w.heap.size d bH cH nH S bR cR nR V bp np cp Pv blk:=⟨_,rfl,(Below.refl _ _).alloc (Nat.le_refl _) _,Cl.new,h1.below ((Below.refl _ _).alloc (Nat.le_refl _) _),h2.below ((Below.refl _ _).alloc (Nat.le_refl _) _)⟩
 rw[hu];clear hu h1 h2;obtain⟨sb,hsz⟩:∃x,w.heap.size=x:=⟨_,rfl⟩
 rw[hsz]at hsb⊢;have HSB:Hid (SB u sb d bH cH nH S bR cR nR V bp np cp Pv blk):=hsb;have BU:Hid (Below w.heap.size w u):=hbu;have LB:Hid (∀i,i<np->(Pv i).n<=1048576):=lb;have HSZ:Hid (w.heap.size=sb):=hsz;obtain⟨q0,q1,q2,q3⟩:=sb_c hsb;have sl:=hsb.c.1;clear hbu hsb lb hsz;obtain⟨hd,g⟩:=src_good hok;have HD:Hid (d=0∨d=1):=hd;have G:Hid (SrcG nH S nR V np Pv):=g;have h8:=g.h8;have p20:=g.p20;have hnR:=g.r8;subst hnR;have hdd:inB d 0 1=true:=by rcases hd with rfl|rfl<;>rfl
 have HSG:Hid (sigOK nH S 8 V=true):=(by unfold srcOK at hok;simp only[Bool.and_eq_true]at hok;exact hok.1.2:sigOK nH S 8 V=true)
 have h0:(unitR Pv np).1=0:=by unfold srcOK at hok;simp only[Bool.and_eq_true,decide_eq_true_eq]at hok;exact hok.2
 have H0:Hid ((unitR Pv np).1=0):=h0;clear hd g hok h0;go_wp2_with fail;refine(isDialect_any _ _).mono ?_;rintro e w2⟨rfl,hw2⟩;rw[hw2,hdd];clear hw2 hdd;go_wp2_with fail;refine(implSig_any bH cH nH S bR cR 8 V _ lH lR HSB.out.s).mono ?_;rintro e w3⟨rfl,hb3⟩;rw[HSG.out];have B3:Hid (Below w.heap.size w w3):=BU.out.trans (hb3.mono BU.out.size);have HS3:Hid (SB w3 sb d bH cH nH S bR cR 8 V bp np cp Pv blk):=HSB.out.below hb3;clear hb3 q0 q1 q2 q3 HSG HSB BU sl;obtain⟨q0,q1,q2,q3⟩:=sb_c HS3.out;go_wp2_with fail;refine(checkUnit_any bp np cp Pv blk _ ln LB.out HS3.out.p).mono ?_;rintro e w4⟨aot,kt,ct,aoz,kz,cz,rfl,hb4,hun⟩;obtain⟨gt,cgt,zb,hv1,hv2,z1,z2,z3,az,vs,hat,hrep⟩:=hun H0.out;obtain⟨e1,e2,e3⟩:=Value.slice.inj hv1;subst e1;have e2':=e2.symm;subst e2';subst e3;obtain⟨e4,e5,e6⟩:=Value.slice.inj hv2;subst e4;have e5':=e5.symm;subst e5';have e6':=e6.symm;subst e6';have B4:Hid (Below w.heap.size w w4):=B3.out.trans (hb4.mono B3.out.size);have HS4:Hid (SB w4 sb d bH cH nH S bR cR 8 V bp np cp Pv blk):=HS3.out.below hb4;have A4:Hid (At w4 gt 0 np vs):=hat;have R4:Hid (∀i,i<np->RepN (Pv i).L ((Pv i).n+1) w4 (fun b=>w3.heap.size<=b/\b≠zb) (vs i) 0 (Pv i).n):=hrep;rw[H0.out];clear hb4 q0 q1 q2 q3 HS3 B3 LB hun hv1 hv2 z1 z2 z3 az hat hrep e2 e5 e6;go_upto_region 4 with fail;obtain⟨w5,hw5,hb5,hc5⟩:∃y,w4.alloc (.cells #[.int .i64 0,.int .i64 (unitR Pv np).2.1,.int .i64 (unitR Pv np).2.2,.slice (some ⟨gt,0,none⟩) np ct,.slice (some ⟨zb,0,none⟩) np np] 68)=y/\Below w4.heap.size w4 y/\Cl y w4.heap.size [.int .i64 0,.int .i64 (unitR Pv np).2.1,.int .i64 (unitR Pv np).2.2,.slice (some ⟨gt,0,none⟩) np ct,.slice (some ⟨zb,0,none⟩) np np]:=⟨_,rfl,(Below.refl _ _).alloc (Nat.le_refl _) _,Cl.new⟩
 rw[hw5];obtain⟨ub,hub⟩:∃y,w4.heap.size=y:=⟨_,rfl⟩
 rw[hub]at hc5⊢;have B5:Hid (Below w.heap.size w w5):=B4.out.trans (hb5.mono B4.out.size);have HS5:Hid (SB w5 sb d bH cH nH S bR cR 8 V bp np cp Pv blk):=HS4.out.below hb5;have A5:Hid (At w5 gt 0 np vs):=A4.out.below hb5 A4.out.lt;have R5:Hid (∀i,i<np->RepN (Pv i).L ((Pv i).n+1) w5 (fun b=>w3.heap.size<=b/\b≠zb) (vs i) 0 (Pv i).n):=fun i hi=>(R4.out i hi).below hb5
 have U5:Hid (Cl w5 ub [.int .i64 0,.int .i64 (unitR Pv np).2.1,.int .i64 (unitR Pv np).2.2,.slice (some ⟨gt,0,none⟩) np ct,.slice (some ⟨zb,0,none⟩) np np]):=hc5;have c0:w5.cell? ⟨ub,0,none⟩=some (.int .i64 0):=hc5.2 0 (by simp);clear hw5 hb5 hc5 hub B4 HS4 A4 R4;go_wp2_with fail;refine(newScribe_any 1 w5 (T2.out w5 B5.out)).mono ?_;rintro e w6⟨kb,nb,ob,mb,rfl,sc,hb6,lk,lnb,lmb,_,_,_,_,_,_⟩;have B6:Hid (Below w.heap.size w w6):=B5.out.trans (hb6.mono B5.out.size);have HS6:Hid (SB w6 sb d bH cH nH S bR cR 8 V bp np cp Pv blk):=HS5.out.below hb6;have A6:Hid (At w6 gt 0 np vs):=A5.out.below hb6 A5.out.lt;have R6:Hid (∀i,i<np->RepN (Pv i).L ((Pv i).n+1) w6 (fun b=>w3.heap.size<=b/\b≠zb) (vs i) 0 (Pv i).n):=fun i hi=>(R5.out i hi).below hb6
 have U6:Hid (Cl w6 ub [.int .i64 0,.int .i64 (unitR Pv np).2.1,.int .i64 (unitR Pv np).2.2,.slice (some ⟨gt,0,none⟩) np ct,.slice (some ⟨zb,0,none⟩) np np]):=U5.out.below hb6;have SC6:Hid (SC w6 kb nb ob mb 1):=sc;have TB6:Hid (TB w6.heap.size w6):=⟨Lib.tabBelow_of_tabIs (T1.out w6 B6.out),Lib.tabBelow_of_tabIs (T2.out w6 B6.out)⟩
 clear hb6 sc c0 B5 HS5 A5 R5 U5;go_upto_region 7 with fail;obtain⟨w7,hw7,hb7,P7'⟩:∃y,w6.alloc (.cells #[.slice none 0 0,.pointer (some ⟨kb,0,none⟩)] 74)=y/\Below w6.heap.size w6 y/\PW w6.heap.size kb (.slice none 0 0) [] y:=⟨_,rfl,(Below.refl _ _).alloc (Nat.le_refl _) _,by simp[go_sem],by simp[go_sem],by simp,fun i=>by simp[go_sem],World.ownsRow_nil _ _ _ _⟩
 rw[hw7];obtain⟨pb,hpb⟩:∃y,w6.heap.size=y:=⟨_,rfl⟩
 have B7:Hid (Below w6.heap.size w6 w7):=hb7;rw[hpb]at P7' lk lnb lmb TB6 hb7⊢;have P7:Hid (PW pb kb (.slice none 0 0) [] w7):=P7';have HPB:Hid (w6.heap.size=pb):=hpb;have lt7:=P7'.lt;obtain⟨q0,q1,q2,q3⟩:=sb_c (HS6.out.below B7.out);clear hw7 hb7 P7' hpb;obtain⟨dw,hdw⟩:∃x:List UInt8,(if d=1 then[109,97,115,109]else[103,97,115])=x:=⟨_,rfl⟩
 have HDW:Hid ((if d=1 then([109,97,115,109]:List UInt8)else[103,97,115])=dw):=hdw;have HDL:Hid (lnT [bs [100,105,97,108,101,99,116],bs dw]=headT d):=(by rw[<-hdw];exact dial_line d HD.out:lnT [bs [100,105,97,108,101,99,116],bs dw]=headT d)
 clear hdw;go_wp2_with fail;refine(dial_word d w7 HD.out (TB6.out.a _ (HPB.out▸B7.out))).mono ?_;rintro e w8⟨rfl,hb8⟩;rw[HDW.out];have P8:Hid (PW pb kb (.slice none 0 0) [] w8):=P7.out.below hb8;have B8:Hid (Below w6.heap.size w6 w8):=B7.out.trans (hb8.mono B7.out.size);clear hb8 q0 q1 q2 q3 B7 P7;go_wp2_with fail;refine(addLine_new pb kb (.slice none 0 0) [] [bs [100,105,97,108,101,99,116],bs dw] w8 P8.out (by simp) (by rw[HDL.out];have:=headT_len d;omega) (by simp)).mono ?_;rintro e w9⟨rfl,v9,n1,n2⟩;rw[HDL.out,List.nil_append]at n1;have P9:Hid (PW pb kb v9 (headT d) w9):=n1;have B9:Hid (Below w6.heap.size w6 w9):=B8.out.trans (HPB.out▸n2.b);clear n1 n2 P8 B8;obtain⟨q0,q1,q2,q3⟩:=sb_c (HS6.out.below B9.out);go_wp2_with fail;clear q0 q1 q2 q3;obtain⟨T0,hT0⟩:∃x,headT d=x:=⟨_,rfl⟩
 have HT0:Hid (headT d=T0):=hT0;rw[hT0]at P9;clear hT0;go_loopw [43](fun iv wr=>∃(k:Nat)(v:Value),k<=nH/\iv=.int .i64 (k:Int)/\PW pb kb v (T0++upT (fun i=>heapT (S i)) k) wr/\Below w6.heap.size w6 wr)(fun iv _=>nH-(intOf iv).toNat)
 case atStart=>exact⟨0,v9,Nat.zero_le _,rfl,by simpa[upT]using P9.out,B9.out⟩
 case round=>
  obtain⟨k,v,hk,rfl,hp,hb⟩:=hrel;have P:Hid (PW pb kb v (T0++upT (fun i=>heapT (S i)) k) wr):=hp;have B:Hid (Below w6.heap.size w6 wr):=hb;have ltr:=hp.lt;have htl:(T0++upT (fun i=>heapT (S i)) k).length<=6100000:=by
   have:=G.out.len d hk (Nat.zero_le 8) (Nat.zero_le np);rw[HT0.out]at this;simp only[upT,List.append_nil]at this;exact this
  clear hp hb;by_cases hlt:k<nH
  rotate_left
  ·have hkn:nH=k:=by omega
   subst hkn;have hlt':¬(nH:Int)<(nH:Int):=by omega
   obtain⟨T1',hT1⟩:∃x,T0++upT (fun i=>heapT (S i)) nH=x:=⟨_,rfl⟩
   rw[hT1]at P;have HT1:Hid (T0++upT (fun i=>heapT (S i)) nH=T1'):=hT1;clear hT1 htl hlt hk P9 B9;obtain⟨q0,q1,q2,q3⟩:=sb_c (HS6.out.below B.out);go_wp2_with fail;clear q0 q1 q2 q3;go_loopw [64](fun iv wr=>∃(k:Nat)(v:Value),k<=8/\iv=.int .i64 (k:Int)/\PW pb kb v (T1'++upT (fun i=>regT i (V i)) k) wr/\Below w6.heap.size w6 wr)(fun iv _=>8-(intOf iv).toNat)
   case atStart=>exact⟨0,v,Nat.zero_le _,rfl,by simpa[upT]using P.out,B.out⟩
   case round=>
    clear P B hlt' ltr;obtain⟨k,v,hk,rfl,hp,hb⟩:=hrel;have P:Hid (PW pb kb v (T1'++upT (fun i=>regT i (V i)) k) wr):=hp;have B:Hid (Below w6.heap.size w6 wr):=hb;have ltr:=hp.lt;have htl:(T1'++upT (fun i=>regT i (V i)) k).length<=6100000:=by
     have:=G.out.len d (Nat.le_refl nH) hk (Nat.zero_le np);rw[HT0.out,HT1.out]at this;simp only[upT,List.append_nil]at this;exact this
    clear hp hb;by_cases hlt:k<8
    rotate_left
    ·have hkn:k=8:=by omega
     subst hkn;have hlt':¬((8:Nat):Int)<(8:Int):=by omega
     obtain⟨T2',hT2⟩:∃x,T1'++upT (fun i=>regT i (V i)) 8=x:=⟨_,rfl⟩
     rw[hT2]at P;have HT2:Hid (T1'++upT (fun i=>regT i (V i)) 8=T2'):=hT2;clear hT2 htl hlt hk;have c3:wr.cell? ⟨ub,3,none⟩=some (.slice (some ⟨gt,0,none⟩) np ct):=(U6.out.below B.out).2 3 (by simp);go_wp2_with fail;clear c3;go_loopw [77](fun iv wr=>∃(k:Nat)(v:Value),k<=np/\iv=.int .i64 (k:Int)/\PW pb kb v (T2'++upT (fun i=>procT (Pv i)) k) wr/\Below w6.heap.size w6 wr)(fun iv _=>np-(intOf iv).toNat)
     case atStart=>exact⟨0,v,Nat.zero_le _,rfl,by simpa[upT]using P.out,B.out⟩
     case round=>
      clear P B hlt' ltr;obtain⟨k,v,hk,rfl,hp,hb⟩:=hrel;have P:Hid (PW pb kb v (T2'++upT (fun i=>procT (Pv i)) k) wr):=hp;have B:Hid (Below w6.heap.size w6 wr):=hb
      have ltr:=hp.lt
      have htl:(T2'++upT (fun i=>procT (Pv i)) k).length<=6100000:=by
       have:=G.out.len d (Nat.le_refl nH) (Nat.le_refl 8) hk
       rw[HT0.out,HT1.out,HT2.out]at this
       exact this
      clear hp hb
      by_cases hlt:k<np
      rotate_left
      ·have hkn:np=k:=by omega
       subst hkn
       have hlt':¬(np:Int)<(np:Int):=by omega
       have hRT:T2'++upT (fun i=>procT (Pv i)) np=R:=by
        rw[<-HR.out,<-HT2.out,<-HT1.out,<-HT0.out]
        rfl
       obtain⟨aov,kv,cv,hvv⟩:=row_slice P.out.O
       subst hvv
       have q0:=P.out.C
       have O9:Hid (wr.ownsRow w.heap.size 5 1 (.slice aov kv cv) R.length (Lib.byteCells R)):=(by
        have h:=P.out.O
        rw[hRT]at h
        exact row_base h (by have:=B6.out.size;have:=HPB.out;omega):wr.ownsRow w.heap.size 5 1 (.slice aov kv cv) R.length (Lib.byteCells R))
       have B9:Hid (Below w.heap.size w wr):=B6.out.trans (B.out.mono B6.out.size)
       clear hlt htl hRT P B
       go_wp2_with fail
       go_ret
       exact⟨_,rfl,O9.out,B9.out⟩
      have hlt':(k:Int)<(np:Int):=by omega
      obtain⟨aov,kv,cv,hvv⟩:=RepN.shape _ (R6.out k hlt)
      have g0:=(A6.out.below B.out A6.out.lt).2 k hlt
      rw[hvv,Nat.zero_add]at g0
      obtain⟨n5,hck⟩:=G.out.ps k hlt
      have HAP:Hid (AddP w6 pb kb (Pv k).L 0 (Pv k).n (.slice aov kv cv)):=(by
       rw[<-hvv]
       exact addP_any w6 pb kb nb ob mb (Pv k).L (k:Int) (np:Int) 16 _ (Nat.le_of_eq HPB.out) SC6.out lk lnb lmb TB6.out (by omega) _ 0 (Pv k).n 0 (vs k) (R6.out k hlt) (Nat.zero_le _) n5 hck:AddP w6 pb kb (Pv k).L 0 (Pv k).n (.slice aov kv cv))
      have HN5:Hid ((Pv k).n<=500):=n5
      clear hck n5 hvv
      go_wp2_with fail
      refine(addLine_new pb kb v (T2'++upT (fun i=>procT (Pv i)) k) [bs [112,114,111,99]] wr P.out (by simp) (by rw[lnT1];simp) (by omega)).mono ?_
      rintro e y1⟨rfl,v1,n1,n2⟩
      rw[lnT1]at n1
      obtain⟨t1,ht1⟩:∃x,T2'++upT (fun i=>procT (Pv i)) k++([112,114,111,99]++[10])=x:=⟨_,rfl⟩
      rw[ht1]at n1
      have HT3:Hid (T2'++upT (fun i=>procT (Pv i)) k++([112,114,111,99]++[10])=t1):=ht1
      have l1:t1.length<=6100010:=by rw[<-ht1,List.length_append];simp only[List.length_append,List.length_cons,List.length_nil]at htl⊢;omega
      have P1:Hid (PW pb kb v1 t1 y1):=n1
      have D1:Hid (Below w6.heap.size w6 y1):=B.out.trans (HPB.out▸n2.b)
      clear n1 n2 ht1 g0
      go_wp2_with fail
      refine(HAP.out y1 v1 t1 (HPB.out▸D1.out) P1.out (by have:=HN5.out;omega)).mono ?_
      rintro e y2⟨rfl,v',n1,n2⟩
      have N1:Hid (PW pb kb v' (T2'++upT (fun i=>procT (Pv i)) (k+1)) y2):=(by
       rw[<-HT3.out]at n1
       rw[List.append_assoc,List.append_assoc]at n1
       exact n1:PW pb kb v' (T2'++upT (fun i=>procT (Pv i)) (k+1)) y2)
      have N2:Hid (Below w6.heap.size w6 y2):=D1.out.trans (HPB.out▸n2.b)
      clear n1 n2 P1 D1
      go_wp2_with fail
      go_roundw
      case rel=>exact⟨k+1,v',by omega,by go_num,N1.out,N2.out⟩
      case measure=>simp[intOf];omega
    have hlt':(k:Int)<8:=by omega
    obtain⟨g0,g1,g2,g3,g4,g5⟩:=v_at (HS6.out.below B.out).s.r hlt
    have HG:Hid (goodB (V k) (nH:Int)=true):=G.out.rs k hlt
    go_upto_region 16 with fail
    clear g0 g1 g2 g3 g4 g5
    obtain⟨u,hu,hbu,hcu⟩:∃x,wr.alloc (.cells #[.int .i64 (V k).k,.bool (V k).s,.int .i64 (V k).m,.int .i64 (V k).h,.int .i64 (V k).lo,.int .i64 (V k).hi] 57)=x/\Below wr.heap.size wr x/\x.heap[wr.heap.size]?=some (.cells #[.int .i64 (V k).k,.bool (V k).s,.int .i64 (V k).m,.int .i64 (V k).h,.int .i64 (V k).lo,.int .i64 (V k).hi] 57):=⟨_,rfl,(Below.refl _ _).alloc (Nat.le_refl _) _,heap_new _ _⟩
    rw[hu]
    have P1:Hid (PW pb kb v (T1'++upT (fun i=>regT i (V i)) k) u):=P.out.below hbu
    have D1:Hid (Below w6.heap.size w6 u):=B.out.trans (hbu.mono B.out.size)
    have c0:=heap_cell hcu 0
    have c1:=heap_cell hcu 1
    have c2:=heap_cell hcu 2
    have c3:=heap_cell hcu 3
    have c4:=heap_cell hcu 4
    have c5:=heap_cell hcu 5
    clear hu hbu hcu P
    go_wp2_with fail
    refine(addReg_any pb kb v (T1'++upT (fun i=>regT i (V i)) k) k (V k) u P1.out (TB6.out.on (HPB.out▸D1.out)) hlt h8 HG.out (by omega)).mono ?_
    rintro e y9⟨rfl,v',n1,n2⟩
    rw[List.append_assoc]at n1
    have N1:Hid (PW pb kb v' (T1'++upT (fun i=>regT i (V i)) (k+1)) y9):=n1
    have N2:Hid (Below w6.heap.size w6 y9):=D1.out.trans (HPB.out▸n2.b)
    clear n1 n2 c0 c1 c2 c3 c4 c5
    go_wp2_with fail
    go_roundw
    case rel=>exact⟨k+1,v',by omega,by go_num,N1.out,N2.out⟩
    case measure=>simp[intOf];omega
  have hlt':(k:Int)<(nH:Int):=by omega
  obtain⟨g0,g1,g2⟩:=hs_at (HS6.out.below B.out).s.h hlt
  have hsm:=G.out.hs k hlt
  have HHL:Hid ((heapT (S k)).length<=40):=heapT_len _ (by omega)
  go_upto_region 11 with fail
  clear g0 g1 g2
  obtain⟨u,hu,hbu,hcu⟩:∃y,wr.alloc (.cells #[.int .i64 (S k).size,.bool (S k).s,.bool (S k).w] 53)=y/\Below wr.heap.size wr y/\y.heap[wr.heap.size]?=some (.cells #[.int .i64 (S k).size,.bool (S k).s,.bool (S k).w] 53):=⟨_,rfl,(Below.refl _ _).alloc (Nat.le_refl _) _,heap_new _ _⟩
  rw[hu]
  obtain⟨xb,hxb⟩:∃y,wr.heap.size=y:=⟨_,rfl⟩
  rw[hxb]at hcu⊢
  have lxb:pb<xb:=by omega
  have P1:Hid (PW pb kb v (T0++upT (fun i=>heapT (S i)) k) u):=P.out.below hbu
  have B0:Hid (Below w6.heap.size w6 u):=B.out.trans (hbu.mono B.out.size)
  have XU:u.heap[xb]?=some (.cells #[.int .i64 (S k).size,.bool (S k).s,.bool (S k).w] 53):=hcu
  have r0:∀w':World,w'.heap[xb]?=some (.cells #[.int .i64 (S k).size,.bool (S k).s,.bool (S k).w] 53)->w'.cell? ⟨xb,0,none⟩=some (.int .i64 (S k).size):=fun w' h=>heap_cell h 0
  have r1:∀w':World,w'.heap[xb]?=some (.cells #[.int .i64 (S k).size,.bool (S k).s,.bool (S k).w] 53)->w'.cell? ⟨xb,1,none⟩=some (.bool (S k).s):=fun w' h=>heap_cell h 1
  have r2:∀w':World,w'.heap[xb]?=some (.cells #[.int .i64 (S k).size,.bool (S k).s,.bool (S k).w] 53)->w'.cell? ⟨xb,2,none⟩=some (.bool (S k).w):=fun w' h=>heap_cell h 2
  obtain⟨mw,hmw⟩:∃x:List UInt8,(if(S k).w=true then[119,114,105,116,101]else[114,101,97,100])=x:=⟨_,rfl⟩
  have HMW:Hid ((if(S k).w=true then([119,114,105,116,101]:List UInt8)else[114,101,97,100])=mw):=hmw
  have HLN:Hid (lnT [bs [104,101,97,112],bs (Lib.itoa (S k).size),bs (wordT (S k).s),bs mw]=heapT (S k)):=(by rw[<-hmw];exact heap_line _:lnT [bs [104,101,97,112],bs (Lib.itoa (S k).size),bs (wordT (S k).s),bs mw]=heapT (S k))
  clear hu hbu hcu hxb hmw P
  refine wp_region_held_drew (S:=fun w'=>w'.heap[xb]?=some (.cells #[.int .i64 (S k).size,.bool (S k).s,.bool (S k).w] 53)) (by kernel_rfl) XU (fun _=>?_)
  refine wpAnyH_tk 0 ?k1v rfl ?k1y ?k1r
  case k1y=>(intro w hSw;(try dsimp only at hSw);go_simp;try with_reducible rfl)
  try simp only[Act.put,List.getElem_toArray,List.getElem_cons_zero,List.setIfInBounds_toArray,List.set_cons_zero,List.set_cons_succ]
  refine wpAnyH_tk 1 ?k2v rfl ?k2y ?k2r
  case k2y=>(intro w hSw;(try dsimp only at hSw);go_simp;try with_reducible rfl)
  try simp only[Act.put,List.getElem_toArray,List.getElem_cons_zero,List.getElem_cons_succ,List.setIfInBounds_toArray,List.set_cons_zero,List.set_cons_succ]
  refine wpAnyH_tk 2 ?k3v rfl ?k3y ?k3r
  case k3y=>(intro w hSw;(try dsimp only at hSw);go_simp;try with_reducible rfl)
  try simp only[Act.put,List.getElem_toArray,List.getElem_cons_zero,List.getElem_cons_succ,List.setIfInBounds_toArray,List.set_cons_zero,List.set_cons_succ]
  refine wpAnyH_tk 4 ?k4v rfl ?k4y ?k4r
  case k4y=>(intro w hSw;(try dsimp only at hSw);go_simp;try with_reducible rfl)
  try simp only[Act.put,List.getElem_toArray,List.getElem_cons_zero,List.getElem_cons_succ,List.setIfInBounds_toArray,List.set_cons_zero,List.set_cons_succ]
  refine wpAnyH_tk 5 ?k5v rfl ?k5y ?k5r
  case k5y=>(intro w hSw;(try dsimp only at hSw);go_simp;try with_reducible rfl)
  try simp only[Act.put,List.getElem_toArray,List.getElem_cons_zero,List.getElem_cons_succ,List.setIfInBounds_toArray,List.set_cons_zero,List.set_cons_succ]
  refine wpAnyH_tk 7 ?k6v rfl ?k6y ?k6r
  case k6y=>(intro w hSw;(try dsimp only at hSw);go_simp;try with_reducible rfl)
  try simp only[Act.put,List.getElem_toArray,List.getElem_cons_zero,List.getElem_cons_succ,List.setIfInBounds_toArray,List.set_cons_zero,List.set_cons_succ]
  refine wpAnyH_tk 8 ?k7v rfl ?k7y ?k7r
  case k7y=>(intro w hSw;(try dsimp only at hSw);go_simp;try with_reducible rfl)
  try simp only[Act.put,List.getElem_toArray,List.getElem_cons_zero,List.getElem_cons_succ,List.setIfInBounds_toArray,List.set_cons_zero,List.set_cons_succ]
  obtain⟨x0,hx0,hbd,XV⟩:∃y,u.drew=y/\Below u.heap.size u y/\y.heap[xb]?=some (.cells #[.int .i64 (S k).size,.bool (S k).s,.bool (S k).w] 53):=⟨_,rfl,(Below.refl _ _).drew,XU⟩
  rw[hx0]
  have P2:Hid (PW pb kb v (T0++upT (fun i=>heapT (S i)) k) x0):=P1.out.below hbd
  have D0:Hid (Below w6.heap.size w6 x0):=B0.out.trans (hbd.mono B0.out.size)
  have X0:Hid (x0.heap[xb]?=some (.cells #[.int .i64 (S k).size,.bool (S k).s,.bool (S k).w] 53)):=XV
  clear hx0 hbd XV XU P1 B0
  refine wpAnyH_ready (rs:=[3]) (by kernel_rfl) (by simp) ?_
  refine AllReadyH.cons rfl (fun KK hK=>?_) AllReadyH.nil
  go_simp
  refine(digitsOf_any (S k).size (by omega) _ (TB6.out.p _ (HPB.out▸D0.out))).mono ?_
  rintro e x1⟨rfl,hb⟩
  have P3:Hid (PW pb kb v (T0++upT (fun i=>heapT (S i)) k) x1):=P2.out.below hb
  have D1:Hid (Below w6.heap.size w6 x1):=D0.out.trans (hb.mono D0.out.size)
  have X1:Hid (x1.heap[xb]?=some (.cells #[.int .i64 (S k).size,.bool (S k).s,.bool (S k).w] 53)):=(hb.block xb (Array.getElem?_eq_some_iff.1 X0.out).1).trans X0.out
  refine hK.out _ _ X1.out (fun _=>?_)
  clear hK KK hb P2 D0 X0
  try simp only[Act.put,List.getElem_toArray,List.getElem_cons_zero,List.getElem_cons_succ,List.setIfInBounds_toArray,List.set_cons_zero,List.set_cons_succ]
  refine wpAnyH_ready (rs:=[6]) (by kernel_rfl) (by simp) ?_
  refine AllReadyH.cons rfl (fun KK hK=>?_) AllReadyH.nil
  go_simp
  refine(level_word (S k).s _ (TB6.out.a _ (HPB.out▸D1.out))).mono ?_
  rintro e x2⟨rfl,hb⟩
  have P4:Hid (PW pb kb v (T0++upT (fun i=>heapT (S i)) k) x2):=P3.out.below hb
  have D2:Hid (Below w6.heap.size w6 x2):=D1.out.trans (hb.mono D1.out.size)
  have X2:Hid (x2.heap[xb]?=some (.cells #[.int .i64 (S k).size,.bool (S k).s,.bool (S k).w] 53)):=(hb.block xb (Array.getElem?_eq_some_iff.1 X1.out).1).trans X1.out
  refine hK.out _ _ X2.out (fun _=>?_)
  clear hK KK hb P3 D1 X1
  try simp only[Act.put,List.getElem_toArray,List.getElem_cons_zero,List.getElem_cons_succ,List.setIfInBounds_toArray,List.set_cons_zero,List.set_cons_succ]
  refine wpAnyH_ready (rs:=[9]) (by kernel_rfl) (by simp) ?_
  refine AllReadyH.cons rfl (fun KK hK=>?_) AllReadyH.nil
  go_simp
  refine(mode_word (S k).w _ (TB6.out.a _ (HPB.out▸D2.out))).mono ?_
  rintro e x3⟨rfl,hb⟩
  rw[HMW.out]
  have P5:Hid (PW pb kb v (T0++upT (fun i=>heapT (S i)) k) x3):=P4.out.below hb
  have D3:Hid (Below w6.heap.size w6 x3):=D2.out.trans (hb.mono D2.out.size)
  have X3:Hid (x3.heap[xb]?=some (.cells #[.int .i64 (S k).size,.bool (S k).s,.bool (S k).w] 53)):=(hb.block xb (Array.getElem?_eq_some_iff.1 X2.out).1).trans X2.out
  refine hK.out _ _ X3.out (fun _=>?_)
  clear hK KK hb P4 D2 X2
  try simp only[Act.put,List.getElem_toArray,List.getElem_cons_zero,List.getElem_cons_succ,List.setIfInBounds_toArray,List.set_cons_zero,List.set_cons_succ]
  refine wpAnyH_ready (rs:=[10]) (by kernel_rfl) (by simp) ?_
  refine AllReadyH.cons rfl (fun KK hK=>?_) AllReadyH.nil
  go_simp;obtain⟨x9,hx9,hb9,hf9⟩:∃y,x3.alloc (.cells ([bs [104,101,97,112],bs (Lib.itoa (S k).size),bs (wordT (S k).s),bs mw].map Value.string).toArray 9)=y/\Below x3.heap.size x3 y/\(∀(j:Nat)q,[bs [104,101,97,112],bs (Lib.itoa (S k).size),bs (wordT (S k).s),bs mw][j]?=some q->y.cell? ⟨x3.heap.size,j,none⟩=some (.string q)):=⟨_,rfl,(Below.refl _ _).alloc (Nat.le_refl _) _,fields_new _ _⟩
  have zbx:x3.heap.size<x9.heap.size:=by rw[<-hx9];simp
  show KK _ (x3.alloc (.cells ([bs [104,101,97,112],bs (Lib.itoa (S k).size),bs (wordT (S k).s),bs mw].map Value.string).toArray 9))
  rw[hx9]
  have X9:Hid (x9.heap[xb]?=some (.cells #[.int .i64 (S k).size,.bool (S k).s,.bool (S k).w] 53)):=(hb9.block xb (Array.getElem?_eq_some_iff.1 X3.out).1).trans X3.out
  have P6:Hid (PW pb kb v (T0++upT (fun i=>heapT (S i)) k) x9):=P5.out.below hb9
  have D9:Hid (Below w6.heap.size w6 x9):=D3.out.trans (hb9.mono D3.out.size)
  have F9:Hid _:=hf9
  refine hK.out _ _ X9.out (fun _=>?_)
  clear hK KK hb9 hf9 hx9
  try simp only[Act.put,List.getElem_toArray,List.getElem_cons_zero,List.getElem_cons_succ,List.setIfInBounds_toArray,List.set_cons_zero,List.set_cons_succ]
  refine wpAnyH_ready (rs:=[11]) (by kernel_rfl) (by simp) ?_
  refine AllReadyH.cons rfl (fun KK hK=>?_) AllReadyH.nil
  go_simp
  refine(addLine_any pb kb v (T0++upT (fun i=>heapT (S i)) k) x3.heap.size 4 [bs [104,101,97,112],bs (Lib.itoa (S k).size),bs (wordT (S k).s),bs mw] x9 P6.out F9.out zbx (by simp) (by simp) (by rw[HLN.out];have:=HHL.out;omega) (by omega)).mono ?_
  rintro e y9⟨rfl,v',n1,n2⟩
  rw[HLN.out,List.append_assoc]at n1
  have N1:Hid (PW pb kb v' (T0++upT (fun i=>heapT (S i)) (k+1)) y9):=n1
  have N2:Hid (Below w6.heap.size w6 y9):=D9.out.trans (HPB.out▸n2.b)
  refine hK.out _ _ (n2.cl X9.out (by omega) (by decide)) (fun _=>?_)
  clear hK KK n1 n2
  try simp only[Act.put,List.getElem_toArray,List.getElem_cons_zero,List.getElem_cons_succ,List.setIfInBounds_toArray,List.set_cons_zero,List.set_cons_succ]
  refine wpAnyH_done (by kernel_rfl) ?_ _
  go_wp2_with fail
  go_roundw
  case rel=>exact⟨k+1,v',by omega,by go_num,N1.out,N2.out⟩
  case measure=>simp[intOf];omega
theorem implSrc_any(bH cH nH:Nat)(S:Nat->HS)(bR cR nR:Nat)(V:Nat->VV)(bp np cp:Nat)(Pv:Nat->PV)(blk:Nat->Nat)(d:Int)(w:World)(lH:nH<=1048576)(lR:nR<=1048576)(ln:np<=1048576)(lb:∀i,i<np->(Pv i).n<=1048576)(h1:SigCp w bH nH S bR nR V)(h2:PCp w bp np Pv blk)(ht1:Lib.TabIs Tryz.prog w "internal/strconv.uint64pow10" .u64 Lib.pow10Tab)(ht2:Lib.TabIs Tryz.prog w "strings.asciiSpace" .u8 Lib.asciiSpaceTab):
 Calls Tryz.prog 7 #[.agg #[.int .i64 d,.slice (some ⟨bH,0,none⟩) nH cH,.slice (some ⟨bR,0,none⟩) nR cR,.slice (some ⟨bp,0,none⟩) np cp]] w fun e w'=>∃v,e=.returned v/\w'.ownsRow w.heap.size 5 1 v (if srcOK d nH S nR V np Pv=true then srcT d nH S V np Pv else[]).length (Lib.byteCells (if srcOK d nH S nR V np Pv=true then srcT d nH S V np Pv else[]))/\Below w.heap.size w w':=by
 cases h:srcOK d nH S nR V np Pv with
 |true=>rw[if_pos rfl];exact implSrc_ok bH cH nH S bR cR nR V bp np cp Pv blk d w lH lR ln lb h1 h2 h ht1 ht2
 |false=>rw[if_neg (by decide)];exact implSrc_bad bH cH nH S bR cR nR V bp np cp Pv blk d w lH lR ln lb h1 h2 h
end Go.Proofs.YtiphbmhoifggiaaGreatDoor
