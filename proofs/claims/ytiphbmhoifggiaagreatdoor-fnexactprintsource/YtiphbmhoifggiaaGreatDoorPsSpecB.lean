import Derived.Test.YtiphbmhoifggiaaGreatDoorPsSpec
import Derived.Test.YtiphbmhoifggiaaGreatDoorAsmSpec
import Derived.Deep.DeepCutAuto
set_option maxHeartbeats 32000000
set_option maxRecDepth 20000
namespace Go.Proofs.YtiphbmhoifggiaaGreatDoor
open Go.RowKit
theorem conv_own(W:World)(t:List UInt8):∃v W2,(convert 9 30 (.string (bs t))).run Tryz.prog W=.ok v W2/\Below W.heap.size W W2/\ByA W2 W.heap.size v t:=by
 have hl:(bs t).size=t.length:=bs_size t;refine⟨_,_,run_bytes_of_string W 9 30 5 (bs t) Tryz.underlying9 Tryz.underlying30 Tryz.underlying5,(Below.refl _ _).drew.alloc (Nat.le_refl _) _,W.heap.size,_,by rw[hl],Nat.le_refl _,by simp,?_,?_⟩;all_goals
  intro i hi;have h1:=bytesRow_at (bs t) (grownCap W (bs t).size 0 5) i (by rw[show(bs t).data.size=(bs t).size from rfl,hl];exact hi);have h2:=heap_alloc_newB W.drew (.cells (bytesRow (bs t) (grownCap W (bs t).size 0 5)) 5 ((bytesRow (bs t) (grownCap W (bs t).size 0 5)).size,(bytesRow (bs t) (grownCap W (bs t).size 0 5)).size+1));have h3:W.drew.heap.size=W.heap.size:=rfl;rw[h3]at h2
 ·unfold World.cell?
  simp only[h2];rw[h1];simp[bs,hi]
 ·unfold World.frozen?
  simp only[h2];have:=(Array.getElem?_eq_some_iff.1 h1).1;simp;omega
theorem specSrc_ok(bH cH nH:Nat)(S:Nat->HS)(bR cR nR:Nat)(V:Nat->VV)(bp np cp:Nat)(Pv:Nat->PV)(blk:Nat->Nat)(d:Int)(w:World)(lH:nH<=1048576)(lR:nR<=1048576)(ln:np<=1048576)(lb:∀i,i<np->(Pv i).n<=1048576)(h1:SigCp w bH nH S bR nR V)(h2:PCp w bp np Pv blk)(hok:srcOK d nH S nR V np Pv=true):
 Calls Tryz.prog 5 #[.agg #[.int .i64 d,.slice (some ⟨bH,0,none⟩) nH cH,.slice (some ⟨bR,0,none⟩) nR cR,.slice (some ⟨bp,0,none⟩) np cp]] w fun e w'=>∃v,e=.returned v/\ByA w' w.heap.size v (srcT d nH S V np Pv)/\Below w.heap.size w w':=by
 go_enter Tryz.func5,Tryz.ntmps5;go_upto_region 1 with fail;obtain⟨u,hu,hbu,hsb⟩:∃x,w.alloc (.cells #[.int .i64 d,.slice (some ⟨bH,0,none⟩) nH cH,.slice (some ⟨bR,0,none⟩) nR cR,.slice (some ⟨bp,0,none⟩) np cp] 38)=x/\Below w.heap.size w x/\SB x w.heap.size d bH cH nH S bR cR nR V bp np cp Pv blk:=⟨_,rfl,(Below.refl _ _).alloc (Nat.le_refl _) _,Cl.new,h1.below ((Below.refl _ _).alloc (Nat.le_refl _) _),h2.below ((Below.refl _ _).alloc (Nat.le_refl _) _)⟩
 rw[hu];clear hu h1 h2;obtain⟨sb,hsz⟩:∃x,w.heap.size=x:=⟨_,rfl⟩
 rw[hsz]at hsb⊢;have HSB:Hid (SB u sb d bH cH nH S bR cR nR V bp np cp Pv blk):=hsb;have BU:Hid (Below w.heap.size w u):=hbu;have LB:Hid (∀i,i<np->(Pv i).n<=1048576):=lb;have HSZ:Hid (w.heap.size=sb):=hsz;obtain⟨q0,q1,q2,q3⟩:=sb_c hsb;have sl:=hsb.c.1;clear hbu hsb lb hsz;obtain⟨hd,g⟩:=src_good hok;have HD:Hid (d=0∨d=1):=hd;have G:Hid (SrcG nH S nR V np Pv):=g;have h8:=g.h8;have p20:=g.p20;have hnR:=g.r8;subst hnR;have hdd:decide ((0:Int)<=d/\d<=1)=true:=by rcases hd with rfl|rfl<;>decide
 have HSG:Hid (sigOK nH S 8 V=true):=(by unfold srcOK at hok;simp only[Bool.and_eq_true]at hok;exact hok.1.2:sigOK nH S 8 V=true)
 have hne:((unitR Pv np).1 !=0)=false:=by unfold srcOK at hok;simp only[Bool.and_eq_true,decide_eq_true_eq]at hok;simp[hok.2]
 have hf:∀w,(Instr.field 50 (.agg #[.int .i64 (unitR Pv np).1,.int .i64 (unitR Pv np).2.1,.int .i64 (unitR Pv np).2.2]) 0).run Tryz.prog w=.ok (.int .i64 (unitR Pv np).1) w:=fun w=>by kernel_rfl
 clear hd g hok;go_wp2_with fail;refine(v_in_any _ _ _ _).mono ?_;rintro e w2⟨rfl,hw2⟩;rw[hw2,hdd];clear hw2 hdd;go_wp2_with fail;refine(specSig_any bH cH nH S bR cR 8 V _ lH lR HSB.out.s).mono ?_;rintro e w3⟨rfl,hb3⟩;rw[HSG.out];have B3:Hid (Below w.heap.size w w3):=BU.out.trans (hb3.mono BU.out.size);have HS3:Hid (SB w3 sb d bH cH nH S bR cR 8 V bp np cp Pv blk):=HSB.out.below hb3;clear hb3 q0 q1 q2 q3 HSG HSB BU;obtain⟨q0,q1,q2,q3⟩:=sb_c HS3.out;go_wp2_with fail;refine(specUnit_any bp np cp Pv blk _ ln LB.out HS3.out.p).mono ?_;rintro e w4⟨rfl,hb4⟩;have B4:Hid (Below w.heap.size w w4):=B3.out.trans (hb4.mono B3.out.size);have HS4:Hid (SB w4 sb d bH cH nH S bR cR 8 V bp np cp Pv blk):=HS3.out.below hb4;have sl4:=HS4.out.c.1;clear hb4 q0 q1 q2 q3 HS3 B3 LB sl;obtain⟨q0,q1,q2,q3⟩:=sb_c HS4.out;go_upto_if 29 with fail;clear hf hne;go_cut [3](fun s3 wx=>s3=.string (bs (headT d))/\wx=w4)
 case first=>
  rcases HD.out with h|h
  ·have e1:(d==1)=false:=by simp[h]
   have he:bs (headT d)=⟨#[100,105,97,108,101,99,116,32,103,97,115,10]⟩:=by rw[h];rfl
   clear h;go_wp2_with fail;go_meet;exact⟨by rw[he],rfl⟩
  ·have e1:(d==1)=true:=by simp[h]
   have he:bs (headT d)=⟨#[100,105,97,108,101,99,116,32,109,97,115,109,10]⟩:=by rw[h];rfl
   clear h;go_wp2_with fail;go_meet;exact⟨by rw[he],rfl⟩
 case rest=>
 obtain⟨rfl,hwc⟩:=hcut;subst hwc;clear q0 q1 q2 q3;go_wp2_with fail;go_loopw [3,4](fun ov iv wr=>∃(k:Nat),k<=nH/\iv=.int .i64 (k:Int)/\ov=.string (bs (headT d++upT (fun i=>heapT (S i)) k))/\Below wc.heap.size wc wr)(fun _ iv _=>nH-(intOf iv).toNat)
 case atStart=>exact⟨0,Nat.zero_le _,rfl,by simp[upT],Below.refl _ _⟩
 case round=>
  obtain⟨k,hk,rfl,hov,hb⟩:=hrel;obtain⟨s,hs⟩:∃s,bs (headT d++upT (fun i=>heapT (S i)) k)=s:=⟨_,rfl⟩
  rw[hs]at hov;subst hov;have HS:Hid (bs (headT d++upT (fun i=>heapT (S i)) k)=s):=hs;have hsz:s.size<=6100000:=by
   have:=G.out.len d hk (Nat.zero_le 8) (Nat.zero_le np);simp only[upT,List.append_nil]at this;rw[<-hs,bs_size];exact this
  have B:Hid (Below wc.heap.size wc wr):=hb;have X:Hid (SB wr sb d bH cH nH S bR cR 8 V bp np cp Pv blk):=HS4.out.below hb;obtain⟨q0,q1,q2,q3⟩:=sb_c X.out;clear hb hs;by_cases hlt:k<nH
  rotate_left
  ·have hkn:nH=k:=by omega
   subst hkn;have hlt':¬(nH:Int)<(nH:Int):=by omega
   clear hlt hk X;obtain⟨P0,hP0⟩:∃x,headT d++upT (fun i=>heapT (S i)) nH=x:=⟨_,rfl⟩
   rw[hP0]at HS;have HP0:Hid (headT d++upT (fun i=>heapT (S i)) nH=P0):=hP0;clear hP0;go_wp2_with fail;clear q0 q1 q2 q3;go_loopw [3,6](fun ov iv wr=>∃(k:Nat),k<=8/\iv=.int .i64 (k:Int)/\ov=.string (bs (P0++upT (fun i=>regT i (V i)) k))/\Below wc.heap.size wc wr)(fun _ iv _=>8-(intOf iv).toNat)
   case atStart=>exact⟨0,Nat.zero_le _,rfl,by rw[<-HS.out];simp[upT],B.out⟩
   case round=>
    clear hsz HS hlt' B;obtain⟨k,hk,rfl,hov,hb⟩:=hrel;obtain⟨s,hs⟩:∃s,bs (P0++upT (fun i=>regT i (V i)) k)=s:=⟨_,rfl⟩
    rw[hs]at hov;subst hov;have HS:Hid (bs (P0++upT (fun i=>regT i (V i)) k)=s):=hs;have hsz:s.size<=6100000:=by
     have:=G.out.len d (Nat.le_refl nH) hk (Nat.zero_le np);rw[HP0.out]at this;simp only[upT,List.append_nil]at this;rw[<-hs,bs_size];exact this
    have B:Hid (Below wc.heap.size wc wr):=hb;have X:Hid (SB wr sb d bH cH nH S bR cR 8 V bp np cp Pv blk):=HS4.out.below hb;obtain⟨q0,q1,q2,q3⟩:=sb_c X.out;clear hb hs;by_cases hlt:k<8
    rotate_left
    ·have hkn:k=8:=by omega
     subst hkn;have hlt':¬((8:Nat):Int)<(8:Int):=by omega
     clear hlt hk X;obtain⟨P1,hP1⟩:∃x,P0++upT (fun i=>regT i (V i)) 8=x:=⟨_,rfl⟩
     rw[hP1]at HS;have HP1:Hid (P0++upT (fun i=>regT i (V i)) 8=P1):=hP1;clear hP1;go_wp2_with fail;clear q0 q1 q2 q3;go_loopw [3,8](fun ov iv wr=>∃(k:Nat),k<=np/\iv=.int .i64 (k:Int)/\ov=.string (bs (P1++upT (fun i=>procT (Pv i)) k))/\Below wc.heap.size wc wr)(fun _ iv _=>np-(intOf iv).toNat)
     case atStart=>exact⟨0,Nat.zero_le _,rfl,by rw[<-HS.out];simp[upT],B.out⟩
     case round=>
      clear hsz HS hlt' B;obtain⟨k,hk,rfl,hov,hb⟩:=hrel;obtain⟨s,hs⟩:∃s,bs (P1++upT (fun i=>procT (Pv i)) k)=s:=⟨_,rfl⟩
      rw[hs]at hov;subst hov;have HS:Hid (bs (P1++upT (fun i=>procT (Pv i)) k)=s):=hs;have hsz:s.size<=6100000:=by
       have:=G.out.len d (Nat.le_refl nH) (Nat.le_refl 8) hk;rw[HP0.out,HP1.out]at this;rw[<-hs,bs_size];exact this
      have B:Hid (Below wc.heap.size wc wr):=hb;have X:Hid (SB wr sb d bH cH nH S bR cR 8 V bp np cp Pv blk):=HS4.out.below hb;obtain⟨q0,q1,q2,q3⟩:=sb_c X.out;clear hb hs;by_cases hlt:k<np
      rotate_left
      ·have hkn:np=k:=by omega
       subst hkn;have hlt':¬(np:Int)<(np:Int):=by omega
       obtain⟨v,w9,hcv,hb9,hby⟩:=conv_own wr (P1++upT (fun i=>procT (Pv i)) np);rw[HS.out]at hcv;have HBY:Hid (ByA w9 w.heap.size v (srcT d nH S V np Pv)):=(by
        unfold srcT;rw[HP0.out,HP1.out];obtain⟨g,cap,e1,e2,e3⟩:=hby;exact⟨g,cap,e1,Nat.le_trans (Nat.le_trans B4.out.size B.out.size) e2,e3⟩:ByA w9 w.heap.size v (srcT d nH S V np Pv))
       have B9:Hid (Below w.heap.size w w9):=(B4.out.trans (B.out.mono B4.out.size)).trans (hb9.mono (Nat.le_trans B4.out.size B.out.size));clear hby hb9 hlt X;go_wp2;go_ret;exact⟨v,rfl,HBY.out,B9.out⟩
      have hlt':(k:Int)<(np:Int):=by omega
      have g0:=X.out.p.r.cell hlt;unfold pF at g0;obtain⟨n5,hck⟩:=G.out.ps k hlt;obtain⟨xs,hxs⟩:∃x,bs (prB (Pv k).L 0 (Pv k).n)=x:=⟨_,rfl⟩
      have HXS:Hid (bs (prB (Pv k).L 0 (Pv k).n)=xs):=hxs;have xz:xs.size<=300000:=by
       have:=prB_len (procs:=(np:Int)) (by omega) _ 0 (Pv k).n 0 (Nat.le_refl _) (Nat.zero_le _) hck;rw[<-hxs,bs_size];omega
      have HC:Hid ((chk (Pv k).L (k:Int) (np:Int) 16 0 (Pv k).n 0).1=0):=hck;have z0:¬9223372036854775807<s.size+5:=by omega
      have z1:¬9223372036854775807<s.size+5+xs.size:=by omega
      have HSTR:Hid (s++⟨#[112,114,111,99,10]⟩++xs=bs (P1++upT (fun i=>procT (Pv i)) (k+1))):=(by
       rw[<-HXS.out,<-HS.out];simp only[upT];show bs (P1++upT (fun i=>procT (Pv i)) k)++bs [112,114,111,99,10]++bs (prB (Pv k).L 0 (Pv k).n)=bs (P1++(upT (fun i=>procT (Pv i)) k++([112,114,111,99,10]++prB (Pv k).L 0 (Pv k).n)));simp only[bs_app,List.append_assoc]:s++⟨#[112,114,111,99,10]⟩++xs=bs (P1++upT (fun i=>procT (Pv i)) (k+1)))
      clear hxs hck;go_wp2_with fail;refine(l6Show_any (Pv k).L (blk k) (Pv k).n (k:Int) (np:Int) 16 n5 (by omega) _ 0 (Pv k).n 0 (Nat.le_refl _) (Nat.zero_le _) (Nat.le_refl _) HC.out 0 (Pv k).n (Pv k).n wr (Nat.sub_zero _).symm (fun _=>rfl) (Nat.le_refl _) (X.out.p.b k hlt)).mono ?_;rintro e v5⟨rfl,hb5⟩;rw[HXS.out];have BV:Hid (Below wc.heap.size wc v5):=B.out.trans (hb5.mono B.out.size);clear hb5 X;go_wp2_with fail;go_roundw
      case rel=>exact⟨k+1,by omega,by go_num,by rw[<-HSTR.out],BV.out⟩
      case measure=>simp[intOf];omega
    have hlt':(k:Int)<8:=by omega
    obtain⟨g0,g1,g2,g3,g4,g5⟩:=v_at X.out.s.r hlt;obtain⟨m1,m2,m3,m4⟩:=good_small h8 (G.out.rs k hlt);go_upto_region 18 with fail;clear g0 g1 g2 g3 g4 g5 q0 q1 q2 q3;obtain⟨u1,hu1,hb1,hc1⟩:∃x,wr.alloc (.cells #[.int .i64 (V k).k,.bool (V k).s,.int .i64 (V k).m,.int .i64 (V k).h,.int .i64 (V k).lo,.int .i64 (V k).hi] 57)=x/\Below wr.heap.size wr x/\Cl x wr.heap.size [.int .i64 (V k).k,.bool (V k).s,.int .i64 (V k).m,.int .i64 (V k).h,.int .i64 (V k).lo,.int .i64 (V k).hi]:=⟨_,rfl,(Below.refl _ _).alloc (Nat.le_refl _) _,Cl.new⟩
    rw[hu1];obtain⟨hb',hhb⟩:∃x,wr.heap.size=x:=⟨_,rfl⟩
    rw[hhb]at hc1⊢;have wz:=B.out.size;have B1:Hid (Below wc.heap.size wc u1):=B.out.trans (hb1.mono wz);have C1:Hid (Cl u1 hb' [.int .i64 (V k).k,.bool (V k).s,.int .i64 (V k).m,.int .i64 (V k).h,.int .i64 (V k).lo,.int .i64 (V k).hi]):=hc1;clear hu1 hb1 hc1 wz hhb X;obtain⟨ds,hds⟩:∃x,digS (k:Int)=x:=⟨_,rfl⟩
    have Hds:Hid (digS (k:Int)=ds):=hds;have lds:=digS_len (k:Int) (by omega);rw[hds]at lds;clear hds;have z0:¬9223372036854775807<s.size+4:=by omega
    have z1:¬9223372036854775807<s.size+4+ds.size:=by omega
    have z2:¬9223372036854775807<s.size+4+ds.size+1:=by omega
    go_wp2_with fail;refine(digits_big (k:Int) (by omega) _).mono ?_;rintro e u2⟨rfl,hb2⟩;rw[Hds.out];have B2:Hid (Below wc.heap.size wc u2):=B1.out.trans (hb2.mono B1.out.size);have hc2:=C1.out.below hb2;have c0:=hc2.2 0 (by simp);have c1:=hc2.2 1 (by simp);have c2:=hc2.2 2 (by simp);have r1:∀w',Below u2.heap.size u2 w'->w'.cell? ⟨hb',1,none⟩=some (.bool (V k).s):=fun w' h=>(hc2.below h).2 1 (by simp)
    have r2:∀w',Below u2.heap.size u2 w'->w'.cell? ⟨hb',2,none⟩=some (.int .i64 (V k).m):=fun w' h=>(hc2.below h).2 2 (by simp)
    have r3:∀w',Below u2.heap.size u2 w'->w'.cell? ⟨hb',3,none⟩=some (.int .i64 (V k).h):=fun w' h=>(hc2.below h).2 3 (by simp)
    have r4:∀w',Below u2.heap.size u2 w'->w'.cell? ⟨hb',4,none⟩=some (.int .i64 (V k).lo):=fun w' h=>(hc2.below h).2 4 (by simp)
    have r5:∀w',Below u2.heap.size u2 w'->w'.cell? ⟨hb',5,none⟩=some (.int .i64 (V k).hi):=fun w' h=>(hc2.below h).2 5 (by simp)
    simp only[List.getD_cons_zero,List.getD_cons_succ]at c0 c1 c2;clear hb2 hc2 B1 C1;go_upto_region 19 with fail;obtain⟨s',hs'⟩:∃x,s++⟨#[114,101,103,32]⟩++ds++⟨#[32]⟩=x:=⟨_,rfl⟩
    rw[hs'];have HS':Hid (s++⟨#[114,101,103,32]⟩++ds++⟨#[32]⟩=s'):=hs';have s'z:s'.size<=6100100:=by
     rw[<-hs'];simp only[ByteArray.size_append];show s.size+4+ds.size+1<=_;omega
    clear hs' z0 z1 z2;have STP:Hid (∀x:List UInt8,regT k (V k)=[114,101,103,32]++Lib.itoa (k:Int)++[32]++x->s'++bs x=bs (P0++upT (fun i=>regT i (V i)) (k+1))):=(fun x hx=>by
     rw[<-HS'.out];simp only[upT];rw[hx,<-bs_app,<-bs_app,<-HS.out,<-bs_app];simp only[<-bs_app,ByteArray.append_assoc];rw[<-Hds.out];rfl:∀x:List UInt8,regT k (V k)=[114,101,103,32]++Lib.itoa (k:Int)++[32]++x->s'++bs x=bs (P0++upT (fun i=>regT i (V i)) (k+1)))
    by_cases hk1:(V k).k=1
    ·have e1:((V k).k==1)=true:=by simp[hk1]
     obtain⟨d1,hd1⟩:∃x,digS (V k).h=x:=⟨_,rfl⟩
     have Hd1:Hid (digS (V k).h=d1):=hd1;have ld1:=digS_len (V k).h (by exact m2);rw[hd1]at ld1;clear hd1;obtain⟨d2,hd2⟩:∃x,digS (V k).lo=x:=⟨_,rfl⟩
     have Hd2:Hid (digS (V k).lo=d2):=hd2;have ld2:=digS_len (V k).lo (by exact m3);rw[hd2]at ld2;clear hd2;obtain⟨d3,hd3⟩:∃x,digS (V k).hi=x:=⟨_,rfl⟩
     have Hd3:Hid (digS (V k).hi=d3):=hd3;have ld3:=digS_len (V k).hi (by exact m4);rw[hd3]at ld3;clear hd3;have z0:¬9223372036854775807<s'.size+4:=by omega
     have z1:¬9223372036854775807<s'.size+4+d1.size:=by omega
     have z2:¬9223372036854775807<s'.size+4+d1.size+1:=by omega
     have z3:¬9223372036854775807<s'.size+4+d1.size+1+d2.size:=by omega
     have z4:¬9223372036854775807<s'.size+4+d1.size+1+d2.size+1:=by omega
     have z5:¬9223372036854775807<s'.size+4+d1.size+1+d2.size+1+d3.size:=by omega
     have z6:¬9223372036854775807<s'.size+4+d1.size+1+d2.size+1+d3.size+1:=by omega
     have HSTR:Hid (s'++⟨#[112,116,114,32]⟩++d1++⟨#[32]⟩++d2++⟨#[32]⟩++d3++⟨#[10]⟩=bs (P0++upT (fun i=>regT i (V i)) (k+1))):=(by
      rw[<-STP.out _ (by unfold regT;rw[if_pos hk1])];simp only[<-bs_app,ByteArray.append_assoc];rw[<-Hd1.out,<-Hd2.out,<-Hd3.out];rfl:s'++⟨#[112,116,114,32]⟩++d1++⟨#[32]⟩++d2++⟨#[32]⟩++d3++⟨#[10]⟩=bs (P0++upT (fun i=>regT i (V i)) (k+1)))
     clear hk1 STP HS' Hds;go_upto_region 20 with fail;clear c0 c1 c2;refine wp_region_held_drew (S:=fun w'=>Below u2.heap.size u2 w') (by kernel_rfl) (Below.refl _ _).drew (fun _=>?_)
     refine wpAnyH_tk 0 ?k1v rfl ?k1y ?k1r
     case k1y=>(intro w hSw;(try dsimp only at hSw);go_simp;try with_reducible rfl)
     try simp only[Act.put,List.getElem_toArray,List.getElem_cons_zero,List.setIfInBounds_toArray,List.set_cons_zero,List.set_cons_succ]
     refine wpAnyH_tk 1 ?k2v rfl ?k2y ?k2r
     case k2y=>(intro w hSw;(try dsimp only at hSw);go_simp;try with_reducible rfl)
     try simp only[Act.put,List.getElem_toArray,List.getElem_cons_zero,List.getElem_cons_succ,List.setIfInBounds_toArray,List.set_cons_zero,List.set_cons_succ]
     refine wpAnyH_tk 2 ?k3v rfl ?k3y ?k3r
     case k3y=>(intro w hSw;(try dsimp only at hSw);go_simp;try with_reducible rfl)
     try simp only[Act.put,List.getElem_toArray,List.getElem_cons_zero,List.getElem_cons_succ,List.setIfInBounds_toArray,List.set_cons_zero,List.set_cons_succ]
     refine wpAnyH_tk 3 ?k4v rfl ?k4y ?k4r
     case k4y=>(intro w hSw;(try dsimp only at hSw);go_simp;try with_reducible rfl)
     try simp only[Act.put,List.getElem_toArray,List.getElem_cons_zero,List.getElem_cons_succ,List.setIfInBounds_toArray,List.set_cons_zero,List.set_cons_succ]
     refine wpAnyH_tk 7 ?k5v rfl ?k5y ?k5r
     case k5y=>(intro w hSw;(try dsimp only at hSw);go_simp;try with_reducible rfl)
     try simp only[Act.put,List.getElem_toArray,List.getElem_cons_zero,List.getElem_cons_succ,List.setIfInBounds_toArray,List.set_cons_zero,List.set_cons_succ]
     refine wpAnyH_tk 8 ?k6v rfl ?k6y ?k6r
     case k6y=>(intro w hSw;(try dsimp only at hSw);go_simp;try with_reducible rfl)
     try simp only[Act.put,List.getElem_toArray,List.getElem_cons_zero,List.getElem_cons_succ,List.setIfInBounds_toArray,List.set_cons_zero,List.set_cons_succ]
     refine wpAnyH_tk 12 ?k7v rfl ?k7y ?k7r
     case k7y=>(intro w hSw;(try dsimp only at hSw);go_simp;try with_reducible rfl)
     try simp only[Act.put,List.getElem_toArray,List.getElem_cons_zero,List.getElem_cons_succ,List.setIfInBounds_toArray,List.set_cons_zero,List.set_cons_succ]
     refine wpAnyH_tk 13 ?k8v rfl ?k8y ?k8r
     case k8y=>(intro w hSw;(try dsimp only at hSw);go_simp;try with_reducible rfl)
     try simp only[Act.put,List.getElem_toArray,List.getElem_cons_zero,List.getElem_cons_succ,List.setIfInBounds_toArray,List.set_cons_zero,List.set_cons_succ]
     obtain⟨v2,hv2,hbd⟩:∃v,u2.drew=v/\Below u2.heap.size u2 v:=⟨_,rfl,(Below.refl _ _).drew⟩
     rw[hv2]
     clear hv2
     refine wpAnyH_ready (rs:=[4]) (by kernel_rfl) (by simp) ?_
     refine AllReadyH.cons rfl (fun KK hK=>?_) AllReadyH.nil
     go_simp
     refine(digits_big (V k).h (by omega) _).mono ?_
     rintro e v3⟨rfl,hb3⟩
     rw[Hd1.out]
     have hB3:Below u2.heap.size u2 v3:=hbd.trans (hb3.mono hbd.size)
     refine hK.out _ _ hB3 (fun _=>?_)
     clear hK KK hb3 hbd
     try simp only[Act.put,List.getElem_toArray,List.getElem_cons_zero,List.getElem_cons_succ,List.setIfInBounds_toArray,List.set_cons_zero,List.set_cons_succ]
     refine wpAnyH_tk 5 ?k9v rfl ?k9y ?k9r
     case k9y=>(intro w hSw;(try dsimp only at hSw);go_simp;try with_reducible rfl)
     try simp only[Act.put,List.getElem_toArray,List.getElem_cons_zero,List.getElem_cons_succ,List.setIfInBounds_toArray,List.set_cons_zero,List.set_cons_succ]
     refine wpAnyH_tk 6 ?k10v rfl ?k10y ?k10r
     case k10y=>(intro w hSw;(try dsimp only at hSw);go_simp;try with_reducible rfl)
     try simp only[Act.put,List.getElem_toArray,List.getElem_cons_zero,List.getElem_cons_succ,List.setIfInBounds_toArray,List.set_cons_zero,List.set_cons_succ]
     refine wpAnyH_ready (rs:=[9]) (by kernel_rfl) (by simp) ?_
     refine AllReadyH.cons rfl (fun KK hK=>?_) AllReadyH.nil
     go_simp
     refine(digits_big (V k).lo (by omega) _).mono ?_
     rintro e v4⟨rfl,hb3⟩
     rw[Hd2.out]
     have hB4:Below u2.heap.size u2 v4:=hB3.trans (hb3.mono hB3.size)
     refine hK.out _ _ hB4 (fun _=>?_)
     clear hK KK hb3 hB3
     try simp only[Act.put,List.getElem_toArray,List.getElem_cons_zero,List.getElem_cons_succ,List.setIfInBounds_toArray,List.set_cons_zero,List.set_cons_succ]
     refine wpAnyH_tk 10 ?k11v rfl ?k11y ?k11r
     case k11y=>(intro w hSw;(try dsimp only at hSw);go_simp;try with_reducible rfl)
     try simp only[Act.put,List.getElem_toArray,List.getElem_cons_zero,List.getElem_cons_succ,List.setIfInBounds_toArray,List.set_cons_zero,List.set_cons_succ]
     refine wpAnyH_tk 11 ?k12v rfl ?k12y ?k12r
     case k12y=>(intro w hSw;(try dsimp only at hSw);go_simp;try with_reducible rfl)
     try simp only[Act.put,List.getElem_toArray,List.getElem_cons_zero,List.getElem_cons_succ,List.setIfInBounds_toArray,List.set_cons_zero,List.set_cons_succ]
     refine wpAnyH_ready (rs:=[14]) (by kernel_rfl) (by simp) ?_
     refine AllReadyH.cons rfl (fun KK hK=>?_) AllReadyH.nil
     go_simp
     refine(digits_big (V k).hi (by omega) _).mono ?_
     rintro e v5⟨rfl,hb3⟩
     rw[Hd3.out]
     have hB5:Below u2.heap.size u2 v5:=hB4.trans (hb3.mono hB4.size)
     refine hK.out _ _ hB5 (fun _=>?_)
     clear hK KK hb3 hB4
     try simp only[Act.put,List.getElem_toArray,List.getElem_cons_zero,List.getElem_cons_succ,List.setIfInBounds_toArray,List.set_cons_zero,List.set_cons_succ]
     refine wpAnyH_tk 15 ?k13v rfl ?k13y ?k13r
     case k13y=>(intro w hSw;(try dsimp only at hSw);go_simp;try with_reducible rfl)
     try simp only[Act.put,List.getElem_toArray,List.getElem_cons_zero,List.getElem_cons_succ,List.setIfInBounds_toArray,List.set_cons_zero,List.set_cons_succ]
     refine wpAnyH_tk 16 ?k14v rfl ?k14y ?k14r
     case k14y=>(intro w hSw;(try dsimp only at hSw);go_simp;try with_reducible rfl)
     try simp only[Act.put,List.getElem_toArray,List.getElem_cons_zero,List.getElem_cons_succ,List.setIfInBounds_toArray,List.set_cons_zero,List.set_cons_succ]
     refine wpAnyH_tk 17 ?k15v rfl ?k15y ?k15r
     case k15y=>(intro w hSw;(try dsimp only at hSw);go_simp;try with_reducible rfl)
     try simp only[Act.put,List.getElem_toArray,List.getElem_cons_zero,List.getElem_cons_succ,List.setIfInBounds_toArray,List.set_cons_zero,List.set_cons_succ]
     refine wpAnyH_done (by kernel_rfl) ?_ _
     have BV:Hid (Below wc.heap.size wc v5):=B2.out.trans (hB5.mono B2.out.size)
     clear hB5 z0 z1 z2 z3 z4 z5 z6 r1 r2 r3 r4 r5
     go_wp2_with fail
     go_roundw
     case rel=>exact⟨k+1,by omega,by go_num,by rw[<-HSTR.out],BV.out⟩
     case measure=>simp[intOf];omega
    have e1:((V k).k==1)=false:=by simp[hk1]
    obtain⟨ws,hws⟩:∃x,bs (wordT (V k).s)=x:=⟨_,rfl⟩
    have Hws:Hid (bs (wordT (V k).s)=ws):=hws
    have lws:ws.size<=6:=by rw[<-hws,bs_size];exact wordT_len _
    clear hws
    by_cases hm:(V k).m= -1
    ·have e2:((V k).m== -1)=true:=by simp[hm]
     have z0:¬9223372036854775807<s'.size+4:=by omega
     have z1:¬9223372036854775807<s'.size+4+ws.size:=by omega
     have z2:¬9223372036854775807<s'.size+4+ws.size+1:=by omega
     have HSTR:Hid (s'++⟨#[97,110,121,32]⟩++ws++⟨#[10]⟩=bs (P0++upT (fun i=>regT i (V i)) (k+1))):=(by
      rw[<-STP.out _ (by unfold regT;rw[if_neg hk1,if_pos hm])]
      simp only[<-bs_app,ByteArray.append_assoc]
      rw[<-Hws.out]
      rfl:s'++⟨#[97,110,121,32]⟩++ws++⟨#[10]⟩=bs (P0++upT (fun i=>regT i (V i)) (k+1)))
     clear hk1 hm STP HS' Hds r1 r2 r3 r4 r5
     go_wp2_with fail
     refine(word_any (V k).s _).mono ?_
     rintro e v4⟨rfl,hv4⟩
     rw[hv4,Hws.out]
     clear hv4
     go_wp2_with fail
     go_roundw
     case rel=>exact⟨k+1,by omega,by go_num,by rw[<-HSTR.out],B2.out⟩
     case measure=>simp[intOf];omega
    have e2:((V k).m== -1)=false:=by simp[hm]
    obtain⟨d1,hd1⟩:∃x,digS (V k).m=x:=⟨_,rfl⟩
    have Hd1:Hid (digS (V k).m=d1):=hd1
    have ld1:=digS_len (V k).m (by exact m1)
    rw[hd1]at ld1
    clear hd1
    have z0:¬9223372036854775807<s'.size+d1.size:=by omega
    have z1:¬9223372036854775807<s'.size+d1.size+1:=by omega
    have z2:¬9223372036854775807<s'.size+d1.size+1+ws.size:=by omega
    have z3:¬9223372036854775807<s'.size+d1.size+1+ws.size+1:=by omega
    have HSTR:Hid (s'++d1++⟨#[32]⟩++ws++⟨#[10]⟩=bs (P0++upT (fun i=>regT i (V i)) (k+1))):=(by
     rw[<-STP.out _ (by unfold regT;rw[if_neg hk1,if_neg hm])]
     simp only[<-bs_app,ByteArray.append_assoc]
     rw[<-Hws.out,<-Hd1.out]
     rfl:s'++d1++⟨#[32]⟩++ws++⟨#[10]⟩=bs (P0++upT (fun i=>regT i (V i)) (k+1)))
    clear hk1 hm STP HS' Hds
    go_upto_region 23 with fail
    clear c0 c1 c2
    refine wp_region_held_drew (S:=fun w'=>Below u2.heap.size u2 w') (by kernel_rfl) (Below.refl _ _).drew (fun _=>?_)
    refine wpAnyH_tk 0 ?k16v rfl ?k16y ?k16r
    case k16y=>(intro w hSw;(try dsimp only at hSw);go_simp;try with_reducible rfl)
    try simp only[Act.put,List.getElem_toArray,List.getElem_cons_zero,List.setIfInBounds_toArray,List.set_cons_zero,List.set_cons_succ]
    refine wpAnyH_tk 1 ?k17v rfl ?k17y ?k17r
    case k17y=>(intro w hSw;(try dsimp only at hSw);go_simp;try with_reducible rfl)
    try simp only[Act.put,List.getElem_toArray,List.getElem_cons_zero,List.getElem_cons_succ,List.setIfInBounds_toArray,List.set_cons_zero,List.set_cons_succ]
    refine wpAnyH_tk 2 ?k18v rfl ?k18y ?k18r
    case k18y=>(intro w hSw;(try dsimp only at hSw);go_simp;try with_reducible rfl)
    try simp only[Act.put,List.getElem_toArray,List.getElem_cons_zero,List.getElem_cons_succ,List.setIfInBounds_toArray,List.set_cons_zero,List.set_cons_succ]
    refine wpAnyH_tk 6 ?k19v rfl ?k19y ?k19r
    case k19y=>(intro w hSw;(try dsimp only at hSw);go_simp;try with_reducible rfl)
    try simp only[Act.put,List.getElem_toArray,List.getElem_cons_zero,List.getElem_cons_succ,List.setIfInBounds_toArray,List.set_cons_zero,List.set_cons_succ]
    refine wpAnyH_tk 7 ?k20v rfl ?k20y ?k20r
    case k20y=>(intro w hSw;(try dsimp only at hSw);go_simp;try with_reducible rfl)
    try simp only[Act.put,List.getElem_toArray,List.getElem_cons_zero,List.getElem_cons_succ,List.setIfInBounds_toArray,List.set_cons_zero,List.set_cons_succ]
    obtain⟨v2,hv2,hbd⟩:∃v,u2.drew=v/\Below u2.heap.size u2 v:=⟨_,rfl,(Below.refl _ _).drew⟩
    rw[hv2]
    clear hv2
    refine wpAnyH_ready (rs:=[3]) (by kernel_rfl) (by simp) ?_
    refine AllReadyH.cons rfl (fun KK hK=>?_) AllReadyH.nil
    go_simp
    refine(digits_big (V k).m (by omega) _).mono ?_
    rintro e v3⟨rfl,hb3⟩
    rw[Hd1.out]
    have hB3:Below u2.heap.size u2 v3:=hbd.trans (hb3.mono hbd.size)
    refine hK.out _ _ hB3 (fun _=>?_)
    clear hK KK hb3 hbd
    try simp only[Act.put,List.getElem_toArray,List.getElem_cons_zero,List.getElem_cons_succ,List.setIfInBounds_toArray,List.set_cons_zero,List.set_cons_succ]
    refine wpAnyH_tk 4 ?k21v rfl ?k21y ?k21r
    case k21y=>(intro w hSw;(try dsimp only at hSw);go_simp;try with_reducible rfl)
    try simp only[Act.put,List.getElem_toArray,List.getElem_cons_zero,List.getElem_cons_succ,List.setIfInBounds_toArray,List.set_cons_zero,List.set_cons_succ]
    refine wpAnyH_tk 5 ?k22v rfl ?k22y ?k22r
    case k22y=>(intro w hSw;(try dsimp only at hSw);go_simp;try with_reducible rfl)
    try simp only[Act.put,List.getElem_toArray,List.getElem_cons_zero,List.getElem_cons_succ,List.setIfInBounds_toArray,List.set_cons_zero,List.set_cons_succ]
    refine wpAnyH_ready (rs:=[8]) (by kernel_rfl) (by simp) ?_
    refine AllReadyH.cons rfl (fun KK hK=>?_) AllReadyH.nil
    go_simp
    refine(word_any (V k).s _).mono ?_
    rintro e v4⟨rfl,hv4⟩
    rw[hv4,Hws.out]
    clear hv4
    refine hK.out _ _ hB3 (fun _=>?_)
    clear hK KK
    try simp only[Act.put,List.getElem_toArray,List.getElem_cons_zero,List.getElem_cons_succ,List.setIfInBounds_toArray,List.set_cons_zero,List.set_cons_succ]
    refine wpAnyH_tk 9 ?k23v rfl ?k23y ?k23r
    case k23y=>(intro w hSw;(try dsimp only at hSw);go_simp;try with_reducible rfl)
    try simp only[Act.put,List.getElem_toArray,List.getElem_cons_zero,List.getElem_cons_succ,List.setIfInBounds_toArray,List.set_cons_zero,List.set_cons_succ]
    refine wpAnyH_tk 10 ?k24v rfl ?k24y ?k24r
    case k24y=>(intro w hSw;(try dsimp only at hSw);go_simp;try with_reducible rfl)
    try simp only[Act.put,List.getElem_toArray,List.getElem_cons_zero,List.getElem_cons_succ,List.setIfInBounds_toArray,List.set_cons_zero,List.set_cons_succ]
    refine wpAnyH_tk 11 ?k25v rfl ?k25y ?k25r
    case k25y=>(intro w hSw;(try dsimp only at hSw);go_simp;try with_reducible rfl)
    try simp only[Act.put,List.getElem_toArray,List.getElem_cons_zero,List.getElem_cons_succ,List.setIfInBounds_toArray,List.set_cons_zero,List.set_cons_succ]
    refine wpAnyH_done (by kernel_rfl) ?_ _
    have BV:Hid (Below wc.heap.size wc v3):=B2.out.trans (hB3.mono B2.out.size)
    clear hB3 z0 z1 z2 z3 r1 r2 r3 r4 r5
    go_wp2_with fail
    go_roundw
    case rel=>exact⟨k+1,by omega,by go_num,by rw[<-HSTR.out],BV.out⟩
    case measure=>simp[intOf];omega
  have hlt':(k:Int)<(nH:Int):=by omega
  obtain⟨g0,g1,g2⟩:=hs_at X.out.s.h hlt
  have hsm:=G.out.hs k hlt
  go_upto_region 10 with fail
  clear g0 g1 g2 q0 q1 q2 q3
  obtain⟨u1,hu1,hb1,hc1⟩:∃x,wr.alloc (.cells #[.int .i64 (S k).size,.bool (S k).s,.bool (S k).w] 53)=x/\Below wr.heap.size wr x/\Cl x wr.heap.size [.int .i64 (S k).size,.bool (S k).s,.bool (S k).w]:=⟨_,rfl,(Below.refl _ _).alloc (Nat.le_refl _) _,Cl.new⟩
  rw[hu1]
  obtain⟨hb',hhb⟩:∃x,wr.heap.size=x:=⟨_,rfl⟩
  rw[hhb]at hc1⊢
  have wz:=B.out.size
  have B1:Hid (Below wc.heap.size wc u1):=B.out.trans (hb1.mono wz)
  have C1:Hid (Cl u1 hb' [.int .i64 (S k).size,.bool (S k).s,.bool (S k).w]):=hc1
  have r0:∀w',Below u1.heap.size u1 w'->w'.cell? ⟨hb',0,none⟩=some (.int .i64 (S k).size):=fun w' h=>(hc1.below h).2 0 (by simp)
  have r1:∀w',Below u1.heap.size u1 w'->w'.cell? ⟨hb',1,none⟩=some (.bool (S k).s):=fun w' h=>(hc1.below h).2 1 (by simp)
  have R2:Hid (∀w',Below u1.heap.size u1 w'->w'.cell? ⟨hb',2,none⟩=some (.bool (S k).w)):=fun w' h=>(hc1.below h).2 2 (by simp)
  clear hu1 hb1 hc1 wz hhb X
  obtain⟨ds,hds⟩:∃x,digS (S k).size=x:=⟨_,rfl⟩
  have Hds:Hid (digS (S k).size=ds):=hds
  have lds:=digS_len (S k).size (by omega)
  rw[hds]at lds
  clear hds
  obtain⟨ws,hws⟩:∃x,bs (wordT (S k).s)=x:=⟨_,rfl⟩
  have Hws:Hid (bs (wordT (S k).s)=ws):=hws
  have lws:ws.size<=6:=by rw[<-hws,bs_size];exact wordT_len _
  clear hws
  have z0:¬9223372036854775807<s.size+5:=by omega
  have z1:¬9223372036854775807<s.size+5+ds.size:=by omega
  have z2:¬9223372036854775807<s.size+5+ds.size+1:=by omega
  have z3:¬9223372036854775807<s.size+5+ds.size+1+ws.size:=by omega
  refine wp_region_held_drew (S:=fun w'=>Below u1.heap.size u1 w') (by kernel_rfl) (Below.refl _ _).drew (fun _=>?_)
  refine wpAnyH_tk 0 ?k26v rfl ?k26y ?k26r
  case k26y=>(intro w hSw;(try dsimp only at hSw);go_simp;try with_reducible rfl)
  try simp only[Act.put,List.getElem_toArray,List.getElem_cons_zero,List.setIfInBounds_toArray,List.set_cons_zero,List.set_cons_succ]
  refine wpAnyH_tk 1 ?k27v rfl ?k27y ?k27r
  case k27y=>(intro w hSw;(try dsimp only at hSw);go_simp;try with_reducible rfl)
  try simp only[Act.put,List.getElem_toArray,List.getElem_cons_zero,List.getElem_cons_succ,List.setIfInBounds_toArray,List.set_cons_zero,List.set_cons_succ]
  refine wpAnyH_tk 2 ?k28v rfl ?k28y ?k28r
  case k28y=>(intro w hSw;(try dsimp only at hSw);go_simp;try with_reducible rfl)
  try simp only[Act.put,List.getElem_toArray,List.getElem_cons_zero,List.getElem_cons_succ,List.setIfInBounds_toArray,List.set_cons_zero,List.set_cons_succ]
  refine wpAnyH_tk 3 ?k29v rfl ?k29y ?k29r
  case k29y=>(intro w hSw;(try dsimp only at hSw);go_simp;try with_reducible rfl)
  try simp only[Act.put,List.getElem_toArray,List.getElem_cons_zero,List.getElem_cons_succ,List.setIfInBounds_toArray,List.set_cons_zero,List.set_cons_succ]
  refine wpAnyH_tk 7 ?k30v rfl ?k30y ?k30r
  case k30y=>(intro w hSw;(try dsimp only at hSw);go_simp;try with_reducible rfl)
  try simp only[Act.put,List.getElem_toArray,List.getElem_cons_zero,List.getElem_cons_succ,List.setIfInBounds_toArray,List.set_cons_zero,List.set_cons_succ]
  refine wpAnyH_tk 8 ?k31v rfl ?k31y ?k31r
  case k31y=>(intro w hSw;(try dsimp only at hSw);go_simp;try with_reducible rfl)
  try simp only[Act.put,List.getElem_toArray,List.getElem_cons_zero,List.getElem_cons_succ,List.setIfInBounds_toArray,List.set_cons_zero,List.set_cons_succ]
  obtain⟨v2,hv2,hbd⟩:∃v,u1.drew=v/\Below u1.heap.size u1 v:=⟨_,rfl,(Below.refl _ _).drew⟩
  rw[hv2]
  clear hv2
  refine wpAnyH_ready (rs:=[4]) (by kernel_rfl) (by simp) ?_
  refine AllReadyH.cons rfl (fun KK hK=>?_) AllReadyH.nil
  go_simp
  refine(digits_big (S k).size (by omega) _).mono ?_
  rintro e v3⟨rfl,hb3⟩
  rw[Hds.out]
  have hB3:Below u1.heap.size u1 v3:=hbd.trans (hb3.mono hbd.size)
  refine hK.out _ _ hB3 (fun _=>?_)
  clear hK KK hb3 hbd
  try simp only[Act.put,List.getElem_toArray,List.getElem_cons_zero,List.getElem_cons_succ,List.setIfInBounds_toArray,List.set_cons_zero,List.set_cons_succ]
  refine wpAnyH_tk 5 ?k32v rfl ?k32y ?k32r
  case k32y=>(intro w hSw;(try dsimp only at hSw);go_simp;try with_reducible rfl)
  try simp only[Act.put,List.getElem_toArray,List.getElem_cons_zero,List.getElem_cons_succ,List.setIfInBounds_toArray,List.set_cons_zero,List.set_cons_succ]
  refine wpAnyH_tk 6 ?k33v rfl ?k33y ?k33r
  case k33y=>(intro w hSw;(try dsimp only at hSw);go_simp;try with_reducible rfl)
  try simp only[Act.put,List.getElem_toArray,List.getElem_cons_zero,List.getElem_cons_succ,List.setIfInBounds_toArray,List.set_cons_zero,List.set_cons_succ]
  refine wpAnyH_ready (rs:=[9]) (by kernel_rfl) (by simp) ?_
  refine AllReadyH.cons rfl (fun KK hK=>?_) AllReadyH.nil
  go_simp
  refine(word_any (S k).s _).mono ?_
  rintro e v4⟨rfl,hv4⟩
  rw[hv4,Hws.out]
  clear hv4
  refine hK.out _ _ hB3 (fun _=>?_)
  clear hK KK
  try simp only[Act.put,List.getElem_toArray,List.getElem_cons_zero,List.getElem_cons_succ,List.setIfInBounds_toArray,List.set_cons_zero,List.set_cons_succ]
  refine wpAnyH_tk 10 ?k34v rfl ?k34y ?k34r
  case k34y=>(intro w hSw;(try dsimp only at hSw);go_simp;try with_reducible rfl)
  try simp only[Act.put,List.getElem_toArray,List.getElem_cons_zero,List.getElem_cons_succ,List.setIfInBounds_toArray,List.set_cons_zero,List.set_cons_succ]
  refine wpAnyH_tk 11 ?k35v rfl ?k35y ?k35r
  case k35y=>(intro w hSw;(try dsimp only at hSw);go_simp;try with_reducible rfl)
  try simp only[Act.put,List.getElem_toArray,List.getElem_cons_zero,List.getElem_cons_succ,List.setIfInBounds_toArray,List.set_cons_zero,List.set_cons_succ]
  refine wpAnyH_done (by kernel_rfl) ?_ _
  have r2:=R2.out v3 hB3
  have BV:Hid (Below wc.heap.size wc v3):=B1.out.trans (hB3.mono B1.out.size)
  obtain⟨s',hs'⟩:∃x,s++⟨#[104,101,97,112,32]⟩++ds++⟨#[32]⟩++ws=x:=⟨_,rfl⟩
  rw[hs']
  have HS':Hid (s++⟨#[104,101,97,112,32]⟩++ds++⟨#[32]⟩++ws=s'):=hs'
  have s'z:s'.size<=6100100:=by
   rw[<-hs']
   simp only[ByteArray.size_append]
   show s.size+5+ds.size+1+ws.size<=_
   omega
  have y1:¬9223372036854775807<s'.size+7:=by omega
  have y2:¬9223372036854775807<s'.size+6:=by omega
  clear hs' z0 z1 z2 z3 r0 r1 hB3
  have STP:Hid (∀x:List UInt8,(if(S k).w=true then([32,119,114,105,116,101,10]:List UInt8)else[32,114,101,97,100,10])=x->s'++bs x=bs (headT d++upT (fun i=>heapT (S i)) (k+1))):=(fun x hx=>by
   rw[<-HS'.out]
   simp only[upT,heapT]
   rw[hx,<-bs_app,<-bs_app,<-HS.out,<-bs_app]
   simp only[<-bs_app,ByteArray.append_assoc]
   rw[<-Hds.out,<-Hws.out]
   rfl:∀x:List UInt8,(if(S k).w=true then([32,119,114,105,116,101,10]:List UInt8)else[32,114,101,97,100,10])=x->s'++bs x=bs (headT d++upT (fun i=>heapT (S i)) (k+1)))
  cases hw:(S k).w with
  |true=>
   rw[hw]at r2
   have HW:Hid ((S k).w=true):=hw
   clear hw
   go_wp2_with fail
   go_roundw
   case rel=>exact⟨k+1,by omega,by go_num,by rw[<-STP.out _ (if_pos HW.out)];rfl,BV.out⟩
   case measure=>simp[intOf];omega
  |false=>
   rw[hw]at r2
   have HW:Hid ((S k).w=false):=hw
   clear hw
   go_wp2_with fail
   go_roundw
   case rel=>exact⟨k+1,by omega,by go_num,by rw[<-STP.out _ (if_neg (by simp[HW.out]))];rfl,BV.out⟩
   case measure=>simp[intOf];omega
theorem specSrc_any(bH cH nH:Nat)(S:Nat->HS)(bR cR nR:Nat)(V:Nat->VV)(bp np cp:Nat)(Pv:Nat->PV)(blk:Nat->Nat)(d:Int)(w:World)(lH:nH<=1048576)(lR:nR<=1048576)(ln:np<=1048576)(lb:∀i,i<np->(Pv i).n<=1048576)(h1:SigCp w bH nH S bR nR V)(h2:PCp w bp np Pv blk):
 Calls Tryz.prog 5 #[.agg #[.int .i64 d,.slice (some ⟨bH,0,none⟩) nH cH,.slice (some ⟨bR,0,none⟩) nR cR,.slice (some ⟨bp,0,none⟩) np cp]] w fun e w'=>∃v,e=.returned v/\ByA w' w.heap.size v (if srcOK d nH S nR V np Pv=true then srcT d nH S V np Pv else[])/\Below w.heap.size w w':=by
 cases h:srcOK d nH S nR V np Pv with
 |true=>rw[if_pos rfl];exact specSrc_ok bH cH nH S bR cR nR V bp np cp Pv blk d w lH lR ln lb h1 h2 h
 |false=>rw[if_neg (by decide)];exact specSrc_bad bH cH nH S bR cR nR V bp np cp Pv blk d w lH lR ln lb h1 h2 h
end Go.Proofs.YtiphbmhoifggiaaGreatDoor
