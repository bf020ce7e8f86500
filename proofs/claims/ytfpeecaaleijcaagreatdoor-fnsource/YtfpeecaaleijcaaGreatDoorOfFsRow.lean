import Derived.Test.YtfpeecaaleijcaaGreatDoorOfCl
import Derived.Test.YtfpeecaaleijcaaGreatDoorOfFsCmp
import Derived.Test.YtfpeecaaleijcaaGreatDoorOfPsImpl
import Derived.Test.YtfpeecaaleijcaaGreatDoorOfPsSpecB
import Derived.Test.YtfpeecaaleijcaaGreatDoorOfPzImpl
import Derived.Deep.QuietTactic
import Derived.Test.YtfpeecaaleijcaaGreatDoorCards
import Derived.Test.YtfpeecaaleijcaaGreatDoorTie
import Derived.OpenShut
import Derived.ChangeOld
import Derived.Below
import Derived.ProofKit
import Derived.LaidMore
import Derived.Lay
import Derived.SevenTiedAt
import Derived.Stop.Joined
import Derived.Stop.LaidErr
import Derived.Shelf.Vars
set_option maxHeartbeats 32000000
set_option maxRecDepth 100000
namespace Go.Proofs.YtfpeecaaleijcaaGreatDoor
open Go.RowKit Go.Deep
structure LW(w:World)(sb:Nat)(d:Int)(bH cH nH:Nat)(S:Nat->HS)(bR cR nR:Nat)(V:Nat->VV)(g cg np:Nat)(Pv:Nat->PV)(blk:Nat->Nat)(u:World):Prop where
 F:Below w.heap.size w u
 X:u.heap[sb]?=some (.cells #[Vi d,Vs bH nH cH,Vs bR nR cR,Vs g np cg] 29)
 sc:Bl u bH nH S bR nR V
 pc:TP u g np Pv blk
section
variable{w:World}{sb:Nat}{d:Int}{bH cH nH:Nat}{S:Nat->HS}{bR cR nR:Nat}{V:Nat->VV}{g cg np:Nat}{Pv:Nat->PV}{blk:Nat->Nat}{u u':World}
theorem LW.below(h:LW w sb d bH cH nH S bR cR nR V g cg np Pv blk u)(f:Below u.heap.size u u'):LW w sb d bH cH nH S bR cR nR V g cg np Pv blk u':=
 ⟨h.F.trans (f.mono h.F.size),Aw h.X f,h.sc.below f,h.pc.below f⟩
theorem LW.cells(h:LW w sb d bH cH nH S bR cR nR V g cg np Pv blk u):u.cell? (Va sb 0)=some (Vi d)/\u.cell? (Va sb 1)=some (Vs bH nH cH)/\u.cell? (Va sb 2)=some (Vs bR nR cR)/\u.cell? (Va sb 3)=some (Vs g np cg):=
 ⟨(AY h.X 0).trans rfl,(AY h.X 1).trans rfl,(AY h.X 2).trans rfl,(AY h.X 3).trans rfl⟩
end
theorem NI(ao:Option Addr)(n cap:Nat)(w:World)(hn:n<=1048576)(hr:Fp w w.heap.size ao n)(hE:Env w w.heap.size):
 Calls Tryz.prog 3 #[.slice ao n cap] w fun e w'=>e=.returned (.bool true)/\Below w.heap.size w w':=by
 have HR:=hxy hr;have HE:=hxy hE;clear hr hE;have hn':(n:Int)<=1048576:=by omega
 go_enter Tryz.func3,Tryz.ntmps3;go_wp2_with fail;refine(SN ao n cap w hn HR.out).mono ?_;rintro e w2⟨d,bH,cH,nH,S,bR,cR,nR,V,B,g,cg,ps,rfl,hh,ld,hb2⟩;obtain⟨pc2,pl2⟩:=bX ld.row ld.pw;have HH:Hid (1<=nH/\nH<=4/\nR<=8/\1<=ps.length/\ps.length<=100/\∀i,i<ps.length->(YN ps i).n<=1048576):=⟨hh.1,hh.2.1,hh.2.2.1,hh.2.2.2.1,hh.2.2.2.2,pl2⟩
 have L2:Hid (Bl w2 bH nH S bR nR V/\TP w2 g ps.length (YN ps) (Xq ps)/\Below w.heap.size w w2):=⟨ld.sc,pc2,hb2⟩
 obtain⟨np,hnp⟩:=Ae ps.length;obtain⟨Pv,hPv⟩:=Ae (YN ps);obtain⟨blk,hblk⟩:=Ae (Xq ps);rw[hnp,hPv,hblk]at L2;rw[hnp,hPv]at HH;rw[hnp];clear ld hh hb2 HR pc2 pl2 hnp hPv hblk;go_upto_region 4 with fail;have b3:=Ak (w:=w2) (o:=.cells #[Vi d,Vs bH nH cH,Vs bR nR cR,Vs g np cg] 29);have X3:=Bh w2 (.cells #[Vi d,Vs bH nH cH,Vs bR nR cR,Vs g np cg] 29);obtain⟨u3,hu3⟩:=Ae (w2.alloc (.cells #[Vi d,Vs bH nH cH,Vs bR nR cR,Vs g np cg] 29));rw[hu3]at b3 X3⊢;obtain⟨sb,hsb⟩:=Ae w2.heap.size;rw[hsb]at X3⊢;have D3:Hid (LW w sb d bH cH nH S bR cR nR V g cg np Pv blk u3):=⟨L2.out.2.2.trans (b3.mono L2.out.2.2.size),X3,L2.out.1.below b3,L2.out.2.1.below b3⟩
 clear hu3 b3 X3 hsb L2;obtain⟨c0,c1,c2,c3⟩:=D3.out.cells;go_wp2_with fail;refine(RV bH cH nH S bR cR nR V g np cg Pv blk d u3 (by have:=HH.out;omega) (by have:=HH.out;omega) (by have:=HH.out;omega) HH.out.2.2.2.2.2 D3.out.sc D3.out.pc (HE.out.at D3.out.F).p10 (HE.out.at D3.out.F).sp).mono ?_;rintro e u4⟨v4,rfl,o4,b4⟩;have D4:=hxy (D3.out.below b4);obtain⟨T,hT⟩:=Ae (if EW d nH S nR V np Pv=true then JD d nH S V np Pv else[]);rw[hT]at o4;have O4:=hxy o4;have HT:=hxy hT;obtain⟨a4,k4,rfl⟩:=Zo o4;clear o4 b4 D3 c0 c1 c2 c3 hT;obtain⟨c0,c1,c2,c3⟩:=D4.out.cells;go_wp2_with fail;refine(Kj bH cH nH S bR cR nR V g np cg Pv blk d u4 (by have:=HH.out;omega) (by have:=HH.out;omega) (by have:=HH.out;omega) HH.out.2.2.2.2.2 D4.out.sc D4.out.pc).mono ?_;rintro e u5⟨v5,rfl,⟨g5,k5,rfl,_⟩,b5⟩;rw[HT.out];have D5:=hxy (D4.out.below b5);have O5:=hxy (Ah O4.out b5);clear b5 D4 O4 c0 c1 c2 c3;by_cases hok:EW d nH S nR V np Pv=true
 rotate_left
 ·have hT0:T=[]:=by rw[<-HT.out,if_neg hok]
  subst hT0;have B5:=hxy D5.out.F;clear hok HT D5 O5 HE;go_wp2;go_ret;exact⟨rfl,B5.out⟩
 obtain⟨hd,sg⟩:=MW hok;have hTT:JD d nH S V np Pv=T:=by rw[<-HT.out,if_pos hok]
 have HB:Hid (psT T ps0 1=(0,⟨3,d,(List.range nH).map S,(List.range 8).map V,List.replicate 8 true,(List.range np).map fun i=>Fs (Pv i).L 0 (Pv i).n,[]⟩)):=by rw[<-hTT];exact Ya hd sg HH.out.2.2.2.1
 have hne:T≠[]:=by rw[<-hTT];unfold JD;intro e;have:=congrArg List.length e;rcases hd with rfl|rfl<;>simp[Ea]at this
 have hpos:=List.length_pos_iff.2 hne;have e5:((T.length:Int)==0)=false:=by rw[beq_eq_false_iff_ne];omega
 have HR8:=hxy sg.r8;have HOK:=hxy hok;have HNE:=hxy hne;clear hok hd sg hTT hne;obtain⟨c0,c1,c2,c3⟩:=D5.out.cells;go_wp2_with fail;refine(Kj bH cH nH S bR cR nR V g np cg Pv blk d u5 (by have:=HH.out;omega) (by have:=HH.out;omega) (by have:=HH.out;omega) HH.out.2.2.2.2.2 D5.out.sc D5.out.pc).mono ?_;rintro e u6⟨v6,rfl,⟨g6,k6,rfl,_⟩,b6⟩;rw[HT.out];have D6:=hxy (D5.out.below b6);have O6:=hxy (Ah O5.out b6);clear b6 D5 O5 c0 c1 c2 c3 e5;by_cases hbig:(100000:Int)<(T.length:Int)
 ·have B6:=hxy D6.out.F
  clear HT D6 O6 HE HB HOK HNE HR8;go_wp2;go_ret;exact⟨rfl,B6.out⟩
 have hbg:¬100000<T.length:=by omega
 have HTL:Hid ((T.length:Int)<=1048576):=by show(T.length:Int)<=1048576;omega
 obtain⟨tb,tc,hv,tcap,tat⟩:=dW O6.out HNE.out;rw[hv];have TA:Hid (T.length<=tc/\At u6 tb 0 T.length (EG .u8 (bF T))):=⟨tcap,tat⟩
 clear hv tcap tat O6;go_wp2_with fail;refine(QE tb 0 tc T u6 (HE.out.at D6.out.F) HTL.out TA.out.1 TA.out.2).mono ?_;rintro e u7⟨hsr,b7⟩;rw[if_neg hbg]at hsr;unfold RX at hsr;rw[HB.out,if_pos rfl]at hsr;obtain⟨sH,sR,sP,bv,rfl,rows,bvl,_,_⟩:=hsr;obtain⟨⟨hg,hc,hvH,aH⟩,⟨rg,rc,hvR,aR⟩,pg,pc,bd,hvP,pl,hbd⟩:=Tv rows (bvl.trans (by simp)) HH.out.1 HH.out.2.2.2.1;rw[hvH,hvR,hvP];have D7:=hxy (D6.out.below b7);have R7:Hid (A9 u7 hg (nH*3) (QD S)/\A9 u7 rg (8*6) (vF V)/\pg<u7.heap.size/\∀i,i<np->u7.cell? (Va pg i)=some (bd i)/\Ot u7 (Pv i) (bd i)):=⟨aH,aR,pl,hbd⟩
 clear hvH hvR hvP aH aR pl hbd rows bvl b7 D6 HB HTL TA HE HT HOK HNE hbg;go_upto_region 10 with fail;have b8:=Ak (w:=u7) (o:=.cells #[Vi 0,Vi d,Vs hg nH hc,Vs rg 8 rc,Vs pg np pc] 33);have X8:=Bh u7 (.cells #[Vi 0,Vi d,Vs hg nH hc,Vs rg 8 rc,Vs pg np pc] 33);obtain⟨u8,hu8⟩:=Ae (u7.alloc (.cells #[Vi 0,Vi d,Vs hg nH hc,Vs rg 8 rc,Vs pg np pc] 33));rw[hu8]at b8 X8⊢;obtain⟨rb,hrb⟩:=Ae u7.heap.size;rw[hrb]at X8⊢;have D8:=hxy (D7.out.below b8);have R8:Hid (A9 u8 hg (nH*3) (QD S)/\A9 u8 rg (8*6) (vF V)/\pg<u8.heap.size/\∀i,i<np->u8.cell? (Va pg i)=some (bd i)/\Ot u8 (Pv i) (bd i)):=⟨R7.out.1.below b8 R7.out.1.lt,R7.out.2.1.below b8 R7.out.2.1.lt,jI R7.out.2.2.1 b8.size,fun i hi=>⟨(b8.cell (p:=Va pg i) R7.out.2.2.1).trans (R7.out.2.2.2 i hi).1,(R7.out.2.2.2 i hi).2.below b8⟩⟩
 have XR:=hxy X8;clear hu8 b8 X8 hrb D7 R7;have c0':∀v,Below u8.heap.size u8 v->v.cell? (Va sb 0)=some (Vi d):=fun v h=>(D8.out.below h).cells.1
 have c1':∀v,Below u8.heap.size u8 v->v.cell? (Va sb 1)=some (Vs bH nH cH):=fun v h=>(D8.out.below h).cells.2.1
 have c2':∀v,Below u8.heap.size u8 v->v.cell? (Va sb 2)=some (Vs bR nR cR):=fun v h=>(D8.out.below h).cells.2.2.1
 have c3':∀v,Below u8.heap.size u8 v->v.cell? (Va sb 3)=some (Vs g np cg):=fun v h=>(D8.out.below h).cells.2.2.2
 have r0':∀v,Below u8.heap.size u8 v->v.cell? (Va rb 0)=some (Vi 0):=fun v h=>(AY (Aw XR.out h) 0).trans rfl
 have r1':∀v,Below u8.heap.size u8 v->v.cell? (Va rb 1)=some (Vi d):=fun v h=>(AY (Aw XR.out h) 1).trans rfl
 have r2':∀v,Below u8.heap.size u8 v->v.cell? (Va rb 2)=some (Vs hg nH hc):=fun v h=>(AY (Aw XR.out h) 2).trans rfl
 have r3':∀v,Below u8.heap.size u8 v->v.cell? (Va rb 3)=some (Vs rg 8 rc):=fun v h=>(AY (Aw XR.out h) 3).trans rfl
 have r4':∀v,Below u8.heap.size u8 v->v.cell? (Va rb 4)=some (Vs pg np pc):=fun v h=>(AY (Aw XR.out h) 4).trans rfl
 have hb0:=Below.refl u8.heap.size u8;have hnp:=HH.out.2.2.2.2.1;have hnH:=HH.out.2.1;go_wp2_with fail;go_loopw [6](fun iv wr=>∃k:Nat,k<=np/\iv=Vi k/\Below u8.heap.size u8 wr)(fun iv _=>np-(intOf iv).toNat)
 case atStart=>exact⟨0,Nat.zero_le _,rfl,hb0⟩
 case round=>
  clear hb0;obtain⟨k,hk,rfl,hbr⟩:=hrel;have HBR:=hxy hbr;by_cases hlt:k<np
  ·have hlt':(k:Int)<(np:Int):=by omega
   have p1:∀v,Below u8.heap.size u8 v->v.cell? (Va pg k)=some (bd k):=fun v h=>(h.cell (p:=Va pg k) R8.out.2.2.1).trans (R8.out.2.2.2 k hlt).1
   have p2:∀v,Below u8.heap.size u8 v->v.cell? (Va g k)=some (.slice (some ⟨blk k,0,none⟩) (Pv k).n (Pv k).c):=fun v h=>(h.cell (p:=Va g k) D8.out.pc.r.lt).trans (D8.out.pc.r.cell hlt)
   go_upto_region 15 with fail;refine wp_region_held_drew (S:=fun v=>Below u8.heap.size u8 v) (by kernel_rfl) (hbr.trans (Below.refl _ _).drew) (fun hbd=>?_);generalize wr.drew=t0 at hbd⊢;refine AB 0 rfl ?_;refine AB 1 rfl ?_;refine AB 2 rfl ?_;refine AB 3 rfl ?_;refine AB 4 rfl ?_;refine AB 5 rfl ?_;refine AB 6 rfl ?_;refine AB 7 rfl ?_;refine AB 8 rfl ?_;refine AB 9 rfl ?_;refine AB 10 rfl ?_;refine AB 11 rfl ?_;refine AB 12 rfl ?_;have CALL:Calls Tryz.prog 8 #[bd k,.slice (some ⟨blk k,0,none⟩) (Pv k).n (Pv k).c] t0 fun e w'=>e=.returned (.bool true)/\Below t0.heap.size t0 w':=by
    rcases(R8.out.2.2.2 k hlt).2.below hbd with⟨h0,a,c,hb⟩|⟨h1,g',c',hb,ha⟩
    ·rw[hb,h0];exact SH a _ c _ t0
    ·rw[hb];exact Qm g' (Pv k).n c' (blk k) _ (Pv k).L t0 (HH.out.2.2.2.2.2 k hlt) ha ((D8.out.below hbd).pc.b k hlt)
   refine AO 13 rfl (fun KK hK=>?_);go_simp;refine CALL.mono ?_;rintro e t1⟨rfl,b9⟩;have hbe:=hbd.trans (b9.mono hbd.size);refine hK.out _ _ hbe (fun _=>?_);clear hK KK CALL hbd b9;try simp only[Act.put,BP,BN,BK,BQ,BS,BM]
   refine AB 14 rfl ?_;refine wpAnyH_done (by kernel_rfl) ?_ _;clear p1 p2;go_wp2_with fail;go_roundw
   case rel=>exact⟨k+1,by omega,by go_num,hbe⟩
   case measure=>simp[intOf];omega
  ·have hlt':¬(k:Int)<(np:Int):=by omega
   clear hlt hk;go_wp2_with fail;have HBS:=hxy hbr;clear hbr HBR;go_loopw [7](fun iv wr=>∃k:Nat,k<=nH/\iv=Vi k/\Below u8.heap.size u8 wr)(fun iv _=>nH-(intOf iv).toNat)
   case atStart=>exact⟨0,Nat.zero_le _,rfl,HBS.out⟩
   case round=>
    clear HBS hlt';obtain⟨k,hk,rfl,hbr⟩:=hrel;have HBR:=hxy hbr;by_cases hlt:k<nH
    ·have hlt':(k:Int)<(nH:Int):=by omega
     have g0:wr.cell? (Va hg (k*3))=some (Vi (S k).size):=(hbr.cell (p:=Va hg (k*3)) R8.out.1.lt).trans ((R8.out.1.cell (i:=k*3+0) (by omega)).trans (congrArg some (Dy S k 0 (by omega))));have g1:wr.cell? (Va hg (k*3+1))=some (.bool (S k).s):=(hbr.cell (p:=Va hg (k*3+1)) R8.out.1.lt).trans ((R8.out.1.cell (i:=k*3+1) (by omega)).trans (congrArg some (Dy S k 1 (by omega))));have g2:wr.cell? (Va hg (k*3+2))=some (.bool (S k).w):=(hbr.cell (p:=Va hg (k*3+2)) R8.out.1.lt).trans ((R8.out.1.cell (i:=k*3+2) (by omega)).trans (congrArg some (Dy S k 2 (by omega))));have q0:wr.cell? (Va bH (k*3))=some (Vi (S k).size):=(hbr.cell (p:=Va bH (k*3)) D8.out.sc.h.lt).trans ((D8.out.sc.h.cell (i:=k*3+0) (by omega)).trans (congrArg some (Dy S k 0 (by omega))));have q1:wr.cell? (Va bH (k*3+1))=some (.bool (S k).s):=(hbr.cell (p:=Va bH (k*3+1)) D8.out.sc.h.lt).trans ((D8.out.sc.h.cell (i:=k*3+1) (by omega)).trans (congrArg some (Dy S k 1 (by omega))));have q2:wr.cell? (Va bH (k*3+2))=some (.bool (S k).w):=(hbr.cell (p:=Va bH (k*3+2)) D8.out.sc.h.lt).trans ((D8.out.sc.h.cell (i:=k*3+2) (by omega)).trans (congrArg some (Dy S k 2 (by omega))));go_wp2_with fail;go_quiet(fail);clear g0 g1 g2 q0 q1 q2;go_wp2_with fail;go_roundw
     case rel=>exact⟨k+1,by omega,by go_num,HBR.out.trans (below_drewN (Below.refl _ _) _)⟩
     case measure=>simp[intOf];omega
    ·have hlt':¬(k:Int)<(nH:Int):=by omega
     clear hlt hk;go_wp2_with fail;have HBS:=hxy hbr;clear hbr HBR;obtain rfl:=HR8.out;go_loopw [8](fun iv wr=>∃k:Nat,k<=8/\iv=Vi k/\Below u8.heap.size u8 wr)(fun iv _=>8-(intOf iv).toNat)
     case atStart=>exact⟨0,Nat.zero_le _,rfl,HBS.out⟩
     case round=>
      clear HBS hlt';obtain⟨k,hk,rfl,hbr⟩:=hrel;have HBR:=hxy hbr;by_cases hlt:k<8
      ·have hlt':(k:Int)<8:=by omega
       have g0:wr.cell? (Va rg (k*6))=some (Vi (V k).k):=(hbr.cell (p:=Va rg (k*6)) R8.out.2.1.lt).trans ((R8.out.2.1.cell (i:=k*6+0) (by omega)).trans (congrArg some (BH V k 0 (by omega))));have g1:wr.cell? (Va rg (k*6+1))=some (.bool (V k).s):=(hbr.cell (p:=Va rg (k*6+1)) R8.out.2.1.lt).trans ((R8.out.2.1.cell (i:=k*6+1) (by omega)).trans (congrArg some (BH V k 1 (by omega))));have g2:wr.cell? (Va rg (k*6+2))=some (Vi (V k).m):=(hbr.cell (p:=Va rg (k*6+2)) R8.out.2.1.lt).trans ((R8.out.2.1.cell (i:=k*6+2) (by omega)).trans (congrArg some (BH V k 2 (by omega))));have g3:wr.cell? (Va rg (k*6+3))=some (Vi (V k).h):=(hbr.cell (p:=Va rg (k*6+3)) R8.out.2.1.lt).trans ((R8.out.2.1.cell (i:=k*6+3) (by omega)).trans (congrArg some (BH V k 3 (by omega))));have g4:wr.cell? (Va rg (k*6+4))=some (Vi (V k).lo):=(hbr.cell (p:=Va rg (k*6+4)) R8.out.2.1.lt).trans ((R8.out.2.1.cell (i:=k*6+4) (by omega)).trans (congrArg some (BH V k 4 (by omega))));have g5:wr.cell? (Va rg (k*6+5))=some (Vi (V k).hi):=(hbr.cell (p:=Va rg (k*6+5)) R8.out.2.1.lt).trans ((R8.out.2.1.cell (i:=k*6+5) (by omega)).trans (congrArg some (BH V k 5 (by omega))));have q0:wr.cell? (Va bR (k*6))=some (Vi (V k).k):=(hbr.cell (p:=Va bR (k*6)) D8.out.sc.r.lt).trans ((D8.out.sc.r.cell (i:=k*6+0) (by omega)).trans (congrArg some (BH V k 0 (by omega))));have q1:wr.cell? (Va bR (k*6+1))=some (.bool (V k).s):=(hbr.cell (p:=Va bR (k*6+1)) D8.out.sc.r.lt).trans ((D8.out.sc.r.cell (i:=k*6+1) (by omega)).trans (congrArg some (BH V k 1 (by omega))));have q2:wr.cell? (Va bR (k*6+2))=some (Vi (V k).m):=(hbr.cell (p:=Va bR (k*6+2)) D8.out.sc.r.lt).trans ((D8.out.sc.r.cell (i:=k*6+2) (by omega)).trans (congrArg some (BH V k 2 (by omega))));have q3:wr.cell? (Va bR (k*6+3))=some (Vi (V k).h):=(hbr.cell (p:=Va bR (k*6+3)) D8.out.sc.r.lt).trans ((D8.out.sc.r.cell (i:=k*6+3) (by omega)).trans (congrArg some (BH V k 3 (by omega))));have q4:wr.cell? (Va bR (k*6+4))=some (Vi (V k).lo):=(hbr.cell (p:=Va bR (k*6+4)) D8.out.sc.r.lt).trans ((D8.out.sc.r.cell (i:=k*6+4) (by omega)).trans (congrArg some (BH V k 4 (by omega))));have q5:wr.cell? (Va bR (k*6+5))=some (Vi (V k).hi):=(hbr.cell (p:=Va bR (k*6+5)) D8.out.sc.r.lt).trans ((D8.out.sc.r.cell (i:=k*6+5) (by omega)).trans (congrArg some (BH V k 5 (by omega))));go_wp2_with fail;go_quiet(fail);clear g0 g1 g2 g3 g4 g5 q0 q1 q2 q3 q4 q5;go_wp2_with fail;go_roundw
       case rel=>exact⟨k+1,by omega,by go_num,HBR.out.trans (below_drewN (Below.refl _ _) _)⟩
       case measure=>simp[intOf];omega
      ·have hlt':¬(k:Int)<8:=by omega
       have B9:=hxy (D8.out.F.trans (hbr.mono D8.out.F.size));clear hlt hk HBR;go_wp2_with fail;go_ret;exact⟨rfl,B9.out⟩
end Go.Proofs.YtfpeecaaleijcaaGreatDoor
namespace Go.Proofs.YtfpeecaaleijcaaGreatDoor
open Go.ChangeShapes Go.WideShapes Go.ChangeAt Go.RowKit Go.Deep
variable {g:Nat}{W w:World}
theorem aS:ownKnob Tryz.prog.godebug=none:=by kernel_rfl
theorem Sv:laidOutB Tryz.prog=true:=by kernel_rfl
theorem Sq{H:Type}{enc:TypeId×Value->H}{a:Assume}{C:Checked}{os:Os}{f:FuncId}{fn:Func}{s:ChangeSpec}{conds:List PathCond}{apart fresh handsOn again:Bool}{X:World->Array Value->Prop}
 (hX:∀(w w':World)(args:Array Value),w.heap=w'.heap->X w args->X w' args)
 (own:ownKnob C.prog.godebug=none)(started:os.Started)(noInit:C.prog.inits.idxOf? f=none)(hfn:C.prog.funcs[f]?=some fn)
 (witness:∃(w:World)(tape:Tape)(i:Input),w.os=os/\(w.forCall tape i).Shaped C.prog/\i.vars=[]/\Input.okWide C.prog (w.forCall tape i) .any w.heap.size f i/\
   ((s.pre enc C.prog fn conds apart (w.forCall tape i).memory i.args/\X (w.forCall tape i).memory i.args)/\sizedMet enc C.prog fn (OpenSpec.ofChange s) apart (w.forCall tape i).memory i.args)/\a.holds C.prog (lone (Frame.enter C.prog f i.args .normal) [] (w.forCall tape i)))
 (contract:∀(W:World)(base:Nat)(args:Array Value)(ds gs:List (DataW H))(before:List MemPlace),
   (∀(j:Nat)t v,fn.params[j]?=some t->args[j]?=some v->Value.okWide C.prog W .any base t v)->
   DataW.Whole enc C.prog fn.params.toList s.vars apart W args.toList ds gs before->X W args->W.ShapedOpen C.prog->
   Calls C.prog f args W fun e W'=>∃v,e=.returned v/\s.post enc C.prog fn apart fresh handsOn again W args v W'):
 ReturnsInHanded a C os f .any (fun w args=>(s.pre enc C.prog fn conds apart w args/\X w args)/\sizedMet enc C.prog fn (OpenSpec.ofChange s) apart w args) (s.post enc C.prog fn apart fresh handsOn again):=by
 refine returnsInHanded_of_calls own started noInit witness ?_;intro w tape i _ hsh _ hok hpre _;obtain⟨_,_,_,fn',hfn',_,_,_,_,hval⟩:=hok;obtain rfl:fn'=fn:=Option.some.inj (hfn'.symm.trans hfn);obtain⟨⟨⟨ds,gs,before,hw,_⟩,hx⟩,_⟩:=hpre;refine(contract (w.forCall tape i) w.heap.size i.args ds gs before hval (DataW.Whole.of_heap (by rfl) hw) (hX _ _ _ (by rfl) hx) hsh).mono fun e W'⟨v,he,hp⟩=>?_
 subst he;exact ChangeSpec.post_blind hp
theorem ZY{P:Program}{n:String}{t:TypeId}{zero:Array Value}{k:IntKind}(h:w.ShapedOpen P)(hn:P.globalNamed n=some g)(hg:g<P.globals.size)
 (h0:((begin P (fun _ _=>0) default).world.heap[g]?).bind Obj.row?=some (zero,t))(hz:zero.size=1)
 (hb:P.buildable t=true)(hc:P.cellTypes P.depth t=some [t])(hu:P.underlying t=some (.int k)):∃m,w.var? P n=some #[.int k m]:=by
 obtain⟨m,hm⟩:=cell_of_shapedOpen_int h hg h0 hz hb hc hu;obtain⟨cs,hh,hs,_⟩:=h.1 g zero t hg h0;refine⟨m,?_⟩;have h1:cs.size=1:=by omega
 have h2:cs[0]?=some (.int k m):=by
  rw[<-hm];simp[World.cell?,hh]
 have h3:cs=#[.int k m]:=by
  apply Array.ext_getElem?;intro i;match i with
  |0=>rw[h2];rfl
  |i+1=>rw[Array.getElem?_eq_none (by omega),Array.getElem?_eq_none (by simp)]
 unfold World.var?;simp only[hn,Option.bind_some,hh,h3]
theorem WZ(ao:Option Addr)(len cap:Nat)(w:World)(h:1048576<len)(hm:len<=maxLen):
 Calls Tryz.prog 3 #[.slice ao len cap] w fun e w'=>e=.returned (.bool true)/\Below w.heap.size w w':=by
 unfold maxLen at hm;have h':(1048576:Int)<len:=by omega
 go_enter Tryz.func3,Tryz.ntmps3;go_wp2;go_ret;exact⟨rfl,Below.refl _ _⟩
theorem MP{name:String}{k:IntKind}{zs:List Int}{dd:DataW Unit}(hd:dd=Lib.tabData k zs)(h:laidMetH Tryz.prog Rows.fnSourceRow.laid W)(hx:(Rows.fnSourceRow.laid.filter fun x=>x.1==name)=[(name,dd)]){t e:TypeId}{n:Nat}
 (hg:Tryz.prog.globalNamed name=some g)(hty:(Tryz.prog.globals[g]?).map (·.type)=some t)(ht:Tryz.prog.underlying t=some (.array n e))(he:Tryz.prog.underlying e=some (.int k))(hce:Tryz.prog.cellsOf e=1)(hct:Tryz.prog.cellsOf t=n):
 Lib.TabIs Tryz.prog W name k zs:=by
 rw[MakeChecks.laidMetH_plain _ _ _ (by kernel_rfl)]at h;have h1:=laidMet.filter (fun x=>x.1==name) h;rw[hx,hd]at h1;exact Lib.tabIs_of_head hg hty ht he hce hct h1
theorem Sc: "*" ++ "errors.errorString" = "*errors.errorString" :=by decide
theorem Zg(u:TypeId)(h:Tryz.prog.typeName? 3 u=some "*errors.errorString"):u=301:=
 typeName_ptr_named (nm:= "errors.errorString") (by rw[Sc];kernel_rfl) (by kernel_rfl) (by decide) u (by rw[Sc];exact h)
theorem Mt{name:String}{text:List UInt8}(h:laidMetH Tryz.prog Rows.fnSourceRow.laid W)(hx:(Rows.fnSourceRow.laid.filter fun x=>x.1==name)=[(name,.iface "*errors.errorString" (.ptr (.agg [.lit (.string text)])))])
 (hg:Tryz.prog.globalNamed name=some g)(hty:(Tryz.prog.globals[g]?).map (·.type)=some 157):∃tp p,W.var? Tryz.prog name=some #[.iface tp p]:=by
 rw[MakeChecks.laidMetH_plain _ _ _ (by kernel_rfl)]at h;have h1:=laidMet.filter (fun x=>x.1==name) h;rw[hx]at h1;obtain⟨a,s,hv,_⟩:=laid_sentinel h1 hg hty Tryz.underlying157 Zg Tryz.underlying301 Tryz.underlying303 rfl rfl Tryz.underlying9 (by kernel_rfl) (by kernel_rfl);exact⟨_,_,hv⟩
theorem bK:Tryz.prog.cellsOf 5=1:=by kernel_rfl
theorem Yr{n:Int}(h:(Lit.int .u8 n).wf=true):0<=n/\n<=255:=by
 simpa[Lit.wf,IntKind.min,IntKind.max,IntKind.signed,IntKind.bits]using h
theorem Yu{H:Type}{enc:TypeId×Value->H}{base:Nat}{spare:Nat->Bool}{held:Bool}{fuel:Nat}{ao:Option Addr}{len cap:Nat}{x:DataW H×List MemPlace}
 (h:DataW.trod enc Tryz.prog w base spare held fuel 22 [.slice ao len cap]=some x):len<=maxLen/\Fp w w.heap.size ao len:=by
 obtain⟨hm,f,hin,hel⟩:=open_row Tryz.underlying22 bK (by omega) h;refine⟨hm,?_⟩;rw[Nat.mul_one]at hin;rcases hin with h0|⟨b,off,h1,h2⟩
 ·exact .inl h0
 ·refine .inr ⟨b,off,h1,h2.lt,fun i hi=>?_⟩
  obtain⟨n,y,hy⟩:=hel i hi;simp[List.range,List.range.loop]at hy;obtain⟨r,e1,_,wb⟩:=DataW.trod_int Tryz.underlying5 hy;simp at e1;exact⟨r,(Yr wb).1,(Yr wb).2,by rw[h2.cell hi,e1]⟩
theorem Mh{P:Program}{n:String}{cs:Array Value}(h:w.var? P n=some cs)(hg:P.globalNamed n=some g):g<w.heap.size:=by
 unfold World.var? at h;rw[hg]at h;simp only[Option.bind_some]at h;rcases Nat.lt_or_ge g w.heap.size with h'|h'
 ·exact h'
 ·rw[Array.getElem?_eq_none h']at h
  cases h
theorem Yk(hL:laidMetH Tryz.prog Rows.fnSourceRow.laid W)(hsh:W.ShapedOpen Tryz.prog):Env W W.heap.size:=by
 have t1:Lib.TabIs Tryz.prog W "internal/strconv.uint64pow10" .u64 Lib.pow10Tab:=MP (by rfl) hL (by kernel_rfl) (g:=3) (t:=257) (e:=199) (n:=20) (by kernel_rfl) (by kernel_rfl) (by kernel_rfl) (by kernel_rfl) (by kernel_rfl) (by kernel_rfl);have t2:Lib.TabIs Tryz.prog W "strings.asciiSpace" .u8 Lib.asciiSpaceTab:=MP (by rfl) hL (by kernel_rfl) (g:=0) (t:=145) (e:=5) (n:=256) (by kernel_rfl) (by kernel_rfl) (by kernel_rfl) (by kernel_rfl) (by kernel_rfl) (by kernel_rfl);obtain⟨m,hm⟩:∃m:Int,W.var? Tryz.prog "internal/bytealg.MaxLen" =some #[.int .i64 m]:=ZY (g:=1) (t:=3) (zero:=#[.int .i64 0]) hsh (by kernel_rfl) (of_decide_eq_true (by kernel_rfl)) (by kernel_rfl) rfl (by kernel_rfl) (by kernel_rfl) (by kernel_rfl);have es:=Mt (name:= "strconv.ErrSyntax") (text:=[105,110,118,97,108,105,100,32,115,121,110,116,97,120]) hL (by kernel_rfl) (g:=6) (by kernel_rfl) (by kernel_rfl);have er:=Mt (name:= "strconv.ErrRange") (text:=[118,97,108,117,101,32,111,117,116,32,111,102,32,114,97,110,103,101]) hL (by kernel_rfl) (g:=7) (by kernel_rfl) (by kernel_rfl);refine⟨t2,t1,es,er,⟨m,hm⟩,fun n hn g hg=>?_⟩;simp only[Ru,List.mem_cons,List.not_mem_nil,or_false]at hn;rcases hn with rfl|rfl|rfl|rfl|rfl
 ·exact Mh t2 hg
 ·exact Mh t1 hg
 ·obtain⟨_,_,h⟩:=es;exact Mh h hg
 ·obtain⟨_,_,h⟩:=er;exact Mh h hg
 ·exact Mh hm hg
theorem Pm(os:Os)(started:os.Started)(H:Type)(enc:TypeId×Value->H):
 ReturnsInHanded {} Tryz.checked os 3 .any (fun w args=>(Rows.fnSourceSpec.pre enc Tryz.prog Tryz.f3 Rows.fnSourceRow.domain false w args/\laidMetH Tryz.prog Rows.fnSourceRow.laid w)/\sizedMet enc Tryz.prog Tryz.f3 (OpenSpec.ofChange Rows.fnSourceSpec) false w args)
  (Rows.fnSourceSpec.post enc Tryz.prog Tryz.f3 false true false false):=by
 refine Sq (C:=Tryz.checked) (X:=fun w _=>laidMetH Tryz.prog Rows.fnSourceRow.laid w) (fun _ _ _ hh h=>h.of_heap hh) aS started (by kernel_rfl) Tryz.func3
  (ChangeSpec.witness_shaped (enc:=enc) (C:=Tryz.checked) (os:=os) (X:=fun w _=>laidMetH Tryz.prog Rows.fnSourceRow.laid w) false (World.laidAll Tryz.prog os Rows.fnSourceRow.laid) #[.slice none 0 0] 8 (World.laidAll_os _ _ _)
    (World.shaped_of_ZipB (by kernel_rfl) (by kernel_rfl)) (by kernel_rfl) (by kernel_rfl) (by kernel_rfl)
    (by rw[MakeChecks.laidMetH_plain _ _ _ (by kernel_rfl)];exact laidMet_laidAll _ (by kernel_rfl) (by kernel_rfl))) ?_
 intro W base args ds gs before hval0 hW hL hsh;have hval:∀(j:Nat)t v,Tryz.f3.params[j]?=some t->args[j]?=some v->Value.okWide Tryz.prog W .any base t v:=hval0;have hW':=hW;obtain⟨p,q,hA0,hV,rfl,_,_⟩:=hW;have hA:DataW.TrodAll enc Tryz.prog W 0 (fun _=>true) true Tryz.f3.params.toList args.toList ds p:=hA0;rw[Tryz.params3]at hA hval;obtain⟨v0,d0,rfl,rfl,h0⟩:=trodAll_one hA;obtain⟨rfl,rfl⟩:=trodVars_none hV;obtain⟨ao,len,cap,rfl⟩:=okWide_slice Tryz.underlying22 (hval 0 22 v0 rfl rfl);have k0:=h0;have lt0:∀x∈p,x.block<W.heap.size:=by obtain⟨m,hm⟩:=k0;exact DataW.trod_lt m _ _ _ hm
 obtain⟨fuel,hf⟩:=h0;obtain⟨hm,hin⟩:=Yu (by simpa[Value.cells]using hf);clear hA0 hval0;have fin:∀(e:Ending)(W':World),e=.returned (.bool true)/\Below W.heap.size W W'->∃v,e=.returned v/\Rows.fnSourceSpec.post enc Tryz.prog Tryz.f3 false true false false W #[.slice ao len cap] v W':=by
  rintro e W'⟨he,bel⟩;subst he;exact⟨_,rfl,_,_,_,[],_,[],hW',trodAll_mk1 (shut_bool Tryz.underlying4 _),trodAll_mk1 (Below.trod Sv (by kernel_rfl) (of_decide_eq_true (by kernel_rfl)) k0 bel lt0),rfl,bel.frame _,fun h=>by cases h⟩
 by_cases hl:len<=1048576
 ·exact(NI ao len cap W hl hin (Yk hL hsh)).mono fin
 ·exact(WZ ao len cap W (by omega) hm).mono fin
theorem J3:Rows.FnSourceSaid:=
 OpenClaim.holds_of_wide 3 Tryz.f3 rfl rfl rfl rfl rfl rfl rfl ⟨rfl,rfl,rfl,rfl,rfl⟩ rfl rfl rfl rfl rfl (by kernel_rfl) Tryz.func3 (by kernel_rfl)
  (of_decide_eq_true (by kernel_rfl)) (by unfold Func.isWrapper;first|(rw[if_pos (by decide+kernel)];kernel_rfl)|(rw[if_neg (by decide+kernel)];exact⟨rfl,rfl⟩))
  (fun os started H enc _=>Pm os started H enc)
theorem fnSource_holds:Rows.FnSourceCardSaid:=
 Claim7.holds_tied_plain_at .later [] [.data,.data,.data,.data,.sentinel,.sentinel,.listed,.data,.pinned] true (true,"624ad0c1603a59cd03b1cefec43c987e4250b8be5ff791752cf09263d74dee0a") true J3 (fun _ h=>by cases h) (by kernel_rfl) (fun _ h=>by cases h) fnSource_row_tie rfl ⟨rfl,rfl⟩ (by kernel_rfl) rfl
  (fun f fn hf hfn=>by
    obtain rfl:f=3:=Option.some.inj ((show Tryz.prog.funcNamed "loop.example/s01319/laws.FnSource" =some 3 by kernel_rfl).symm.trans hf)|>.symm;obtain rfl:fn=Tryz.f3:=(Option.some.inj (Tryz.func3.symm.trans hfn)).symm;exact⟨by kernel_rfl,fun j t ht=>by
     rw[Tryz.params3]at ht;have hm:t∈[22]:=by simpa using Array.mem_of_getElem? ht
     have hall:([22].all fun u=>!Tryz.prog.wantsStandIn u)=true:=by kernel_rfl
     exact(show Tryz.prog.wantsStandIn t=false by simpa using List.all_eq_true.1 hall t hm)⟩)
  (by kernel_rfl)
end Go.Proofs.YtfpeecaaleijcaaGreatDoor
