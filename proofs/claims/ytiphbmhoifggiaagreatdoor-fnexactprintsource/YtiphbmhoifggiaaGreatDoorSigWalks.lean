import Derived.Test.YtiphbmhoifggiaaGreatDoorOfValGood
set_option maxHeartbeats 1000000
namespace Go.Proofs.YtiphbmhoifggiaaGreatDoor
open Go.RowKit
structure SigIn(w:World)(aoH:Option Addr)(nH:Nat)(S:Nat->HS)(aoR:Option Addr)(nR:Nat)(V:Nat->VV):Prop where
 h:InRow w aoH (nH*3) (hsF S)
 r:InRow w aoR (nR*6) (vF V)
structure SigCp(w:World)(bH nH:Nat)(S:Nat->HS)(bR nR:Nat)(V:Nat->VV):Prop where
 h:Arr w bH (nH*3) (hsF S)
 r:Arr w bR (nR*6) (vF V)
theorem SigIn.below{w w':World}{B:Nat}{aoH:Option Addr}{nH:Nat}{S:Nat->HS}{aoR:Option Addr}{nR:Nat}{V:Nat->VV}(x:SigIn w aoH nH S aoR nR V)(hb:Below B w w')(hB:w.heap.size<=B):SigIn w' aoH nH S aoR nR V:=
 ⟨x.h.below hb hB,x.r.below hb hB⟩
theorem SigCp.below{w w':World}{bH nH:Nat}{S:Nat->HS}{bR nR:Nat}{V:Nat->VV}(x:SigCp w bH nH S bR nR V)(hb:Below w.heap.size w w'):SigCp w' bH nH S bR nR V:=
 ⟨x.h.below hb x.h.lt,x.r.below hb x.r.lt⟩
theorem szSig_ok(aoH:Option Addr)(nH cH:Nat)(aoR:Option Addr)(nR cR:Nat)(left:Int)(w:World)(h0:0<=left)(h1:(nH:Int)+nR<=left)(h2:left<=1048576):
 Calls Tryz.prog 13 #[.agg #[.slice aoH nH cH,.slice aoR nR cR],.int .i64 left] w fun e w'=>e=.returned (.int .i64 (left-nH-nR))/\Below w.heap.size w w':=by
 go_enter Tryz.func13,Tryz.ntmps13;go_wp2;go_ret;exact⟨rfl,(Below.refl _ _).alloc (Nat.le_refl _) _⟩
theorem szSig_no(aoH:Option Addr)(nH cH:Nat)(aoR:Option Addr)(nR cR:Nat)(left:Int)(w:World)(h0:0<=left)(h1:left<(nH:Int)+nR)(h2:left<=1048576)(mH:nH<=maxLen)(mR:nR<=maxLen):
 Calls Tryz.prog 13 #[.agg #[.slice aoH nH cH,.slice aoR nR cR],.int .i64 left] w fun e w'=>e=.returned (.int .i64 (-1))/\Below w.heap.size w w':=by
 unfold maxLen at mH mR;by_cases g:left<nH
 ·go_enter Tryz.func13,Tryz.ntmps13
  go_wp2;go_ret;exact⟨rfl,(Below.refl _ _).alloc (Nat.le_refl _) _⟩
 ·go_enter Tryz.func13,Tryz.ntmps13
  go_wp2;go_ret;exact⟨rfl,(Below.refl _ _).alloc (Nat.le_refl _) _⟩
theorem toSig_in(aoH:Option Addr)(nH cH:Nat)(S:Nat->HS)(aoR:Option Addr)(nR cR:Nat)(V:Nat->VV)(w:World)(lH:nH<=1048576)(lR:nR<=1048576)(hin:SigIn w aoH nH S aoR nR V):
 Calls Tryz.prog 21 #[.agg #[.slice aoH nH cH,.slice aoR nR cR]] w fun e w'=>∃bH bR,w.heap.size<=bH/\w.heap.size<=bR/\e=.returned (.agg #[.slice (some ⟨bH,0,none⟩) nH nH,.slice (some ⟨bR,0,none⟩) nR nR])/\Below w.heap.size w w'/\SigCp w' bH nH S bR nR V:=by
 have HI:Hid (SigIn w aoH nH S aoR nR V):=hin;clear hin;go_enter Tryz.func21,Tryz.ntmps21;go_wp2_with fail;have b0:=(((Below.refl w.heap.size w).alloc (Nat.le_refl _) (.cells #[.slice aoH nH cH,.slice aoR nR cR] 25)).alloc (by simp) (.cells #[.slice none 0 0,.slice none 0 0] 35)).alloc (by simp;omega) (.cells #[.slice none 0 0,.slice none 0 0] 35);refine(toHeapSigS_in _ _ _ S _ lH ?h1).mono ?_
 case h1=>exact HI.out.h.below b0 (Nat.le_refl _)
 rintro e w1⟨rfl,hb1,ha1⟩;have b1:=b0.trans (hb1.mono (by simp;omega));have HB1:Hid (Below w.heap.size w w1):=b1;have t1:Arr w1 (w.heap.size+1+1+1) (nH*3) (hsF S):=by simp only[World.size_alloc]at ha1;exact ha1
 have HA1:Hid (Arr w1 (w.heap.size+1+1+1) (nH*3) (hsF S)):=t1;clear b0 b1 ha1 t1;obtain⟨hc1,hf1⟩:=bcell hb1;have hz1:w.heap.size+2<w1.heap.size:=by have:=hb1.size;simp at this;omega
 have hz2:w.heap.size+1<w1.heap.size:=by omega
 have hz3:w.heap.size<w1.heap.size:=by omega
 clear hb1;go_wp2_with fail;have s1:=HB1.out.setCell (p:=⟨w.heap.size+1+1,0,none⟩) (by simp;omega) (.slice (some ⟨w.heap.size+1+1+1,0,none⟩) nH nH);refine(toValS_in _ _ _ V _ lR ?h2).mono ?_
 case h2=>exact HI.out.r.below s1 (Nat.le_refl _)
 rintro e w2⟨rfl,hb2,ha2⟩;have t2:Below w.heap.size w w2:=s1.trans (hb2.mono (by simp;omega));have HB2:Hid (Below w.heap.size w w2):=t2;have t3:Arr w2 w1.heap.size (nR*6) (vF V):=by simp only[World.size_setCell]at ha2;exact ha2
 have HA2:Hid (Arr w2 w1.heap.size (nR*6) (vF V)):=t3;have t4:Arr w2 (w.heap.size+1+1+1) (nH*3) (hsF S):=(HA1.out.other (a:=⟨w.heap.size+1+1,0,none⟩) (by simp) (.slice (some ⟨w.heap.size+1+1+1,0,none⟩) nH nH)).below hb2 (by simp;exact HA1.out.lt);have HA3:Hid (Arr w2 (w.heap.size+1+1+1) (nH*3) (hsF S)):=t4;clear s1 t2 t3 t4 ha2;obtain⟨hc2,hf2⟩:=bcell hb2;have hy:w1.heap.size<=w2.heap.size:=by have:=hb2.size;simpa using this
 have hy1:w.heap.size+2<w2.heap.size:=by omega
 have hy2:w.heap.size+1<w2.heap.size:=by omega
 have hy3:w.heap.size<w2.heap.size:=by omega
 clear hb2;go_wp2;refine bodyPost_ret (v:=.agg #[.slice (some ⟨w.heap.size+1+1+1,0,none⟩) nH nH,.slice (some ⟨w1.heap.size,0,none⟩) nR nR]) (by simp[results,Tryz.results21,go_sem,hc1,hc2,hz2]) rfl ⟨_,_,?_,?_,rfl,?_,?_⟩
 ·omega
 ·omega
 ·exact((HB2.out.setCell (by simp;omega) _).setCell (by simp) _).setCell (by simp) _
 ·refine⟨?_,?_⟩
  ·exact((HA3.out.other (by simp) _).other (by simp) _).other (by simp) _
  ·exact((HA2.out.other (by simp;omega) _).other (by simp;omega) _).other (by simp;omega) _
theorem eqSig_same(bH cH nH:Nat)(S:Nat->HS)(bR cR nR:Nat)(V:Nat->VV)(bH' cH' bR' cR':Nat)(w:World)(lH:nH<=1048576)(lR:nR<=1048576)(h1:SigCp w bH nH S bR nR V)(h2:SigCp w bH' nH S bR' nR V):
 Calls Tryz.prog 33 #[.agg #[.slice (some ⟨bH,0,none⟩) nH cH,.slice (some ⟨bR,0,none⟩) nR cR],.agg #[.slice (some ⟨bH',0,none⟩) nH cH',.slice (some ⟨bR',0,none⟩) nR cR']] w fun e w'=>e=.returned (.bool true)/\Below w.heap.size w w':=by
 have H1:Hid (SigCp w bH nH S bR nR V):=h1;have H2:Hid (SigCp w bH' nH S bR' nR V):=h2;clear h1 h2;go_enter Tryz.func33,Tryz.ntmps33;go_wp2_with fail;have b0:Below w.heap.size w ((w.alloc (.cells #[.slice (some ⟨bH,0,none⟩) nH cH,.slice (some ⟨bR,0,none⟩) nR cR] 35)).alloc (.cells #[.slice (some ⟨bH',0,none⟩) nH cH',.slice (some ⟨bR',0,none⟩) nR cR'] 35)):=((Below.refl _ _).alloc (Nat.le_refl _) _).alloc (by simp) _;have K1:Hid (SigCp _ bH nH S bR nR V):=H1.out.below b0;have K2:Hid (SigCp _ bH' nH S bR' nR V):=H2.out.below b0;have HB0:Hid _:=b0;clear b0;refine(eqHeapSigS_same _ _ _ _ _ _ _ S _ lH K1.out.h.at K2.out.h.at).mono ?_;rintro e w1⟨rfl,hb1⟩;have J1:Hid (SigCp _ bH nH S bR nR V):=K1.out.below hb1;have J2:Hid (SigCp _ bH' nH S bR' nR V):=K2.out.below hb1;have b1:=HB0.out.trans (hb1.mono HB0.out.size);have HB1:Hid _:=b1;obtain⟨hc1,_⟩:=bcell hb1;have hz2:w.heap.size+1<w1.heap.size:=by have:=hb1.size;simp at this;omega
 have hz3:w.heap.size<w1.heap.size:=by omega
 clear hb1 b1 K1 K2 HB0;go_wp2_with fail;refine(eqValS_same _ _ _ _ _ _ _ V _ lR J1.out.r.at J2.out.r.at).mono ?_;rintro e w2⟨rfl,hb2⟩;go_wp2;go_ret;exact⟨rfl,HB1.out.trans (hb2.mono HB1.out.size)⟩
def sigAt(S:Nat->HS)(i:Nat):Bool:=decide (1<=(S i).size/\(S i).size<=4096)
def sigOK(nH:Nat)(S:Nat->HS)(nR:Nat)(V:Nat->VV):Bool:=decide (nH<=8)&&(List.range nH).all (sigAt S)&&goodAll V nR nH
theorem sig_bad{nH nR:Nat}{S:Nat->HS}{V:Nat->VV}(h:8<nH):sigOK nH S nR V=false:=by
 simp[sigOK];intros;omega
theorem sig_stop{nH nR k:Nat}{S:Nat->HS}{V:Nat->VV}(hk:k<nH)(h:sigAt S k=false):sigOK nH S nR V=false:=by
 have:(List.range nH).all (sigAt S)=false:=by
  rw[List.all_eq_false];exact⟨k,List.mem_range.2 hk,by simp[h]⟩
 simp[sigOK,this]
theorem sig_end{nH nR:Nat}{S:Nat->HS}{V:Nat->VV}(h8:nH<=8)(h:∀i,i<nH->sigAt S i=true):sigOK nH S nR V=goodAll V nR nH:=by
 have:(List.range nH).all (sigAt S)=true:=by
  rw[List.all_eq_true];exact fun i hi=>h i (List.mem_range.1 hi)
 simp[sigOK,this,h8]
theorem sig_step{S:Nat->HS}{k:Nat}(h:∀i,i<k->sigAt S i=true)(g:sigAt S k=true):∀i,i<k+1->sigAt S i=true:=by
 intro i hi;by_cases e:i=k
 ·rw[e];exact g
 ·exact h i (by omega)
theorem implSig_any(bH cH nH:Nat)(S:Nat->HS)(bR cR nR:Nat)(V:Nat->VV)(w:World)(lH:nH<=1048576)(lR:nR<=1048576)(h1:SigCp w bH nH S bR nR V):
 Calls Tryz.prog 24 #[.agg #[.slice (some ⟨bH,0,none⟩) nH cH,.slice (some ⟨bR,0,none⟩) nR cR]] w fun e w'=>e=.returned (.bool (sigOK nH S nR V))/\Below w.heap.size w w':=by
 have hbH:=h1.h.lt;have H1:Hid (SigCp w bH nH S bR nR V):=h1;clear h1;by_cases h8:8<nH
 ·rw[sig_bad h8]
  go_enter Tryz.func24,Tryz.ntmps24;go_wp2;go_ret;exact⟨rfl,(Below.refl _ _).alloc (Nat.le_refl _) _⟩
 ·have h8':nH<=8:=by omega
  clear h8;go_enter Tryz.func24,Tryz.ntmps24;go_wp2;go_loopw [12](fun i wr=>∃k:Nat,k<=nH/\i=.int .i64 k/\Below w.heap.size w wr/\w.heap.size<wr.heap.size/\wr.cell? ⟨w.heap.size,0,none⟩=some (.slice (some ⟨bH,0,none⟩) nH cH)/\wr.cell? ⟨w.heap.size,1,none⟩=some (.slice (some ⟨bR,0,none⟩) nR cR)/\∀i,i<k->sigAt S i=true)(fun i _=>nH-(intOf i).toNat)
  case atStart=>exact⟨0,Nat.zero_le _,rfl,(Below.refl _ _).alloc (Nat.le_refl _) _,by simp,by simp[go_sem],by simp[go_sem],fun i hi=>by omega⟩
  case round=>
   obtain⟨k,hk,rfl,hbr,hzr,x0,x1,hall⟩:=hrel;have HL:Hid (∀i,i<k->sigAt S i=true):=hall;have HBR:Hid (Below w.heap.size w wr):=hbr;clear hall;by_cases hlt:k<nH
   ·have g0:=(hbr.cell (p:=⟨bH,k*3,none⟩) hbH).trans (H1.out.h.cell (i:=k*3+0) (by omega) |>.trans (congrArg some (hsF_at S k 0 (by omega))))
    have g1:=(hbr.cell (p:=⟨bH,k*3+1,none⟩) hbH).trans (H1.out.h.cell (i:=k*3+1) (by omega) |>.trans (congrArg some (hsF_at S k 1 (by omega))));have g2:=(hbr.cell (p:=⟨bH,k*3+2,none⟩) hbH).trans (H1.out.h.cell (i:=k*3+2) (by omega) |>.trans (congrArg some (hsF_at S k 2 (by omega))));simp only[hsC]at g0 g1 g2;have hbHr:bH<wr.heap.size:=by omega
    clear hbr;go_wp2
    ·go_ret
     exact⟨ret_bool (sig_stop hlt (by simp[sigAt];omega)).symm,HBR.out.alloc HBR.out.size _⟩
    ·go_roundw
     case rel=>exact⟨k+1,by omega,by go_num,HBR.out.alloc HBR.out.size _,by simp;omega,by go_simp,by go_simp,sig_step HL.out (by simp[sigAt];omega)⟩
     case measure=>simp[intOf];omega
    ·go_ret
     exact⟨ret_bool (sig_stop hlt (by simp[sigAt];omega)).symm,HBR.out.alloc HBR.out.size _⟩
   ·obtain rfl:k=nH:=by omega
    clear hbr;go_wp2_with fail;refine(validVals_at _ _ _ _ V _ _ lR (H1.out.r.below HBR.out H1.out.r.lt).at).mono ?_;rintro e w2⟨rfl,hb2⟩;go_wp2;go_ret;exact⟨ret_bool (sig_end h8' HL.out).symm,HBR.out.trans (hb2.mono HBR.out.size)⟩
theorem specSig_any(bH cH nH:Nat)(S:Nat->HS)(bR cR nR:Nat)(V:Nat->VV)(w:World)(lH:nH<=1048576)(lR:nR<=1048576)(h1:SigCp w bH nH S bR nR V):
 Calls Tryz.prog 16 #[.agg #[.slice (some ⟨bH,0,none⟩) nH cH,.slice (some ⟨bR,0,none⟩) nR cR]] w fun e w'=>e=.returned (.bool (sigOK nH S nR V))/\Below w.heap.size w w':=by
 have hbH:=h1.h.lt;have H1:Hid (SigCp w bH nH S bR nR V):=h1;clear h1;by_cases h8:8<nH
 ·rw[sig_bad h8]
  go_enter Tryz.func16,Tryz.ntmps16;go_wp2;go_ret;exact⟨rfl,(Below.refl _ _).alloc (Nat.le_refl _) _⟩
 ·have h8':nH<=8:=by omega
  clear h8;go_enter Tryz.func16,Tryz.ntmps16;go_wp2;go_loopw [3](fun i wr=>∃k:Nat,k<=nH/\i=.int .i64 k/\Below w.heap.size w wr/\w.heap.size<wr.heap.size/\wr.cell? ⟨w.heap.size,0,none⟩=some (.slice (some ⟨bH,0,none⟩) nH cH)/\wr.cell? ⟨w.heap.size,1,none⟩=some (.slice (some ⟨bR,0,none⟩) nR cR)/\∀i,i<k->sigAt S i=true)(fun i _=>nH-(intOf i).toNat)
  case atStart=>exact⟨0,Nat.zero_le _,rfl,(Below.refl _ _).alloc (Nat.le_refl _) _,by simp,by simp[go_sem],by simp[go_sem],fun i hi=>by omega⟩
  case round=>
   obtain⟨k,hk,rfl,hbr,hzr,x0,x1,hall⟩:=hrel;have HL:Hid (∀i,i<k->sigAt S i=true):=hall;have HBR:Hid (Below w.heap.size w wr):=hbr;clear hall;by_cases hlt:k<nH
   ·have g0:=(hbr.cell (p:=⟨bH,k*3,none⟩) hbH).trans (H1.out.h.cell (i:=k*3+0) (by omega) |>.trans (congrArg some (hsF_at S k 0 (by omega))))
    simp only[hsC]at g0;have hbHr:bH<wr.heap.size:=by omega
    clear hbr;go_wp2_with fail;refine(v_in_any _ _ _ _).mono ?_;rintro e w2⟨rfl,rfl⟩;have hv:decide (1<=(S k).size/\(S k).size<=4096)=sigAt S k:=rfl;rw[hv];cases hg:sigAt S k with
    |false=>
     have HG:Hid (sigAt S k=false):=hg;clear hg hv;go_wp2;go_ret;exact⟨ret_bool (sig_stop hlt HG.out).symm,HBR.out⟩
    |true=>
     have HG:Hid (sigAt S k=true):=hg;clear hg hv;go_wp2;go_roundw
     case rel=>exact⟨k+1,by omega,by go_num,HBR.out,hzr,x0,x1,sig_step HL.out HG.out⟩
     case measure=>simp[intOf];omega
   ·obtain rfl:k=nH:=by omega
    clear hbr;go_wp2_with fail;refine(l4GoodRegs_at _ _ _ _ V _ _ lR (by omega) (by omega) (H1.out.r.below HBR.out H1.out.r.lt).at).mono ?_;rintro e w2⟨rfl,hb2⟩;go_wp2;go_ret;exact⟨ret_bool (sig_end h8' HL.out).symm,HBR.out.trans (hb2.mono HBR.out.size)⟩
end Go.Proofs.YtiphbmhoifggiaaGreatDoor
