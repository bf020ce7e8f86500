import Derived.Test.YtbahofiiaodpdaaGreatOfValRows
import Derived.Test.YtbahofiiaodpdaaGreatOfCl
import Derived.Test.YtbahofiiaodpdaaGreatRows
import Derived.Deep.RegionHeld3
import Derived.Deep.Cut
import Derived.Deep.DeepCutAuto
set_option maxHeartbeats 4000000
namespace Go.Proofs.YtbahofiiaodpdaaGreat
open Go.RowKit
def goodB(x:VV)(n:Int):Bool:=
 if x.k=0 then decide (-1<=x.m/\x.m<=1099511627776/\x.h=0/\x.lo=0/\x.hi=0)
 else decide (x.k=1/\x.s=false/\x.m=0/\0<=x.h/\x.h<n/\ -1099511627776<=x.lo/\x.lo<=x.hi/\x.hi<=1099511627776)
theorem v_in_any(x lo hi:Int)(w:World):
 Calls Tryz.prog 36 #[.int .i64 x,.int .i64 lo,.int .i64 hi] w fun e w'=>e=.returned (.bool (decide (lo<=x/\x<=hi)))/\w'=w:=by
 go_enter Tryz.func36,Tryz.ntmps36;go_wp2;all_goals(go_ret;refine⟨ret_bool ?_,rfl⟩;simp<;>omega)
theorem validVal_any(k:Int)(s:Bool)(m h lo hi:Int)(n:Int)(w:World):
 Calls Tryz.prog 81 #[.agg #[.int .i64 k,.bool s,.int .i64 m,.int .i64 h,.int .i64 lo,.int .i64 hi],.int .i64 n] w fun e w'=>e=.returned (.bool (goodB ⟨k,s,m,h,lo,hi⟩ n))/\Below w.heap.size w w':=by
 go_enter Tryz.func81,Tryz.ntmps81;go_wp2;all_goals(go_ret;refine⟨ret_bool ?_,(Below.refl _ _).alloc (Nat.le_refl _) _⟩;simp_all[goodB]<;>omega)
theorem l4Good_any(k:Int)(s:Bool)(m h lo hi:Int)(n:Int)(w:World)(hn:0<=n)(hn':n<=8):
 Calls Tryz.prog 80 #[.agg #[.int .i64 k,.bool s,.int .i64 m,.int .i64 h,.int .i64 lo,.int .i64 hi],.int .i64 n] w fun e w'=>e=.returned (.bool (goodB ⟨k,s,m,h,lo,hi⟩ n))/\Below w.heap.size w w':=by
 go_enter Tryz.func80,Tryz.ntmps80;go_wp2_with(go_at_call 36;refine(v_in_any _ _ _ _).mono ?_;rintro e w'⟨rfl,rfl⟩);all_goals(go_ret;refine⟨ret_bool ?_,(Below.refl _ _).alloc (Nat.le_refl _) _⟩;simp_all[goodB]<;>first|omega|rfl)
def goodAll(V:Nat->VV)(len:Nat)(n:Int):Bool:=decide (len=8)&&(List.range len).all fun i=>goodB (V i) n
theorem goodAll_stop{V:Nat->VV}{len k:Nat}{n:Int}(hk:k<len)(h:goodB (V k) n=false):goodAll V len n=false:=by
 have:(List.range len).all (fun i=>goodB (V i) n)=false:=by
  rw[List.all_eq_false];exact⟨k,List.mem_range.2 hk,by simp[h]⟩
 simp[goodAll,this]
theorem goodAll_end{V:Nat->VV}{len:Nat}{n:Int}(h:∀i,i<len->goodB (V i) n=true):goodAll V len n=decide (len=8):=by
 have:(List.range len).all (fun i=>goodB (V i) n)=true:=by
  rw[List.all_eq_true];exact fun i hi=>h i (List.mem_range.1 hi)
 simp only[goodAll,this,Bool.and_true]
theorem good_step{V:Nat->VV}{k:Nat}{n:Int}(h:∀i,i<k->goodB (V i) n=true)(g:goodB (V k) n=true):∀i,i<k+1->goodB (V i) n=true:=by
 intro i hi;by_cases e:i=k
 ·rw[e];exact g
 ·exact h i (by omega)
theorem validVals_at(b off len cap:Nat)(V:Nat->VV)(n:Int)(w:World)(hlen:len<=1048576)(hat:At w b off (len*6) (vF V)):
 Calls Tryz.prog 59 #[.slice (some ⟨b,off,none⟩) len cap,.int .i64 n] w fun e w'=>e=.returned (.bool (goodAll V len n))/\Below w.heap.size w w':=by
 have hb:=hat.lt;have HA:Hid (At w b off (len*6) (vF V)):=hat;clear hat;go_enter Tryz.func59,Tryz.ntmps59;go_wp2;go_loopw [9](fun i wr=>∃k:Nat,k<=len/\i=.int .i64 k/\Below w.heap.size w wr/\∀i,i<k->goodB (V i) n=true)(fun i _=>len-(intOf i).toNat)
 case atStart=>exact⟨0,Nat.zero_le _,rfl,Below.refl _ _,fun i hi=>by omega⟩
 case round=>
  obtain⟨k,hk,rfl,hbr,hall⟩:=hrel;have HL:Hid (∀i,i<k->goodB (V i) n=true):=hall;clear hall;by_cases hlt:k<len
  ·have g0:=(hbr.cell (p:=⟨b,off+k*6,none⟩) hb).trans (HA.out.cell (i:=k*6+0) (by omega) |>.trans (congrArg some (vF_at V k 0 (by omega))))
   have g1:=(hbr.cell (p:=⟨b,off+k*6+1,none⟩) hb).trans (HA.out.cell (i:=k*6+1) (by omega) |>.trans (congrArg some (vF_at V k 1 (by omega))));have g2:=(hbr.cell (p:=⟨b,off+k*6+2,none⟩) hb).trans (HA.out.cell (i:=k*6+2) (by omega) |>.trans (congrArg some (vF_at V k 2 (by omega))));have g3:=(hbr.cell (p:=⟨b,off+k*6+3,none⟩) hb).trans (HA.out.cell (i:=k*6+3) (by omega) |>.trans (congrArg some (vF_at V k 3 (by omega))));have g4:=(hbr.cell (p:=⟨b,off+k*6+4,none⟩) hb).trans (HA.out.cell (i:=k*6+4) (by omega) |>.trans (congrArg some (vF_at V k 4 (by omega))));have g5:=(hbr.cell (p:=⟨b,off+k*6+5,none⟩) hb).trans (HA.out.cell (i:=k*6+5) (by omega) |>.trans (congrArg some (vF_at V k 5 (by omega))));simp only[vC]at g0 g1 g2 g3 g4 g5;go_wp2_with fail;refine(validVal_any _ _ _ _ _ _ _ _).mono ?_;rintro e w2⟨rfl,hb2⟩;have hbr2:Below w.heap.size w w2:=(hbr.alloc hbr.size _).trans (hb2.mono (by have:=hbr.size;simp;omega));clear g0 g1 g2 g3 g4 g5;have hv:goodB ⟨(V k).k,(V k).s,(V k).m,(V k).h,(V k).lo,(V k).hi⟩ n=goodB (V k) n:=rfl;rw[hv];cases hg:goodB (V k) n with
   |false=>
    have HG:Hid (goodB (V k) n=false):=hg;clear hg hv;go_wp2;go_ret;exact⟨ret_bool (goodAll_stop hlt HG.out).symm,hbr2⟩
   |true=>
    have HG:Hid (goodB (V k) n=true):=hg;clear hg hv;go_wp2;go_roundw
    case rel=>exact⟨k+1,by omega,by go_num,hbr2,good_step HL.out HG.out⟩
    case measure=>simp[intOf];omega
  ·obtain rfl:k=len:=by omega
   go_wp2
   ·go_ret
    refine⟨ret_bool ?_,hbr⟩;rw[goodAll_end HL.out,Bool.eq_iff_iff];simp<;>omega
theorem l4GoodRegs_at(b off len cap:Nat)(V:Nat->VV)(n:Int)(w:World)(hlen:len<=1048576)(hn:0<=n)(hn':n<=8)(hat:At w b off (len*6) (vF V)):
 Calls Tryz.prog 44 #[.slice (some ⟨b,off,none⟩) len cap,.int .i64 n] w fun e w'=>e=.returned (.bool (goodAll V len n))/\Below w.heap.size w w':=by
 have hb:=hat.lt;have HA:Hid (At w b off (len*6) (vF V)):=hat;clear hat;by_cases h8:len=8
 ·subst h8
  go_enter Tryz.func44,Tryz.ntmps44;go_wp2;go_loopw [5](fun i wr=>∃k:Nat,k<=8/\i=.int .i64 k/\Below w.heap.size w wr/\∀i,i<k->goodB (V i) n=true)(fun i _=>8-(intOf i).toNat)
  case atStart=>exact⟨0,Nat.zero_le _,rfl,Below.refl _ _,fun i hi=>by omega⟩
  case round=>
   obtain⟨k,hk,rfl,hbr,hall⟩:=hrel;have HL:Hid (∀i,i<k->goodB (V i) n=true):=hall;clear hall;by_cases hlt:k<8
   ·have g0:=(hbr.cell (p:=⟨b,off+k*6,none⟩) hb).trans (HA.out.cell (i:=k*6+0) (by omega) |>.trans (congrArg some (vF_at V k 0 (by omega))))
    have g1:=(hbr.cell (p:=⟨b,off+k*6+1,none⟩) hb).trans (HA.out.cell (i:=k*6+1) (by omega) |>.trans (congrArg some (vF_at V k 1 (by omega))));have g2:=(hbr.cell (p:=⟨b,off+k*6+2,none⟩) hb).trans (HA.out.cell (i:=k*6+2) (by omega) |>.trans (congrArg some (vF_at V k 2 (by omega))));have g3:=(hbr.cell (p:=⟨b,off+k*6+3,none⟩) hb).trans (HA.out.cell (i:=k*6+3) (by omega) |>.trans (congrArg some (vF_at V k 3 (by omega))));have g4:=(hbr.cell (p:=⟨b,off+k*6+4,none⟩) hb).trans (HA.out.cell (i:=k*6+4) (by omega) |>.trans (congrArg some (vF_at V k 4 (by omega))));have g5:=(hbr.cell (p:=⟨b,off+k*6+5,none⟩) hb).trans (HA.out.cell (i:=k*6+5) (by omega) |>.trans (congrArg some (vF_at V k 5 (by omega))));simp only[vC]at g0 g1 g2 g3 g4 g5;go_wp2_with fail;refine(l4Good_any _ _ _ _ _ _ _ _ hn hn').mono ?_;rintro e w2⟨rfl,hb2⟩;have hbr2:Below w.heap.size w w2:=hbr.trans (hb2.mono hbr.size);clear g0 g1 g2 g3 g4 g5;have hv:goodB ⟨(V k).k,(V k).s,(V k).m,(V k).h,(V k).lo,(V k).hi⟩ n=goodB (V k) n:=rfl;rw[hv];cases hg:goodB (V k) n with
    |false=>
     have HG:Hid (goodB (V k) n=false):=hg;clear hg hv;go_wp2;go_ret;exact⟨ret_bool (goodAll_stop hlt HG.out).symm,hbr2⟩
    |true=>
     have HG:Hid (goodB (V k) n=true):=hg;clear hg hv;go_wp2;go_roundw
     case rel=>exact⟨k+1,by omega,by go_num,hbr2,good_step HL.out HG.out⟩
     case measure=>simp[intOf];omega
   ·obtain rfl:k=8:=by omega
    go_wp2;go_ret;exact⟨ret_bool (by rw[goodAll_end HL.out];rfl),hbr⟩
 ·have hf:goodAll V len n=false:=by simp[goodAll,h8]
  rw[hf];clear hf;go_enter Tryz.func44,Tryz.ntmps44;go_wp2;all_goals(go_ret;exact⟨rfl,Below.refl _ _⟩)
def Vb(w:World)(b:Nat)(x:VV):Prop:=Arr w b 6 (vC x)
theorem Vb.new(w:World)(x:VV):Vb (w.alloc (.cells #[.int .i64 x.k,.bool x.s,.int .i64 x.m,.int .i64 x.h,.int .i64 x.lo,.int .i64 x.hi] 62)) w.heap.size x:=by
 refine⟨by simp,fun i=>by simp[go_sem],fun i hi=>?_⟩;match i,hi with
 |0,_=>simp[go_sem,vC]
 |1,_=>simp[go_sem,vC]
 |2,_=>simp[go_sem,vC]
 |3,_=>simp[go_sem,vC]
 |4,_=>simp[go_sem,vC]
 |5,_=>simp[go_sem,vC]
theorem Vb.cells{w:World}{b:Nat}{x:VV}(h:Vb w b x):w.cell? ⟨b,0,none⟩=some (.int .i64 x.k)/\w.cell? ⟨b,1,none⟩=some (.bool x.s)/\w.cell? ⟨b,2,none⟩=some (.int .i64 x.m)/\w.cell? ⟨b,3,none⟩=some (.int .i64 x.h)/\w.cell? ⟨b,4,none⟩=some (.int .i64 x.lo)/\w.cell? ⟨b,5,none⟩=some (.int .i64 x.hi):=
 ⟨h.cell (i:=0) (by omega),h.cell (i:=1) (by omega),h.cell (i:=2) (by omega),h.cell (i:=3) (by omega),h.cell (i:=4) (by omega),h.cell (i:=5) (by omega)⟩
theorem Arr.set1{w:World}{b n:Nat}{f:Nat->Value}(h:Arr w b n f)(o:Nat)(ho:o<n)(v:Value):Arr (w.setCell ⟨b,o,none⟩ v) b n (fun i=>if i=o then v else f i):=by
 have:=h.setCells o [v] (by simp;omega);refine Arr.congr (f:=fun i=>if o<=i/\i<o+[v].length then[v].getD (i-o) undef else f i) this fun i _=>?_
 by_cases e:i=o
 ·subst e;simp
 ·rw[if_neg (by simp;omega),if_neg e]
theorem vC_cases{y:VV}{f:Nat->Value}(h0:f 0=.int .i64 y.k)(h1:f 1=.bool y.s)(h2:f 2=.int .i64 y.m)(h3:f 3=.int .i64 y.h)(h4:f 4=.int .i64 y.lo)(h5:f 5=.int .i64 y.hi):∀i,i<6->f i=vC y i:=by
 intro i hi;match i,hi with
 |0,_=>exact h0
 |1,_=>exact h1
 |2,_=>exact h2
 |3,_=>exact h3
 |4,_=>exact h4
 |5,_=>exact h5
def zV:VV:=⟨0,false,0,0,0,0⟩
def putV(w:World)(b:Nat)(x:VV):World:=(((((w.setCell ⟨b,0,none⟩ (.int .i64 x.k)).setCell ⟨b,1,none⟩ (.bool x.s)).setCell ⟨b,2,none⟩ (.int .i64 x.m)).setCell ⟨b,3,none⟩ (.int .i64 x.h)).setCell ⟨b,4,none⟩ (.int .i64 x.lo)).setCell ⟨b,5,none⟩ (.int .i64 x.hi)
theorem vb_put{w:World}{b:Nat}{y:VV}(h:Vb w b y)(x:VV):Vb (putV w b x) b x:=
 (Arr.set1 (Arr.set1 (Arr.set1 (Arr.set1 (Arr.set1 (Arr.set1 h 0 (by omega) _) 1 (by omega) _) 2 (by omega) _) 3 (by omega) _) 4 (by omega) _) 5 (by omega) _).congr (vC_cases rfl rfl rfl rfl rfl rfl)
theorem vb_off{w:World}{b q:Nat}{y:VV}(h:Vb w b y)(x:VV)(hn:q≠b):Vb (putV w q x) b y:=by
 unfold putV;exact(((((Arr.other h hn _).other hn _).other hn _).other hn _).other hn _).other hn _
theorem below_putV{B:Nat}{w u:World}{q:Nat}(h:Below B w u)(hq:B<=q)(x:VV):Below B w (putV u q x):=by
 unfold putV;exact(((((h.setCell hq _).setCell hq _).setCell hq _).setCell hq _).setCell hq _).setCell hq _
structure SigCp(w:World)(bH nH:Nat)(S:Nat->HS)(bR nR:Nat)(V:Nat->VV):Prop where
 h:Arr w bH (nH*3) (hsF S)
 r:Arr w bR (nR*6) (vF V)
theorem SigCp.below{w w':World}{bH nH:Nat}{S:Nat->HS}{bR nR:Nat}{V:Nat->VV}(x:SigCp w bH nH S bR nR V)(hb:Below w.heap.size w w'):SigCp w' bH nH S bR nR V:=
 ⟨x.h.below hb x.h.lt,x.r.below hb x.r.lt⟩
def sigAt(S:Nat->HS)(i:Nat):Bool:=decide (1<=(S i).size/\(S i).size<=4096)
def sigOK(nH:Nat)(S:Nat->HS)(nR:Nat)(V:Nat->VV):Bool:=decide (nH<=8)&&(List.range nH).all (sigAt S)&&goodAll V nR nH
theorem sig_bad{nH nR:Nat}{S:Nat->HS}{V:Nat->VV}(h:8<nH):sigOK nH S nR V=false:=by
 simp[sigOK];intros;omega
theorem sig_stop{nH nR k:Nat}{S:Nat->HS}{V:Nat->VV}(hk:k<nH)(h:sigAt S k=false):sigOK nH S nR V=false:=by
 have:(List.range nH).all (sigAt S)=false:=by
  rw[List.all_eq_false];exact⟨k,List.mem_range.2 hk,by simp[h]⟩
 simp[sigOK,this]
theorem sig_end{nH nR:Nat}{S:Nat->HS}{V:Nat->VV}(h8:nH<=8)(h:∀i,i<nH->sigAt S i=true):sigOK nH S nR V=goodAll V nR nH:=by
 have:(List.range nH).all (sigAt S)=true:=by
  rw[List.all_eq_true];exact fun i hi=>h i (List.mem_range.1 hi)
 simp[sigOK,this,h8]
theorem sig_step{S:Nat->HS}{k:Nat}(h:∀i,i<k->sigAt S i=true)(g:sigAt S k=true):∀i,i<k+1->sigAt S i=true:=by
 intro i hi;by_cases e:i=k
 ·rw[e];exact g
 ·exact h i (by omega)
theorem implSig_any(bH cH nH:Nat)(S:Nat->HS)(bR cR nR:Nat)(V:Nat->VV)(w:World)(lH:nH<=1048576)(lR:nR<=1048576)(h1:SigCp w bH nH S bR nR V):
 Calls Tryz.prog 58 #[.agg #[.slice (some ⟨bH,0,none⟩) nH cH,.slice (some ⟨bR,0,none⟩) nR cR]] w fun e w'=>e=.returned (.bool (sigOK nH S nR V))/\Below w.heap.size w w':=by
 have hbH:=h1.h.lt;have H1:Hid (SigCp w bH nH S bR nR V):=h1;clear h1;by_cases h8:8<nH
 ·rw[sig_bad h8]
  go_enter Tryz.func58,Tryz.ntmps58;go_wp2;go_ret;exact⟨rfl,(Below.refl _ _).alloc (Nat.le_refl _) _⟩
 ·have h8':nH<=8:=by omega
  clear h8;go_enter Tryz.func58,Tryz.ntmps58;go_wp2;go_loopw [12](fun i wr=>∃k:Nat,k<=nH/\i=.int .i64 k/\Below w.heap.size w wr/\w.heap.size<wr.heap.size/\wr.cell? ⟨w.heap.size,0,none⟩=some (.slice (some ⟨bH,0,none⟩) nH cH)/\wr.cell? ⟨w.heap.size,1,none⟩=some (.slice (some ⟨bR,0,none⟩) nR cR)/\∀i,i<k->sigAt S i=true)(fun i _=>nH-(intOf i).toNat)
  case atStart=>exact⟨0,Nat.zero_le _,rfl,(Below.refl _ _).alloc (Nat.le_refl _) _,by simp,by simp[go_sem],by simp[go_sem],fun i hi=>by omega⟩
  case round=>
   obtain⟨k,hk,rfl,hbr,hzr,x0,x1,hall⟩:=hrel;have HL:Hid (∀i,i<k->sigAt S i=true):=hall;have HBR:Hid (Below w.heap.size w wr):=hbr;clear hall;by_cases hlt:k<nH
   ·have g0:=(hbr.cell (p:=⟨bH,k*3,none⟩) hbH).trans (H1.out.h.cell (i:=k*3+0) (by omega) |>.trans (congrArg some (hsF_at S k 0 (by omega))))
    have g1:=(hbr.cell (p:=⟨bH,k*3+1,none⟩) hbH).trans (H1.out.h.cell (i:=k*3+1) (by omega) |>.trans (congrArg some (hsF_at S k 1 (by omega))));have g2:=(hbr.cell (p:=⟨bH,k*3+2,none⟩) hbH).trans (H1.out.h.cell (i:=k*3+2) (by omega) |>.trans (congrArg some (hsF_at S k 2 (by omega))));simp only[hsC]at g0 g1 g2;have hbHr:bH<wr.heap.size:=by omega
    clear hbr;go_wp2
    ·go_ret
     exact⟨ret_bool (sig_stop hlt (by simp[sigAt];omega)).symm,HBR.out.alloc HBR.out.size _⟩
    ·go_roundw
     case rel=>exact⟨k+1,by omega,by go_num,HBR.out.alloc HBR.out.size _,by simp;omega,by go_simp,by go_simp,sig_step HL.out (by simp[sigAt];omega)⟩
     case measure=>simp[intOf];omega
    ·go_ret
     exact⟨ret_bool (sig_stop hlt (by simp[sigAt];omega)).symm,HBR.out.alloc HBR.out.size _⟩
   ·obtain rfl:k=nH:=by omega
    clear hbr;go_wp2_with fail;refine(validVals_at _ _ _ _ V _ _ lR (H1.out.r.below HBR.out H1.out.r.lt).at).mono ?_;rintro e w2⟨rfl,hb2⟩;go_wp2;go_ret;exact⟨ret_bool (sig_end h8' HL.out).symm,HBR.out.trans (hb2.mono HBR.out.size)⟩
theorem specSig_any(bH cH nH:Nat)(S:Nat->HS)(bR cR nR:Nat)(V:Nat->VV)(w:World)(lH:nH<=1048576)(lR:nR<=1048576)(h1:SigCp w bH nH S bR nR V):
 Calls Tryz.prog 43 #[.agg #[.slice (some ⟨bH,0,none⟩) nH cH,.slice (some ⟨bR,0,none⟩) nR cR]] w fun e w'=>e=.returned (.bool (sigOK nH S nR V))/\Below w.heap.size w w':=by
 have hbH:=h1.h.lt;have H1:Hid (SigCp w bH nH S bR nR V):=h1;clear h1;by_cases h8:8<nH
 ·rw[sig_bad h8]
  go_enter Tryz.func43,Tryz.ntmps43;go_wp2;go_ret;exact⟨rfl,(Below.refl _ _).alloc (Nat.le_refl _) _⟩
 ·have h8':nH<=8:=by omega
  clear h8;go_enter Tryz.func43,Tryz.ntmps43;go_wp2;go_loopw [3](fun i wr=>∃k:Nat,k<=nH/\i=.int .i64 k/\Below w.heap.size w wr/\w.heap.size<wr.heap.size/\wr.cell? ⟨w.heap.size,0,none⟩=some (.slice (some ⟨bH,0,none⟩) nH cH)/\wr.cell? ⟨w.heap.size,1,none⟩=some (.slice (some ⟨bR,0,none⟩) nR cR)/\∀i,i<k->sigAt S i=true)(fun i _=>nH-(intOf i).toNat)
  case atStart=>exact⟨0,Nat.zero_le _,rfl,(Below.refl _ _).alloc (Nat.le_refl _) _,by simp,by simp[go_sem],by simp[go_sem],fun i hi=>by omega⟩
  case round=>
   obtain⟨k,hk,rfl,hbr,hzr,x0,x1,hall⟩:=hrel;have HL:Hid (∀i,i<k->sigAt S i=true):=hall;have HBR:Hid (Below w.heap.size w wr):=hbr;clear hall;by_cases hlt:k<nH
   ·have g0:=(hbr.cell (p:=⟨bH,k*3,none⟩) hbH).trans (H1.out.h.cell (i:=k*3+0) (by omega) |>.trans (congrArg some (hsF_at S k 0 (by omega))))
    simp only[hsC]at g0;have hbHr:bH<wr.heap.size:=by omega
    clear hbr;go_wp2_with fail;refine(v_in_any _ _ _ _).mono ?_;rintro e w2⟨rfl,rfl⟩;have hv:decide (1<=(S k).size/\(S k).size<=4096)=sigAt S k:=rfl;rw[hv];cases hg:sigAt S k with
    |false=>
     have HG:Hid (sigAt S k=false):=hg;clear hg hv;go_wp2;go_ret;exact⟨ret_bool (sig_stop hlt HG.out).symm,HBR.out⟩
    |true=>
     have HG:Hid (sigAt S k=true):=hg;clear hg hv;go_wp2;go_roundw
     case rel=>exact⟨k+1,by omega,by go_num,HBR.out,hzr,x0,x1,sig_step HL.out HG.out⟩
     case measure=>simp[intOf];omega
   ·obtain rfl:k=nH:=by omega
    clear hbr;go_wp2_with fail;refine(l4GoodRegs_at _ _ _ _ V _ _ lR (by omega) (by omega) (H1.out.r.below HBR.out H1.out.r.lt).at).mono ?_;rintro e w2⟨rfl,hb2⟩;go_wp2;go_ret;exact⟨ret_bool (sig_end h8' HL.out).symm,HBR.out.trans (hb2.mono HBR.out.size)⟩
def flagOK(z:Int):Bool:=decide (0<=z/\z<=2)
def absOK(nH:Nat)(S:Nat->HS)(nR:Nat)(V:Nat->VV)(nA:Nat)(U:Nat->VV)(z c:Int):Bool:=sigOK nH S nR V&&goodAll U nA nH&&flagOK z&&flagOK c
theorem sig_le8{nH nR:Nat}{S:Nat->HS}{V:Nat->VV}(h:sigOK nH S nR V=true):nH<=8:=by
 simp[sigOK]at h;omega
theorem validFlag_any(z:Int)(w:World):Calls Tryz.prog 60 #[.int .i64 z] w fun e w'=>e=.returned (.bool (flagOK z))/\w'=w:=by
 go_enter Tryz.func60,Tryz.ntmps60;go_wp2;all_goals(go_ret;refine⟨ret_bool ?_,rfl⟩;simp[flagOK]<;>omega)
theorem implAbs_any(bH cH nH:Nat)(S:Nat->HS)(bR cR nR:Nat)(V:Nat->VV)(bA cA nA:Nat)(U:Nat->VV)(z c:Int)(w:World)(lH:nH<=1048576)(lR:nR<=1048576)(lA:nA<=1048576)(h1:SigCp w bH nH S bR nR V)(h2:Arr w bA (nA*6) (vF U)):
 Calls Tryz.prog 30 #[.agg #[.slice (some ⟨bH,0,none⟩) nH cH,.slice (some ⟨bR,0,none⟩) nR cR],.agg #[.slice (some ⟨bA,0,none⟩) nA cA,.int .i64 z,.int .i64 c]] w fun e w'=>e=.returned (.bool (absOK nH S nR V nA U z c))/\Below w.heap.size w w':=by
 have H1:Hid (SigCp w bH nH S bR nR V):=h1;have H2:Hid (Arr w bA (nA*6) (vF U)):=h2;clear h1 h2;go_enter Tryz.func30,Tryz.ntmps30;go_wp2_with fail;have b0:Below w.heap.size w ((w.alloc (.cells #[.slice (some ⟨bH,0,none⟩) nH cH,.slice (some ⟨bR,0,none⟩) nR cR] 26)).alloc (.cells #[.slice (some ⟨bA,0,none⟩) nA cA,.int .i64 z,.int .i64 c] 28)):=((Below.refl _ _).alloc (Nat.le_refl _) _).alloc (by simp) _;refine(implSig_any _ _ _ S _ _ _ V _ lH lR (H1.out.below b0)).mono ?_;rintro e w1⟨rfl,hb1⟩;have HB1:Hid (Below w.heap.size w w1):=b0.trans (hb1.mono b0.size);obtain⟨hc1,_⟩:=bcell hb1;have hz2:w.heap.size+1<w1.heap.size:=by have:=hb1.size;simp at this;omega
 have hz3:w.heap.size<w1.heap.size:=by omega
 clear hb1 b0;have HU:Hid (absOK nH S nR V nA U z c=(sigOK nH S nR V&&goodAll U nA nH&&flagOK z&&flagOK c)):=rfl;cases hg:sigOK nH S nR V with
 |false=>
  have HG:Hid (sigOK nH S nR V=false):=hg;clear hg;go_wp2;go_ret;exact⟨ret_bool (by rw[HU.out,HG.out];rfl),HB1.out⟩
 |true=>
  have HG:Hid (sigOK nH S nR V=true):=hg;have h8:=sig_le8 hg;clear hg;go_wp2_with fail;refine(validVals_at _ _ _ _ U _ _ lA (H2.out.below HB1.out H2.out.lt).at).mono ?_;rintro e w2⟨rfl,hb2⟩;have HB2:Hid (Below w.heap.size w w2):=HB1.out.trans (hb2.mono HB1.out.size);have d0:w2.cell? ⟨w.heap.size+1,1,none⟩=some (.int .i64 z):=by rw[hb2.cell hz2];go_simp
  have d1:w2.cell? ⟨w.heap.size+1,2,none⟩=some (.int .i64 c):=by rw[hb2.cell hz2];go_simp
  have hy2:w.heap.size+1<w2.heap.size:=Nat.lt_of_lt_of_le hz2 hb2.size;clear hb2 hc1 hz2 hz3;cases hk:goodAll U nA nH with
  |false=>
   have HK:Hid (goodAll U nA nH=false):=hk;clear hk;go_wp2
   go_ret
   exact⟨ret_bool (by rw[HU.out,HG.out,HK.out];rfl),HB2.out⟩
  |true=>
   have HK:Hid (goodAll U nA nH=true):=hk
   clear hk
   go_wp2_with fail
   refine(validFlag_any _ _).mono ?_
   rintro e w3⟨rfl,rfl⟩
   cases hz:flagOK z with
   |false=>
    have HZ:Hid (flagOK z=false):=hz
    try rw[show decide (0<=z/\z<=2)=false from hz]
    clear hz
    go_wp2
    go_ret
    exact⟨ret_bool (by rw[HU.out,HG.out,HK.out,HZ.out];rfl),HB2.out⟩
   |true=>
    have HZ:Hid (flagOK z=true):=hz
    try rw[show decide (0<=z/\z<=2)=true from hz]
    clear hz
    go_wp2_with fail
    refine(validFlag_any _ _).mono ?_
    rintro e w4⟨rfl,rfl⟩
    cases hz:flagOK c with
    |false=>
     have HC:Hid (flagOK c=false):=hz
     try rw[show decide (0<=c/\c<=2)=false from hz]
     clear hz
     go_wp2
     go_ret
     exact⟨ret_bool (by rw[HU.out,HG.out,HK.out,HZ.out,HC.out];rfl),HB2.out⟩
    |true=>
     have HC:Hid (flagOK c=true):=hz
     try rw[show decide (0<=c/\c<=2)=true from hz]
     clear hz
     go_wp2
     go_ret
     exact⟨ret_bool (by rw[HU.out,HG.out,HK.out,HZ.out,HC.out];rfl),HB2.out⟩
theorem specAbs_any(bH cH nH:Nat)(S:Nat->HS)(bR cR nR:Nat)(V:Nat->VV)(bA cA nA:Nat)(U:Nat->VV)(z c:Int)(w:World)(lH:nH<=1048576)(lR:nR<=1048576)(lA:nA<=1048576)(h1:SigCp w bH nH S bR nR V)(h2:Arr w bA (nA*6) (vF U)):
 Calls Tryz.prog 11 #[.agg #[.slice (some ⟨bH,0,none⟩) nH cH,.slice (some ⟨bR,0,none⟩) nR cR],.agg #[.slice (some ⟨bA,0,none⟩) nA cA,.int .i64 z,.int .i64 c]] w fun e w'=>e=.returned (.bool (absOK nH S nR V nA U z c))/\Below w.heap.size w w':=by
 have H1:Hid (SigCp w bH nH S bR nR V):=h1;have H2:Hid (Arr w bA (nA*6) (vF U)):=h2;clear h1 h2;go_enter Tryz.func11,Tryz.ntmps11;go_wp2_with fail;have b0:Below w.heap.size w ((w.alloc (.cells #[.slice (some ⟨bH,0,none⟩) nH cH,.slice (some ⟨bR,0,none⟩) nR cR] 26)).alloc (.cells #[.slice (some ⟨bA,0,none⟩) nA cA,.int .i64 z,.int .i64 c] 28)):=((Below.refl _ _).alloc (Nat.le_refl _) _).alloc (by simp) _;refine(specSig_any _ _ _ S _ _ _ V _ lH lR (H1.out.below b0)).mono ?_;rintro e w1⟨rfl,hb1⟩;have HB1:Hid (Below w.heap.size w w1):=b0.trans (hb1.mono b0.size);obtain⟨hc1,_⟩:=bcell hb1;have hz2:w.heap.size+1<w1.heap.size:=by have:=hb1.size;simp at this;omega
 have hz3:w.heap.size<w1.heap.size:=by omega
 clear hb1 b0;have HU:Hid (absOK nH S nR V nA U z c=(sigOK nH S nR V&&goodAll U nA nH&&flagOK z&&flagOK c)):=rfl;cases hg:sigOK nH S nR V with
 |false=>
  have HG:Hid (sigOK nH S nR V=false):=hg;clear hg;go_wp2;go_ret;exact⟨ret_bool (by rw[HU.out,HG.out];rfl),HB1.out⟩
 |true=>
  have HG:Hid (sigOK nH S nR V=true):=hg;have h8:=sig_le8 hg;clear hg;go_wp2_with fail;refine(l4GoodRegs_at _ _ _ _ U _ _ lA (by omega) (by omega) (H2.out.below HB1.out H2.out.lt).at).mono ?_;rintro e w2⟨rfl,hb2⟩;have HB2:Hid (Below w.heap.size w w2):=HB1.out.trans (hb2.mono HB1.out.size);have d0:w2.cell? ⟨w.heap.size+1,1,none⟩=some (.int .i64 z):=by rw[hb2.cell hz2];go_simp
  have d1:w2.cell? ⟨w.heap.size+1,2,none⟩=some (.int .i64 c):=by rw[hb2.cell hz2];go_simp
  have hy2:w.heap.size+1<w2.heap.size:=Nat.lt_of_lt_of_le hz2 hb2.size;clear hb2 hc1 hz2 hz3;cases hk:goodAll U nA nH with
  |false=>
   have HK:Hid (goodAll U nA nH=false):=hk;clear hk;go_wp2
   go_ret
   exact⟨ret_bool (by rw[HU.out,HG.out,HK.out];rfl),HB2.out⟩
  |true=>
   have HK:Hid (goodAll U nA nH=true):=hk
   clear hk
   go_wp2_with fail
   refine(v_in_any _ _ _ _).mono ?_
   rintro e w3⟨rfl,rfl⟩
   cases hz:flagOK z with
   |false=>
    have HZ:Hid (flagOK z=false):=hz
    try rw[show decide (0<=z/\z<=2)=false from hz]
    clear hz
    go_wp2
    go_ret
    exact⟨ret_bool (by rw[HU.out,HG.out,HK.out,HZ.out];rfl),HB2.out⟩
   |true=>
    have HZ:Hid (flagOK z=true):=hz
    try rw[show decide (0<=z/\z<=2)=true from hz]
    clear hz
    go_wp2_with fail
    refine(v_in_any _ _ _ _).mono ?_
    rintro e w4⟨rfl,rfl⟩
    cases hz:flagOK c with
    |false=>
     have HC:Hid (flagOK c=false):=hz
     try rw[show decide (0<=c/\c<=2)=false from hz]
     clear hz
     go_wp2
     go_ret
     exact⟨ret_bool (by rw[HU.out,HG.out,HK.out,HZ.out,HC.out];rfl),HB2.out⟩
    |true=>
     have HC:Hid (flagOK c=true):=hz
     try rw[show decide (0<=c/\c<=2)=true from hz]
     clear hz
     go_wp2
     go_ret
     exact⟨ret_bool (by rw[HU.out,HG.out,HK.out,HZ.out,HC.out];rfl),HB2.out⟩
end Go.Proofs.YtbahofiiaodpdaaGreat
