import Derived.Test.YtfpeecaaleijcaaGreatDoorOfCl
import Derived.Test.YtfpeecaaleijcaaGreatDoorOfTransMath
import Derived.Test.YtfpeecaaleijcaaGreatDoorRows
import Derived.Deep.RegionHeld3
import Derived.Deep.Cut
import Derived.Deep.DeepCutAuto
set_option maxHeartbeats 4000000
namespace Go.Proofs.YtfpeecaaleijcaaGreatDoor
open Go.RowKit
variable {n:Int}{b k nH nR:Nat}{S:Nat->HS}{V:Nat->VV}{y:VV}{w:World}
def CO(x:VV)(n:Int):Bool:=
 if x.k=0 then decide (-1<=x.m/\x.m<=1099511627776/\x.h=0/\x.lo=0/\x.hi=0)
 else decide (x.k=1/\x.s=false/\x.m=0/\0<=x.h/\x.h<n/\ -1099511627776<=x.lo/\x.lo<=x.hi/\x.hi<=1099511627776)
theorem FT(x lo hi:Int)(w:World):
 Calls Tryz.prog 24 #[Vi x,Vi lo,Vi hi] w fun e w'=>e=.returned (.bool (decide (lo<=x/\x<=hi)))/\w'=w:=by
 go_enter Tryz.func24,Tryz.ntmps24;go_wp2;all_goals(go_ret;refine⟨Ag ?_,rfl⟩;simp<;>omega)
theorem QB(k:Int)(s:Bool)(m h lo hi:Int)(n:Int)(w:World):
 Calls Tryz.prog 68 #[.agg #[Vi k,.bool s,Vi m,Vi h,Vi lo,Vi hi],Vi n] w fun e w'=>e=.returned (.bool (CO ⟨k,s,m,h,lo,hi⟩ n))/\Below w.heap.size w w':=by
 go_enter Tryz.func68,Tryz.ntmps68;go_wp2;all_goals(go_ret;refine⟨Ag ?_,Ak⟩;simp_all[CO]<;>omega)
theorem Tc(k:Int)(s:Bool)(m h lo hi:Int)(n:Int)(w:World)(hn:0<=n)(hn':n<=8):
 Calls Tryz.prog 81 #[.agg #[Vi k,.bool s,Vi m,Vi h,Vi lo,Vi hi],Vi n] w fun e w'=>e=.returned (.bool (CO ⟨k,s,m,h,lo,hi⟩ n))/\Below w.heap.size w w':=by
 go_enter Tryz.func81,Tryz.ntmps81;go_wp2_with(go_at_call 24;refine(FT _ _ _ _).mono ?_;rintro e w'⟨rfl,rfl⟩);all_goals(go_ret;refine⟨Ag ?_,Ak⟩;simp_all[CO]<;>first|omega|rfl)
def Cq(V:Nat->VV)(len:Nat)(n:Int):Bool:=decide (len=8)&&(List.range len).all fun i=>CO (V i) n
theorem Jc{len:Nat}(hk:k<len)(h:CO (V k) n=false):Cq V len n=false:=by
 have:(List.range len).all (fun i=>CO (V i) n)=false:=by
  rw[List.all_eq_false];exact⟨k,List.mem_range.2 hk,by simp[h]⟩
 simp[Cq,this]
theorem Kl{len:Nat}(h:∀i,i<len->CO (V i) n=true):Cq V len n=decide (len=8):=by
 have:(List.range len).all (fun i=>CO (V i) n)=true:=by
  rw[List.all_eq_true];exact fun i hi=>h i (List.mem_range.1 hi)
 simp only[Cq,this,Bool.and_true]
theorem good_step(h:∀i,i<k->CO (V i) n=true)(g:CO (V k) n=true):∀i,i<k+1->CO (V i) n=true:=by
 intro i hi;by_cases e:i=k
 ·rw[e];exact g
 ·exact h i (by omega)
theorem Qg(b off len cap:Nat)(V:Nat->VV)(n:Int)(w:World)(hlen:len<=1048576)(hat:At w b off (len*6) (vF V)):
 Calls Tryz.prog 38 #[.slice (some ⟨b,off,none⟩) len cap,Vi n] w fun e w'=>e=.returned (.bool (Cq V len n))/\Below w.heap.size w w':=by
 have hb:=hat.lt;have HA:=hxy hat;clear hat;go_enter Tryz.func38,Tryz.ntmps38;go_wp2;go_loopw [9](fun i wr=>∃k:Nat,k<=len/\i=Vi k/\Below w.heap.size w wr/\∀i,i<k->CO (V i) n=true)(fun i _=>len-(intOf i).toNat)
 case atStart=>exact⟨0,Nat.zero_le _,rfl,Below.refl _ _,fun i hi=>by omega⟩
 case round=>
  obtain⟨k,hk,rfl,hbr,hall⟩:=hrel;have HL:=hxy hall;clear hall;by_cases hlt:k<len
  ·have g0:=(hbr.cell (p:=Va b (off+k*6)) hb).trans (HA.out.cell (i:=k*6+0) (by omega) |>.trans (congrArg some (BH V k 0 (by omega))))
   have g1:=(hbr.cell (p:=Va b (off+k*6+1)) hb).trans (HA.out.cell (i:=k*6+1) (by omega) |>.trans (congrArg some (BH V k 1 (by omega))));have g2:=(hbr.cell (p:=Va b (off+k*6+2)) hb).trans (HA.out.cell (i:=k*6+2) (by omega) |>.trans (congrArg some (BH V k 2 (by omega))));have g3:=(hbr.cell (p:=Va b (off+k*6+3)) hb).trans (HA.out.cell (i:=k*6+3) (by omega) |>.trans (congrArg some (BH V k 3 (by omega))));have g4:=(hbr.cell (p:=Va b (off+k*6+4)) hb).trans (HA.out.cell (i:=k*6+4) (by omega) |>.trans (congrArg some (BH V k 4 (by omega))));have g5:=(hbr.cell (p:=Va b (off+k*6+5)) hb).trans (HA.out.cell (i:=k*6+5) (by omega) |>.trans (congrArg some (BH V k 5 (by omega))));simp only[vC]at g0 g1 g2 g3 g4 g5;go_wp2_with fail;refine(QB _ _ _ _ _ _ _ _).mono ?_;rintro e w2⟨rfl,hb2⟩;have hbr2:Below w.heap.size w w2:=(hbr.alloc hbr.size _).trans (hb2.mono (by have:=hbr.size;simp;omega));clear g0 g1 g2 g3 g4 g5;have hv:CO ⟨(V k).k,(V k).s,(V k).m,(V k).h,(V k).lo,(V k).hi⟩ n=CO (V k) n:=rfl;rw[hv];cases hg:CO (V k) n with
   |false=>
    have HG:=hxy hg;clear hg hv;go_wp2;go_ret;exact⟨Ag (Jc hlt HG.out).symm,hbr2⟩
   |true=>
    have HG:=hxy hg;clear hg hv;go_wp2;go_roundw
    case rel=>exact⟨k+1,by omega,by go_num,hbr2,good_step HL.out HG.out⟩
    case measure=>simp[intOf];omega
  ·obtain rfl:k=len:=by omega
   go_wp2
   ·go_ret
    refine⟨Ag ?_,hbr⟩;rw[Kl HL.out,Bool.eq_iff_iff];simp<;>omega
theorem Iw(b off len cap:Nat)(V:Nat->VV)(n:Int)(w:World)(hlen:len<=1048576)(hn:0<=n)(hn':n<=8)(hat:At w b off (len*6) (vF V)):
 Calls Tryz.prog 47 #[.slice (some ⟨b,off,none⟩) len cap,Vi n] w fun e w'=>e=.returned (.bool (Cq V len n))/\Below w.heap.size w w':=by
 have hb:=hat.lt;have HA:=hxy hat;clear hat;by_cases h8:len=8
 ·subst h8
  go_enter Tryz.func47,Tryz.ntmps47;go_wp2;go_loopw [5](fun i wr=>∃k:Nat,k<=8/\i=Vi k/\Below w.heap.size w wr/\∀i,i<k->CO (V i) n=true)(fun i _=>8-(intOf i).toNat)
  case atStart=>exact⟨0,Nat.zero_le _,rfl,Below.refl _ _,fun i hi=>by omega⟩
  case round=>
   obtain⟨k,hk,rfl,hbr,hall⟩:=hrel;have HL:=hxy hall;clear hall;by_cases hlt:k<8
   ·have g0:=(hbr.cell (p:=Va b (off+k*6)) hb).trans (HA.out.cell (i:=k*6+0) (by omega) |>.trans (congrArg some (BH V k 0 (by omega))))
    have g1:=(hbr.cell (p:=Va b (off+k*6+1)) hb).trans (HA.out.cell (i:=k*6+1) (by omega) |>.trans (congrArg some (BH V k 1 (by omega))));have g2:=(hbr.cell (p:=Va b (off+k*6+2)) hb).trans (HA.out.cell (i:=k*6+2) (by omega) |>.trans (congrArg some (BH V k 2 (by omega))));have g3:=(hbr.cell (p:=Va b (off+k*6+3)) hb).trans (HA.out.cell (i:=k*6+3) (by omega) |>.trans (congrArg some (BH V k 3 (by omega))));have g4:=(hbr.cell (p:=Va b (off+k*6+4)) hb).trans (HA.out.cell (i:=k*6+4) (by omega) |>.trans (congrArg some (BH V k 4 (by omega))));have g5:=(hbr.cell (p:=Va b (off+k*6+5)) hb).trans (HA.out.cell (i:=k*6+5) (by omega) |>.trans (congrArg some (BH V k 5 (by omega))));simp only[vC]at g0 g1 g2 g3 g4 g5;go_wp2_with fail;refine(Tc _ _ _ _ _ _ _ _ hn hn').mono ?_;rintro e w2⟨rfl,hb2⟩;have hbr2:=hbr.trans (hb2.mono hbr.size);clear g0 g1 g2 g3 g4 g5;have hv:CO ⟨(V k).k,(V k).s,(V k).m,(V k).h,(V k).lo,(V k).hi⟩ n=CO (V k) n:=rfl;rw[hv];cases hg:CO (V k) n with
    |false=>
     have HG:=hxy hg;clear hg hv;go_wp2;go_ret;exact⟨Ag (Jc hlt HG.out).symm,hbr2⟩
    |true=>
     have HG:=hxy hg;clear hg hv;go_wp2;go_roundw
     case rel=>exact⟨k+1,by omega,by go_num,hbr2,good_step HL.out HG.out⟩
     case measure=>simp[intOf];omega
   ·obtain rfl:k=8:=by omega
    go_wp2;go_ret;exact⟨Ag (by rw[Kl HL.out];rfl),hbr⟩
 ·have hf:Cq V len n=false:=by simp[Cq,h8]
  rw[hf];clear hf;go_enter Tryz.func47,Tryz.ntmps47;go_wp2;all_goals(go_ret;exact⟨rfl,Below.refl _ _⟩)
structure Bl(w:World)(bH nH:Nat)(S:Nat->HS)(bR nR:Nat)(V:Nat->VV):Prop where
 h:A9 w bH (nH*3) (QD S)
 r:A9 w bR (nR*6) (vF V)
theorem Bl.below{w':World}{bH:Nat}{bR:Nat}(x:Bl w bH nH S bR nR V)(hb:Below w.heap.size w w'):Bl w' bH nH S bR nR V:=
 ⟨x.h.below hb x.h.lt,x.r.below hb x.r.lt⟩
def Eh(S:Nat->HS)(i:Nat):Bool:=decide (1<=(S i).size/\(S i).size<=4096)
def Cu(nH:Nat)(S:Nat->HS)(nR:Nat)(V:Nat->VV):Bool:=decide (nH<=8)&&(List.range nH).all (Eh S)&&Cq V nR nH
theorem VG(h:8<nH):Cu nH S nR V=false:=by
 simp[Cu];intros;omega
theorem Mf(hk:k<nH)(h:Eh S k=false):Cu nH S nR V=false:=by
 have:(List.range nH).all (Eh S)=false:=by
  rw[List.all_eq_false];exact⟨k,List.mem_range.2 hk,by simp[h]⟩
 simp[Cu,this]
theorem U7(h8:nH<=8)(h:∀i,i<nH->Eh S i=true):Cu nH S nR V=Cq V nR nH:=by
 have:(List.range nH).all (Eh S)=true:=by
  rw[List.all_eq_true];exact fun i hi=>h i (List.mem_range.1 hi)
 simp[Cu,this,h8]
theorem Qq(h:∀i,i<k->Eh S i=true)(g:Eh S k=true):∀i,i<k+1->Eh S i=true:=by
 intro i hi;by_cases e:i=k
 ·rw[e];exact g
 ·exact h i (by omega)
theorem Kb(bH cH nH:Nat)(S:Nat->HS)(bR cR nR:Nat)(V:Nat->VV)(w:World)(lH:nH<=1048576)(lR:nR<=1048576)(h1:Bl w bH nH S bR nR V):
 Calls Tryz.prog 15 #[.agg #[Vs bH nH cH,Vs bR nR cR]] w fun e w'=>e=.returned (.bool (Cu nH S nR V))/\Below w.heap.size w w':=by
 have hbH:=h1.h.lt;have H1:=hxy h1;clear h1;by_cases h8:8<nH
 ·rw[VG h8]
  go_enter Tryz.func15,Tryz.ntmps15;go_wp2;go_ret;exact⟨rfl,Ak⟩
 ·have h8':nH<=8:=by omega
  clear h8;go_enter Tryz.func15,Tryz.ntmps15;go_wp2;go_loopw [12](fun i wr=>∃k:Nat,k<=nH/\i=Vi k/\Below w.heap.size w wr/\w.heap.size<wr.heap.size/\wr.cell? ⟨w.heap.size,0,none⟩=some (Vs bH nH cH)/\wr.cell? ⟨w.heap.size,1,none⟩=some (Vs bR nR cR)/\∀i,i<k->Eh S i=true)(fun i _=>nH-(intOf i).toNat)
  case atStart=>exact⟨0,Nat.zero_le _,rfl,Ak,by simp,by simp[go_sem],by simp[go_sem],fun i hi=>by omega⟩
  case round=>
   obtain⟨k,hk,rfl,hbr,hzr,x0,x1,hall⟩:=hrel;have HL:=hxy hall;have HBR:=hxy hbr;clear hall;by_cases hlt:k<nH
   ·have g0:=(hbr.cell (p:=Va bH (k*3)) hbH).trans (H1.out.h.cell (i:=k*3+0) (by omega) |>.trans (congrArg some (Dy S k 0 (by omega))))
    have g1:=(hbr.cell (p:=Va bH (k*3+1)) hbH).trans (H1.out.h.cell (i:=k*3+1) (by omega) |>.trans (congrArg some (Dy S k 1 (by omega))));have g2:=(hbr.cell (p:=Va bH (k*3+2)) hbH).trans (H1.out.h.cell (i:=k*3+2) (by omega) |>.trans (congrArg some (Dy S k 2 (by omega))));simp only[gK]at g0 g1 g2;have hbHr:bH<wr.heap.size:=by omega
    clear hbr;go_wp2
    ·go_ret
     exact⟨Ag (Mf hlt (by simp[Eh];omega)).symm,HBR.out.alloc HBR.out.size _⟩
    ·go_roundw
     case rel=>exact⟨k+1,by omega,by go_num,HBR.out.alloc HBR.out.size _,by simp;omega,by go_simp,by go_simp,Qq HL.out (by simp[Eh];omega)⟩
     case measure=>simp[intOf];omega
    ·go_ret
     exact⟨Ag (Mf hlt (by simp[Eh];omega)).symm,HBR.out.alloc HBR.out.size _⟩
   ·obtain rfl:k=nH:=by omega
    clear hbr;go_wp2_with fail;refine(Qg _ _ _ _ V _ _ lR (H1.out.r.below HBR.out H1.out.r.lt).at).mono ?_;rintro e w2⟨rfl,hb2⟩;go_wp2;go_ret;exact⟨Ag (U7 h8' HL.out).symm,HBR.out.trans (hb2.mono HBR.out.size)⟩
theorem Gu(bH cH nH:Nat)(S:Nat->HS)(bR cR nR:Nat)(V:Nat->VV)(w:World)(lH:nH<=1048576)(lR:nR<=1048576)(h1:Bl w bH nH S bR nR V):
 Calls Tryz.prog 25 #[.agg #[Vs bH nH cH,Vs bR nR cR]] w fun e w'=>e=.returned (.bool (Cu nH S nR V))/\Below w.heap.size w w':=by
 have hbH:=h1.h.lt;have H1:=hxy h1;clear h1;by_cases h8:8<nH
 ·rw[VG h8]
  go_enter Tryz.func25,Tryz.ntmps25;go_wp2;go_ret;exact⟨rfl,Ak⟩
 ·have h8':nH<=8:=by omega
  clear h8;go_enter Tryz.func25,Tryz.ntmps25;go_wp2;go_loopw [3](fun i wr=>∃k:Nat,k<=nH/\i=Vi k/\Below w.heap.size w wr/\w.heap.size<wr.heap.size/\wr.cell? ⟨w.heap.size,0,none⟩=some (Vs bH nH cH)/\wr.cell? ⟨w.heap.size,1,none⟩=some (Vs bR nR cR)/\∀i,i<k->Eh S i=true)(fun i _=>nH-(intOf i).toNat)
  case atStart=>exact⟨0,Nat.zero_le _,rfl,Ak,by simp,by simp[go_sem],by simp[go_sem],fun i hi=>by omega⟩
  case round=>
   obtain⟨k,hk,rfl,hbr,hzr,x0,x1,hall⟩:=hrel;have HL:=hxy hall;have HBR:=hxy hbr;clear hall;by_cases hlt:k<nH
   ·have g0:=(hbr.cell (p:=Va bH (k*3)) hbH).trans (H1.out.h.cell (i:=k*3+0) (by omega) |>.trans (congrArg some (Dy S k 0 (by omega))))
    simp only[gK]at g0;have hbHr:bH<wr.heap.size:=by omega
    clear hbr;go_wp2_with fail;refine(FT _ _ _ _).mono ?_;rintro e w2⟨rfl,rfl⟩;have hv:decide (1<=(S k).size/\(S k).size<=4096)=Eh S k:=rfl;rw[hv];cases hg:Eh S k with
    |false=>
     have HG:=hxy hg;clear hg hv;go_wp2;go_ret;exact⟨Ag (Mf hlt HG.out).symm,HBR.out⟩
    |true=>
     have HG:=hxy hg;clear hg hv;go_wp2;go_roundw
     case rel=>exact⟨k+1,by omega,by go_num,HBR.out,hzr,x0,x1,Qq HL.out HG.out⟩
     case measure=>simp[intOf];omega
   ·obtain rfl:k=nH:=by omega
    clear hbr;go_wp2_with fail;refine(Iw _ _ _ _ V _ _ lR (by omega) (by omega) (H1.out.r.below HBR.out H1.out.r.lt).at).mono ?_;rintro e w2⟨rfl,hb2⟩;go_wp2;go_ret;exact⟨Ag (U7 h8' HL.out).symm,HBR.out.trans (hb2.mono HBR.out.size)⟩
def JH(z:Int):Bool:=decide (0<=z/\z<=2)
def BA(nH:Nat)(S:Nat->HS)(nR:Nat)(V:Nat->VV)(nA:Nat)(U:Nat->VV)(z c:Int):Bool:=Cu nH S nR V&&Cq U nA nH&&JH z&&JH c
theorem VA(h:Cu nH S nR V=true):nH<=8:=by
 simp[Cu]at h;omega
theorem Fa(bH cH nH:Nat)(S:Nat->HS)(bR cR nR:Nat)(V:Nat->VV)(bA cA nA:Nat)(U:Nat->VV)(z c:Int)(w:World)(lH:nH<=1048576)(lR:nR<=1048576)(lA:nA<=1048576)(h1:Bl w bH nH S bR nR V)(h2:A9 w bA (nA*6) (vF U)):
 Calls Tryz.prog 162 #[.agg #[Vs bH nH cH,Vs bR nR cR],.agg #[Vs bA nA cA,Vi z,Vi c]] w fun e w'=>e=.returned (.bool (BA nH S nR V nA U z c))/\Below w.heap.size w w':=by
 have H1:=hxy h1;have H2:=hxy h2;clear h1 h2;go_enter Tryz.func162,Tryz.ntmps162;go_wp2_with fail;have b0:Below w.heap.size w ((w.alloc (.cells #[Vs bH nH cH,Vs bR nR cR] 26)).alloc (.cells #[Vs bA nA cA,Vi z,Vi c] 136)):=(Ak).alloc (by simp) _;refine(Gu _ _ _ S _ _ _ V _ lH lR (H1.out.below b0)).mono ?_;rintro e w1⟨rfl,hb1⟩;have HB1:=hxy (b0.trans (hb1.mono b0.size));obtain⟨hc1,_⟩:=aZ hb1;have hz2:w.heap.size+1<w1.heap.size:=by have:=hb1.size;simp at this;omega
 have hz3:w.heap.size<w1.heap.size:=by omega
 clear hb1 b0;have HU:Hid (BA nH S nR V nA U z c=(Cu nH S nR V&&Cq U nA nH&&JH z&&JH c)):=rfl;cases hg:Cu nH S nR V with
 |false=>
  have HG:=hxy hg;clear hg;go_wp2;go_ret;exact⟨Ag (by rw[HU.out,HG.out];rfl),HB1.out⟩
 |true=>
  have HG:=hxy hg;have h8:=VA hg;clear hg;go_wp2_with fail;refine(Iw _ _ _ _ U _ _ lA (by omega) (by omega) (H2.out.below HB1.out H2.out.lt).at).mono ?_;rintro e w2⟨rfl,hb2⟩;have HB2:=hxy (HB1.out.trans (hb2.mono HB1.out.size));have d0:w2.cell? ⟨w.heap.size+1,1,none⟩=some (Vi z):=by rw[hb2.cell hz2];go_simp
  have d1:w2.cell? ⟨w.heap.size+1,2,none⟩=some (Vi c):=by rw[hb2.cell hz2];go_simp
  have hy2:w.heap.size+1<w2.heap.size:=jI hz2 hb2.size;clear hb2 hc1 hz2 hz3;cases hk:Cq U nA nH with
  |false=>
   have HK:=hxy hk;clear hk;go_wp2;go_ret;exact⟨Ag (by rw[HU.out,HG.out,HK.out];rfl),HB2.out⟩
  |true=>
   have HK:=hxy hk;clear hk;go_wp2_with fail;refine(FT _ _ _ _).mono ?_;rintro e w3⟨rfl,rfl⟩;cases hz:JH z with
   |false=>
    have HZ:=hxy hz;try rw[show decide (0<=z/\z<=2)=false from hz]
    clear hz;go_wp2;go_ret;exact⟨Ag (by rw[HU.out,HG.out,HK.out,HZ.out];rfl),HB2.out⟩
   |true=>
    have HZ:=hxy hz;try rw[show decide (0<=z/\z<=2)=true from hz]
    clear hz
    go_wp2_with fail
    refine(FT _ _ _ _).mono ?_
    rintro e w4⟨rfl,rfl⟩
    cases hz:JH c with
    |false=>
     have HC:=hxy hz
     try rw[show decide (0<=c/\c<=2)=false from hz]
     clear hz
     go_wp2
     go_ret
     exact⟨Ag (by rw[HU.out,HG.out,HK.out,HZ.out,HC.out];rfl),HB2.out⟩
    |true=>
     have HC:=hxy hz
     try rw[show decide (0<=c/\c<=2)=true from hz]
     clear hz
     go_wp2
     go_ret
     exact⟨Ag (by rw[HU.out,HG.out,HK.out,HZ.out,HC.out];rfl),HB2.out⟩
def Vb(w:World)(b:Nat)(x:VV):Prop:=A9 w b 6 (vC x)
theorem Vb.new(w:World)(x:VV):Vb (w.alloc (.cells #[Vi x.k,.bool x.s,Vi x.m,Vi x.h,Vi x.lo,Vi x.hi] 42)) w.heap.size x:=by
 refine⟨by simp,fun i=>by simp[go_sem],fun i hi=>?_⟩;match i,hi with
 |0,_=>simp[go_sem,vC]
 |1,_=>simp[go_sem,vC]
 |2,_=>simp[go_sem,vC]
 |3,_=>simp[go_sem,vC]
 |4,_=>simp[go_sem,vC]
 |5,_=>simp[go_sem,vC]
theorem Vb.cells{x:VV}(h:Vb w b x):w.cell? (Va b 0)=some (Vi x.k)/\w.cell? (Va b 1)=some (.bool x.s)/\w.cell? (Va b 2)=some (Vi x.m)/\w.cell? (Va b 3)=some (Vi x.h)/\w.cell? (Va b 4)=some (Vi x.lo)/\w.cell? (Va b 5)=some (Vi x.hi):=
 ⟨h.cell (i:=0) (by omega),h.cell (i:=1) (by omega),h.cell (i:=2) (by omega),h.cell (i:=3) (by omega),h.cell (i:=4) (by omega),h.cell (i:=5) (by omega)⟩
theorem A9.set1{n:Nat}{f:Nat->Value}(h:A9 w b n f)(o:Nat)(ho:o<n)(v:Value):A9 (w.setCell (Va b o) v) b n (fun i=>if i=o then v else f i):=by
 have:=h.setCells o [v] (by simp;omega);refine A9.congr (f:=fun i=>if o<=i/\i<o+[v].length then[v].getD (i-o) undef else f i) this fun i _=>?_
 by_cases e:i=o
 ·subst e;simp
 ·rw[if_neg (by simp;omega),if_neg e]
theorem Jj{f:Nat->Value}(h0:f 0=Vi y.k)(h1:f 1=.bool y.s)(h2:f 2=Vi y.m)(h3:f 3=Vi y.h)(h4:f 4=Vi y.lo)(h5:f 5=Vi y.hi):∀i,i<6->f i=vC y i:=by
 intro i hi;match i,hi with
 |0,_=>exact h0
 |1,_=>exact h1
 |2,_=>exact h2
 |3,_=>exact h3
 |4,_=>exact h4
 |5,_=>exact h5
def zV:VV:=⟨0,false,0,0,0,0⟩
def Hr(w:World)(b:Nat)(x:VV):World:=(((((w.setCell (Va b 0) (Vi x.k)).setCell (Va b 1) (.bool x.s)).setCell (Va b 2) (Vi x.m)).setCell (Va b 3) (Vi x.h)).setCell (Va b 4) (Vi x.lo)).setCell (Va b 5) (Vi x.hi)
theorem Mi(h:Vb w b y)(x:VV):Vb (Hr w b x) b x:=
 (A9.set1 (A9.set1 (A9.set1 (A9.set1 (A9.set1 (A9.set1 h 0 (by omega) _) 1 (by omega) _) 2 (by omega) _) 3 (by omega) _) 4 (by omega) _) 5 (by omega) _).congr (Jj rfl rfl rfl rfl rfl rfl)
theorem Hl{q:Nat}(h:Vb w b y)(x:VV)(hn:q≠b):Vb (Hr w q x) b y:=by
 unfold Hr;exact(((((A9.other h hn _).other hn _).other hn _).other hn _).other hn _).other hn _
theorem Al{B:Nat}{u:World}{q:Nat}(h:Below B w u)(hq:B<=q)(x:VV):Below B w (Hr u q x):=by
 unfold Hr;exact(((((h.setCell hq _).setCell hq _).setCell hq _).setCell hq _).setCell hq _).setCell hq _
end Go.Proofs.YtfpeecaaleijcaaGreatDoor
