import Derived.Test.YtbahofiiaodpdaaGreatOfMachImpl
import Derived.Deep.DeepCutAuto
import Derived.Deep.RegionHeld3
set_option maxHeartbeats 4000000
set_option maxRecDepth 100000
namespace Go.Proofs.YtbahofiiaodpdaaGreat
open Go.RowKit
theorem u64_nonneg{n:Int}(h0:0<=n)(h1:n<=18446744073709551615):IntKind.u64.wrap n=n:=by rw[IntKind.wrap_u64];omega
theorem over_top{base:Int}{len:Nat}(c1:¬(len:Int)<1)(c2:¬(4096:Int)<(len:Int)):Value.bool (decide (IntKind.u64.wrap (18446744073709551615-(len:Int))<base))=Value.bool !hOK base len:=by
 rw[u64_nonneg (by omega) (by omega)];have:decide (18446744073709551615-(len:Int)<base)=!hOK base len:=by rw[Bool.eq_iff_iff];simp[hOK];omega
 rw[this]
theorem meet_yes{b b':Int}{l l':Nat}(h:b'<b+(l:Int))(h0:0<=b')(h1:b'+(l':Int)<=18446744073709551615):Value.bool (decide (b<IntKind.u64.wrap (b'+(l':Int))))=Value.bool (ovl b l b' l'):=by
 rw[u64_nonneg (by omega) h1];have:decide (b<b'+(l':Int))=ovl b l b' l':=by rw[Bool.eq_iff_iff];simp[ovl];omega
 rw[this]
theorem meet_no{b b':Int}{l l':Nat}(h:¬b'<b+(l:Int)):Value.bool false=Value.bool (ovl b l b' l'):=by
 have:false=ovl b l b' l':=by rw[Bool.eq_iff_iff];simp[ovl];omega
 rw[<-this]
def headOK(nR:Nat)(z c hz hc:Bool)(nH:Nat)(pc st:Int)(nO:Nat):Bool:=
 decide ((nR:Int)=8)&&(hz||!z)&&(hc||!c)&&decide ((nH:Int)<=8)&&inB pc 0 2000&&inB st 0 2&&decide ((nO:Int)<=200000)
theorem mach_head(nR:Nat)(z c hz hc:Bool)(nH:Nat)(Hp:Nat->HeapV)(pc st:Int)(nO:Nat)(K:Nat->Int):machOK nR z c hz hc nH Hp pc st nO K=(headOK nR z c hz hc nH pc st nO&&(heapsOK nH Hp&&seenOK nO K)):=by
 have e1:decide (nR=8)=decide ((nR:Int)=8):=by rw[Bool.eq_iff_iff];simp;omega
 have e2:heapsOK nH Hp=(decide ((nH:Int)<=8)&&heapsOK nH Hp):=by
  unfold heapsOK;rw[show decide ((nH:Int)<=8)=decide (nH<=8)by rw[Bool.eq_iff_iff];simp;omega];rw[<-Bool.and_assoc,Bool.and_self]
 have e3:seenOK nO K=(decide ((nO:Int)<=200000)&&seenOK nO K):=by
  unfold seenOK;rw[show decide ((nO:Int)<=200000)=decide (nO<=200000)by rw[Bool.eq_iff_iff];simp;omega];rw[<-Bool.and_assoc,Bool.and_self]
 unfold machOK headOK;rw[e1,e2,e3];generalize heapsOK nH Hp=a;generalize seenOK nO K=b;ac_rfl
theorem specMach_any(xR:Option Addr)(yR bR nR:Nat)(z c hz hc:Bool)(R:Nat->Int)(xH:Option Addr)(yH bH nH:Nat)(Hp:Nat->HeapV)(hA:Nat->Option Addr)(hC:Nat->Nat)(pc st:Int)(xO:Option Addr)(yO bO nO:Nat)(K V:Nat->Int)(w:World)
 (hs:Small nR nH Hp nO)(hbase:∀i,i<nH->0<=(Hp i).base/\(Hp i).base<=18446744073709551615)(h:MachG w xR yR bR nR R xH yH bH nH Hp hA hC xO yO bO nO K V):
 Calls Tryz.prog 8 #[.agg #[.slice xR nR yR,.bool z,.bool c,.bool hz,.bool hc,.slice xH nH yH,.int .i64 pc,.int .i64 st,.slice xO nO yO]] w fun e w'=>
  e=.returned (.bool (machOK nR z c hz hc nH Hp pc st nO K))/\Below w.heap.size w w':=by
 have HM:Hid (MachG w xR yR bR nR R xH yH bH nH Hp hA hC xO yO bO nO K V):=h;have HL:Hid (∀i,i<nH->(Hp i).len<=1048576):=hs.data;have HZ:Hid (∀i,i<nH->0<=(Hp i).base/\(Hp i).base<=18446744073709551615):=hbase;have HE:Hid (machOK nR z c hz hc nH Hp pc st nO K=(headOK nR z c hz hc nH pc st nO&&(heapsOK nH Hp&&seenOK nO K))):=mach_head nR z c hz hc nH Hp pc st nO K;have hbH:=h.heaps.lt;have hbO:=h.obs.lt;have l1:=hs.regs;have l2:=hs.heaps;have l3:=hs.obs;clear h hbase hs;have b0:=(Below.refl w.heap.size w).alloc (Nat.le_refl _) (.cells #[.slice xR nR yR,.bool z,.bool c,.bool hz,.bool hc,.slice xH nH yH,.int .i64 pc,.int .i64 st,.slice xO nO yO] 40);have HB0:Hid (Below w.heap.size w (w.alloc (.cells #[.slice xR nR yR,.bool z,.bool c,.bool hz,.bool hc,.slice xH nH yH,.int .i64 pc,.int .i64 st,.slice xO nO yO] 40))):=b0;clear b0;have hw0:(w.alloc (.cells #[.slice xR nR yR,.bool z,.bool c,.bool hz,.bool hc,.slice xH nH yH,.int .i64 pc,.int .i64 st,.slice xO nO yO] 40)).cell? ⟨w.heap.size,5,none⟩=some (.slice xH nH yH):=by simp[go_sem]
 have hw1:(w.alloc (.cells #[.slice xR nR yR,.bool z,.bool c,.bool hz,.bool hc,.slice xH nH yH,.int .i64 pc,.int .i64 st,.slice xO nO yO] 40)).cell? ⟨w.heap.size,8,none⟩=some (.slice xO nO yO):=by simp[go_sem]
 have H0:Hid ((w.alloc (.cells #[.slice xR nR yR,.bool z,.bool c,.bool hz,.bool hc,.slice xH nH yH,.int .i64 pc,.int .i64 st,.slice xO nO yO] 40)).cell? ⟨w.heap.size,5,none⟩=some (.slice xH nH yH)):=hw0;have H1:Hid ((w.alloc (.cells #[.slice xR nR yR,.bool z,.bool c,.bool hz,.bool hc,.slice xH nH yH,.int .i64 pc,.int .i64 st,.slice xO nO yO] 40)).cell? ⟨w.heap.size,8,none⟩=some (.slice xO nO yO)):=hw1;clear hw0 hw1;go_enter Tryz.func8,Tryz.ntmps8;go_upto_region 1 with fail;go_cut [0,53](fun _ s53 wx=>s53=.bool (!headOK nR z c hz hc nH pc st nO)/\wx=w.alloc (.cells #[.slice xR nR yR,.bool z,.bool c,.bool hz,.bool hc,.slice xH nH yH,.int .i64 pc,.int .i64 st,.slice xO nO yO] 40))
 case first=>
  go_wp2_with(go_at_call 36;refine(in_any _ _ _ _).mono ?_;rintro e w'⟨rfl,rfl⟩);all_goals
   go_meet;refine⟨?_,by simp_all⟩;simp_all[headOK]<;>(rw[Bool.eq_iff_iff];simp;omega)
 case rest=>
 obtain⟨rfl,rfl⟩:=hcut;cases hh:headOK nR z c hz hc nH pc st nO with
 |false=>
  have HH:Hid (headOK nR z c hz hc nH pc st nO=false):=hh;go_wp2;go_ret;exact⟨ret_bool (by rw[HE.out,HH.out];rfl),HB0.out⟩
 |true=>
 have e2:machOK nR z c hz hc nH Hp pc st nO K=(heapsOK nH Hp&&seenOK nO K):=by rw[HE.out,hh];rfl
 have HE2:Hid (machOK nR z c hz hc nH Hp pc st nO K=(heapsOK nH Hp&&seenOK nO K)):=e2;clear e2;have hn:nH<=8:=by simp[headOK]at hh;omega
 have ho:nO<=200000:=by simp[headOK]at hh;omega
 go_wp2;clear hh;go_loopw [3](fun i wr=>∃k:Nat,k<=nH/\i=.int .i64 k/\Below w.heap.size w wr/\w.heap.size<wr.heap.size/\wr.cell? ⟨w.heap.size,5,none⟩=some (.slice xH nH yH)/\wr.cell? ⟨w.heap.size,8,none⟩=some (.slice xO nO yO)/\∀i,i<k->heapAt Hp i=true)(fun i _=>nH-(intOf i).toNat)
 case atStart=>exact⟨0,Nat.zero_le _,rfl,HB0.out,by simp,H0.out,H1.out,fun i hi=>by omega⟩
 case round=>
  obtain⟨k,hk,rfl,hbr,hzr,hx5,hx8,hall⟩:=hrel;have HK:Hid (∀i,i<k->heapAt Hp i=true):=hall;clear hall H0 H1;by_cases hlt:k<nH
  ·obtain rfl:xH=some ⟨bH,0,none⟩:=HM.out.eH.some (by omega)
   have g0:=(hbr.cell (p:=⟨bH,k*3,none⟩) hbH).trans ((HM.out.heaps.cell (i:=k*3+0) (by omega)).trans (congrArg some (heapF_0 _ k)));have g1:=(hbr.cell (p:=⟨bH,k*3+1,none⟩) hbH).trans ((HM.out.heaps.cell (i:=k*3+1) (by omega)).trans (congrArg some (heapF_1 _ k)));have g2:=(hbr.cell (p:=⟨bH,k*3+2,none⟩) hbH).trans ((HM.out.heaps.cell (i:=k*3+2) (by omega)).trans (congrArg some (heapF_2 _ k)));simp only[HeapV.put]at g0 g1 g2;have hl:=HL.out k hlt;have hz:=HZ.out k hlt;obtain⟨hz0,hz1⟩:=hz;go_upto_region 7 with fail;generalize hG:wr.alloc (.cells #[.int .u64 (Hp k).base,.bool (Hp k).wr,.slice (hA k) (Hp k).len (hC k)] 79)=wa;have y0:wa.cell? ⟨wr.heap.size,0,none⟩=some (.int .u64 (Hp k).base):=by rw[<-hG];simp[go_sem]
   have y1:wa.cell? ⟨wr.heap.size,1,none⟩=some (.bool (Hp k).wr):=by rw[<-hG];simp[go_sem]
   have y2:wa.cell? ⟨wr.heap.size,2,none⟩=some (.slice (hA k) (Hp k).len (hC k)):=by rw[<-hG];simp[go_sem]
   have ya:Below wr.heap.size wr wa:=by rw[<-hG];exact(Below.refl _ _).alloc (Nat.le_refl _) _
   have yz:wr.heap.size<wa.heap.size:=by rw[<-hG];simp
   clear hG g0 g1 g2;go_cut [83](fun s83 wx=>s83=.bool (!hOK (Hp k).base (Hp k).len)/\Below wa.heap.size wa wx)
   case first=>
    have R0:∀w',Below wa.heap.size wa w'->w'.cell? ⟨wr.heap.size,0,none⟩=some (.int .u64 (Hp k).base):=fun w' h=>(h.cell (p:=⟨wr.heap.size,0,none⟩) yz).trans y0
    have R1:∀w',Below wa.heap.size wa w'->w'.cell? ⟨wr.heap.size,1,none⟩=some (.bool (Hp k).wr):=fun w' h=>(h.cell (p:=⟨wr.heap.size,1,none⟩) yz).trans y1
    have R2:∀w',Below wa.heap.size wa w'->w'.cell? ⟨wr.heap.size,2,none⟩=some (.slice (hA k) (Hp k).len (hC k)):=fun w' h=>(h.cell (p:=⟨wr.heap.size,2,none⟩) yz).trans y2
    by_cases c1:((Hp k).len:Int)<1
    ·have e1:decide (((Hp k).len:Int)<1)=true:=by simp;omega
     go_region;all_goals
      go_wp2_with fail;go_meet;exact⟨by simp[hOK];omega,(Below.refl _ _).drew⟩
    ·have e1:decide (((Hp k).len:Int)<1)=false:=by simp;omega
     by_cases c2:(4096:Int)<((Hp k).len:Int)
     ·have e2:decide ((4096:Int)<((Hp k).len:Int))=true:=by simp;omega
      go_region;all_goals
       go_wp2_with fail;go_meet;exact⟨by simp[hOK];omega,(Below.refl _ _).drew⟩
     ·have e2:decide ((4096:Int)<((Hp k).len:Int))=false:=by simp;omega
      go_region_held3(fun w'=>Below wa.heap.size wa w')(first|exact(Below.refl _ _).drew|exact Below.trans (by assumption) (hb2.mono (Below.size (B:=wa.heap.size) (w:=wa) (by assumption))))(first|(go_at_call 37;refine(size_any _ _ _ _ _ _ hl).mono ?_;rintro e w'⟨rfl,hb2⟩));all_goals
       go_wp2_with fail;go_meet;exact⟨over_top (by omega) (by omega),by assumption⟩
   case rest=>
    obtain⟨rfl,hbw⟩:=hcut;have ba:Below w.heap.size w wa:=hbr.trans (ya.mono hbr.size);have HBW:Hid (Below w.heap.size w wc):=ba.trans (hbw.mono ba.size);have bc:Below wr.heap.size wr wc:=ya.trans (hbw.mono (Nat.le_of_lt yz));have x5:=(bc.cell (p:=⟨w.heap.size,5,none⟩) hzr).trans hx5;have x8:=(bc.cell (p:=⟨w.heap.size,8,none⟩) hzr).trans hx8;have v0:=(hbw.cell (p:=⟨wr.heap.size,0,none⟩) yz).trans y0;have v1:=(hbw.cell (p:=⟨wr.heap.size,1,none⟩) yz).trans y1;have v2:=(hbw.cell (p:=⟨wr.heap.size,2,none⟩) yz).trans y2;have vz:wr.heap.size<wc.heap.size:=Nat.lt_of_lt_of_le yz hbw.size;have wz:w.heap.size<wc.heap.size:=by omega
    clear ba bc hbw y0 y1 y2 ya yz hx5 hx8 hbr;cases hv:hOK (Hp k).base (Hp k).len with
    |false=>
     go_wp2;go_ret;exact⟨ret_bool (by rw[HE2.out,heaps_no hlt (show heapAt Hp k=false by simp[heapAt,hv])];rfl),HBW.out⟩
    |true=>
     have HV:Hid (hOK (Hp k).base (Hp k).len=true):=hv;clear hv;go_wp2;generalize wr.heap.size=Bx at v0 v1 v2 vz⊢;clear hzr;go_loopw [5](fun i wr=>∃j:Nat,j<=k/\i=.int .i64 j/\Below wc.heap.size wc wr/\∀i,i<j->apartAt Hp k i=true)(fun i _=>k-(intOf i).toNat)
     case atStart=>exact⟨0,Nat.zero_le _,rfl,Below.refl _ _,fun i hi=>by omega⟩
     case round=>
      obtain⟨j,hj,rfl,hbi,hap⟩:=hrel;have HP:Hid (∀i,i<j->apartAt Hp k i=true):=hap;clear hap;have t5:=(hbi.cell (p:=⟨w.heap.size,5,none⟩) wz).trans x5;have t8:=(hbi.cell (p:=⟨w.heap.size,8,none⟩) wz).trans x8;have r0:=(hbi.cell (p:=⟨Bx,0,none⟩) vz).trans v0;have r1:=(hbi.cell (p:=⟨Bx,1,none⟩) vz).trans v1;have r2:=(hbi.cell (p:=⟨Bx,2,none⟩) vz).trans v2;have rz:Bx<wr.heap.size:=Nat.lt_of_lt_of_le vz hbi.size;have wz':w.heap.size<wr.heap.size:=Nat.lt_of_lt_of_le wz hbi.size;have HBI:Hid (Below w.heap.size w wr):=HBW.out.trans (hbi.mono HBW.out.size);clear x8 v0 v1 v2;by_cases hjk:j<k
      ·have g0:=(HBI.out.cell (p:=⟨bH,j*3,none⟩) hbH).trans ((HM.out.heaps.cell (i:=j*3+0) (by omega)).trans (congrArg some (heapF_0 _ j)))
       have g1:=(HBI.out.cell (p:=⟨bH,j*3+1,none⟩) hbH).trans ((HM.out.heaps.cell (i:=j*3+1) (by omega)).trans (congrArg some (heapF_1 _ j)));have g2:=(HBI.out.cell (p:=⟨bH,j*3+2,none⟩) hbH).trans ((HM.out.heaps.cell (i:=j*3+2) (by omega)).trans (congrArg some (heapF_2 _ j)));simp only[HeapV.put]at g0 g1 g2;have hlj:=HL.out j (by omega)
       obtain⟨zj0,zj1⟩:=HZ.out j (by omega)
       obtain⟨_,o1,o2⟩:=hOK_le HV.out
       obtain⟨_,o3,o4⟩:=hOK_le (show hOK (Hp j).base (Hp j).len=true by have:=HK.out j hjk;simp[heapAt]at this;exact this.1)
       go_upto_region 13 with fail
       generalize hG:wr.alloc (.cells #[.int .u64 (Hp j).base,.bool (Hp j).wr,.slice (hA j) (Hp j).len (hC j)] 79)=wa2
       have y0:wa2.cell? ⟨wr.heap.size,0,none⟩=some (.int .u64 (Hp j).base):=by rw[<-hG];simp[go_sem]
       have y1:wa2.cell? ⟨wr.heap.size,1,none⟩=some (.bool (Hp j).wr):=by rw[<-hG];simp[go_sem]
       have y2:wa2.cell? ⟨wr.heap.size,2,none⟩=some (.slice (hA j) (Hp j).len (hC j)):=by rw[<-hG];simp[go_sem]
       have ya:Below wr.heap.size wr wa2:=by rw[<-hG];exact(Below.refl _ _).alloc (Nat.le_refl _) _
       have yz:wr.heap.size<wa2.heap.size:=by rw[<-hG];simp
       have n0:=(ya.cell (p:=⟨Bx,0,none⟩) rz).trans r0
       have n1:=(ya.cell (p:=⟨Bx,1,none⟩) rz).trans r1
       have n2:=(ya.cell (p:=⟨Bx,2,none⟩) rz).trans r2
       have nz:Bx<wa2.heap.size:=by omega
       have HN:Hid (Below wc.heap.size wc wa2):=hbi.trans (ya.mono hbi.size)
       clear hG g0 g1 g2 r0 r1 r2
       generalize wr.heap.size=By at y0 y1 y2 yz⊢
       clear ya
       go_cut [111](fun s111 wx=>s111=.bool (ovl (Hp j).base (Hp j).len (Hp k).base (Hp k).len)/\Below wa2.heap.size wa2 wx)
       case first=>
        have R0:∀w',Below wa2.heap.size wa2 w'->w'.cell? ⟨By,0,none⟩=some (.int .u64 (Hp j).base):=fun w' h=>(h.cell (p:=⟨By,0,none⟩) yz).trans y0
        have R1:∀w',Below wa2.heap.size wa2 w'->w'.cell? ⟨By,1,none⟩=some (.bool (Hp j).wr):=fun w' h=>(h.cell (p:=⟨By,1,none⟩) yz).trans y1
        have R2:∀w',Below wa2.heap.size wa2 w'->w'.cell? ⟨By,2,none⟩=some (.slice (hA j) (Hp j).len (hC j)):=fun w' h=>(h.cell (p:=⟨By,2,none⟩) yz).trans y2
        have S0:∀w',Below wa2.heap.size wa2 w'->w'.cell? ⟨Bx,0,none⟩=some (.int .u64 (Hp k).base):=fun w' h=>(h.cell (p:=⟨Bx,0,none⟩) nz).trans n0
        have S1:∀w',Below wa2.heap.size wa2 w'->w'.cell? ⟨Bx,1,none⟩=some (.bool (Hp k).wr):=fun w' h=>(h.cell (p:=⟨Bx,1,none⟩) nz).trans n1
        have S2:∀w',Below wa2.heap.size wa2 w'->w'.cell? ⟨Bx,2,none⟩=some (.slice (hA k) (Hp k).len (hC k)):=fun w' h=>(h.cell (p:=⟨Bx,2,none⟩) nz).trans n2
        clear y0 y1 y2 n0 n1 n2 t5 t8
        by_cases c1:(Hp k).base<(Hp j).base+((Hp j).len:Int)
        ·have e1:decide ((Hp k).base<IntKind.u64.wrap ((Hp j).base+((Hp j).len:Int)))=true:=by rw[u64_nonneg (by omega) o4];simp;omega
         go_region_held3(fun w'=>Below wa2.heap.size wa2 w')(first|exact(Below.refl _ _).drew|exact Below.trans (by assumption) (hb2.mono (Below.size (B:=wa2.heap.size) (w:=wa2) (by assumption))))(first|(go_at_call 37;refine(size_any _ _ _ _ _ _ (by assumption)).mono ?_;rintro e w'⟨rfl,hb2⟩))
         all_goals
          go_wp2_with fail
          go_meet
          exact⟨meet_yes (by omega) hz0 o2,by assumption⟩
        ·have e1:decide ((Hp k).base<IntKind.u64.wrap ((Hp j).base+((Hp j).len:Int)))=false:=by rw[u64_nonneg (by omega) o4];simp;omega
         refine wp_region_held_drew (S:=fun w'=>Below wa2.heap.size wa2 w') (by kernel_rfl) (Below.refl _ _).drew (fun hHeld=>?_)
         refine wpAnyH_take (i:=0) (v:=?v0) rfl (by kernel_rfl) (by kernel_rfl) (by kernel_rfl) (fun _ _ _ h=>h) (Or.inl ⟨by rfl,?y0⟩) (by assumption) ?r0
         case y0=>(intro w hSw;(try dsimp only at hSw);go_simp;try with_reducible rfl)
         try simp only[Act.put,List.getElem_toArray,List.getElem_cons_zero,List.setIfInBounds_toArray,List.set_cons_zero,List.set_cons_succ]
         refine wpAnyH_take (i:=1) (v:=?v1) rfl (by kernel_rfl) (by kernel_rfl) (by kernel_rfl) (fun _ _ _ h=>h) (Or.inl ⟨by rfl,?y1⟩) (by assumption) ?r1
         case y1=>(intro w hSw;(try dsimp only at hSw);go_simp;try with_reducible rfl)
         try simp only[Act.put,List.getElem_toArray,List.getElem_cons_zero,List.getElem_cons_succ,List.setIfInBounds_toArray,List.set_cons_zero,List.set_cons_succ]
         refine wpAnyH_take (i:=2) (v:=?v2) rfl (by kernel_rfl) (by kernel_rfl) (by kernel_rfl) (fun _ _ _ h=>h) (Or.inl ⟨by rfl,?y2⟩) (by assumption) ?r2
         case y2=>(intro w hSw;(try dsimp only at hSw);go_simp;try with_reducible rfl)
         try simp only[Act.put,List.getElem_toArray,List.getElem_cons_zero,List.getElem_cons_succ,List.setIfInBounds_toArray,List.set_cons_zero,List.set_cons_succ]
         refine wpAnyH_take (i:=3) (v:=?v3) rfl (by kernel_rfl) (by kernel_rfl) (by kernel_rfl) (fun _ _ _ h=>h) (Or.inl ⟨by rfl,?y3⟩) (by assumption) ?r3
         case y3=>(intro w hSw;(try dsimp only at hSw);go_simp;try with_reducible rfl)
         try simp only[Act.put,List.getElem_toArray,List.getElem_cons_zero,List.getElem_cons_succ,List.setIfInBounds_toArray,List.set_cons_zero,List.set_cons_succ]
         refine wpAnyH_take (i:=4) (v:=?v4) rfl (by kernel_rfl) (by kernel_rfl) (by kernel_rfl) (fun _ _ _ h=>h) (Or.inl ⟨by rfl,?y4⟩) (by assumption) ?r4
         case y4=>(intro w hSw;(try dsimp only at hSw);go_simp;try with_reducible rfl)
         try simp only[Act.put,List.getElem_toArray,List.getElem_cons_zero,List.getElem_cons_succ,List.setIfInBounds_toArray,List.set_cons_zero,List.set_cons_succ]
         refine wpAnyH_ready (rs:=[5]) (by kernel_rfl) (by simp) ?_
         refine AllReadyH.cons rfl (fun K hK=>?_) AllReadyH.nil
         go_simp
         refine(size_any _ _ _ _ _ _ hlj).mono ?_
         rintro e w'⟨rfl,hb2⟩
         go_wp2_with fail
         refine hK.out _ _ ((Below.refl _ _).drew.trans hb2) (fun hHeld2=>?_)
         clear hK K
         refine wpAnyH_take (i:=6) (v:=?v6) rfl (by kernel_rfl) (by kernel_rfl) (by kernel_rfl) (fun _ _ _ h=>h) (Or.inl ⟨by rfl,?y6⟩) (by assumption) ?r6
         case y6=>(intro w hSw;(try dsimp only at hSw);go_simp;try with_reducible rfl)
         try simp only[Act.put,List.getElem_toArray,List.getElem_cons_zero,List.getElem_cons_succ,List.setIfInBounds_toArray,List.set_cons_zero,List.set_cons_succ]
         refine wpAnyH_take (i:=7) (v:=?v7) rfl (by kernel_rfl) (by kernel_rfl) (by kernel_rfl) (fun _ _ _ h=>h) (Or.inl ⟨by rfl,?y7⟩) (by assumption) ?r7
         case y7=>(intro w hSw;(try dsimp only at hSw);go_simp;try with_reducible rfl)
         try simp only[Act.put,List.getElem_toArray,List.getElem_cons_zero,List.getElem_cons_succ,List.setIfInBounds_toArray,List.set_cons_zero,List.set_cons_succ]
         refine wpAnyH_take (i:=8) (v:=?v8) rfl (by kernel_rfl) (by kernel_rfl) (by kernel_rfl) (fun _ _ _ h=>h) (Or.inl ⟨by rfl,?y8⟩) (by assumption) ?r8
         case y8=>(intro w hSw;(try dsimp only at hSw);go_simp;try with_reducible rfl)
         try simp only[Act.put,List.getElem_toArray,List.getElem_cons_zero,List.getElem_cons_succ,List.setIfInBounds_toArray,List.set_cons_zero,List.set_cons_succ]
         refine wpAnyH_take (i:=9) (v:=undef) rfl (by kernel_rfl) (by kernel_rfl) (by kernel_rfl) (fun _ _ _ h=>h) (Or.inr ⟨by kernel_rfl,rfl⟩) (by assumption) ?_
         try simp only[Act.put,List.getElem_toArray,List.getElem_cons_zero,List.getElem_cons_succ,List.setIfInBounds_toArray,List.set_cons_zero,List.set_cons_succ]
         refine wpAnyH_take (i:=10) (v:=undef) rfl (by kernel_rfl) (by kernel_rfl) (by kernel_rfl) (fun _ _ _ h=>h) (Or.inr ⟨by kernel_rfl,rfl⟩) (by assumption) ?_
         try simp only[Act.put,List.getElem_toArray,List.getElem_cons_zero,List.getElem_cons_succ,List.setIfInBounds_toArray,List.set_cons_zero,List.set_cons_succ]
         refine wpAnyH_take (i:=11) (v:=undef) rfl (by kernel_rfl) (by kernel_rfl) (by kernel_rfl) (fun _ _ _ h=>h) (Or.inr ⟨by kernel_rfl,rfl⟩) (by assumption) ?_
         try simp only[Act.put,List.getElem_toArray,List.getElem_cons_zero,List.getElem_cons_succ,List.setIfInBounds_toArray,List.set_cons_zero,List.set_cons_succ]
         refine wpAnyH_take (i:=12) (v:=undef) rfl (by kernel_rfl) (by kernel_rfl) (by kernel_rfl) (fun _ _ _ h=>h) (Or.inr ⟨by kernel_rfl,rfl⟩) (by assumption) ?_
         try simp only[Act.put,List.getElem_toArray,List.getElem_cons_zero,List.getElem_cons_succ,List.setIfInBounds_toArray,List.set_cons_zero,List.set_cons_succ]
         refine wpAnyH_take (i:=13) (v:=undef) rfl (by kernel_rfl) (by kernel_rfl) (by kernel_rfl) (fun _ _ _ h=>h) (Or.inr ⟨by kernel_rfl,rfl⟩) (by assumption) ?_
         try simp only[Act.put,List.getElem_toArray,List.getElem_cons_zero,List.getElem_cons_succ,List.setIfInBounds_toArray,List.set_cons_zero,List.set_cons_succ]
         refine wpAnyH_take (i:=14) (v:=undef) rfl (by kernel_rfl) (by kernel_rfl) (by kernel_rfl) (fun _ _ _ h=>h) (Or.inr ⟨by kernel_rfl,rfl⟩) (by assumption) ?_
         try simp only[Act.put,List.getElem_toArray,List.getElem_cons_zero,List.getElem_cons_succ,List.setIfInBounds_toArray,List.set_cons_zero,List.set_cons_succ]
         refine wpAnyH_take (i:=15) (v:=undef) rfl (by kernel_rfl) (by kernel_rfl) (by kernel_rfl) (fun _ _ _ h=>h) (Or.inr ⟨by kernel_rfl,rfl⟩) (by assumption) ?_
         try simp only[Act.put,List.getElem_toArray,List.getElem_cons_zero,List.getElem_cons_succ,List.setIfInBounds_toArray,List.set_cons_zero,List.set_cons_succ]
         refine wpAnyH_take (i:=16) (v:=undef) rfl (by kernel_rfl) (by kernel_rfl) (by kernel_rfl) (fun _ _ _ h=>h) (Or.inr ⟨by kernel_rfl,rfl⟩) (by assumption) ?_
         try simp only[Act.put,List.getElem_toArray,List.getElem_cons_zero,List.getElem_cons_succ,List.setIfInBounds_toArray,List.set_cons_zero,List.set_cons_succ]
         refine wpAnyH_take (i:=17) (v:=?v17) rfl (by kernel_rfl) (by kernel_rfl) (by kernel_rfl) (fun _ _ _ h=>h) (Or.inl ⟨by rfl,?y17⟩) (by assumption) ?r17
         case y17=>(intro w hSw;(try dsimp only at hSw);go_simp;try with_reducible rfl)
         try simp only[Act.put,List.getElem_toArray,List.getElem_cons_zero,List.getElem_cons_succ,List.setIfInBounds_toArray,List.set_cons_zero,List.set_cons_succ]
         refine wpAnyH_done (by kernel_rfl) ?_ _
         go_wp2_with fail
         go_meet
         exact⟨meet_no (by omega),by assumption⟩
       case rest=>
        obtain⟨rfl,hb3⟩:=hcut
        have b3:=HN.out.trans (hb3.mono HN.out.size)
        have HB3:Hid _:=b3
        have q5:=(b3.cell (p:=⟨w.heap.size,5,none⟩) wz).trans x5
        clear b3 hb3 y0 y1 y2 n0 n1 n2 t5 t8
        cases hv:ovl (Hp j).base (Hp j).len (Hp k).base (Hp k).len with
        |true=>
         go_wp2
         go_ret
         exact⟨ret_bool (by rw[HE2.out,heaps_no hlt (by simp[heapAt,all_no hjk (show apartAt Hp k j=false by simp[apartAt,hv])])];rfl),HBW.out.trans (HB3.out.mono HBW.out.size)⟩
        |false=>
         have q:apartAt Hp k j=true:=by simp[apartAt,hv]
         have HQ:Hid (apartAt Hp k j=true):=q
         clear hv q
         go_wp2
         go_roundw
         case rel=>first|exact⟨j+1,by omega,by go_num,HB3.out,upto_step HP.out HQ.out⟩|((repeat apply Exists.intro);exact⟨⟨j+1,by omega,by go_num,HB3.out,upto_step HP.out HQ.out⟩,rfl⟩)
         case measure=>simp[intOf];omega
      ·obtain rfl:j=k:=by omega
       have q:heapAt Hp j=true:=by simp only[heapAt,HV.out,all_yes HP.out,Bool.and_self]
       have HQ:Hid (heapAt Hp j=true):=q
       clear q r0 r1 r2
       go_wp2
       go_roundw
       case rel=>first|exact⟨j+1,by omega,by go_num,HBI.out,wz',t5,t8,upto_step HK.out HQ.out⟩|((repeat apply Exists.intro);exact⟨⟨j+1,by omega,by go_num,HBI.out,wz',t5,t8,upto_step HK.out HQ.out⟩,rfl⟩)
       case measure=>simp[intOf];omega
  ·obtain rfl:k=nH:=by omega
   have HH:Hid (heapsOK k Hp=true):=heaps_yes hn HK.out
   go_wp2
   go_loopw [7](fun i wq=>∃m:Nat,m<=nO/\i=.int .i64 m/\Below w.heap.size w wq/\w.heap.size<wq.heap.size/\wq.cell? ⟨w.heap.size,8,none⟩=some (.slice xO nO yO)/\∀i,i<m->inB (K i) 1 3=true)(fun i _=>nO-(intOf i).toNat)
   case atStart=>exact⟨0,Nat.zero_le _,rfl,hbr,hzr,hx8,fun i hi=>by omega⟩
   case round=>
    clear hx5 hx8 hbr hzr
    obtain⟨m,hm,rfl,hbq,hzq,hq8,hal⟩:=hrel
    have HX:Hid (∀i,i<m->inB (K i) 1 3=true):=hal
    clear hal
    by_cases hlt2:m<nO
    ·obtain rfl:xO=some ⟨bO,0,none⟩:=HM.out.eO.some (by omega)
     have g0:=(hbq.cell (p:=⟨bO,m*2,none⟩) hbO).trans ((HM.out.obs.cell (i:=m*2+0) (by omega)).trans (congrArg some (obsF_0 K V m)))
     go_wp2_with fail
     refine(in_any _ _ _ _).mono ?_
     rintro e w'⟨rfl,rfl⟩
     cases hv:inB (K m) 1 3 with
     |false=>
      go_wp2
      go_ret
      exact⟨ret_bool (by rw[HE2.out,seen_no hlt2 hv];simp),hbq⟩
     |true=>
      have HV:Hid (inB (K m) 1 3=true):=hv
      clear hv g0
      go_wp2
      go_roundw
      case rel=>first|exact⟨m+1,by omega,by go_num,hbq,hzq,hq8,upto_step HX.out HV.out⟩|((repeat apply Exists.intro);exact⟨⟨m+1,by omega,by go_num,hbq,hzq,hq8,upto_step HX.out HV.out⟩,rfl⟩)
      case measure=>simp[intOf];omega
    ·obtain rfl:m=nO:=by omega
     go_wp2
     go_ret
     exact⟨ret_bool (by rw[HE2.out,HH.out];simp only[seenOK,all_yes HX.out,ho,decide_true,Bool.and_self]),hbq⟩
end Go.Proofs.YtbahofiiaodpdaaGreat
