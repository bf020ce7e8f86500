import Derived.Test.YtkckomianknjdaaGreatOfCoreF
import Derived.Test.YtkckomianknjdaaGreatOfSpecDo
import Derived.Deep.DeepCutAuto
import Derived.Deep.RegionHeld3
import Derived.Test.YtkckomianknjdaaGreatOfSpecAny
import Derived.Test.YtkckomianknjdaaGreatSpecCopy
set_option maxHeartbeats 4000000
set_option maxRecDepth 100000
namespace Go.Proofs.YtkckomianknjdaaGreat
open Go.RowKit
variable {b:Int}{u:Nat}
theorem u64_nonneg{n:Int}(a:0<=n)(b:n<=18446744073709551615):IntKind.u64.wrap n=n:=by rw[IntKind.wrap_u64];omega
theorem Vz{l:Int}(a:¬(u:Int)<1)(b:¬(4096:Int)<(u:Int)):Value.bool (decide (IntKind.u64.wrap (18446744073709551615-(u:Int))<l))=Value.bool !Sy l u:=by
 rw[u64_nonneg AB AB];have:decide (18446744073709551615-(u:Int)<l)=!Sy l u:=by rw[Bool.eq_iff_iff];simp[Sy];omega
 rw[this]
theorem Ws{N:Int}{l e:Nat}(h:N<b+(l:Int))(c:0<=N)(a:N+(e:Int)<=18446744073709551615):Value.bool (decide (b<IntKind.u64.wrap (N+(e:Int))))=Value.bool (Vx b l N e):=by
 rw[u64_nonneg AB a];have:decide (b<N+(e:Int))=Vx b l N e:=by rw[Bool.eq_iff_iff];simp[Vx];omega
 rw[this]
theorem YL{N:Int}{l e:Nat}(h:¬N<b+(l:Int)):Value.bool false=Value.bool (Vx b l N e):=by
 have:false=Vx b l N e:=by rw[Bool.eq_iff_iff];simp[Vx];omega
 rw[<-this]
def Ju(nR:Nat)(z c hz hc:Bool)(nH:Nat)(pc st:Int)(nO:Nat):Bool:=
 decide ((nR:Int)=8)&&(hz||!z)&&(hc||!c)&&decide ((nH:Int)<=8)&&Dm pc 0 2000&&Dm st 0 2&&decide ((nO:Int)<=200000)
theorem VO(j:Nat)(z c l k:Bool)(d:Nat)(h:Nat->Bj)(m n:Int)(e:Nat)(K:Nat->Int):DZ j z c l k d h m n e K=(Ju j z c l k d m n e&&(DV d h&&EQ e K)):=by
 have o:decide (j=8)=decide ((j:Int)=8):=by rw[Bool.eq_iff_iff];simp;omega
 have p:DV d h=(decide ((d:Int)<=8)&&DV d h):=by
  unfold DV;rw[show decide ((d:Int)<=8)=decide (d<=8)by rw[Bool.eq_iff_iff];simp;omega];rw[<-Bool.and_assoc,Bool.and_self]
 have q:EQ e K=(decide ((e:Int)<=200000)&&EQ e K):=by
  unfold EQ;rw[show decide ((e:Int)<=200000)=decide (e<=200000)by rw[Bool.eq_iff_iff];simp;omega];rw[<-Bool.and_assoc,Bool.and_self]
 unfold DZ Ju;rw[o,p,q];generalize DV d h=a;generalize EQ e K=b;ac_rfl
theorem Pj(xR:Option Addr)(yR bR D:Nat)(z c C O:Bool)(R:Nat->Int)(xH:Option Addr)(yH bH o:Nat)(a:Nat->Bj)(hA:Nat->Option Addr)(hC:Nat->Nat)(Q U:Int)(X:Option Addr)(yO bO r:Nat)(K V:Nat->Int)(w:World)
 (hs:Small D o a r)(L:∀i,i<o->0<=(a i).base/\(a i).base<=18446744073709551615)(h:FN w xR yR bR D R xH yH bH o a hA hC X yO bO r K V):
 Calls Tryz.prog 18 #[.agg #[.slice xR D yR,.bool z,.bool c,.bool C,.bool O,.slice xH o yH,Vi Q,Vi U,.slice X r yO]] w fun e l=>
  e=.returned (.bool (DZ D z c C O o a Q U r K))/\Below w.heap.size w l:=by
 have Z:=hxy h;have HL:=hxy hs.data;have HZ:=hxy L;have HE:=hxy (VO D z c C O o a Q U r K);have A:=h.heaps.lt;have av:=h.obs.lt;have l1:=hs.regs;have l2:=hs.heaps;have l3:=hs.obs;clear h L hs;have b0:=(Below.refl w.heap.size w).alloc BP (.cells #[.slice xR D yR,.bool z,.bool c,.bool C,.bool O,.slice xH o yH,Vi Q,Vi U,.slice X r yO] 28);have af:=hxy b0;clear b0;have am:(w.alloc (.cells #[.slice xR D yR,.bool z,.bool c,.bool C,.bool O,.slice xH o yH,Vi Q,Vi U,.slice X r yO] 28)).cell? ⟨w.heap.size,5,none⟩=some (.slice xH o yH):=by simp[go_sem]
 have an:(w.alloc (.cells #[.slice xR D yR,.bool z,.bool c,.bool C,.bool O,.slice xH o yH,Vi Q,Vi U,.slice X r yO] 28)).cell? ⟨w.heap.size,8,none⟩=some (.slice X r yO):=by simp[go_sem]
 have H0:=hxy am;have H1:=hxy an;clear am an;go_enter Tryz.func18,Tryz.ntmps18;go_upto_region 1 with fail;go_cut [0,53](fun _ ay wx=>ay=.bool (!Ju D z c C O o Q U r)/\wx=w.alloc (.cells #[.slice xR D yR,.bool z,.bool c,.bool C,.bool O,.slice xH o yH,Vi Q,Vi U,.slice X r yO] 28))
 case first=>
  go_wp2_with(go_at_call 19;refine(EJ _ _ _ _).mono ?_;rintro e l⟨rfl,rfl⟩);all_goals
   go_meet;refine⟨?_,by simp_all⟩;simp_all[Ju]<;>(rw[Bool.eq_iff_iff];simp;omega)
 case rest=>
 obtain⟨rfl,rfl⟩:=hcut;cases hh:Ju D z c C O o Q U r with
 |false=>
  have HH:=hxy hh;go_wp2;go_ret;exact⟨AZ (by rw[HE.out,HH.out];rfl),af⟩
 |true=>
 have e2:DZ D z c C O o a Q U r K=(DV o a&&EQ r K):=by rw[HE.out,hh];rfl
 have Y:=hxy e2;clear e2;have hn:o<=8:=by simp[Ju]at hh;omega
 have ho:r<=200000:=by simp[Ju]at hh;omega
 go_wp2;clear hh;go_loopw [3](fun i wr=>∃k:Nat,k<=o/\i=Vi k/\Bw w wr/\w.heap.size<wr.heap.size/\wr.cell? ⟨w.heap.size,5,none⟩=some (.slice xH o yH)/\wr.cell? ⟨w.heap.size,8,none⟩=some (.slice X r yO)/\∀i,i<k->heapAt a i=true)(fun i _=>o-(intOf i).toNat)
 case atStart=>exact⟨0,Nat.zero_le _,rfl,af,AY,H0,H1,fun i hi=>by omega⟩
 case round=>
  obtain⟨k,hk,rfl,s,N,ae,ab,ac⟩:=hrel;have HK:=hxy ac;clear ac H0 H1;by_cases aa:k<o
  ·obtain rfl:xH=some ⟨bH,0,none⟩:=Z.eH.some AB
   have g0:=(s.cell (p:=Va bH (k*3)) A).trans ((Z.heaps.cell (i:=k*3+0) AB).trans (congrArg some (FR _ k)));have g1:=(s.cell (p:=Va bH (k*3+1)) A).trans ((Z.heaps.cell (i:=k*3+1) AB).trans (congrArg some (FQ _ k)));have g2:=(s.cell (p:=Va bH (k*3+2)) A).trans ((Z.heaps.cell (i:=k*3+2) AB).trans (congrArg some (Ef _ k)));simp only[Bj.put]at g0 g1 g2;have hl:=HL.out k aa;have C:=HZ.out k aa;obtain⟨ax,aA⟩:=C;go_upto_region 7 with fail;generalize y:wr.alloc (.cells #[.int .u64 (a k).base,.bool (a k).wr,.slice (hA k) (a k).len (hC k)] 76)=E;have y0:E.cell? ⟨wr.heap.size,0,none⟩=some (.int .u64 (a k).base):=by rw[<-y];simp[go_sem]
   have y1:E.cell? ⟨wr.heap.size,1,none⟩=some (.bool (a k).wr):=by rw[<-y];simp[go_sem]
   have y2:E.cell? ⟨wr.heap.size,2,none⟩=some (.slice (hA k) (a k).len (hC k)):=by rw[<-y];simp[go_sem]
   have ya:Bw wr E:=by rw[<-y];exact Ah
   have x:wr.heap.size<E.heap.size:=by rw[<-y];simp
   clear y g0 g1 g2;go_cut [83](fun az wx=>az=.bool (!Sy (a k).base (a k).len)/\Bw E wx)
   case first=>
    have R0:∀l,Bw E l->l.cell? ⟨wr.heap.size,0,none⟩=some (.int .u64 (a k).base):=fun l h=>(h.cell (p:=⟨wr.heap.size,0,none⟩) x).trans y0
    have R1:∀l,Bw E l->l.cell? ⟨wr.heap.size,1,none⟩=some (.bool (a k).wr):=fun l h=>(h.cell (p:=⟨wr.heap.size,1,none⟩) x).trans y1
    have R2:∀l,Bw E l->l.cell? ⟨wr.heap.size,2,none⟩=some (.slice (hA k) (a k).len (hC k)):=fun l h=>(h.cell (p:=⟨wr.heap.size,2,none⟩) x).trans y2
    by_cases c1:((a k).len:Int)<1
    ·have e1:decide (((a k).len:Int)<1)=true:=by simp;omega
     go_region;all_goals
      go_wp2_with fail;go_meet;exact⟨by simp[Sy];omega,Al.drew⟩
    ·have e1:decide (((a k).len:Int)<1)=false:=by simp;omega
     by_cases c2:(4096:Int)<((a k).len:Int)
     ·have e2:decide ((4096:Int)<((a k).len:Int))=true:=by simp;omega
      go_region;all_goals
       go_wp2_with fail;go_meet;exact⟨by simp[Sy];omega,Al.drew⟩
     ·have e2:decide ((4096:Int)<((a k).len:Int))=false:=by simp;omega
      go_region_held3(fun l=>Bw E l)(first|exact Al.drew|exact Below.trans (by assumption) (J.mono (Below.size (B:=E.heap.size) (w:=E) (by assumption))))(first|(go_at_call 41;refine(Cx _ _ _ _ _ _ hl).mono ?_;rintro e l⟨rfl,J⟩));all_goals
       go_wp2_with fail;go_meet;exact⟨Vz AB AB,by assumption⟩
   case rest=>
    obtain⟨rfl,u⟩:=hcut;have ba:=s.trans (ya.mono s.size);have I:=hxy (ba.trans (u.mono ba.size));have bc:=ya.trans (u.mono (Nat.le_of_lt x));have x5:=(bc.cell (p:=⟨w.heap.size,5,none⟩) N).trans ae;have x8:=(bc.cell (p:=⟨w.heap.size,8,none⟩) N).trans ab;have v0:=(u.cell (p:=⟨wr.heap.size,0,none⟩) x).trans y0;have v1:=(u.cell (p:=⟨wr.heap.size,1,none⟩) x).trans y1;have v2:=(u.cell (p:=⟨wr.heap.size,2,none⟩) x).trans y2;have vz:wr.heap.size<wc.heap.size:=DY x u.size;have wz:w.heap.size<wc.heap.size:=AB;clear ba bc u y0 y1 y2 ya x ae ab s;cases hv:Sy (a k).base (a k).len with
    |false=>
     go_wp2;go_ret;exact⟨AZ (by rw[Y.out,Jz aa (show heapAt a k=false by simp[heapAt,hv])];rfl),I⟩
    |true=>
     have HV:=hxy hv;clear hv;go_wp2;generalize wr.heap.size=Bx at v0 v1 v2 vz⊢;clear N;go_loopw [5](fun i wr=>∃j:Nat,j<=k/\i=Vi j/\Bw wc wr/\∀i,i<j->FK a k i=true)(fun i _=>k-(intOf i).toNat)
     case atStart=>exact⟨0,Nat.zero_le _,rfl,Below.refl _ _,fun i hi=>by omega⟩
     case round=>
      obtain⟨j,hj,rfl,n,ah⟩:=hrel;have HP:=hxy ah;clear ah;have t5:=(n.cell (p:=⟨w.heap.size,5,none⟩) wz).trans x5;have t8:=(n.cell (p:=⟨w.heap.size,8,none⟩) wz).trans x8;have r0:=(n.cell (p:=Va Bx 0) vz).trans v0;have r1:=(n.cell (p:=Va Bx 1) vz).trans v1;have r2:=(n.cell (p:=Va Bx 2) vz).trans v2;have rz:Bx<wr.heap.size:=DY vz n.size;have ar:w.heap.size<wr.heap.size:=DY wz n.size;have F:=hxy (I.trans (n.mono I.size));clear x8 v0 v1 v2;by_cases aj:j<k
      ·have g0:=(F.cell (p:=Va bH (j*3)) A).trans ((Z.heaps.cell (i:=j*3+0) AB).trans (congrArg some (FR _ j)))
       have g1:=(F.cell (p:=Va bH (j*3+1)) A).trans ((Z.heaps.cell (i:=j*3+1) AB).trans (congrArg some (FQ _ j)));have g2:=(F.cell (p:=Va bH (j*3+2)) A).trans ((Z.heaps.cell (i:=j*3+2) AB).trans (congrArg some (Ef _ j)));simp only[Bj.put]at g0 g1 g2;have aw:=HL.out j AB;obtain⟨aB,aC⟩:=HZ.out j AB;obtain⟨_,o1,o2⟩:=Pg HV;obtain⟨_,o3,o4⟩:=Pg (show Sy (a j).base (a j).len=true by have:=HK.out j aj;simp[heapAt]at this;exact this.1);go_upto_region 13 with fail;generalize y:wr.alloc (.cells #[.int .u64 (a j).base,.bool (a j).wr,.slice (hA j) (a j).len (hC j)] 76)=d;have y0:d.cell? ⟨wr.heap.size,0,none⟩=some (.int .u64 (a j).base):=by rw[<-y];simp[go_sem]
       have y1:d.cell? ⟨wr.heap.size,1,none⟩=some (.bool (a j).wr):=by rw[<-y];simp[go_sem]
       have y2:d.cell? ⟨wr.heap.size,2,none⟩=some (.slice (hA j) (a j).len (hC j)):=by rw[<-y];simp[go_sem]
       have ya:Bw wr d:=by rw[<-y];exact Ah
       have x:wr.heap.size<d.heap.size:=by rw[<-y];simp
       have n0:=(ya.cell (p:=Va Bx 0) rz).trans r0;have n1:=(ya.cell (p:=Va Bx 1) rz).trans r1;have n2:=(ya.cell (p:=Va Bx 2) rz).trans r2;have nz:Bx<d.heap.size:=AB;have HN:=hxy (n.trans (ya.mono n.size));clear y g0 g1 g2 r0 r1 r2;generalize wr.heap.size=By at y0 y1 y2 x⊢;clear ya;go_cut [111](fun ap wx=>ap=.bool (Vx (a j).base (a j).len (a k).base (a k).len)/\Bw d wx)
       case first=>
        have R0:Cb d By 0 (.int .u64 (a j).base):=fun l h=>(h.cell (p:=Va By 0) x).trans y0
        have R1:Cb d By 1 (.bool (a j).wr):=fun l h=>(h.cell (p:=Va By 1) x).trans y1
        have R2:Cb d By 2 (.slice (hA j) (a j).len (hC j)):=fun l h=>(h.cell (p:=Va By 2) x).trans y2
        have S0:Cb d Bx 0 (.int .u64 (a k).base):=fun l h=>(h.cell (p:=Va Bx 0) nz).trans n0
        have S1:Cb d Bx 1 (.bool (a k).wr):=fun l h=>(h.cell (p:=Va Bx 1) nz).trans n1
        have S2:Cb d Bx 2 (.slice (hA k) (a k).len (hC k)):=fun l h=>(h.cell (p:=Va Bx 2) nz).trans n2
        clear y0 y1 y2 n0 n1 n2 t5 t8;by_cases c1:(a k).base<(a j).base+((a j).len:Int)
        ·have e1:decide ((a k).base<IntKind.u64.wrap ((a j).base+((a j).len:Int)))=true:=by rw[u64_nonneg AB o4];simp;omega
         go_region_held3(fun l=>Bw d l)(first|exact Al.drew|exact Below.trans (by assumption) (J.mono (Below.size (B:=d.heap.size) (w:=d) (by assumption))))(first|(go_at_call 41;refine(Cx _ _ _ _ _ _ (by assumption)).mono ?_;rintro e l⟨rfl,J⟩));all_goals
          go_wp2_with fail;go_meet;exact⟨Ws AB ax o2,by assumption⟩
        ·have e1:decide ((a k).base<IntKind.u64.wrap ((a j).base+((a j).len:Int)))=false:=by rw[u64_nonneg AB o4];simp;omega
         refine wp_region_held_drew (S:=fun l=>Bw d l) Ab Al.drew (fun hHeld=>?_);refine wpAnyH_take (i:=0) (v:=?v0) rfl Ab Ab Ab (fun _ _ _ h=>h) (Or.inl ⟨by rfl,?y0⟩) (by assumption) ?r0
         case y0=>(intro w b;(try dsimp only at b);go_simp;try with_reducible rfl)
         refine BV ?_;refine wpAnyH_take (i:=1) (v:=?v1) rfl Ab Ab Ab (fun _ _ _ h=>h) (Or.inl ⟨by rfl,?y1⟩) (by assumption) ?r1
         case y1=>(intro w b;(try dsimp only at b);go_simp;try with_reducible rfl)
         refine BV ?_;refine wpAnyH_take (i:=2) (v:=?v2) rfl Ab Ab Ab (fun _ _ _ h=>h) (Or.inl ⟨by rfl,?y2⟩) (by assumption) ?r2
         case y2=>(intro w b;(try dsimp only at b);go_simp;try with_reducible rfl)
         refine BV ?_;refine wpAnyH_take (i:=3) (v:=?v3) rfl Ab Ab Ab (fun _ _ _ h=>h) (Or.inl ⟨by rfl,?y3⟩) (by assumption) ?r3
         case y3=>(intro w b;(try dsimp only at b);go_simp;try with_reducible rfl)
         refine BV ?_;refine wpAnyH_take (i:=4) (v:=?v4) rfl Ab Ab Ab (fun _ _ _ h=>h) (Or.inl ⟨by rfl,?y4⟩) (by assumption) ?r4
         case y4=>(intro w b;(try dsimp only at b);go_simp;try with_reducible rfl)
         refine BV ?_;refine wpAnyH_ready (rs:=[5]) Ab AY ?_;refine AllReadyH.cons rfl (fun K hK=>?_) AllReadyH.nil;go_simp;refine(Cx _ _ _ _ _ _ aw).mono ?_;rintro e l⟨rfl,J⟩;go_wp2_with fail;refine hK.out _ _ (Al.drew.trans J) (fun au=>?_);clear hK K;refine wpAnyH_take (i:=6) (v:=?v6) rfl Ab Ab Ab (fun _ _ _ h=>h) (Or.inl ⟨by rfl,?y6⟩) (by assumption) ?r6
         case y6=>(intro w b;(try dsimp only at b);go_simp;try with_reducible rfl)
         refine BV ?_;refine wpAnyH_take (i:=7) (v:=?v7) rfl Ab Ab Ab (fun _ _ _ h=>h) (Or.inl ⟨by rfl,?y7⟩) (by assumption) ?r7
         case y7=>(intro w b;(try dsimp only at b);go_simp;try with_reducible rfl)
         refine BV ?_;refine wpAnyH_take (i:=8) (v:=?v8) rfl Ab Ab Ab (fun _ _ _ h=>h) (Or.inl ⟨by rfl,?y8⟩) (by assumption) ?r8
         case y8=>(intro w b;(try dsimp only at b);go_simp;try with_reducible rfl)
         refine BV ?_;refine wpAnyH_take (i:=9) (v:=undef) rfl Ab Ab Ab (fun _ _ _ h=>h) (Or.inr ⟨Ab,rfl⟩) (by assumption) ?_;refine BV ?_;refine wpAnyH_take (i:=10) (v:=undef) rfl Ab Ab Ab (fun _ _ _ h=>h) (Or.inr ⟨Ab,rfl⟩) (by assumption) ?_;refine BV ?_;refine wpAnyH_take (i:=11) (v:=undef) rfl Ab Ab Ab (fun _ _ _ h=>h) (Or.inr ⟨Ab,rfl⟩) (by assumption) ?_;refine BV ?_;refine wpAnyH_take (i:=12) (v:=undef) rfl Ab Ab Ab (fun _ _ _ h=>h) (Or.inr ⟨Ab,rfl⟩) (by assumption) ?_;refine BV ?_;refine wpAnyH_take (i:=13) (v:=undef) rfl Ab Ab Ab (fun _ _ _ h=>h) (Or.inr ⟨Ab,rfl⟩) (by assumption) ?_;refine BV ?_;refine wpAnyH_take (i:=14) (v:=undef) rfl Ab Ab Ab (fun _ _ _ h=>h) (Or.inr ⟨Ab,rfl⟩) (by assumption) ?_;refine BV ?_;refine wpAnyH_take (i:=15) (v:=undef) rfl Ab Ab Ab (fun _ _ _ h=>h) (Or.inr ⟨Ab,rfl⟩) (by assumption) ?_;refine BV ?_;refine wpAnyH_take (i:=16) (v:=undef) rfl Ab Ab Ab (fun _ _ _ h=>h) (Or.inr ⟨Ab,rfl⟩) (by assumption) ?_;refine BV ?_;refine wpAnyH_take (i:=17) (v:=?v17) rfl Ab Ab Ab (fun _ _ _ h=>h) (Or.inl ⟨by rfl,?y17⟩) (by assumption) ?r17
         case y17=>(intro w b;(try dsimp only at b);go_simp;try with_reducible rfl)
         refine BV ?_;refine wpAnyH_done Ab ?_ _;go_wp2_with fail;go_meet;exact⟨YL AB,by assumption⟩
       case rest=>
        obtain⟨rfl,ai⟩:=hcut;have b3:=HN.trans (ai.mono HN.size);have ad:Hid _:=b3;have q5:=(b3.cell (p:=⟨w.heap.size,5,none⟩) wz).trans x5;clear b3 ai y0 y1 y2 n0 n1 n2 t5 t8;cases hv:Vx (a j).base (a j).len (a k).base (a k).len with
        |true=>
         go_wp2;go_ret;exact⟨AZ (by rw[Y.out,Jz aa (by simp[heapAt,QN aj (show FK a k j=false by simp[FK,hv])])];rfl),I.trans (ad.mono I.size)⟩
        |false=>
         have q:FK a k j=true:=by simp[FK,hv]
         have HQ:=hxy q;clear hv q;go_wp2;go_roundw
         case rel=>first|exact⟨j+1,AB,by go_num,ad,Ei HP HQ⟩|((repeat apply Exists.intro);exact⟨⟨j+1,AB,by go_num,ad,Ei HP HQ⟩,rfl⟩)
         case measure=>simp[intOf];omega
      ·obtain rfl:j=k:=AB
       have q:heapAt a j=true:=by simp only[heapAt,HV.out,KR HP.out,Bool.and_self]
       have HQ:=hxy q;clear q r0 r1 r2;go_wp2;go_roundw
       case rel=>first|exact⟨j+1,AB,by go_num,F,ar,t5,t8,Ei HK HQ⟩|((repeat apply Exists.intro);exact⟨⟨j+1,AB,by go_num,F,ar,t5,t8,Ei HK HQ⟩,rfl⟩)
       case measure=>simp[intOf];omega
  ·obtain rfl:k=o:=AB
   have HH:=hxy (Om hn HK);go_wp2;go_loopw [7](fun i wq=>∃m:Nat,m<=r/\i=Vi m/\Bw w wq/\w.heap.size<wq.heap.size/\wq.cell? ⟨w.heap.size,8,none⟩=some (.slice X r yO)/\∀i,i<m->Dm (K i) 1 3=true)(fun i _=>r-(intOf i).toNat)
   case atStart=>exact⟨0,Nat.zero_le _,rfl,s,N,ab,fun i hi=>by omega⟩
   case round=>
    clear ae ab s N;obtain⟨m,hm,rfl,M,ao,al,ag⟩:=hrel;have HX:=hxy ag;clear ag;by_cases ak:m<r
    ·obtain rfl:X=some ⟨bO,0,none⟩:=Z.eO.some AB
     have g0:=(M.cell (p:=Va bO (m*2)) av).trans ((Z.obs.cell (i:=m*2+0) AB).trans (congrArg some (Ml K V m)));go_wp2_with fail;refine(EJ _ _ _ _).mono ?_;rintro e l⟨rfl,rfl⟩;cases hv:Dm (K m) 1 3 with
     |false=>
      go_wp2;go_ret;exact⟨AZ (by rw[Y.out,Pn ak hv];simp),M⟩
     |true=>
      have HV:=hxy hv;clear hv g0;go_wp2;go_roundw
      case rel=>first|exact⟨m+1,AB,by go_num,M,ao,al,Ei HX HV⟩|((repeat apply Exists.intro);exact⟨⟨m+1,AB,by go_num,M,ao,al,Ei HX HV⟩,rfl⟩)
      case measure=>simp[intOf];omega
    ·obtain rfl:m=r:=AB
     go_wp2;go_ret;exact⟨AZ (by rw[Y.out,HH.out];simp only[EQ,KR HX.out,ho,decide_true,Bool.and_self]),M⟩
def Sz(M M':MV):Prop:=M'.nH=M.nH/\(∀i,(M'.Hp i).len=(M.Hp i).len)/\M'.nO<=M.nO+1
theorem Sz.refl(M:MV):Sz M M:=⟨rfl,fun _=>rfl,Nat.le_succ _⟩
theorem GK{M a:MV}(b:a.nH=M.nH)(c:a.Hp=M.Hp)(d:a.nO<=M.nO+1):Sz M a:=⟨b,fun i=>by rw[c],d⟩
def kM(M:MV):II->Prop
 |.inl (M',_)=>Sz M M'
 |.inr M'=>Sz M M'
theorem Oh(M:MV)(h o:Nat)(v:Int):∀k,(M.pokeN h o v k).nO=M.nO
 |0=>rfl
 |k+1=>Oh M h o v k
theorem XJ(s:Bool)(b:Nat)(A:Int)(d h:Nat)(M:MV)(c:Int):kM M (Ca s b A d h M c):=by
 unfold Ca;split
 ·exact GK rfl rfl BP
 ·split
  ·split
   ·have a:=MV.pokeN_len (M.see 1 A) h (A-(M.Hp h).base).toNat (M.R d) b
    exact⟨a.1,a.2.1,by rw[Oh];exact BP⟩
   ·exact GK rfl rfl BP
  ·exact GK rfl rfl BP
theorem U8(a b c:Bool)(d:Int)(M:MV)(e:Int):kM M (Cw a b c d M e):=by
 unfold Cw;split
 ·split
  ·exact GK rfl rfl BP
  ·exact GK rfl rfl BP
 ·exact Sz.refl M
theorem UX(j d a b h:Nat)(c:Int)(M:MV)(e:Int):kM M (exec j d a b h c M e):=by
 unfold exec;split;all_goals first
  |exact XJ _ _ _ _ _ _ _
  |exact U8 _ _ _ _ _ _
  |exact GK rfl rfl (Nat.le_succ _)
  |exact GK rfl rfl BP
  |(split<;>exact GK rfl rfl (Nat.le_succ _))
theorem WM(a:Nat)(F:Nat->Nat->Int)(M:MV):Sz M (stepM a F M):=by
 by_cases h:(a:Int)<=M.pc
 ·unfold stepM;rw[if_pos h];exact GK rfl rfl (Nat.le_succ _)
 ·rw[Ij a F M h]
  have:=UX (F M.pc.toNat 0).toNat (F M.pc.toNat 1).toNat (F M.pc.toNat 2).toNat (F M.pc.toNat 3).toNat (F M.pc.toNat 5).toNat (F M.pc.toNat 4) M (M.pc+1);generalize exec (F M.pc.toNat 0).toNat (F M.pc.toNat 1).toNat (F M.pc.toNat 2).toNat (F M.pc.toNat 3).toNat (F M.pc.toNat 5).toNat (F M.pc.toNat 4) M (M.pc+1)=o at this⊢;cases o with
  |inl q=>obtain⟨b,c⟩:=q;exact this
  |inr b=>exact this
theorem MV.Ok.setR{M:MV}(h:M.Ok)(d:Nat){v:Int}(b:0<=v/\v<=18446744073709551615):(M.setR d v).Ok:=
 ⟨fun i a=>by
   show 0<=(if i=d then v else M.R i)/\(if i=d then v else M.R i)<=18446744073709551615;split
   ·exact b
   ·exact h.reg i a,h.heaps,h.heap,h.dat⟩
theorem MV.Ok.seen{M:MV}(h:M.Ok)(k v:Int):(M.see k v).Ok:=⟨h.reg,h.heaps,h.heap,h.dat⟩
theorem MV.Ok.flagged{M:MV}(h:M.Ok)(r:Int)(k:Bool):(M.flags r k).Ok:=⟨h.reg,h.heaps,h.heap,h.dat⟩
theorem MV.Ok.faulted{M:MV}(h:M.Ok):M.fault.Ok:=⟨h.reg,h.heaps,h.heap,h.dat⟩
theorem MV.Ok.poke{M:MV}(h:M.Ok)(k j:Nat){u:Int}(l:0<=u/\u<=255):(M.poke k j u).Ok:=by
 have b:∀i,((M.poke k j u).Hp i).base=(M.Hp i).base/\((M.poke k j u).Hp i).len=(M.Hp i).len:=fun i=>by
  unfold MV.poke;by_cases e:i=k<;>simp[e]
 refine⟨h.reg,h.heaps,fun i a=>?_,fun i a q d=>?_⟩
 ·rw[(b i).1,(b i).2];exact h.heap i a
 ·rw[(b i).2]at d
  have:=h.dat i a q d;unfold MV.poke;by_cases e:i=k
  ·by_cases c:q=j
   ·simp[e,c];exact l
   ·simp only[e,if_true,c,if_false];rw[<-e];exact this
  ·simp only[e,if_false];exact this
theorem MV.Ok.pokeN{M:MV}(h:M.Ok)(k o:Nat)(v:Int):∀n,(M.pokeN k o v n).Ok
 |0=>h
 |n+1=>(MV.Ok.pokeN h k o v n).poke k (o+n) AB
def okO:II->Prop
 |.inl (M',_)=>M'.Ok
 |.inr M'=>M'.Ok
theorem XQ{M:MV}(b:M.Ok)(s:Bool)(a:Nat)(q:a<=8)(A:Int)(d h:Nat)(o:Int):okO (Ca s a A d h M o):=by
 unfold Ca;by_cases e:M.nH<=h
 ·rw[if_pos e];exact b.seen _ _
 ·rw[if_neg e]
  by_cases c:(lies (M.Hp h).base A a (M.Hp h).len&&(!s||(M.Hp h).wr))=true
  ·rw[if_pos c]
   cases s with
   |true=>exact(b.seen _ _).pokeN _ _ _ _
   |false=>
    refine(b.seen 1 A).setR d ?_;have k:lies (M.Hp h).base A a (M.Hp h).len=true:=by simp only[Bool.and_eq_true]at c;exact c.1
    have l:=FE (M.Hp h).dat (A-(M.Hp h).base).toNat a fun j p=>b.dat h AB _ (by
     unfold lies at k;simp only[Bool.and_eq_true,decide_eq_true_eq]at k;omega)
    refine⟨l.1,?_⟩;have:(2:Int)^(8*a)<=2^64:=by
     have n:(2:Nat)^(8*a)<=2^64:=Nat.pow_le_pow_right Aa AB;exact_mod_cast n
    have m:(2:Int)^64=18446744073709551616:=Aa;have:=l.2;omega
  ·rw[if_neg c];exact b.seen _ _
theorem Vh{M:MV}(d:M.Ok)(a b c:Bool)(e h:Int):okO (Cw a b c e M h):=by
 unfold Cw;split
 ·split
  ·exact d.seen _ _
  ·exact d.seen _ _
 ·exact d
theorem Mx(x y c:Int):0<=EP x y c/\EP x y c<=18446744073709551615:=by unfold EP;omega
theorem TK(x y:Int):0<=EK x y/\EK x y<=18446744073709551615:=by
 rw[<-KT];exact Di _
theorem MS{x y:Int}(h:0<=x/\x<=18446744073709551615)(a:0<=y):0<=x/y/\x/y<=18446744073709551615:=
 ⟨Int.ediv_nonneg h.1 a,Int.le_trans (Int.ediv_le_self _ h.1) h.2⟩
theorem Ue{M:MV}(c:M.Ok)(o d a b h:Nat)(j n:Int)(l:a<8)(m:b<8):okO (exec o d a b h j M n):=by
 have e:=c.reg a l;have k:=c.reg b m;unfold exec;split;all_goals first
  |exact XQ c _ _ Aa _ _ _ _
  |exact Vh c _ _ _ _ _
  |exact c.setR _ e
  |exact c.setR _ (Di _)
  |exact(c.setR _ (Mx _ _ _)).flagged _ _
  |exact(c.flagged _ _).setR _ (TK _ _)
  |exact c.flagged _ _
  |exact c.setR _ (MS e (Int.le_of_lt (Int.pow_pos Aa)))
  |exact⟨c.reg,c.heaps,c.heap,c.dat⟩
  |skip
 ·refine(c.seen _ _).setR _ ?_
  split
  ·decide
  ·exact MS e k.1
 all_goals
  split
  ·first
    |exact(c.setR _ (Mx _ _ _)).flagged _ _
    |(refine c.setR _ ?_
      split
      ·exact e
      ·exact k)
  ·exact c
def Kn(len:Nat)(F:Nat->Nat->Int):Nat->MV->MV
 |0,M=>M
 |k+1,M=>if M.st=0 then Kn len F k (stepM len F M)else M
theorem FX(a:Nat)(F:Nat->Nat->Int)(k:Nat){M:MV}(h:M.st≠0):Kn a F k M=M:=by
 cases k with
 |zero=>rfl
 |succ k=>show(if M.st=0 then _ else M)=M;rw[if_neg h]
theorem Ou(a:Nat)(F:Nat->Nat->Int)(k:Nat){M:MV}(h:M.st=0):Kn a F (k+1) M=Kn a F k (stepM a F M):=by
 show(if M.st=0 then _ else M)=_;rw[if_pos h]
theorem Wo{Z d a m h:Int}(e:Ar Z d a b m h=true)(k:29<=Z/\Z<=33):0<=m:=by
 unfold Ar at e;simp only[Bool.and_eq_true]at e;obtain⟨⟨_,c⟩,_⟩:=e;have j:Cv Z=0:=by unfold Cv;rw[if_pos AB]
 rw[j]at c;unfold Da Dm at c;split at c
 ·simp only[Bool.and_eq_true,decide_eq_true_eq]at c;exact c.1
 ·simp only[beq_iff_eq]at c;omega
def kI:II->Prop
 |.inl (_,n)=>0<=n
 |.inr M'=>0<=M'.pc
theorem Ww(s:Bool)(e:Nat)(A:Int)(d h:Nat)(M:MV)(c:Int)(a:0<=c)(b:0<=M.pc):kI (Ca s e A d h M c):=by
 unfold Ca;split
 ·exact b
 ·split
  ·split
   ·exact a
   ·exact a
  ·exact b
theorem Vf(a b c:Bool)(d:Int)(M:MV)(e:Int)(h:0<=e)(k:0<=M.pc)(j:0<=d):kI (Cw a b c d M e):=by
 unfold Cw;split
 ·split
  ·exact j
  ·exact h
 ·exact k
theorem YJ(k d a b h:Nat)(c:Int)(M:MV)(m:Int)(e:0<=m)(j:0<=M.pc)(l:(29<=k/\k<=33)->0<=c):kI (exec k d a b h c M m):=by
 unfold exec;split;all_goals first
  |exact e
  |exact Ww _ _ _ _ _ _ _ e j
  |exact Vf _ _ _ _ _ _ e j (l Aa)
  |exact l Aa
  |exact j
  |(split
    ·exact e
    ·exact j)
structure Going(M:MV)(n:Nat):Prop where
 ok:M.Ok
 pc:0<=M.pc
 seen:M.nO<=n
theorem fJ{F:Nat->Nat->Int}(a:Dw u F=true){q:Nat}(b:q<u):Ar (F q 0) (F q 1) (F q 2) (F q 3) (F q 4) (F q 5)=true:=by
 unfold Dw at a;simp only[Bool.and_eq_true,decide_eq_true_eq,List.all_eq_true,List.mem_range]at a;have:=a.1.2 q b;unfold Dr at this;simp only[Bool.and_eq_true]at this;exact this.1
theorem Qk{F:Nat->Nat->Int}(j:Dw u F=true){M:MV}{n:Nat}(h:Going M n):Going (stepM u F M) (n+1):=by
 by_cases b:(u:Int)<=M.pc
 ·have:stepM u F M=M.fault:=by unfold stepM;rw[if_pos b]
  rw[this];exact⟨h.ok.faulted,h.pc,Nat.le_succ_of_le h.seen⟩
 ·have r:=(WM u F M).2.2
  refine⟨?_,?_,by have:=h.seen;omega⟩;all_goals
   rw[Ij u F M b];have k:=h.pc;have e:=fJ j (q:=M.pc.toNat) AB;have m:=GQ e;have a:=Ue h.ok (F M.pc.toNat 0).toNat (F M.pc.toNat 1).toNat (F M.pc.toNat 2).toNat (F M.pc.toNat 3).toNat (F M.pc.toNat 5).toNat (F M.pc.toNat 4) (M.pc+1) AB AB;have d:=YJ (F M.pc.toNat 0).toNat (F M.pc.toNat 1).toNat (F M.pc.toNat 2).toNat (F M.pc.toNat 3).toNat (F M.pc.toNat 5).toNat (F M.pc.toNat 4) M (M.pc+1) AB k (fun p=>Wo e AB);generalize exec (F M.pc.toNat 0).toNat (F M.pc.toNat 1).toNat (F M.pc.toNat 2).toNat (F M.pc.toNat 3).toNat (F M.pc.toNat 5).toNat (F M.pc.toNat 4) M (M.pc+1)=o at a d
  ·cases o with
   |inl q=>obtain⟨c,l⟩:=q;exact⟨a.reg,a.heaps,a.heap,a.dat⟩
   |inr c=>exact MV.Ok.faulted a
  ·cases o with
   |inl q=>obtain⟨c,l⟩:=q;exact d
   |inr c=>exact d
def IX(len:Nat)(F:Nat->Nat->Int)(nR:Nat)(M:MV)(steps:Int):Option MV:=
 if Dw len F&&DZ nR M.z M.c M.hz M.hc M.nH M.Hp M.pc M.st M.nO M.K&&(Dm steps 0 100000&&decide (M.nO<=100000))then some (Kn len F steps.toNat M)else none
end Go.Proofs.YtkckomianknjdaaGreat
