import Derived.Test.YtbahofiiaodpdaaGreatOfInsSame
import Derived.Test.YtbahofiiaodpdaaGreatOfCl
import Derived.Deep.QuietTactic
import Derived.BigQuiet
import Derived.Deep.RegionWith
import Derived.BigRegion
set_option maxHeartbeats 1000000
namespace Go.Proofs.YtbahofiiaodpdaaGreat
open Go.RowKit
def insF(F:Nat->Nat->Int)(i:Nat):Value:=.int .i64 (F (i/6) (i%6))
theorem insF_at(F:Nat->Nat->Int)(k j:Nat)(hj:j<6):insF F (k*6+j)=.int .i64 (F k j):=by
 unfold insF;rw[show(k*6+j)/6=k by omega,show(k*6+j)%6=j by omega]
def insOK(F:Nat->Nat->Int)(i:Nat):Bool:=implIns (F i 0) (F i 1) (F i 2) (F i 3) (F i 4) (F i 5)
def flatAt(len:Nat)(F:Nat->Nat->Int)(i:Nat):Bool:=insOK F i&&!(jumpB (F i 0)&&decide ((len:Int)<=F i 4))
def flatOK(len:Nat)(F:Nat->Nat->Int):Bool:=decide (1<=len)&&decide (len<=2000)&&(List.range len).all (flatAt len F)&&(F (len-1) 0==34)
theorem flat_stop{len k:Nat}{F:Nat->Nat->Int}(hk:k<len)(h:flatAt len F k=false):flatOK len F=false:=by
 have:(List.range len).all (flatAt len F)=false:=by
  rw[List.all_eq_false];exact⟨k,List.mem_range.2 hk,by simp[h]⟩
 simp[flatOK,this]
theorem flat_end{len:Nat}{F:Nat->Nat->Int}(h1:1<=len)(h2:len<=2000)(h:∀i,i<len->flatAt len F i=true):flatOK len F=(F (len-1) 0==34):=by
 have:(List.range len).all (flatAt len F)=true:=by
  rw[List.all_eq_true];exact fun i hi=>h i (List.mem_range.1 hi)
 simp[flatOK,this,h1,h2]
theorem flat_step{len k:Nat}{F:Nat->Nat->Int}(h:∀i,i<k->flatAt len F i=true)(g:flatAt len F k=true):∀i,i<k+1->flatAt len F i=true:=by
 intro i hi;by_cases e:i=k
 ·rw[e];exact g
 ·exact h i (by omega)
theorem flat_bad{len:Nat}{F:Nat->Nat->Int}(h:len<1∨2000<len):flatOK len F=false:=by
 rcases h with h|h<;>simp[flatOK]<;>intros<;>omega
theorem implFlat_bad(ao:Option Addr)(len cap:Nat)(F:Nat->Nat->Int)(w:World)(h:len<1∨2000<len)(hm:len<=1048576):
 Calls Tryz.prog 38 #[.slice ao len cap] w fun e w'=>e=.returned (.bool (flatOK len F))/\Below w.heap.size w w':=by
 rw[flat_bad h];rcases h with h|h
 ·obtain rfl:len=0:=by omega
  go_enter Tryz.func38,Tryz.ntmps38;go_wp2;go_ret;exact⟨rfl,Below.refl _ _⟩
 ·go_enter Tryz.func38,Tryz.ntmps38
  go_wp2;go_ret;exact⟨rfl,Below.refl _ _⟩
theorem implFlat_at(b off len cap:Nat)(F:Nat->Nat->Int)(w:World)(h1:1<=len)(h2:len<=2000)(hat:At w b off (len*6) (insF F)):
 Calls Tryz.prog 38 #[.slice (some ⟨b,off,none⟩) len cap] w fun e w'=>e=.returned (.bool (flatOK len F))/\Below w.heap.size w w':=by
 have hb:=hat.lt;have HA:Hid (At w b off (len*6) (insF F)):=hat;clear hat;go_enter Tryz.func38,Tryz.ntmps38;go_wp2;go_loopw [16](fun i wr=>∃k:Nat,k<=len/\i=.int .i64 k/\Below w.heap.size w wr/\∀i,i<k->flatAt len F i=true)(fun i _=>len-(intOf i).toNat)
 case atStart=>exact⟨0,Nat.zero_le _,rfl,Below.refl _ _,fun i hi=>by omega⟩
 case round=>
  obtain⟨k,hk,rfl,hbr,hall⟩:=hrel;have HL:Hid (∀i,i<k->flatAt len F i=true):=hall;clear hall;by_cases hlt:k<len
  ·have g0:=(hbr.cell (p:=⟨b,off+k*6,none⟩) hb).trans ((HA.out.cell (i:=k*6+0) (by omega)).trans (congrArg some (insF_at F k 0 (by omega))))
   have g1:=(hbr.cell (p:=⟨b,off+k*6+1,none⟩) hb).trans ((HA.out.cell (i:=k*6+1) (by omega)).trans (congrArg some (insF_at F k 1 (by omega))));have g2:=(hbr.cell (p:=⟨b,off+k*6+2,none⟩) hb).trans ((HA.out.cell (i:=k*6+2) (by omega)).trans (congrArg some (insF_at F k 2 (by omega))));have g3:=(hbr.cell (p:=⟨b,off+k*6+3,none⟩) hb).trans ((HA.out.cell (i:=k*6+3) (by omega)).trans (congrArg some (insF_at F k 3 (by omega))));have g4:=(hbr.cell (p:=⟨b,off+k*6+4,none⟩) hb).trans ((HA.out.cell (i:=k*6+4) (by omega)).trans (congrArg some (insF_at F k 4 (by omega))));have g5:=(hbr.cell (p:=⟨b,off+k*6+5,none⟩) hb).trans ((HA.out.cell (i:=k*6+5) (by omega)).trans (congrArg some (insF_at F k 5 (by omega))));go_wp2_with fail;refine(implIns_any _ _ _ _ _ _ _).mono ?_;rintro e w2⟨rfl,hb2⟩;have hbr2:Below w.heap.size w w2:=(hbr.alloc hbr.size _).trans (hb2.mono (by have:=hbr.size;simp;omega));obtain⟨hc2,_⟩:=bcell hb2;have hz2:wr.heap.size<w2.heap.size:=by have:=hb2.size;simp at this;omega
   clear g0 g1 g2 g3 g4 g5;go_wp2_with(go_at_call 73;refine(jumpI_any _ _).mono ?_;rintro e w'⟨rfl,rfl⟩)
   ·go_ret
    have t1:implIns (F k 0) (F k 1) (F k 2) (F k 3) (F k 4) (F k 5)=true:=by assumption
    have t2:jumpB (F k 0)=true:=by assumption
    have t3:(len:Int)<=F k 4:=by assumption
    exact⟨ret_bool (flat_stop hlt (by simp[flatAt,t2,t3])).symm,hbr2⟩
   ·have t1:implIns (F k 0) (F k 1) (F k 2) (F k 3) (F k 4) (F k 5)=true:=by assumption
    have t3:F k 4<(len:Int):=by assumption
    go_roundw
    case rel=>exact⟨k+1,by omega,by go_num,hbr2,flat_step HL.out (by simp[flatAt,insOK,t1];omega)⟩
    case measure=>simp[intOf];omega
   ·have t1:implIns (F k 0) (F k 1) (F k 2) (F k 3) (F k 4) (F k 5)=true:=by assumption
    have t2:¬jumpB (F k 0)=true:=by assumption
    go_roundw
    case rel=>exact⟨k+1,by omega,by go_num,hbr2,flat_step HL.out (by simp[flatAt,insOK,t1,t2])⟩
    case measure=>simp[intOf];omega
   ·go_ret
    have t1:¬implIns (F k 0) (F k 1) (F k 2) (F k 3) (F k 4) (F k 5)=true:=by assumption
    exact⟨ret_bool (flat_stop hlt (by simp[flatAt,insOK,t1])).symm,hbr2⟩
  ·obtain rfl:k=len:=by omega
   have g0:=(hbr.cell (p:=⟨b,off+(k-1)*6,none⟩) hb).trans ((HA.out.cell (i:=(k-1)*6+0) (by omega)).trans (congrArg some (insF_at F (k-1) 0 (by omega))));go_wp2;go_ret;exact⟨ret_bool (flat_end h1 h2 HL.out).symm,hbr⟩
theorem implFlat_any(b off len cap:Nat)(F:Nat->Nat->Int)(w:World)(hm:len<=1048576)(hat:At w b off (len*6) (insF F)):
 Calls Tryz.prog 38 #[.slice (some ⟨b,off,none⟩) len cap] w fun e w'=>e=.returned (.bool (flatOK len F))/\Below w.heap.size w w':=by
 by_cases h:len<1∨2000<len
 ·exact implFlat_bad _ _ _ F w h hm
 ·exact implFlat_at b off len cap F w (by omega) (by omega) hat
end Go.Proofs.YtbahofiiaodpdaaGreat
