import Derived.Test.YtdbhgaegblclaaaDoorFlatWalks
import Derived.Deep.RegionWith
import Derived.BigRegion
set_option maxHeartbeats 1000000
namespace Go.Proofs.YtdbhgaegblclaaaDoor
open Go.RowKit
def insOK(F:Nat->Nat->Int)(i:Nat):Bool:=implIns (F i 0) (F i 1) (F i 2) (F i 3) (F i 4) (F i 5)
def flatAt(len:Nat)(F:Nat->Nat->Int)(i:Nat):Bool:=insOK F i&&!(jumpB (F i 0)&&decide ((len:Int)<=F i 4))
def flatOK(len:Nat)(F:Nat->Nat->Int):Bool:=decide (1<=len)&&decide (len<=2000)&&(List.range len).all (flatAt len F)&&(F (len-1) 0==34)
theorem flat_stop{len k:Nat}{F:Nat->Nat->Int}(hk:k<len)(h:flatAt len F k=false):flatOK len F=false:=by
 have:(List.range len).all (flatAt len F)=false:=by
  rw[List.all_eq_false];exact⟨k,List.mem_range.2 hk,by simp[h]⟩
 simp[flatOK,this]
theorem flat_end{len:Nat}{F:Nat->Nat->Int}(h1:1<=len)(h2:len<=2000)(h:∀i,i<len->flatAt len F i=true):flatOK len F=(F (len-1) 0==34):=by
 have:(List.range len).all (flatAt len F)=true:=by
  rw[List.all_eq_true];exact fun i hi=>h i (List.mem_range.1 hi)
 simp[flatOK,this,h1,h2]
theorem flat_step{len k:Nat}{F:Nat->Nat->Int}(h:∀i,i<k->flatAt len F i=true)(g:flatAt len F k=true):∀i,i<k+1->flatAt len F i=true:=by
 intro i hi;by_cases e:i=k
 ·rw[e];exact g
 ·exact h i (by omega)
theorem flat_bad{len:Nat}{F:Nat->Nat->Int}(h:len<1∨2000<len):flatOK len F=false:=by
 rcases h with h|h<;>simp[flatOK]<;>intros<;>omega
theorem specFlat_bad(ao:Option Addr)(len cap:Nat)(F:Nat->Nat->Int)(w:World)(h:len<1∨2000<len)(hm:len<=1048576):
 Calls Tryd.prog 9 #[.slice ao len cap] w fun e w'=>e=.returned (.bool (flatOK len F))/\Below w.heap.size w w':=by
 rw[flat_bad h];rcases h with h|h
 ·obtain rfl:len=0:=by omega
  go_enter Tryd.func9,Tryd.ntmps9;go_wp2;go_ret;exact⟨rfl,Below.refl _ _⟩
 ·go_enter Tryd.func9,Tryd.ntmps9
  go_wp2;go_ret;exact⟨rfl,Below.refl _ _⟩
theorem specFlat_at(b off len cap:Nat)(F:Nat->Nat->Int)(w:World)(h1:1<=len)(h2:len<=2000)(hat:At w b off (len*6) (insF F)):
 Calls Tryd.prog 9 #[.slice (some ⟨b,off,none⟩) len cap] w fun e w'=>e=.returned (.bool (flatOK len F))/\Below w.heap.size w w':=by
 have hb:=hat.lt;have HA:Hid (At w b off (len*6) (insF F)):=hat;clear hat;go_enter Tryd.func9,Tryd.ntmps9;go_wp2;go_loopw [4](fun i wr=>∃k:Nat,k<=len/\i=.int .i64 k/\Below w.heap.size w wr/\∀i,i<k->flatAt len F i=true)(fun i _=>len-(intOf i).toNat)
 case atStart=>exact⟨0,Nat.zero_le _,rfl,Below.refl _ _,fun i hi=>by omega⟩
 case round=>
  obtain⟨k,hk,rfl,hbr,hall⟩:=hrel;have HL:Hid (∀i,i<k->flatAt len F i=true):=hall;clear hall;by_cases hlt:k<len
  ·have g0:=(hbr.cell (p:=⟨b,off+k*6,none⟩) hb).trans ((HA.out.cell (i:=k*6+0) (by omega)).trans (congrArg some (insF_at F k 0 (by omega))))
   have g1:=(hbr.cell (p:=⟨b,off+k*6+1,none⟩) hb).trans ((HA.out.cell (i:=k*6+1) (by omega)).trans (congrArg some (insF_at F k 1 (by omega))));have g2:=(hbr.cell (p:=⟨b,off+k*6+2,none⟩) hb).trans ((HA.out.cell (i:=k*6+2) (by omega)).trans (congrArg some (insF_at F k 2 (by omega))));have g3:=(hbr.cell (p:=⟨b,off+k*6+3,none⟩) hb).trans ((HA.out.cell (i:=k*6+3) (by omega)).trans (congrArg some (insF_at F k 3 (by omega))));have g4:=(hbr.cell (p:=⟨b,off+k*6+4,none⟩) hb).trans ((HA.out.cell (i:=k*6+4) (by omega)).trans (congrArg some (insF_at F k 4 (by omega))));have g5:=(hbr.cell (p:=⟨b,off+k*6+5,none⟩) hb).trans ((HA.out.cell (i:=k*6+5) (by omega)).trans (congrArg some (insF_at F k 5 (by omega))));go_wp2_with fail;refine(specIns_any _ _ _ _ _ _ _).mono ?_;rintro e w2⟨rfl,hb2⟩;have hbr2:Below w.heap.size w w2:=hbr.trans (hb2.mono hbr.size);clear g0 g1 g2 g3 g4 g5;have g0:=(hbr2.cell (p:=⟨b,off+k*6,none⟩) hb).trans ((HA.out.cell (i:=k*6+0) (by omega)).trans (congrArg some (insF_at F k 0 (by omega))));have g4:=(hbr2.cell (p:=⟨b,off+k*6+4,none⟩) hb).trans ((HA.out.cell (i:=k*6+4) (by omega)).trans (congrArg some (insF_at F k 4 (by omega))));go_wp2_with(go_at_call 36;refine(jump_any _ _).mono ?_;rintro e w'⟨rfl,rfl⟩)
   ·go_ret
    have t1:implIns (F k 0) (F k 1) (F k 2) (F k 3) (F k 4) (F k 5)=true:=by assumption
    have t2:jumpB (F k 0)=true:=by assumption
    have t3:(len:Int)<=F k 4:=by assumption
    exact⟨ret_bool (flat_stop hlt (by simp[flatAt,t2,t3])).symm,hbr2⟩
   ·have t1:implIns (F k 0) (F k 1) (F k 2) (F k 3) (F k 4) (F k 5)=true:=by assumption
    have t3:F k 4<(len:Int):=by assumption
    go_roundw
    case rel=>exact⟨k+1,by omega,by go_num,hbr2,flat_step HL.out (by simp[flatAt,insOK,t1];omega)⟩
    case measure=>simp[intOf];omega
   ·have t1:implIns (F k 0) (F k 1) (F k 2) (F k 3) (F k 4) (F k 5)=true:=by assumption
    have t2:¬jumpB (F k 0)=true:=by assumption
    go_roundw
    case rel=>exact⟨k+1,by omega,by go_num,hbr2,flat_step HL.out (by simp[flatAt,insOK,t1,t2])⟩
    case measure=>simp[intOf];omega
   ·go_ret
    have t1:¬implIns (F k 0) (F k 1) (F k 2) (F k 3) (F k 4) (F k 5)=true:=by assumption
    exact⟨ret_bool (flat_stop hlt (by simp[flatAt,insOK,t1])).symm,hbr2⟩
  ·obtain rfl:k=len:=by omega
   have g0:=(hbr.cell (p:=⟨b,off+(k-1)*6,none⟩) hb).trans ((HA.out.cell (i:=(k-1)*6+0) (by omega)).trans (congrArg some (insF_at F (k-1) 0 (by omega))));go_wp2;go_ret;exact⟨ret_bool (flat_end h1 h2 HL.out).symm,hbr⟩
theorem implFlat_bad(ao:Option Addr)(len cap:Nat)(F:Nat->Nat->Int)(w:World)(h:len<1∨2000<len)(hm:len<=1048576):
 Calls Tryd.prog 10 #[.slice ao len cap] w fun e w'=>e=.returned (.bool (flatOK len F))/\Below w.heap.size w w':=by
 rw[flat_bad h];rcases h with h|h
 ·obtain rfl:len=0:=by omega
  go_enter Tryd.func10,Tryd.ntmps10;go_wp2;go_ret;exact⟨rfl,Below.refl _ _⟩
 ·go_enter Tryd.func10,Tryd.ntmps10
  go_wp2;go_ret;exact⟨rfl,Below.refl _ _⟩
theorem implFlat_at(b off len cap:Nat)(F:Nat->Nat->Int)(w:World)(h1:1<=len)(h2:len<=2000)(hat:At w b off (len*6) (insF F)):
 Calls Tryd.prog 10 #[.slice (some ⟨b,off,none⟩) len cap] w fun e w'=>e=.returned (.bool (flatOK len F))/\Below w.heap.size w w':=by
 have hb:=hat.lt;have HA:Hid (At w b off (len*6) (insF F)):=hat;clear hat;go_enter Tryd.func10,Tryd.ntmps10;go_wp2;go_loopw [16](fun i wr=>∃k:Nat,k<=len/\i=.int .i64 k/\Below w.heap.size w wr/\∀i,i<k->flatAt len F i=true)(fun i _=>len-(intOf i).toNat)
 case atStart=>exact⟨0,Nat.zero_le _,rfl,Below.refl _ _,fun i hi=>by omega⟩
 case round=>
  obtain⟨k,hk,rfl,hbr,hall⟩:=hrel;have HL:Hid (∀i,i<k->flatAt len F i=true):=hall;clear hall;by_cases hlt:k<len
  ·have g0:=(hbr.cell (p:=⟨b,off+k*6,none⟩) hb).trans ((HA.out.cell (i:=k*6+0) (by omega)).trans (congrArg some (insF_at F k 0 (by omega))))
   have g1:=(hbr.cell (p:=⟨b,off+k*6+1,none⟩) hb).trans ((HA.out.cell (i:=k*6+1) (by omega)).trans (congrArg some (insF_at F k 1 (by omega))));have g2:=(hbr.cell (p:=⟨b,off+k*6+2,none⟩) hb).trans ((HA.out.cell (i:=k*6+2) (by omega)).trans (congrArg some (insF_at F k 2 (by omega))));have g3:=(hbr.cell (p:=⟨b,off+k*6+3,none⟩) hb).trans ((HA.out.cell (i:=k*6+3) (by omega)).trans (congrArg some (insF_at F k 3 (by omega))));have g4:=(hbr.cell (p:=⟨b,off+k*6+4,none⟩) hb).trans ((HA.out.cell (i:=k*6+4) (by omega)).trans (congrArg some (insF_at F k 4 (by omega))));have g5:=(hbr.cell (p:=⟨b,off+k*6+5,none⟩) hb).trans ((HA.out.cell (i:=k*6+5) (by omega)).trans (congrArg some (insF_at F k 5 (by omega))));go_wp2_with fail;refine(implIns_any _ _ _ _ _ _ _).mono ?_;rintro e w2⟨rfl,hb2⟩;have hbr2:Below w.heap.size w w2:=(hbr.alloc hbr.size _).trans (hb2.mono (by have:=hbr.size;simp;omega));obtain⟨hc2,_⟩:=bcell hb2;have hz2:wr.heap.size<w2.heap.size:=by have:=hb2.size;simp at this;omega
   clear g0 g1 g2 g3 g4 g5;go_wp2_with(go_at_call 38;refine(jumpI_any _ _).mono ?_;rintro e w'⟨rfl,rfl⟩)
   ·go_ret
    have t1:implIns (F k 0) (F k 1) (F k 2) (F k 3) (F k 4) (F k 5)=true:=by assumption
    have t2:jumpB (F k 0)=true:=by assumption
    have t3:(len:Int)<=F k 4:=by assumption
    exact⟨ret_bool (flat_stop hlt (by simp[flatAt,t2,t3])).symm,hbr2⟩
   ·have t1:implIns (F k 0) (F k 1) (F k 2) (F k 3) (F k 4) (F k 5)=true:=by assumption
    have t3:F k 4<(len:Int):=by assumption
    go_roundw
    case rel=>exact⟨k+1,by omega,by go_num,hbr2,flat_step HL.out (by simp[flatAt,insOK,t1];omega)⟩
    case measure=>simp[intOf];omega
   ·have t1:implIns (F k 0) (F k 1) (F k 2) (F k 3) (F k 4) (F k 5)=true:=by assumption
    have t2:¬jumpB (F k 0)=true:=by assumption
    go_roundw
    case rel=>exact⟨k+1,by omega,by go_num,hbr2,flat_step HL.out (by simp[flatAt,insOK,t1,t2])⟩
    case measure=>simp[intOf];omega
   ·go_ret
    have t1:¬implIns (F k 0) (F k 1) (F k 2) (F k 3) (F k 4) (F k 5)=true:=by assumption
    exact⟨ret_bool (flat_stop hlt (by simp[flatAt,insOK,t1])).symm,hbr2⟩
  ·obtain rfl:k=len:=by omega
   have g0:=(hbr.cell (p:=⟨b,off+(k-1)*6,none⟩) hb).trans ((HA.out.cell (i:=(k-1)*6+0) (by omega)).trans (congrArg some (insF_at F (k-1) 0 (by omega))));go_wp2;go_ret;exact⟨ret_bool (flat_end h1 h2 HL.out).symm,hbr⟩
theorem eqIns_same(op d a b imm h:Int)(w:World):
 Calls Tryd.prog 54 #[.agg #[.int .i64 op,.int .i64 d,.int .i64 a,.int .i64 b,.int .i64 imm,.int .i64 h],.agg #[.int .i64 op,.int .i64 d,.int .i64 a,.int .i64 b,.int .i64 imm,.int .i64 h]] w fun e w'=>e=.returned (.bool true)/\Below w.heap.size w w':=by
 go_enter Tryd.func54,Tryd.ntmps54;go_wp2;go_ret;exact⟨rfl,((Below.refl _ _).alloc (Nat.le_refl _) _).alloc (by simp) _⟩
theorem eqInsS_same(b off len cap b' off' cap':Nat)(F:Nat->Nat->Int)(w:World)(hlen:len<=1048576)(hat:At w b off (len*6) (insF F))(hat':At w b' off' (len*6) (insF F)):
 Calls Tryd.prog 19 #[.slice (some ⟨b,off,none⟩) len cap,.slice (some ⟨b',off',none⟩) len cap'] w fun e w'=>e=.returned (.bool true)/\Below w.heap.size w w':=by
 have hb:=hat.lt;have hb':=hat'.lt;have HA:Hid (At w b off (len*6) (insF F)):=hat;have HA':Hid (At w b' off' (len*6) (insF F)):=hat';clear hat hat';go_enter Tryd.func19,Tryd.ntmps19;go_wp2;go_loopw [5](fun i wr=>∃k:Nat,k<=len/\i=.int .i64 k/\Below w.heap.size w wr)(fun i _=>len-(intOf i).toNat)
 case atStart=>exact⟨0,Nat.zero_le _,rfl,Below.refl _ _⟩
 case round=>
  obtain⟨k,hk,rfl,hbr⟩:=hrel;by_cases hlt:k<len
  ·have g0:=(hbr.cell (p:=⟨b,off+k*6,none⟩) hb).trans ((HA.out.cell (i:=k*6+0) (by omega)).trans (congrArg some (insF_at F k 0 (by omega))))
   have g1:=(hbr.cell (p:=⟨b,off+k*6+1,none⟩) hb).trans ((HA.out.cell (i:=k*6+1) (by omega)).trans (congrArg some (insF_at F k 1 (by omega))));have g2:=(hbr.cell (p:=⟨b,off+k*6+2,none⟩) hb).trans ((HA.out.cell (i:=k*6+2) (by omega)).trans (congrArg some (insF_at F k 2 (by omega))));have g3:=(hbr.cell (p:=⟨b,off+k*6+3,none⟩) hb).trans ((HA.out.cell (i:=k*6+3) (by omega)).trans (congrArg some (insF_at F k 3 (by omega))));have g4:=(hbr.cell (p:=⟨b,off+k*6+4,none⟩) hb).trans ((HA.out.cell (i:=k*6+4) (by omega)).trans (congrArg some (insF_at F k 4 (by omega))));have g5:=(hbr.cell (p:=⟨b,off+k*6+5,none⟩) hb).trans ((HA.out.cell (i:=k*6+5) (by omega)).trans (congrArg some (insF_at F k 5 (by omega))));have q0:=(hbr.cell (p:=⟨b',off'+k*6,none⟩) hb').trans ((HA'.out.cell (i:=k*6+0) (by omega)).trans (congrArg some (insF_at F k 0 (by omega))));have q1:=(hbr.cell (p:=⟨b',off'+k*6+1,none⟩) hb').trans ((HA'.out.cell (i:=k*6+1) (by omega)).trans (congrArg some (insF_at F k 1 (by omega))));have q2:=(hbr.cell (p:=⟨b',off'+k*6+2,none⟩) hb').trans ((HA'.out.cell (i:=k*6+2) (by omega)).trans (congrArg some (insF_at F k 2 (by omega))));have q3:=(hbr.cell (p:=⟨b',off'+k*6+3,none⟩) hb').trans ((HA'.out.cell (i:=k*6+3) (by omega)).trans (congrArg some (insF_at F k 3 (by omega))));have q4:=(hbr.cell (p:=⟨b',off'+k*6+4,none⟩) hb').trans ((HA'.out.cell (i:=k*6+4) (by omega)).trans (congrArg some (insF_at F k 4 (by omega))));have q5:=(hbr.cell (p:=⟨b',off'+k*6+5,none⟩) hb').trans ((HA'.out.cell (i:=k*6+5) (by omega)).trans (congrArg some (insF_at F k 5 (by omega))));have hlt':(k:Int)<(len:Int):=by omega
   go_wp2_with fail;go_region_with(go_at_call 54;refine(eqIns_same _ _ _ _ _ _ _).mono ?_;rintro e w'⟨rfl,hb2⟩);all_goals
    clear g0 g1 g2 g3 g4 g5 q0 q1 q2 q3 q4 q5;go_wp2;go_roundw
    case rel=>exact⟨k+1,by omega,by go_num,hbr.drew.trans (hb2.mono hbr.size)⟩
    case measure=>simp[intOf];omega
  ·go_wp2
   go_ret;exact⟨rfl,hbr⟩
theorem toInsS_nil(ao:Option Addr)(cap:Nat)(F:Nat->Nat->Int)(w:World):
 Calls Tryd.prog 17 #[.slice ao 0 cap] w fun e w'=>e=.returned (.slice (some ⟨w.heap.size,0,none⟩) 0 0)/\Below w.heap.size w w'/\Arr w' w.heap.size (0*6) (insF F):=by
 obtain⟨i0,hi,hz0,hz1,hz2⟩:=info_parts info_iIns;go_enter Tryd.func17,Tryd.ntmps17;go_wp2_with(first|(at_make;refine wpList_make_full _ rfl _ _ 23 rfl w.heap.size 56 i0 _ 6 Tryd.underlying23 hi hz0 hz1 .i64 .i64 _ _ 0 rfl rfl ?c1 ?c2 ?c3 ?c4 ?c5 ?_)|go_in)
 case c1=>rfl
 case c2=>rfl
 case c3=>rw[hz2];omega
 case c4=>unfold maxLen;omega
 case c5=>exact Nat.le_refl _
 ·intro w1 hown hgrow
  have hbel:Below w.heap.size w w1:=(Below.refl _ _).grown hgrow (Nat.le_refl _) (by intro k hk;cases hk);have harr:Arr w1 w.heap.size (0*6) (insF F):=Arr.made hown fun i hi=>by omega
  have HX:Hid (Below w.heap.size w w1/\Arr w1 w.heap.size (0*6) (insF F)):=⟨hbel,harr⟩
  clear hown hgrow hi hz0 hz1 hz2 hbel harr;go_wp2;refine wp_loop_rounds 1 ?_;rw[rounds_succ];go_wp2;go_ret;exact⟨rfl,HX.out.1,HX.out.2⟩
theorem toInsS_in(ao:Option Addr)(len cap:Nat)(F:Nat->Nat->Int)(w:World)(hlen:len<=1048576)(h:InRow w ao (len*6) (insF F)):
 Calls Tryd.prog 17 #[.slice ao len cap] w fun e w'=>e=.returned (.slice (some ⟨w.heap.size,0,none⟩) len len)/\Below w.heap.size w w'/\Arr w' w.heap.size (len*6) (insF F):=by
 rcases h with h|⟨b,off,rfl,h⟩
 ·obtain rfl:len=0:=by omega
  exact toInsS_nil ao cap F w
 ·exact toInsS_any b off len cap F w hlen h
theorem specFlat_any(b off len cap:Nat)(F:Nat->Nat->Int)(w:World)(hm:len<=1048576)(hat:At w b off (len*6) (insF F)):
 Calls Tryd.prog 9 #[.slice (some ⟨b,off,none⟩) len cap] w fun e w'=>e=.returned (.bool (flatOK len F))/\Below w.heap.size w w':=by
 by_cases h:len<1∨2000<len
 ·exact specFlat_bad _ _ _ F w h hm
 ·exact specFlat_at b off len cap F w (by omega) (by omega) hat
theorem implFlat_any(b off len cap:Nat)(F:Nat->Nat->Int)(w:World)(hm:len<=1048576)(hat:At w b off (len*6) (insF F)):
 Calls Tryd.prog 10 #[.slice (some ⟨b,off,none⟩) len cap] w fun e w'=>e=.returned (.bool (flatOK len F))/\Below w.heap.size w w':=by
 by_cases h:len<1∨2000<len
 ·exact implFlat_bad _ _ _ F w h hm
 ·exact implFlat_at b off len cap F w (by omega) (by omega) hat
theorem szInsS_ok(ao:Option Addr)(len cap:Nat)(left:Int)(w:World)(hlo:(len:Int)<=left)(hhi:left<=1048576):
 Calls Tryd.prog 16 #[.slice ao len cap,.int .i64 left] w fun e w'=>e=.returned (.int .i64 (left-len))/\w'=w:=by
 go_enter Tryd.func16,Tryd.ntmps16;go_wp2;go_ret;exact⟨rfl,rfl⟩
theorem szInsS_no(ao:Option Addr)(len cap:Nat)(left:Int)(w:World)(h0:0<=left)(hlo:left<(len:Int))(hm:len<=9223372036854775807):
 Calls Tryd.prog 16 #[.slice ao len cap,.int .i64 left] w fun e w'=>e=.returned (.int .i64 (-1))/\w'=w:=by
 go_enter Tryd.func16,Tryd.ntmps16;go_wp2;go_ret;exact⟨rfl,rfl⟩
end Go.Proofs.YtdbhgaegblclaaaDoor
